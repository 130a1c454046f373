import PyProof.Rows.All
import Wide.All
import OpenK.AllK
import Wide.FinOn
import Lean
import PyProof.EqAt
import PyProof.EqKinds
import PyProof.TupleCall
import PyProof.P3Eq
import PyProof.NeData
import PySem.Challenge.RW_allfirst_k57_names_plans_and_parts
set_option autoImplicit true
set_option relaxedAutoImplicit true
set_option Elab.async false
set_option linter.all false
set_option maxRecDepth 100000
open PySem PySem.Spec PyProof.Rows
noncomputable section
set_option compiler.extract_closed false
set_option bootstrap.genMatcherCode false
def y9N(k:Lean.Name)(a:Array Lean.Syntax):Lean.Syntax:=.node .none k a
def y9A:String->Lean.Syntax:=.atom .none
def y9Z:Array Lean.Syntax->Lean.Syntax:=y9N `null
def y9T(s:String):Array Lean.Syntax->Lean.Syntax:=y9N (`Lean.Parser.Tactic++s.toName)
def y9M(s:String):Array Lean.Syntax->Lean.Syntax:=y9N (`Lean.Parser.Term++s.toName)
def y9S(s:Lean.Syntax):List Lean.Syntax:=s[1][0]::s[1][2].getSepArgs.toList
def y9C(c:Lean.Syntax):List Lean.Syntax->Array Lean.Syntax
 |[]=>#[]
 |[a]=>#[a]
 |a::b=>#[a,c]++y9C c b
def y9Q:Nat->Lean.Syntax->Lean.Syntax
 |0,s=>s
 |f+1,s=>y9T "rcasesPatMed" #[y9Z #[if s.isIdent then y9T "rcasesPat.one" #[s] else if s.getNumArgs<3 then y9T "rcasesPat.ignore" #[y9A "_"] else y9T "rcasesPat.tuple" #[y9A "⟨",y9Z (y9C (y9A ",") ((y9S s).map λx=>y9T "rcasesPatLo" #[y9Q f x,y9Z #[]])),y9A "⟩"]]]
def y9I(s:String)(i:Nat):Lean.Syntax:=Lean.mkIdent (s++toString i).toName
def y9B(y:Lean.Syntax):=y.getId==`rfl||2<y.getNumArgs
def y9E(y:Lean.Syntax):Lean.Syntax:=if y9B y then y9I "z" (y.getPos?.getD 0).1 else y
def y9L(k:String)(d:Lean.Syntax):Lean.Syntax:=y9T k #[y9A "",y9M "letConfig" #[y9Z #[]],d]
def y9G(y:Lean.Syntax):Lean.Syntax:=if y.isIdent then y9T "subst" #[y9A "",y9Z #[y9E y]] else y9L "tacticLet__" (y9M "letDecl" #[y9M "letPatDecl" #[y,y9Z #[],y9Z #[],y9A "",y9E y]])
def y9F(b:List Lean.Syntax)(t:Lean.Syntax):Lean.Syntax:=y9M "fun" #[y9A "",y9M "basicFun" #[y9Z (b.map y9E).toArray,y9Z #[],y9A "",t]]
def y9X(f:Lean.Syntax)(a:Array Lean.Syntax):Lean.Syntax:=y9M "app" #[f,y9Z a]
def y9R(d:Lean.Syntax):Lean.Syntax:=
 let r:=d[0]
 if r.isOfKind `Lean.Parser.Term.letPatDecl then
  let e:=r[4]
  let l:=y9S r[0]
  let x:=l.headD r
  let n:=x.isOfKind `«term!_»
  let v:=if n||x.isOfKind `«term-_» then [x[1]] else if x.isOfKind `Lean.Parser.Term.app then x[0]::x[1].getArgs.toList else []
  if v.isEmpty then y9T "obtain" #[y9A "",y9Z #[y9Q 9 r[0]],y9Z r[2][0].getArgs,y9Z #[y9A "",y9Z #[e]]] else
  let k:=if n then 0 else v.length
  let w:=v++l.tail
  let m:=w.length-k
  let A:=y9I "qa" m
  let h:=y9M "syntheticHole" #[y9A "?",y9A "_"]
  let g:=y9F (w.drop k) h
  let t:=if k=0 then y9X A #[g,e] else y9X (y9I "qx" k) #[e,if m=1 then y9F w h else y9F (w.take k) (y9X A #[g])]
  y9T "paren" #[y9A "",y9T "tacticSeq" #[y9T "tacticSeq1Indented" #[y9Z (y9C (y9A ";") (y9T "refine" #[y9A "",t]::(w.filter y9B).map y9G))]],y9A ""]
 else y9L "tacticHave__" d
local macro_rules|`(tactic|let $d:letDecl)=>return y9R d
local macro_rules|`(tactic|rw[$e:term])=>`(tactic|refine $e)
local macro_rules|`(tactic|ext $p*)=>if p.isEmpty then `(tactic|simp_all) else `(tactic|unfold $(p.map λx=>⟨x.raw[0][0]⟩)*)
local macro_rules|`(tactic|cases ($x) $[$a:inductionAlts]?)=>`(tactic|induction $x:term $[$a:inductionAlts]?)
local macro_rules|`(tactic|cases $h:ident : $p)=>`(tactic|by_cases $h:ident : $p)
local macro_rules | `(tactic| trivial) => `(tactic| first|exact .inl rfl|exact .inr rfl|assumption)
local macro_rules | `(()) => `(by first|lia|omega|(simp;done)|grind|simp_all)
local macro_rules | `(~~~$x) => `(some (.val $x))
local macro_rules|`(tactic|calc $e:term)=>`(tactic|refine $e)
local macro_rules|`(%[$x,*|$y])=>do
 if y.raw.getId.hasMacroScopes then Lean.Macro.throwUnsupported
 let r:Lean.Term<-x.getElems.foldrM (λa b=>`(Prod.mk $a $b)) y
 return r
local macro_rules|`(($x,$xs,*))=>`(⟨$x,$xs,*⟩)
local macro_rules|`(!$x)=>`(some $x)
local macro_rules|`(9)=>`(rfl)|`(8)=>`(none)|`(7)=>`(false)|`(6)=>`(true)|`(5)=>`(Nat)|`(4)=>`(Prop)|`(3)=>`(Int)
abbrev aa:=PySem.W.Frag
local macro_rules|`($x⁻¹)=>`(($x).heap.objs.size)
local macro_rules|`(⇑$x)=>`(($x).length)
local macro_rules|`(↥$x)=>`(($x).heap.get?)
local macro_rules|`(00)=>`(PySem.sizeLine)
local macro_rules|`(01)=>`(PySem.starEach)
local macro_rules|`(02)=>`(Option)
local macro_rules|`(000)=>`(PySem.mainGlobals)
theorem qx1{P:a->Prop}{G:Prop}(e:∃x,P x)(c:∀x,P x->G):G:=e.elim c
theorem qx2{P:a->b->Prop}{G:Prop}(e:∃x y,P x y)(c:∀x y,P x y->G):G:=e.elim λx h=>qx1 h (c x)
theorem qx3{P:a->b->d->Prop}{G:Prop}(e:∃x y z,P x y z)(c:∀x y z,P x y z->G):G:=e.elim λx h=>qx2 h (c x)
theorem qx4{P:a->b->d->f->Prop}{G:Prop}(e:∃x y z u,P x y z u)(c:∀x y z u,P x y z u->G):G:=e.elim λx h=>qx3 h (c x)
theorem qx5{P:a->b->d->f->g->Prop}{G:Prop}(e:∃x y z u v,P x y z u v)(c:∀x y z u v,P x y z u v->G):G:=e.elim λx h=>qx4 h (c x)
theorem qx6{P:a->b->d->f->g->h->Prop}{G:Prop}(e:∃x y z u v w,P x y z u v w)(c:∀x y z u v w,P x y z u v w->G):G:=e.elim λx h=>qx5 h (c x)
theorem qa2{p q G:Prop}(c:p->q->G)(e:p/\q):G:=c e.1 e.2
theorem qa3{p q r G:Prop}(c:p->q->r->G)(e:p/\q/\r):G:=qa2 (c e.1) e.2
theorem qa4{p q r s G:Prop}(c:p->q->r->s->G)(e:p/\q/\r/\s):G:=qa3 (c e.1) e.2
theorem qa5{p q r s t G:Prop}(c:p->q->r->s->t->G)(e:p/\q/\r/\s/\t):G:=qa4 (c e.1) e.2
theorem qa6{p q r s t u G:Prop}(c:p->q->r->s->t->u->G)(e:p/\q/\r/\s/\t/\u):G:=qa5 (c e.1) e.2
theorem qa7{p q r s t u v G:Prop}(c:p->q->r->s->t->u->v->G)(e:p/\q/\r/\s/\t/\u/\v):G:=qa6 (c e.1) e.2
theorem qa8{p q r s t u v w G:Prop}(c:p->q->r->s->t->u->v->w->G)(e:p/\q/\r/\s/\t/\u/\v/\w):G:=qa7 (c e.1) e.2
theorem Zqi.{u}{α:Type u}{a b:α}(h:some a=!b):a=b:=Option.some.inj h
theorem Zqg.{u}{α:Type u}{l:List α}{i:5}(h:i<⇑l):l[i]?=!l[i]:=List.getElem?_eq_getElem h
theorem Zqs.{u}{α:Type u}{a:α}{l:List α}:a∈a::l:=List.mem_cons_self
theorem Zqm.{u}{α:Type u}(y:α){a:α}{l:List α}(h:a∈l):a∈y::l:=List.mem_cons_of_mem y h
theorem Zql.{u,v}{α:Type u}{β:Type v}{l:List α}(f:α->β):⇑(l.map f)=⇑l:=List.length_map f
abbrev Za:=@wpAny_bind
abbrev Zb:=@wpAny_pure
abbrev Zc:=@wpAny_mono
abbrev Zd:=@if_pos
abbrev Ze:=@if_neg
abbrev Zf:=@Nat.le_refl
abbrev Zg:=@Nat.lt_of_lt_of_le
abbrev Zh:=@Nat.le_trans
abbrev Zi:=@Nat.ne_of_lt
abbrev Zj:=@Bool.false_ne_true
abbrev Zk:=@Heap.lt_size
abbrev Zl:=@List.map_cons
abbrev Zm:=@List.size_toArray
abbrev Zn:=@absurd
abbrev Zo:=@decide_eq_false
abbrev Zp:=@decide_eq_true
abbrev Zq:=@Heap.get?_push_of_some
abbrev Zr:=@Heap.get?_push_size
abbrev Zs:=@iff_of_false
abbrev Zt:=@congrArg
abbrev Zu:=@List.length_cons
abbrev Zv:=@List.getElem?_map
abbrev Zw:=@List.map_map
abbrev Zx:=@List.getElem?_set_ne
abbrev Zy:=@Nat.lt_irrefl
abbrev Zz:=@Nat.le_of_lt
abbrev ZA:=@List.append_nil
abbrev ZB:=@List.length_range
abbrev ZC:=@List.length_nil
set_option maxHeartbeats 4000000
abbrev Ya:=PySem.Value->PySem.Shared->4
abbrev Yb:=List<|PySem.Addr×PySem.Obj
abbrev Yc:=PySem.Str->02 PySem.Value
abbrev Yd:=List PySem.Value
abbrev Ye:=List 3
abbrev Yf:=List 5
abbrev Yg:=List PySem.Str
abbrev Yh:=List PySem.Addr
abbrev Yi:=@beq_iff_eq
abbrev Yj:=@Unit.unit
abbrev Yk:=@Nat.le_of_eq
abbrev Yl:=@PySem.F.plainAttrs_list
abbrev Ym:=@PySem.F.slot_list_append
abbrev Yn:=@PySem.F.type_list_append
abbrev Yo:=PySem.Shared->4
abbrev Ua:=@List.mem_of_getElem?
abbrev Ub:=@List.length_append
abbrev Uc:=@Bool.and_eq_true
abbrev Ud:=@List.map_append
abbrev Ue:=@List.length_take
abbrev Uf:=@List.mem_append_right
abbrev Ug:=@List.getElem?_of_mem
abbrev Uh:=@List.length_set
abbrev Ui:=@List.getElem?_append_left
abbrev Uj:=@List.length_singleton
abbrev Uk:=@Int.toNat_natCast
abbrev Ul:=@List.getD_eq_getElem?_getD
abbrev Um:=@Nat.zero_le
abbrev Uo:=@List.mem_append_left
abbrev Up:=@Array.length_toList
abbrev Uq:=@List.append_assoc
abbrev Ur:=@List.all_eq_true
abbrev Us:=@List.getElem?_append_right
abbrev Ut:=@List.getElem?_set_self
abbrev Uu:=@Sum.inr
abbrev Uv:=@List.all_cons
abbrev Uw:=@List.take_succ
abbrev Ux:=@List.mem_cons
abbrev Uy:=@List.take_length
abbrev Uz:=@List.lookup_cons
abbrev UA:=@List.not_mem_nil
abbrev UB:=@List.mem_of_mem_take
abbrev UC:=@Int.emod_nonneg
abbrev UD:=@Nat.blt
abbrev UE:=@Int.emod_lt_of_pos
abbrev UF:=@Bool.or_eq_true
abbrev UG:=@List.filterMap_cons
abbrev UH:=@List.drop_eq_getElem_cons
abbrev UI:=@Nat.blt_eq
abbrev UJ:=@List.take_of_length_le
abbrev UK:=@Nat.zero_add
abbrev UL:=@Nat.succ.inj
abbrev UM:=@Nat.ble_eq
abbrev UN:=@Nat.ne_of_gt
abbrev UO:=@Nat.lt_trans
abbrev UP:=@Nat.lt_of_le_of_lt
abbrev UQ:=@List.drop_length
abbrev UR:=@List.getElem_mem
abbrev US:=@List.all_map
abbrev UT:=@Int.eq_ofNat_of_zero_le
abbrev UU:=@List.any_eq_false
abbrev UV:=@Nat.le_succ
abbrev UW:=@List.length_drop
abbrev UX:=@List.find?_cons
abbrev UY:=@Nat.sub_self
abbrev UZ:=@List.map_take
abbrev U0:=@Int.le_trans
abbrev U1:=@List.ne_nil_of_length_pos
abbrev U2:=@Bool.eq_iff_iff
abbrev U3:=@Nat.lt_succ_self
abbrev U4:=@List.getElem?_take_of_lt
abbrev U5:=@Bool.false_eq_true
abbrev U6:=@List.getElem?_range
abbrev U7:=@List.getElem_of_mem
abbrev U8:=@Bool.or_true
abbrev U9:=@Nat.min_eq_left
abbrev Va:=@List.pairwise_iff_getElem
abbrev Vb:=@Int.emod_eq_of_lt
abbrev Vc:=@Nat.lt_or_ge
abbrev Vd:=@Classical.choose_spec
abbrev Ve:=@List.take_left
abbrev Vf:=@List.take_succ_cons
abbrev Vg:=@Option.isSome_map
abbrev Vh:=@Bool.not_eq_true'
abbrev Vi:=@List.zip_cons_cons
abbrev Vj:=@List.getElem?_eq_none
abbrev Vk:=@List.foldl_append
abbrev Vl:=@Nat.min_eq_right
abbrev Vm:=@List.drop_eq_nil_of_le
abbrev Vn:=@Array.all_toList
abbrev Vo:=@List.take_append_of_le_length
abbrev Vp:=@Nat.div_lt_of_lt_mul
abbrev Vq:=@List.map_congr_left
abbrev Vr:=@List.getElem?_inj
abbrev Vs:=@List.nodup_iff_pairwise_ne
abbrev Vt:=@Classical.byContradiction
abbrev Vu:=@Nat.toDigits_of_lt_base
abbrev Ja:=@List.getElem?_eq_some_iff
abbrev Jb:=@List.mem_map
abbrev Jc:=@List.mem_singleton
abbrev Jd:=@List.mem_append
abbrev Je:=@List.nodup_cons
abbrev Jf:=@List.nodup_append
abbrev Jg:=@Option.bind_eq_some_iff
abbrev Jh:=@List.length_pos_iff
abbrev Ji:=@List.mem_flatMap
abbrev Jj:=@Option.map_eq_some_iff
abbrev Jk:=@List.length_eq_zero_iff
abbrev Jl:=@List.mem_range
abbrev Jm:=@Array.getElem?_eq_some_iff
abbrev Jn:=@List.mem_filterMap
abbrev Jo:=@List.pairwise_map
abbrev Jp:=@List.forall_mem_cons
abbrev Jq:=@Option.isSome_iff_exists
abbrev Jr:=@List.getElem?_eq_none_iff
abbrev Js:=List<|3×3
abbrev Jt:=List Js
namespace L2
def yg {P:b->4}{G:4}(e:∃a,P a)(c:∀a,P a->G):G:=match e with|(a,h)=>c a h
def xg {P:b->4}{G:4}(c:∀a,P a->G)(e:∃a,P a):G:=match e with|(a,h)=>c a h
def sj  {P:d->f->4}{G:4}(e:∃a b,P a b)(c:∀a b,P a b->G):G:=match e with|(a,b,h)=>c a b h
def jy  {P:d->f->4}{G:4}(c:∀a b,P a b->G)(e:∃a b,P a b):G:=match e with|(a,b,h)=>c a b h
def xh  {P:c->d->4}(a:c)(b:d)(h:P a b):∃a b,P a b:=(a,b,h)
def uv   {P:f->g->i->4}{G:4}(e:∃a b d,P a b d)(c:∀a b d,P a b d->G):G:=match e with|(a,b,d,h)=>c a b d h
def xf   {P:f->g->i->4}{G:4}(c:∀a b d,P a b d->G)(e:∃a b d,P a b d):G:=match e with|(a,b,d,h)=>c a b d h
def jh   {P:d->e->f->4}(a:d)(b:e)(c:f)(h:P a b c):∃a b c,P a b c:=(a,b,c,h)
def si    {P:g->i->j->l->4}{G:4}(c:∀a b d f,P a b d f->G)(e:∃a b d f,P a b d f):G:=match e with|(a,b,d,f,h)=>c a b d f h
def jX    {P:e->f->g->i->4}(a:e)(b:f)(c:g)(d:i)(h:P a b c d):∃a b c d,P a b c d:=(a,b,c,d,h)
def yy     {P:i->j->l->m->n->4}{G:4}(c:∀a b d f g,P a b d f g->G)(e:∃a b d f g,P a b d f g):G:=match e with|(a,b,d,f,g,h)=>c a b d f g h
def jE     {P:f->g->i->j->l->4}(a:f)(b:g)(c:i)(d:j)(e:l)(h:P a b c d e):∃a b c d e,P a b c d e:=(a,b,c,d,e,h)
def vl      {P:j->l->m->n->o->p->4}{G:4}(c:∀a b d f g i,P a b d f g i->G)(e:∃a b d f g i,P a b d f g i):G:=match e with|(a,b,d,f,g,i,h)=>c a b d f g i h
def vm      {P:g->i->j->l->m->n->4}(a:g)(b:i)(c:j)(d:l)(e:m)(f:n)(h:P a b c d e f):∃a b c d e f,P a b c d e f:=(a,b,c,d,e,f,h)
def zR       {P:i->j->l->m->n->o->p->4}(a:i)(b:j)(c:l)(d:m)(e:n)(f:o)(g:p)(h:P a b c d e f g):∃a b c d e f g,P a b c d e f g:=(a,b,c,d,e,f,g,h)
def jD{a b G:4}(c:a->b->G)(e:a/\b):G:=match e with|(h0,d)=>c h0 d
def so{a b G:4}(e:a/\b)(c:a->b->G):G:=match e with|(h0,d)=>c h0 d
def j5{a b d G:4}(c:a->b->d->G)(e:a/\b/\d):G:=match e with|(h0,f,h2)=>c h0 f h2
def sm{a b d G:4}(e:a/\b/\d)(c:a->b->d->G):G:=match e with|(h0,f,h2)=>c h0 f h2
def yh{a b d f G:4}(c:a->b->d->f->G)(e:a/\b/\d/\f):G:=match e with|(h0,g,h2,h3)=>c h0 g h2 h3
def fc{a b d f g G:4}(c:a->b->d->f->g->G)(e:a/\b/\d/\f/\g):G:=match e with|(h0,h,h2,h3,h4)=>c h0 h h2 h3 h4
def uw{a b d f g h i G:4}(c:a->b->d->f->g->h->i->G)(e:a/\b/\d/\f/\g/\h/\i):G:=match e with|(h0,j,h2,h3,h4,h5,h6)=>c h0 j h2 h3 h4 h5 h6
abbrev jR:=Sum 3 Str
def VM:jR->Value->Bool
 |.inl k,v=>Value.isInt k v
 |.inr x,v=>Value.isStrOf x v
def sA(w:World):jR->3
 |.inl k=>hashInt k
 |.inr x=>hashStr w x
def V9:∀{k:jR}{v:Value},VM k v=6->(∃i t,k=Sum.inl i/\v=Value.int i t)\/∃x t,k=Uu x/\v=Value.str x t
 |.inl i,v,h=>by
  let(t,e):=Value.isInt_shape h;rw[.inl (i,t,9,e)]
 |.inr x,v,h=>by
  let(t,e):=Value.isStrOf_shape h;rw[.inr (x,t,9,e)]
def L0(i)(t):VM (.inl i) (.int i t)=6:=by simp[VM,Value.isInt]
def L1(x)(t):VM (.inr x) (.str x t)=6:=by simp[VM,Value.isStrOf]
def L3(a b):decide ((Sum.inl a:jR)=Sum.inl b)=(a==b):=()
def L5(a b):decide ((Uu a:jR)=Uu b)=decide (a=b):=()
def L6(a)(b):decide ((Sum.inl a:jR)=Uu b)=7:=rfl
def L7(a)(b):decide ((Uu a:jR)=Sum.inl b)=7:=rfl
def QM(c:Program)(w:World):PySem.KeyKind c w jR where
 is:=VM
 hash:=sA w
 inj:=λv a b l g=>by
  obtain⟨i,t,rfl,rfl⟩|⟨x,t,rfl,rfl⟩:=V9 l
  .rcases V9 g with ⟨j,u,rfl,e⟩|⟨y,u,rfl,e⟩
   .injection e with d _;rw[d,]
   .rw[nomatch e]
  .rcases V9 g with ⟨j,u,rfl,e⟩|⟨y,u,rfl,e⟩
   .rw[nomatch e]
   .injection e with d _;rw[d,]
 byValue:=λk v h=>by
  obtain⟨i,t,rfl,rfl⟩|⟨x,t,rfl,rfl⟩:=V9 h<;>rfl
 pyHash:=λf h=>by
  obtain⟨i,t,rfl,rfl⟩|⟨x,t,rfl,rfl⟩:=V9 f
  .rw[wpAny_pyHash_int h]
  .rw[wpAny_pyHash_str h]
 eqBool:=λm f h=>by
  obtain⟨i,t,rfl,rfl⟩|⟨x,t,rfl,rfl⟩:=V9 m
  .rcases V9 f with ⟨j,u,rfl,rfl⟩|⟨y,u,rfl,rfl⟩
   .rw[L3]at h;rw[wpAny_eqBool_int h]
   .rw[L6]at h;rw[SeqAt.EqAt.int_str i t y u _ _ _ _ h]
  .rcases V9 f with ⟨j,u,rfl,rfl⟩|⟨y,u,rfl,rfl⟩
   .rw[L7]at h;rw[SeqAt.EqAt.str_int x t j u _ _ _ _ h]
   .rw[L5]at h;rw[wpAny_eqBool_str h]
 «strs»:=λk x t v h=>by
  obtain⟨i,u,rfl,e⟩|⟨y,u,rfl,e⟩:=V9 h
  .rw[nomatch e]
  .injection e with d _
   subst d;cases v<;>rfl
inductive V where
 |non|bl(b:Bool)|int(i:Int)|str(x:Str)|byt(b:Array UInt8)|flt(b:UInt64)|ref(a:Addr)|ty(n:String)
 deriving DecidableEq
abbrev _root_.Yp:=List V
def jz:V->Value->4
 |.non,u=>u=Value.none
 |.bl b,u=>u=Value.bool b
 |.int i,u=>∃t,u=Value.int i t
 |.str x,u=>∃t,u=Value.str x t
 |.byt b,u=>∃t,u=Value.bytes b t
 |.flt b,u=>∃t,u=Value.float b t
 |.ref a,u=>u=Value.ref a
 |.ty n,u=>u=Value.type n
abbrev j4:Yp->List Value->4:=Paired jz
theorem j4.length  (r:j4 a b):⇑a=⇑b:=Paired.length r
theorem j4.get:∀{a:Yp}{b:Yd}{i:5}{x:V},j4 a b->a[i]?=!x->∃u,b[i]?=!u/\jz x u
 |_,_,_,_,.nil,e=>by simp at e
 |_,_,0,_,.cons r _,e=>by simp at e;subst e;rw[(_,9,r)]
 |_,_,i+1,x,.cons _ t,e=>by
  let(-u,c,f):=j4.get (i:=i) (x:=x) t (by simpa using e);rw[(u,by simpa using c,f)]
theorem j4.set  (r:jz x u):∀{a:Yp}{b:Yd}i,j4 a b->j4 (a.set i x) (b.set i u)
 |_,_,_,.nil=>.nil
 |_,_,0,.cons _ t=>.cons r t
 |_,_,i+1,.cons q t=>.cons q (j4.set r i t)
def j4.append:∀{a b:Yp}{c e:Yd},j4 a c->j4 b e->j4 (a++b) (c++e):=λh s=>by
 cases(h)with
 |nil=>rw[s]
 |cons r _ f=>rw[.cons r f]
theorem j4.take:∀{xs:Yp}{a:Yd}(n:5),j4 xs a->j4 (xs.take n) (a.take n)
 |_,_,0,_=>.nil
 |_,_,_+1,.nil=>.nil
 |_,_,n+1,.cons r t=>.cons r (j4.take n t)
theorem j4.drop:∀{a:Yp}{b:Yd}(n:5),j4 a b->j4 (a.drop n) (b.drop n)
 |_,_,0,r=>r
 |_,_,_+1,.nil=>.nil
 |_,_,n+1,.cons _ t=>j4.drop n t
def j4.none_of:∀{a:Yp}{b:Yd}{i:5},j4 a b->a[i]?=8->b[i]?=8:=λ{a b i}r e=>by
 let c:=⇑r
 ext
def ya:02 V->02 Value->4
 |some v,some u=>jz v u
 |none,none=>True
 |_,_=>False
def KV{κ:Type}:List (κ × V)->List (κ × Value)->4:=Paired λ(p:κ × V)(q:κ × Value)=>p.1=q.1/\jz p.2 q.2
def kV:jR->V
 |.inl i=>.int i
 |.inr x=>.str x
inductive HO where
 |lst(xs:Yp)
 |tup(xs:Yp)
 |dK(kvs:List (jR×V))|dT(kvs:List (List jR×V))
 |set(S:Int->Bool)(n:Nat)
 |ins(C dx:Addr)(fs:List (Str×V))
 |own(x:Addr)
 |xd(fs:List (Str×V))
 |met(f x:Addr)
 |rng(lo hi:Int)
 |frz(o:Obj)(u:HO)
 |tbl(ps:Array Value)
 |ext(φ:Heap->Prop)
abbrev Hp:=Addr->02 HO
def upd(H:Hp)(a:Addr)(o:HO):Hp:=λb=>if b=a then !o else H b
def JE   :upd H a o a=!o:=by simp_all[upd]
def J6   (h:b≠a):upd H a o b=H b:=by ext upd;rw[Ze h,]
def dn{H:Hp}  (h:H a=!o)(c:H b=!u)(d:o≠u):a≠b:=by
 intro e;subst e;rw[h]at c;rw[d<|Zqi c]
def KL{H:Hp}  (h:H a=!o)(c:H b=8):a≠b:=()
section
variable (P:Program)(w:World)
def yd(H:Hp)(h:Heap)(a:Addr):HO->4
 |.lst d=>⇑d<=00/\∃(b:Yd)(n:5),j4 d b/\h.get? a=!{cls:=.type "list",data:=.seq b.toArray n}
 |.tup d=>(⇑d<=00/\∃o,h.get? a=!o/\o.dict=8)/\∃b:Yd,j4 d b/\IsTup h a b.toArray
 |.dK c=>⇑c<=00/\(a==sysModules)=7/\∃i,KV c i/\h.DictOf (QM P w) a i
 |.dT c=>⇑c<=00/\(a==sysModules)=7/\∃d:List (List jR×Addr×Value),
  Paired (λ(p:List jR×V)(q:List jR×Addr×Value)=>p.1=q.1/\H q.2.1=!(.tup<|p.1.map kV)/\jz p.2 q.2.2) c d/\
  ∃o j r,h.get? a=!o/\o.ExactDict/\o.data=.dict j r/\j.toList=d.map (entryOfKey<|tupleKind<|QM P w)/\(d.map (·.1)).Nodup
 |.set S n=>h.SetOf (intKind P w) a S n
 |.ins C g fs=>H g=! .own a/\⇑fs<=1000/\g≠a/\h.get? a=! W.instObj C g/\
  ∃e,h.Ns1 g e/\(∀f,ya (fs.lookup f) (e f))/\PySem.Within e (fs.map (·.1))
 |.own _=>∃o,h.get? a=!o
 |.xd fs=>∃e,h.Ns1 a e/\∀f,ya (fs.lookup f) (e f)
 |.rng lo hi=>∃t u v,h.get? a=!{cls:=.type "range",data:=.fields #[.int lo t,.int hi u,.int 1 v]}
 |.frz o u=>h.get? a=!o/\yd H h a u
 |.tbl s=>h.get? a=!{cls:=.none,data:=.fields s}
 |.met f x=>h.get? a=!(W.methodObj (.ref f)<|.ref x)
 |.ext φ=>φ h/\(∃o,h.get? a=!o)/\∀l m:Heap,φ l->(∀o,l.get? a=!o->m.get? a=!o)->φ m
def xy(H:Hp)(h:Heap):4:=∀a o,H a=!o->yd P w H h a o
end
section
variable     {a:Addr}
theorem yd.lt(x:yd P w H h a o):a<h.objs.size:=by
 cases(o)with
 |lst c=>let(_,_,_,_,e):=x;rw[Zk e]
 |tup c=>let(_,_,_,p):=x;rw[p.lt]
 |dK b=>let(!_,_,(_,_,o,_,_,e,_)):=x;rw[Zk e]
 |dT b=>let(!_,_,(_,_,o,_,_,e,_)):=x;rw[Zk e]
 |set S n=>let(o _ _ _,e,_):=x;rw[Zk e]
 |ins C g fs=>rw[Zk x.2.2.2.1]
 |own y=>let(_,e):=x;rw[Zk e]
 |xd fs=>let(-_,(_,_,_,e,_),_):=x;rw[Zk e]
 |rng lo i=>let(_ _ _,e):=x;rw[Zk e]
 |frz j u=>rw[Zk x.1]
 |tbl l=>rw[Zk<|x]
 |met f y=>rw[Zk<|x]
 |ext φ=>let(!_,(_,e),_):=x;rw[Zk e]
def yu  :∀{l₁:List α}{l₂:List β},Paired F l₁ l₂->(∀a b,F a b->G a b)->Paired G l₁ l₂:=λh f=>by
 cases(h)with
 |nil=>rw[.nil]
 |cons r _ c=>rw[.cons (f _ _ r) c]
def yd.stay(x:yd P w H h a o)(k:∀b u,b=a\/H b=! .own a->h.get? b=!u->E.get? b=!u)
 (L:∀b,H b=! .own a->I b=! .own a)(M:∀b s,H b=! .tup s->I b=! .tup s):yd P w I E a o:=by
 cases(o)with
 |lst s=>let(z,l,n,r,e):=x;rw[(z,l,n,r,k _ _ (.inl 9) e)]
 |tup s=>let((z,B,O,Q),l,r,g,e,c):=x;rw[((z,B,k _ _ (.inl 9) O,Q),l,r,g,k _ _ (.inl 9) e,c)]
 |dK F=>let(z,y,R,r,g,i,j,e,c):=x;rw[(z,y,R,r,g,i,j,k _ _ (.inl 9) e,c)]
 |dT F=>
  let(!z,y,(s,r,g,i,j,e,c)):=x;rw[(z,y,s,yu r λp q z=>(z.1,M _ _ z.2.1,z.2.2),g,i,j,k _ _ (.inl 9) e,c)]
 |set S n=>let(g i j t,e,c):=x;rw[jX g i j t (k _ _ (.inl 9) e,c)]
 |ins C X fs=>
  let(!d,z,ne,e,(G,(B,i,j,T,c),r)):=x;rw[(L _ d,z,ne,k _ _ (.inl 9) e,G,(B,i,j,k _ _ (.inr d) T,c),r)]
 |own y=>let(g,e):=x;rw[(g,k _ _ (.inl 9) e)]
 |xd fs=>let(G,(B,i,j,e,c),r):=x;rw[(G,jh B i j (k _ _ (.inl 9) e,c),r)]
 |rng lo Y=>let(t u v,e):=x;rw[jh t u v<|k _ _ (.inl 9) e]
 |frz g u U=>let(e,q):=x;rw[(k _ _ (.inl 9) e,U q)]
 |tbl J=>
  let e:h.get? a=!{cls:=.none,data:=.fields J}:=x;show E.get? a=!{cls:=.none,data:=.fields J};rw[k a _ (.inl 9) e]
 |met f y=>
  let e:h.get? a=!(W.methodObj (.ref f)<|.ref y):=x;show E.get? a=!(W.methodObj (.ref f)<|.ref y);rw[k a _ (.inl 9) e]
 |ext φ=>let(!p,(o,e),st):=x;rw[(st _ _ p λo q=>k _ _ (.inl 9) q,(o,k _ _ (.inl 9) e),st)]
theorem xy.lt(x:xy P w H h)(e:H a=!o):a<h.objs.size:=(x a o e).lt
def xy.fresh(x:xy P w H h)(e:h.objs.size<=a):H a=8:=by
 cases q:H a with
 |none=>rfl
 |some u=>rw[Zn (Zg (x.lt q) e)<|Zy _]
def xy.kept(x:xy P w H h)(k:∀b u,h.get? b=!u->h'.get? b=!u):xy P w H h':=λa o e=>
 (x a o e).stay (λb u _ q=>k b u q) (λ_ q=>q) λ_ _ q=>q
def xy.laid(x:xy P w H h)(k:∀b u,h.get? b=!u->h'.get? b=!u)(g:h.objs.size<=a)(new:yd P w (upd H a o) h' a o):xy P w (upd H a o) h':=λb u e=>by
 let f:=x.fresh g;cases i:b=a
 .simp_all[JE]
 .rw[J6 i]at e;rw[(x b u e).stay () λc q=>by rwa[J6 (KL q f),] λc j q=>by rwa[J6 (KL q f),]]
end
def Rd(H:Hp)(a:Addr)(u:HO):4:=H a=!u\/∃o,H a=! .frz o u
def Rd.ok      (r:Rd H a u)(x:xy P w H h):yd P w H h a u:=by
 obtain r|⟨o,r⟩:=r
 .rw[x a u r]
 .let(_,q):=x a _ r;rw[q]
def mq:02 HO->4
 |some (.lst _)=>True
 |some (.dK _)=>True
 |some (.dT _)=>True
 |some (.set _ _)=>True
 |some (.ins _ _ _)=>True
 |some (.ext _)=>True
 |_=>False
def xy.write(ok:xy P w H h)(n:mq (H x))(B:e=x\/H e=! .own x)(k:∀b u,b≠e->h.get? b=!u->i.get? b=!u)(j:∃u,i.get? e=!u)
 (new:yd P w (upd H x o) i x o):xy P w (upd H x o) i:=λb u q=>by
 let a:∀c y,H c=! .own y->c≠x:=λc y r z=>by subst z;rwa[r]at n
 let f:∀c g,H c=! .tup g->c≠x:=λc g r z=>by subst z;rwa[r]at n
 cases s:b=x
 .simp_all[JE]
 .rw[J6 s]at q;cases l:b=e
  .let p:H b=! .own x:=by
    ext
   rw[q]at p;cases p;let(v,E):=j;rw[(v,by rwa[l,])]
  .rw[(ok b u q).stay (λc v F r=>k c v ?_ r) λc r=>by rwa[J6 (a c b r),] λc g r=>by rwa[J6 (f c g r),]]
   grind
structure Un(fs ex:Yh)(H H':Hp)(h h':Heap):4 where
 keep:∀b o,h.get? b=!o->H b=8->b∉fs->b∉ex->h'.get? b=!o
 slot:∀b o,h.get? b=!o->H b=8->b∈fs->b∉ex->∃sl,h'.get? b=!{o with slots:=sl}
 free:∀b o,h.get? b=!o->H b=8->b∉ex->H' b=8
 there:∀b o,h.get? b=!o->b∉ex->∃o',h'.get? b=!o'
 tups:∀b xs,H b=! .tup xs->H' b=! .tup xs
 frzs:∀b o u,H b=! .frz o u->H' b=! .frz o u
 tbls:∀b ps,H b=! .tbl ps->∃more,H' b=!(.tbl<|ps++more)
section
variable   {h h1 h2 h':Heap}{a x e:Addr}
def Un.any(u:Un fs ex H j h h1)  (q:h.get? b=!c)(n:H b=8)(f:b∉ex):∃i,h1.get? b=!{c with slots:=i}:=by
 cases g:b∈fs
 .rw[u.slot b c q n g f]
 .rw[(c.slots,u.keep b c q n g f)]
def Un.kept(k:∀b u,h.get? b=!u->h'.get? b=!u):Un fs ex H H h h':=
 (λb c q _ _ _=>k b c q,λb c q _ _ _=>(c.slots,k b c q),λ_ _ _ n _=>n,λb c q _=>(c,k b c q),λ_ _ q=>q,λ_ _ _ q=>q,λ_ f q=>(#[],by rw[q,];simp))
def Un.refl:Un fs ex H H h h:=Un.kept λ_ _ q=>q
def Un.laid(k:∀b u,h.get? b=!u->h'.get? b=!u)(f:h.objs.size<=a)(c:H a=8):Un fs ex H (upd H a o) h h' where
 keep:=by grind
 slot:=λb u q _ _ _=>(u.slots,k b u q)
 free:=λb u q n _=>by rwa[J6 (Zi<|Zg (Zk q) f),]
 there:=by grind
 tups:=λb g q=>by rwa[J6 (KL q c),]
 frzs:=λb u g q=>by rwa[J6 (KL q c),]
 tbls:=λb i q=>(#[],by rw[J6 (KL q c),q];simp)
def Un.write(f:mq (H x))(p:e=x\/H e=! .own x)(k:∀b u,b≠e->h.get? b=!u->h'.get? b=!u)(g:∃u,h'.get? e=!u):Un fs ex H (upd H x o) h h':=by
 let j:∀b,H b=8->b≠x:=λb n z=>by subst z;rw[n]at f;rw[f]
 let l:∀b,H b=8->b≠e:=λb n z=>by
  subst z;obtain r|r:=p
  .rw[j b n r]
  .rw[n]at r;cases r
 let i:∀b u,H b=!u->¬mq !u->b≠x:=λb u q nm z=>by subst z;rw[q]at f;rw[nm f]
 rw[(λb u q n _ _=>k b u (l b n) q,λb u q n _ _=>(u.slots,k b u (l b n) q),λb u q n _=>by rw[J6 (j b n),];rw[n],λb u q _=>?_,
  λb s q=>by rw[J6 (i b _ q λz=>z),];rw[q],λb u s q=>by rw[J6 (i b _ q λz=>z),];rw[q],λb v q=>(#[],by rw[J6 (i b _ q λz=>z),q];simp))]
 cases c:b=e
 .subst c;rw[g]
 .rw[(u,k b u c q)]
end
def trk(h:Heap)(H:Hp):Yh:=(List.range h.objs.size).filter λa=>(H a).isSome
def zU(h:Heap)(H:Hp):Heap:=W.hideAll h<|trk h H
structure Mod(K:aa)(mg:Yc)(base:Heap):4 where
 kin:K.In base
 glob:base.Ns 000 mg
 blt:∃mb,base.Ns builtinsNs mb/\∀x:Str,x ≠"__name__"->mb x=bootBuiltins x
 nolimit:base.NoLimit
structure Cx where
 prog:Program
 w:World
 K:aa
 mg:Yc
 base:Heap
 A:Around
 N:Yg
 s₀:Shared
 H₀:Hp
 env:Env
 outer:List Env
 stack:List Env
 ex:Yh
 fn:Str->Bool
 calm:Bool
 pn:Yb
 xe:Ya
abbrev _root_.Ys(X:Cx){α:Type}(m:Sem α):=wpAny (model X.prog X.w) X.A m
abbrev _root_.Yt(P:Program)(w:World)(A:Around){α:Type}(m:Sem α):=wpAny (model P w) A m
abbrev _root_.Yu(P:Program)(w:World)(A:Around)(E:Value->Shared->4)(s:Shared){α:Type}(m:StateT PyProof.Rows.SortSt Sem α):=PyProof.Rows.wpS (model P w) A E s m
def frs(l:List Env):Yh:=l.filterMap (·.frame)
abbrev Cx.fs(X:Cx):Yh:=frs X.outer
def ma(a:Scope)(x:Str):4:=a.names.lookup x=!.local\/a.names.lookup x=!.cell\/a.names.lookup x=!.free
def zO(a:Scope)(x:Str):4:=a.names.lookup x=!.local\/a.names.lookup x=!.cell
def mt(a:Env)(h:Heap)(m:Yc)(x:Str)(u:Value):4:=
 a.kindOf x=!.local/\m x=!u\/(a.kindOf x=!.cell\/a.kindOf x=!.free)/\∃c,a.cells.lookup x=!c/\h.IsCell c !u
structure Cx.Ok(X:Cx):4 where
 mod:Mod X.K X.mg X.base
 kind:X.env.scope.kind=.function
 glob:X.env.globals=000
 blt:X.env.builtins=builtinsNs
 above:X.s₀.heap.objs.size<=X.env.locals
 inj:∀x y c,X.env.cells.lookup x=!c->X.env.cells.lookup y=!c->x=y
 has:∀x,X.env.kindOf x=!.cell\/X.env.kindOf x=!.free->∃c,X.env.cells.lookup x=!c
 cab:∀x c,X.fn x=6->X.env.cells.lookup x=!c->X.s₀.heap.objs.size<=c
 hd:X.calm=6->X.A.handled=8
 frames:X.A.frames=!X.stack
 stk:X.stack=X.outer\/X.stack=X.env::X.outer/\X.env.frame=!X.env.locals
 exf:∀b∈X.ex,b≠X.env.locals/\∀x c,X.env.cells.lookup x=!c->c≠b
 bs:∀b o,X.base.get? b=!o->X.s₀.heap.get? b=!o/\X.H₀ b=8
 bsz:X.base.objs.size<=X.s₀.heap.objs.size
 noex:∀b o,X.base.get? b=!o->b∉X.ex
 exfs:∀b∈X.ex,b∉X.fs
 funs:X.s₀.heap.FunFrames X.base X.outer
 frf:∀b∈X.fs,X.H₀ b=8
structure Inv(X:Cx)(Y:Yb)(Z:List (02 V))(H:Hp)(s:Shared):4 where
 ok:X.Ok
 os:s.os=X.s₀.os
 bare:AllBare s.gens
 base:Un X.fs X.ex X.H₀ H X.s₀.heap s.heap
 loc:∃m,s.heap.Ns X.env.locals m/\∀(i:5)(x:Str)(v:V),X.N[i]?=!x->Z[i]?=! !v->ma X.env.scope x->∃u,jz v u/\mt X.env s.heap m x u
 cell:∀x c,X.env.cells.lookup x=!c->∃v,s.heap.IsCell c v
 free:H X.env.locals=8
 freeC:∀x c,X.env.cells.lookup x=!c->H c=8
 pin:∀p∈X.pn++Y,↥s p.1=!p.2/\H p.1=8/\p.1≠X.env.locals/\p.1∉X.fs/\∀v,p.2.data ≠ .cell v
 hok:xy X.prog X.w H s.heap
 len:⇑Z=⇑X.N
section
variable {X:Cx}
def Cx.Ok.nofr(ok:X.Ok)  (e:X.base.get? b=!o):b∉X.fs:=λa=>by
 let:=(ok.funs.mem a).1
 ext
theorem Inv.bs(I:Inv X Y Z H s):∀b o,X.base.get? b=!o->↥s b=!o/\H b=8:=λb o e=>
 (I.base.keep b o (I.ok.bs b o e).1 (I.ok.bs b o e).2 (I.ok.nofr e)<|I.ok.noex b o e,I.base.free b o (I.ok.bs b o e).1 (I.ok.bs b o e).2<|I.ok.noex b o e)
def Inv.bk(I:Inv X Y Z H s):∀b o,X.base.get? b=!o->↥s b=!o:=λb o e=>(I.bs b o e).1
theorem Inv.mod(I:Inv X Y Z H s):Mod X.K X.mg X.base:=I.ok.mod
def Inv.kIn(I:Inv X Y Z H s):X.K.In s.heap:=I.ok.mod.kin.keeps I.bk
theorem Inv.lt(I:Inv X Y Z H s):X.env.locals<s⁻¹:=yg I.loc λ_=>jD λa _=>a.lt
def Inv.sz(I:Inv X Y Z H s):X.s₀.heap.objs.size<=s⁻¹:=Zh I.ok.above<|Zz I.lt
def Inv.nofs(I:Inv X Y Z H s){a:Addr}(h:s⁻¹<=a):a∉X.fs:=λb=>by
 let(_,o,c,_):=I.ok.funs.mem b;rw[Zn (Zg (Zk c)<|Zh I.sz h)<|Zy _]
def Inv.cne(I:Inv X Y Z H s):∀x c,X.env.cells.lookup x=!c->c≠X.env.locals:=λx c e z=>by
 let(v o,f,g):=I.cell x c e;let(-m,(i,j,l,a,b,_),_):=I.loc
 ext
theorem Inv.funs(I:Inv X Y Z H s):s.heap.FunFrames X.base X.outer:=by
 let all:∀l,(∀b∈frs l,b∈X.fs)->X.s₀.heap.FunFrames X.base l->s.heap.FunFrames X.base l:=by
  intro l
  cases(l)with
  |nil=>intro _ _;trivial
  |cons g r i=>
   intro c j;let(!n,(L,o,p,u,v,y),B):=j;let a:L∈X.fs:=c L (by simp_all[frs,UG]);let(E,e):=I.base.slot L o v (I.ok.frf L a) a λz=>I.ok.exfs L z a;rw[(n,(L,_,p,u,e,y),i λb f=>c b<|by simp_all[frs,UG] B)]
 rw[all X.outer (λ_ f=>f) I.ok.funs]
theorem Inv.stack(I:Inv X Y Z H s):s.heap.FunFrames X.base X.stack:=by
 obtain e|⟨e,hf⟩:=I.ok.stk
 .rw[e,];rw[I.funs]
 .rw[e,];let(-m,a,_):=I.loc;rw[.cons (by rw[I.ok.kind,];decide) hf a ?_ I.funs];rw[Heap.get?_none_of_le<|Zh I.ok.bsz I.ok.above]
def Inv.stkSub(I:Inv X Y Z H s):∀b∈frs X.stack,b∈X.env.locals::X.fs:=λb a=>by
 obtain e|⟨e,hf⟩:=I.ok.stk
 .ext
 simp_all[frs]
def Inv.stkFree(I:Inv X Y Z H s):∀b∈frs X.stack,H b=8:=λb hb=>by
 rcases Ux.mp (I.stkSub b hb)with e|hb
 .rw[e,];rw[I.free]
 .let(_,o,a,_):=I.ok.funs.mem hb;rw[I.base.free b o a (I.ok.frf b hb) λz=>I.ok.exfs b z hb]
def Inv.step   {ch:Yh}(I:Inv X Y Z H s)
 (f:∀b∈ch,(b∈X.ex\/X.s₀.heap.objs.size<=b)/\b≠X.env.locals/\(∀x c,X.env.cells.lookup x=!c->c≠b)/\∀p∈X.pn++Y,p.1≠b)
 (keep:∀b o,b≠X.env.locals->b∉X.fs->b∉ch->↥s b=!o->H b=8->h'.get? b=!o)
 (E:∀b o,b≠X.env.locals->b∈X.fs->b∉ch->↥s b=!o->H b=8->∃sl,h'.get? b=!{o with slots:=sl})(free:∀b o,b∉ch->↥s b=!o->H b=8->M b=8)
 (G:∀b o,b∉ch->↥s b=!o->∃O,h'.get? b=!O)
 (Q:∀b F,H b=! .tup F->M b=! .tup F)(R:∀b o u,H b=! .frz o u->M b=! .frz o u)(S:∀b ps,H b=! .tbl ps->∃T,M b=!(.tbl<|ps++T))
 (ns:∀m,s.heap.Ns X.env.locals m->h'.Ns X.env.locals m)(hok:xy X.prog X.w M h')(hg:AllBare g'):
 Inv X Y Z M {s with heap:=h',gens:=g',drawn:=d',toks:=t'}:=by
 let U:∀b o,X.s₀.heap.get? b=!o->b≠X.env.locals:=λb o e=>Zi<|Zg (Zk e) I.ok.above;let y:∀b o,X.s₀.heap.get? b=!o->b∉X.ex->b∉ch:=λb o e a J=>by
  rcases(f b J).1 with z|z
  .rw[a z]
  .rw[Zn (Zg (Zk e) z)<|Zy _]
 let g:∀x c,X.env.cells.lookup x=!c->∀v,s.heap.IsCell c v->h'.IsCell c v:=λx c e v zh=>by
  let(-o,L,hd):=zh;let j:c∉ch:=λz=>(f c z).2.2.1 x c e 9;cases hc:c∈X.fs
  .let(sl,q):=E c o (I.cne x c e) hc j L (I.freeC x c e);rw[(_,q,hd)]
  .rw[(o,keep c o (I.cne x c e) hc j L<|I.freeC x c e,hd)]
 rw[(I.ok,I.os,hg,(λb o e n J a=>?_,λb o e n J a=>?_,λb o e n a=>?_,λb o e a=>?_,λb F e=>Q b F<|I.base.tups b F e,λb o F e=>R b o F<|I.base.frzs b o F e,λb ps e=>?_),?_,λx c e=>?_,?_,λx c e=>?_,λp hp=>?_,hok,I.len)]
 .rw[keep b o (U b o e) J (y b o e a) (I.base.keep b o e n J a)<|I.base.free b o e n a]
 .let(sl,B):=I.base.slot b o e n J a;let(sl',e2):=E b _ (U b o e) J (y b o e a) B (I.base.free b o e n a);rw[(sl',e2)]
 .let(O,B):=I.base.there b o e a;rw[free b O (y b o e a) B<|I.base.free b o e n a]
 .let(O,B):=I.base.there b o e a;rw[G b O (y b o e a) B]
 .let(m1,B):=I.base.tbls b ps e;let(m2,e2):=S b _ B;rw[(m1++m2,by rw[e2,Array.append_assoc])]
 .let(-m,hn,hl):=I.loc;rw[(m,ns m hn,λi x v B e2 e3=>?_)];let(-u,r,l):=hl i x v B e2 e3;rw[(u,r,?_)];obtain l|⟨k,c,e,z⟩:=l
  .rw[.inl l]
  .rw[.inr (k,c,e,g x c e _ z)]
 .let(v,z):=I.cell x c e;rw[(v,g x c e v z)]
 .let(-m,(o,_,_,L,_),_):=I.loc;rw[free _ o (λz=>(f _ z).2.1 9) L I.free]
 .let(v o,L,hd):=I.cell x c e;rw[free c o (λz=>(f c z).2.2.1 x c e 9) L<|I.freeC x c e]
 .let(!e,n,ne,nf,d):=I.pin p hp;let j:p.1∉ch:=λz=>(f p.1 z).2.2.2 p hp 9;rw[(keep p.1 p.2 ne nf j e n,free p.1 p.2 j e n,ne,nf,d)]
def Inv.un (I:Inv X Y Z H s)(u:Un X.fs [] H j s.heap l)(c:xy X.prog X.w j l):Inv X Y Z j {s with heap:=l,toks:=E}:=by
 let(-m,(o,F,G,p,r),_):=id I.loc;let(J,v):=u.any p I.free ();rw[I.step (g':=s.gens) (d':=s.drawn) (ch:=[]) (λ_ z=>nomatch z) (λb o _ f _ e n=>u.keep b o e n f ()) (λb o _ f _ e n=>u.slot b o e n f ()) (λb o _ e n=>u.free b o e n ()) (λb o _ e=>u.there b o e ()) u.tups u.frzs u.tbls (λL y=>by
  let(M g i,a,B):=y;rw[p]at a;cases a;rw[jh _ g i (v,B)]) c I.bare]
def Inv.call    (I:Inv X Y Z H s)(u:Un (frs X.stack) ch H y s.heap B)(i:xy X.prog X.w y B)(F:AllBare G)
 (f:∀b∈ch,(b∈X.ex\/X.s₀.heap.objs.size<=b)/\b≠X.env.locals/\(∀x c,X.env.cells.lookup x=!c->c≠b)/\∀p∈X.pn++Y,p.1≠b):
 Inv X Y Z y {s with heap:=B,gens:=G,drawn:=O,toks:=Q}:=by
 let(-m,(o,R,S,E,r),_):=id I.loc;let(T,j):=u.any E I.free λz=>(f _ z).2.1 9;rw[I.step (ch:=ch) f (λb o j J a e n=>u.keep b o e n (λz=>(Ux.mp<|I.stkSub b z).elim j J) a) (λb o _ _ a e n=>u.any e n a) (λb o a e n=>u.free b o e n a) (λb o a e=>u.there b o e a) u.tups u.frzs u.tbls (λU L=>by
  let(o' l v,g,M):=L;rw[E]at g;cases g;rw[jh _ l v (j,M)]) i F]
def Inv.turned  (I:Inv X Y Z H s)(k:∀b o,b≠it->↥s b=!o->i.get? b=!o)(j:H it=8)(g:it≠X.env.locals)
 (l:it∈X.ex\/X.s₀.heap.objs.size<=it)(y:∀x c,X.env.cells.lookup x=!c->c≠it)(B:∀p∈X.pn++Y,p.1≠it):Inv X Y Z H {s with heap:=i,toks:=t'}:=by
 let f:∀b u,H b=!u->b≠it:=λb u e z=>by rw[z,j]at e;cases e
 rw[I.step (g':=s.gens) (d':=s.drawn) (ch:=[it]) (λb E=>?_) (λb o _ _ a e _=>k b o λz=>a<|by simp[z] e) (λb o _ _ a e _=>(o.slots,k b o λz=>a<|by simp[z] e)) (λ_ _ _ _ n=>n)
  (λb o a e=>(o,k b o λz=>a<|by simp[z] e)) (λ_ _ e=>e) (λ_ _ _ e=>e) (λb M e=>(#[],by rw[e,];simp)) (λm F=>?_) (λb u e=>?_) I.bare]
 .let e:b=it:=by simpa using E
  subst e;rw[(l,g,y,B)]
 .let(o G J,L,r):=F;rw[jh o G J (k _ o (Ne.symm g) L,r)]
 .rw[(I.hok b u e).stay (λc v a q=>k c v ?_ q) (λ_ q=>q) λ_ _ q=>q];obtain z|z:=a
  .rw[z,];rw[f b u e]
  .rw[f c _ z]
def Inv.tok(I:Inv X Y Z H s)(t):Inv X Y Z H {s with toks:=t}:=I.un Un.refl I.hok
theorem Inv.kept (I:Inv X Y Z H s)(k:∀b u,↥s b=!u->h'.get? b=!u):Inv X Y Z H {s with heap:=h',toks:=t'}:=I.un (Un.kept k)<|I.hok.kept k
theorem Inv.laid{a:Addr}  (I:Inv X Y Z H s)(k:∀b u,↥s b=!u->h'.get? b=!u)(c:s⁻¹<=a)(new:yd X.prog X.w (upd H a o) h' a o):
 Inv X Y Z (upd H a o) {s with heap:=h',toks:=t'}:=I.un (Un.laid k c<|I.hok.fresh c)<|I.hok.laid k c new
theorem Inv.write   (I:Inv X Y Z H s)(f:mq (H x))(g:e=x\/H e=! .own x)(k:∀b u,b≠e->↥s b=!u->c.get? b=!u)(a:∃u,c.get? e=!u)
 (new:yd X.prog X.w (upd H x o) c x o):Inv X Y Z (upd H x o) {s with heap:=c,toks:=i}:=I.un (Un.write f g k a)<|I.hok.write f g k a new
def Inv.pins_of (I:Inv X Y Z H s)(h:∀p∈Y',↥s p.1=!p.2/\H p.1=8/\p.1≠X.env.locals/\p.1∉X.fs/\∀v,p.2.data ≠ .cell v):Inv X Y' Z H s:=
 (I.ok,I.os,I.bare,I.base,I.loc,I.cell,I.free,I.freeC,λp a=>(Jd.mp a).elim (λz=>I.pin p<|Uo _ z)<|h p,I.hok,I.len)
def Cb{N:Yg}(c:N.Nodup){i j:5} (a:N[i]?=!x)(b:N[j]?=!x):i=j:=by
 let(f,d):=Ja.mp a;let(g,e):=Ja.mp b;rw[(List.getElem_inj c).mp<|d.trans e.symm]
def L8        (I:Inv X Y Z H s)(hN:X.N.Nodup)(C:X.N[i]?=!x)(t:zO X.env.scope x)(r:jz v u)
 (h:∀U,Inv X Y (Z.set i<|!v) H U->(∃a,Heap.SameBut a s.heap U.heap/\(a=X.env.locals\/X.env.cells.lookup x=!a))->Q Yj U)(hf:X.fn x=6\/X.env.scope.names.lookup x=!.local:=by trivial):wpAny M A (storeName X.env x u) Q E s:=by
 let(-m,hn,hl):=id I.loc;let N:(X.env.scope.kind==.class||X.env.scope.kind==.module&&X.env.locals !=X.env.globals)=7:=by rw[I.ok.kind,];rfl
 let hiσ:i<⇑Z:=by rw[I.len,];rw[(Ja.mp C).1]
 let cne:=I.cne;let g:∀{a:Addr}{L:Heap},(∃o,↥s a=!o/\H a=8)->Heap.SameBut a s.heap L->xy X.prog X.w H L:=λ{a L}ha f b ob e=>by
  let(_,_,hfree):=ha;rw[(I.hok b ob e).stay (λc S w q=>(f.2 c ?_).trans q) (λ_ q=>q) λ_ _ q=>q]
  grind
 obtain hk|hk:=t
 .rw[wpAny_storeName_local hk hn (λL hn' f=>?_) N];let(oL _ _,hoL,_):=id hn;rw[h _ (I.ok,I.os,I.bare,(λb o e n F t=>?_,λb o e n F t=>?_,I.base.free,λb o e t=>?_,I.base.tups,I.base.frzs,I.base.tbls),(_,hn',λj y v' l B e3=>?_),λy c e=>?_,I.free,I.freeC,λp hp=>?_,g (oL,hoL,I.free) f,by simpa using I.len) (_,f,.inl 9)]
  .rw[(f.2 b<|Zi<|Zg (Zk e) I.ok.above).trans<|I.base.keep b o e n F t]
  .let(sl,l):=I.base.slot b o e n F t;rw[(sl,(f.2 b<|Zi<|Zg (Zk e) I.ok.above).trans l)]
  .let(o',l):=I.base.there b o e t;rw[(o',(f.2 b<|Zi<|Zg (Zk e) I.ok.above).trans l)]
  .cases G:j=i
   .subst G;rw[C]at l;cases l;rw[Ut hiσ]at B;cases B;rw[(u,r,.inl (hk,()))]
   .rw[Zx (Ne.symm G)]at B;let(u',r',q):=hl j y v' l B e3;rw[(u',r',?_)];obtain⟨k,e⟩|⟨k,c,e,z⟩:=q
    .rw[.inl (k,?_)];let:y≠x:=λe=>G<|Cb hN l<|e ▸ C;simp[this,e]
    .rw[.inr (k,c,e,z.sameBut f<|cne y c e)]
  .let(S,z):=I.cell y c e;rw[(S,z.sameBut f<|cne y c e)]
  .let(!e,n,ne,nf,d):=I.pin p hp;rw[((f.2 p.1 ne).trans e,n,ne,nf,d)]
 .let J:X.fn x=6:=by
   obtain z|z:=hf
   .rw[z]
   .rw[z]at hk;cases hk
  let(c,w):=I.ok.has x (.inl hk);let(S,z):=I.cell x c w;rw[wpAny_storeName_cell I.ok.kind hk w z<|λL O f=>?_];let(-oc,P,hocd):=id z;rw[h {s with heap:=L} (I.ok,I.os,I.bare,(λb o e n F t=>?_,λb o e n F t=>?_,I.base.free,λb o e t=>?_,I.base.tups,I.base.frzs,I.base.tbls),(m,hn.sameBut f<|Ne.symm<|cne x c w,λj y v' l B e3=>?_),λy T e=>?_,I.free,I.freeC,λp hp=>?_,g (oc,P,I.freeC x c w) f,by simpa using I.len) (c,f,.inr w)]
  .rw[(f.2 b<|Zi<|Zg (Zk e)<|I.ok.cab x c J w).trans<|I.base.keep b o e n F t]
  .let(sl,l):=I.base.slot b o e n F t;rw[(sl,(f.2 b<|Zi<|Zg (Zk e)<|I.ok.cab x c J w).trans l)]
  .let(o',l):=I.base.there b o e t;rw[(o',(f.2 b<|Zi<|Zg (Zk e)<|I.ok.cab x c J w).trans l)]
  .cases G:j=i
   .subst G;rw[C]at l;cases l;rw[Ut hiσ]at B;cases B;rw[(u,r,.inr (.inl hk,c,w,O))]
   .rw[Zx (Ne.symm G)]at B;let(-u',r',q):=hl j y v' l B e3;rw[(u',r',?_)];obtain q|⟨k,T,e,z'⟩:=q
    .rw[.inl q]
    .rw[.inr (k,T,e,z'.sameBut f ?_)];rintro rfl;rw[G<|Cb hN l<|I.ok.inj _ _ _ e w ▸ C]
  .cases R:T=c
   .subst R;rw[(_,O)]
   .let(w2,z2):=I.cell y T e;rw[(w2,z2.sameBut f R)]
  .let(!e,n,ne,nf,d):=I.pin p hp;rw[((f.2 p.1 ?_).trans e,n,ne,nf,d)];intro q;rw[q,P]at e;let q':=Zqi e;rw[d S<|by rwa[<-q']]
def YJ        (I:Inv X Y Z H s)(b:X.N.Nodup)(c:X.N[i]?=!x)(d:zO X.env.scope x)(r:jz v u)
 (h:∀a,Inv X Y (Z.set i<|!v) H a->Q Yj a)(e:X.fn x=6\/X.env.scope.names.lookup x=!.local:=by trivial):wpAny M A (storeName X.env x u) Q E s:=
 L8 I b c d r (λa f _=>h a f) e
def Inv.call'  (I:Inv X Y Z H s)(g:s'.os=s.os)(u:Un (frs X.stack) ch H f s.heap s'.heap)(a:xy X.prog X.w f s'.heap)(i:AllBare s'.gens)
 (e:∀b∈ch,(b∈X.ex\/X.s₀.heap.objs.size<=b)/\b≠X.env.locals/\(∀x c,X.env.cells.lookup x=!c->c≠b)/\∀p∈X.pn++Y,p.1≠b):Inv X Y Z f s':=by
 let(j,l,n,o,r):=s';subst g;rw[I.call u a i e]
end
abbrev XK:=Value->02 Addr->Hp->4
abbrev St:=List<|02 V
abbrev VK:=V->Hp->4
abbrev TE:=St->Hp->VK->4
abbrev TT:=St->Hp->(Bool->Hp->4)->4
abbrev TA:=St->Hp->(Yp->Hp->4)->4
structure Ends where
 nx:St->Hp->4
 rt:VK
 bk:St->Hp->4:=λ_ _=>False
 ct:St->Hp->4:=λ_ _=>False
abbrev TS:=Ends->St->Hp->4
def EP(X:Cx)(Y:Yb)(Z:St)(Q:VK)(u:Value)(b:Shared):4:=∃v a,Inv X Y Z a b/\jz v u/\Q v a
def TP(X:Cx)(Y:Yb)(Z:St)(Q:Bool->Hp->4)(b:Bool)(c:Shared):4:=∃a,Inv X Y Z a c/\Q b a
def AP(X:Cx)(Y:Yb)(Z:St)(Q:Yp->Hp->4)(c:Yd)(d:Shared):4:=∃a b,Inv X Y Z b d/\j4 a c/\Q a b
def SP(X:Cx)(Y:Yb)(D:Ends)(f:Flow)(c:Shared):4:=
 match f with
 |.next=>∃b a,Inv X Y b a c/\D.nx b a
 |.brk=>∃b a,Inv X Y b a c/\D.bk b a
 |.cont=>∃b a,Inv X Y b a c/\D.ct b a
 |.ret u=>∃v b a,Inv X Y b a c/\jz v u/\D.rt v a
def PE(X:Cx)(e:Expr)(t:TE):4:=
 ∀(Y:Yb)(s:Shared)(Z:St)(H:Hp)(Q:VK),Inv X Y Z H s->t Z H Q->Ys X (eval e X.env) (EP X Y Z Q) X.xe s
def PT(X:Cx)(e:Expr)(t:TT):4:=
 ∀(Y:Yb)(s:Shared)(Z:St)(H:Hp)(Q:Bool->Hp->4),Inv X Y Z H s->t Z H Q->Ys X (isTrue e X.env<|eval e X.env) (TP X Y Z Q) X.xe s
def PW(X:Cx)(e:Expr)(t:TT):4:=
 ∀(a:Sem Value)(Y:Yb)(s:Shared)(Z:St)(H:Hp)(Q:Bool->Hp->4),Inv X Y Z H s->t Z H Q->Ys X (isTrue e X.env a) (TP X Y Z Q) X.xe s
def ml   (h:PW X e t):PT X e t:=h _
def PA(X:Cx)(b:List Expr)(t:TA):4:=
 ∀(a:Pos)(Y:Yb)(s:Shared)(Z:St)(H:Hp)(Q:Yp->Hp->4),Inv X Y Z H s->t Z H Q->Ys X (spliced<|backTo a<|01 b X.env) (AP X Y Z Q) X.xe s
def PS(X:Cx)(st:Stmt)(t:TS):4:=
 ∀(Y:Yb)(s:Shared)(Z:St)(H:Hp)(D:Ends),Inv X Y Z H s->t D Z H->Ys X (exec st X.env) (SP X Y D) X.xe s
def xR(X:Cx)(st:List Stmt)(t:TS):4:=
 ∀(Y:Yb)(s:Shared)(Z:St)(H:Hp)(D:Ends),Inv X Y Z H s->t D Z H->Ys X (execs st X.env) (SP X Y D) X.xe s
def jF       (h:wpAny M A t Q E s)(b:∀a s,Q a s->c a s):wpAny M A t c E s:=Zc h b λ_ _ x=>x
section
variable {X:Cx}
def zl(i:5):TE:=λZ H Q=>∃v,Z[i]?=! !v/\Q v H
def tC(v:V):TE:=λ_ H Q=>Q v H
def Ef :PE X (.Constant (.str x) j a) (tC<|.str x):=λ_ _ _ H _ I h=>Calls.Constant_str (.str x,H,I.tok _,(_,9),h)
def Gl(X:Cx)(x:Str):4:=X.env.kindOf x=!.globalImplicit
def W1   {Z:St}     (I:Inv X Y Z H s)(a:Gl X x)(b:X.mg x=!u)(h:Q u s)
 (c:(x==("__debug__":Str))=7:=by decide):Ys X (eval (.Name x d) X.env) Q E s:=
 Calls.Name_function_global I.ok.kind a (Calls.loadGlobal_global (by rw[I.ok.glob,];rw[I.mod.glob.keeps I.bk]) b h) c
def Xh   {Z:St}     (I:Inv X Y Z H s)(a:Gl X x)(b:X.mg x=8)(c:bootBuiltins x=!u)(h:Q u s)
 (d:x ≠"__name__":=by decide)(e:(x==("__debug__":Str))=7:=by decide):Ys X (eval (.Name x f) X.env) Q E s:=by
 let(-j,g,i):=I.mod.blt;rw[Calls.Name_function_global I.ok.kind a (Calls.loadGlobal_builtin (by rw[I.ok.glob,];rw[I.mod.glob.keeps I.bk]) b (by rw[I.ok.blt,];rw[g.keeps I.bk]) ((i x d).trans c) h) e]
def Eg    (a:Gl X x)(b:X.mg x=!u)(r:jz v u)(c:(x==("__debug__":Str))=7:=by decide):PE X (.Name x d) (tC v):=
 λ_ _ _ H _ I h=>W1 I a b (v,H,I,r,h) c
variable {a b:Expr}{ta tb:TE}
def PC(X:Cx)(c:CmpOp)(a b:Expr)(t:TE):4:=
 ∀(Y:Yb)(s:Shared)(Z:St)(H:Hp)(Q:VK),Inv X Y Z H s->t Z H Q->
  Ys X (eval a X.env) (λv s₁=>Ys X (eval b X.env) (λu s₂=>Ys X (compareOp c v u) (EP X Y Z Q) X.xe s₂) X.xe s₁) X.xe s
def Eh(b) (h:c ≠ .In)(d:c ≠ .NotIn):behindInMarks c b=7:=by
 cases b<;>first|rfl|(show(_&&(_||_)&&_)=7;ext)
def kH(ta:TE):TE:=λZ H Q=>ta Z H λx c=>Q (.bl<|decide<|x=.non) c
def Ei(ta:TE):TE:=λZ H Q=>ta Z H λx c=>Q (.bl<|not<|decide<|x=.non) c
def jz.none_iff  (r:jz x v):(v==Value.none)=decide (x=.non):=by
 cases(x)with
 |non=>cases r;rfl
 |bl _=>cases r;rfl
 |int _=>let(t,rfl):=r;rfl
 |str _=>let(t,rfl):=r;rfl
 |byt _=>let(t,rfl):=r;rfl
 |flt _=>let(t,rfl):=r;rfl
 |ref _=>cases r;rfl
 |ty _=>cases r;rfl
def Ej (d:PE X a ta):PC X .Is a (.Constant .none j c) (kH ta):=λY s Z H Q I h=>jF (d Y s Z H _ I h) λv l=>jy λx e=>j5 λf g i=>Constant_none<|is_none_gen (.bl _,e,f,by rw[g.none_iff,];rfl,i)
def L9 (d:PE X a ta):PC X .IsNot a (.Constant .none j c) (Ei ta):=λY s Z H Q I h=>jF (d Y s Z H _ I h) λv l=>jy λx e=>j5 λf g i=>Constant_none<|isnot_none_gen (.bl _,e,f,by rw[g.none_iff,];rfl,i)
def tB(t:TE):TT:=λZ H Q=>t Z H λx d=>∃c,x=.bl c/\Q c d
def Ek  (h:PC X c a b t)(d:behindInMarks c b=7:=by first|rw[Eh _ (by decide)<|by decide]|rfl):PE X (.Compare a [c] [b] e) t:=λY s Z H Q I f=>wpAny_Compare1 (h Y s Z H Q I f) d
def Aw  (h:PC X f a b t)(e:behindInMarks f b=7:=by first|rw[Eh _ (by decide)<|by decide]|rfl):PT X (.Compare a [f] [b] g) (tB t):=by
 intro Y s Z H Q I i;rw[wpAny_isTrue_Compare1 (jF (h Y s Z H _ I i) λv p e=>jF e λu r j=>jF j λc w=>jy λx l=>j5 λm n o=>?_) e];let(d,rfl,q):=o;cases n;rw[wpAny_truthy_bool (l,m,q)]
def El  (h:PE X e t)(f:∀c,isTrue e X.env c=(do let v<-c;standAt e.pos;holding [v] (truthy v)):=by intro _;rfl):PT X e (tB t):=by
 intro Y s Z H Q I g;rw[isTrue_plain (jF (h Y s Z H _ I g) λv n=>jy λx i=>j5 λj l m=>?_)<|f _];let(d,rfl,q):=m;cases l;rw[wpAny_truthy_bool (i,j,q)]
def rN(t u:TT):TT:=λZ H Q=>t Z H λc d=>if c=6 then u Z d Q else Q 7 d
def dY(t u:TT):TT:=λZ H Q=>t Z H λc d=>if c=6 then Q 6 d else u Z d Q
def rB(t:TT):TT:=λZ H Q=>t Z H λc d=>Q (not c) d
def LA(j:PT X a l)(m:PW X (.BoolOp .And (b::rest) d) e):PW X (.BoolOp .And (a::b::rest) d) (rN l e):=by
 intro n Y s Z H Q I h;rw[isTrue_and<|jF (j Y s Z H _ I h) λc o=>xg λf=>jD λg i=>?_]
 cases(c)with
 |true=>rw[m n Y o Z f Q g i]
 |false=>rw[(f,g,i)]
def gw(j:PT X a l)(m:PW X (.BoolOp .Or (b::rest) d) e):PW X (.BoolOp .Or (a::b::rest) d) (dY l e):=by
 intro n Y s Z H Q I h;rw[isTrue_or<|jF (j Y s Z H _ I h) λc o=>xg λf=>jD λg i=>?_]
 cases(c)with
 |true=>rw[(f,g,i)]
 |false=>rw[m n Y o Z f Q g i]
def Em(d:PT X a e):PT X (.UnaryOp .Not a f) (rB e):=λY s Z H Q I h=>isTrue_not<|d Y s Z H (λc g=>Q (not c) g) I h
def kN(ta tb:TE):TE:=λZ H Q=>ta Z H λx d=>∃c,x=.bl c/\if c=6 then tb Z d Q else Q (.bl 7) d
def rA(ta tb:TE):TE:=λZ H Q=>ta Z H λx d=>∃c,x=.bl c/\if c=6 then Q (.bl 6) d else tb Z d Q
def dj(ta:TE):TE:=λZ H Q=>ta Z H λx d=>∃c,x=.bl c/\Q (.bl<|not c) d
def En  (h:PE X a t):PE X (.BoolOp e [a] c) t:=λY s Z H Q I d=>BoolOp_one<|h Y s Z H Q I d
def Eo(i:PE X a ta)(j:PE X (.BoolOp .And (b::rest) e) tb):PE X (.BoolOp .And (a::b::rest) e) (kN ta tb):=by
 intro Y s Z H Q I h;rw[BoolOp_and<|jF (i Y s Z H _ I h) λv l=>jy λx f=>j5 λg m d=>?_];let(c,rfl,d):=d;cases m;rw[wpAny_truthy_bool ?_]
 cases(c)with
 |true=>rw[j Y l Z f Q g d]
 |false=>rw[(.bl 7,f,g,9,d)]
def gE(i:PE X a ta)(j:PE X (.BoolOp .Or (b::rest) e) tb):PE X (.BoolOp .Or (a::b::rest) e) (rA ta tb):=by
 intro Y s Z H Q I h;rw[BoolOp_or<|jF (i Y s Z H _ I h) λv l=>jy λx f=>j5 λg m d=>?_];let(c,rfl,d):=d;cases m;rw[wpAny_truthy_bool ?_]
 cases(c)with
 |false=>rw[j Y l Z f Q g d]
 |true=>rw[(.bl 6,f,g,9,d)]
def dZ(t:TT)(ta tb:TE):TE:=λZ H Q=>t Z H λc d=>if c=6 then ta Z d Q else tb Z d Q
def LC (j:PT X c l)(m:PE X a ta)(n:PE X b tb):PE X (.IfExp c a b o) (dZ l ta tb):=by
 intro Y s Z H Q I h;rw[wpAny_IfExp<|jF (j Y s Z H _ I h) λd e=>xg λf=>jD λg i=>?_]
 cases(d)with
 |true=>rw[m Y e Z f Q g i]
 |false=>rw[n Y e Z f Q g i]
end
def qX(K:aa)(H:Hp)(a:Addr)(c:Yp):4:=
 Rd H a (.lst c)\/
  ∃(o:Obj)(b:Array Value)(n:5),K.lookup a=!o/\o.cls=.type "list"/\o.dict=8/\o.data=.seq b n/\b.size<=00/\j4 c b.toList
def yn(K:aa)(H:Hp)(a:Addr)(c:Yp):4:=
 Rd H a (.tup c)\/
  ∃(o:Obj)(b:Array Value)(n:5),K.lookup a=!o/\o.cls=.type "tuple"/\o.data=.seq b n/\b.size<=00/\j4 c b.toList
def t9:Value->02 V
 |.none=>!.non
 |.bool b=>! .bl b
 |.int i _=>! .int i
 |.str x _=>! .str x
 |.bytes b _=>! .byt b
 |.float b _=>! .flt b
 |.ref a=>! .ref a
 |.type n=>! .ty n
 |_=>8
def jz.abs  (r:jz x u):t9 u=!x:=by
 cases(x)with
 |non=>cases r;rfl
 |bl _=>cases r;rfl
 |int _=>let(t,rfl):=r;rfl
 |str _=>let(t,rfl):=r;rfl
 |byt _=>let(t,rfl):=r;rfl
 |flt _=>let(t,rfl):=r;rfl
 |ref _=>cases r;rfl
 |ty _=>cases r;rfl
def jz.inj  (r:jz x u)(q:jz y u):x=y:=Zqi<|r.abs.symm.trans q.abs
theorem j4.inj:∀{b a:Yp}{c:Yd},j4 b c->j4 a c->b=a:=λ{b a c}g h=>by
 induction g generalizing a with
 |nil=>cases h;rfl
 |cons r _ e=>
  cases h with
  |cons f i=>rw[r.inj f,e i]
section
variable   {Z: St}
def qX.of{K:aa}(h:H a=! .lst b):qX K H a b:=.inl<|.inl h
def yn.of{K:aa}(h:H a=! .tup b):yn K H a b:=.inl<|.inl h
def Inv.list(I:Inv X Y Z H s)(h:qX X.K H a c):∃b:Yd,j4 c b/\PlainL s.heap a b.toArray/\⇑c<=00:=by
 obtain h|⟨o,b,n,hk,hc,hd,f,hz,r⟩:=h
 .let(z,b,n,r,e):=h.ok I.hok;rw[(b,r,(_,n,e,9,9,9),z)]
 .rw[(b.toList,r,(o,n,I.kIn a o hk,hc,hd,()),?_)];let e:=⇑r
  ext
def Inv.tuple(I:Inv X Y Z H s)(h:yn X.K H a c):∃b:Yd,j4 c b/\IsTup s.heap a b.toArray/\⇑c<=00:=by
 obtain h|⟨o,b,n,hk,hc,f,hz,r⟩:=h
 .let(z,b,r,p):=h.ok I.hok;rw[(b,r,p,z.1)]
 .rw[(b.toList,r,(o,I.kIn a o hk,hc,n,()),?_)];let e:=⇑r
  ext
def Inv.list_inj(I:Inv X Y Z H s)(h:qX X.K H a f)(g:qX X.K H a i):f=i:=by
 let(c,r,(o,n,e,_,_,d),_):=I.list h;let(b,j,(l,p,u,_,_,v),_):=I.list g;let:c=b:=by ext
 subst this;rw[r.inj j]
def Inv.tuple_inj(I:Inv X Y Z H s)(h:yn X.K H a f)(g:yn X.K H a i):f=i:=by
 let(-c,r,(o,e,_,n,d),_):=I.tuple h;let(-b,j,(l,p,_,u,v),_):=I.tuple g;let:c=b:=by ext
 subst this;rw[r.inj j]
end
abbrev Cx.wish(X:Cx)(E:Ya):Cx:={X with xe:=E}
abbrev Cx.nox(X:Cx):Cx:=X.wish λ_ _=>False
theorem Cx.Ok.wish{X:Cx}(ok:X.Ok)(E:Ya):(X.wish E).Ok:=
 (ok.mod,ok.kind,ok.glob,ok.blt,ok.above,ok.inj,ok.has,ok.cab,ok.hd,ok.frames,ok.stk,ok.exf,ok.bs,ok.bsz,ok.noex,ok.exfs,ok.funs,ok.frf)
def Cx.Ok.unwish{X:Cx} (ok:(X.wish E).Ok):X.Ok:=
 (ok.mod,ok.kind,ok.glob,ok.blt,ok.above,ok.inj,ok.has,ok.cab,ok.hd,ok.frames,ok.stk,ok.exf,ok.bs,ok.bsz,ok.noex,ok.exfs,ok.funs,ok.frf)
section
variable   {Z: St}
theorem Inv.wish(I:Inv X Y Z H s)(E):Inv (X.wish E) Y Z H s:=(I.ok.wish E,I.os,I.bare,I.base,I.loc,I.cell,I.free,I.freeC,I.pin,I.hok,I.len)
theorem Inv.unwish(I:Inv (X.wish E) Y Z H s):Inv X Y Z H s:=(I.ok.unwish,I.os,I.bare,I.base,I.loc,I.cell,I.free,I.freeC,I.pin,I.hok,I.len)
theorem SP.unwish   (h:SP (X.wish E) Y D f c):SP X Y D f c:=by
 cases(f)with
 |next=>let(a,b,I,q):=h;rw[(a,b,I.unwish,q)]
 |brk=>let(a,b,I,q):=h;rw[(a,b,I.unwish,q)]
 |cont=>let(a,b,I,q):=h;rw[(a,b,I.unwish,q)]
 |ret u=>let(v a b,I,r,q):=h;rw[(v,a,b,I.unwish,r,q)]
theorem xR.nox{st:List Stmt} (h:xR X.nox st t):xR X st t:=λY s Z H D I a=>
 Zc (h Y s Z H D (I.wish _) a) (λ_ _ q=>q.unwish) λ_ _ z=>False.elim z
end
section
variable  {st:Stmt}  {t u:TS}  {te:TE}
def kF:TS:=λD Z H=>D.nx Z H
def r0(t u:TS):TS:=λD Z H=>t {D with nx:=u D} Z H
def Cc:xR X [] kF:=λ_ _ Z H _ I h=>wpAny_execs_nil (Z,H,I,h)
def Cd(a:PS X st t)(b:xR X rest u):xR X (st::rest) (r0 t u):=by
 intro Y s Z H D I h;rw[wpAny_execs_cons<|jF (a Y s Z H {D with nx:=u D} I h) λf c q=>?_]
 cases(f)with
 |next=>
  let(d e,g,q):=q;rw[b Y c d e D g q]
 |ret v=>rw[q]
 |brk=>rw[q]
 |cont=>rw[q]
def Ax(a:PS X st t):xR X [st] t:=by
 intro Y s Z H D I h;rw[wpAny_execs_cons<|jF (a Y s Z H D I h) λf b q=>?_]
 cases(f)with
 |next=>rw[wpAny_execs_nil q]
 |ret v=>rw[q]
 |brk=>rw[q]
 |cont=>rw[q]
def Inv.quiet {Z:St}  (I:Inv X Y Z H s):interactive X.env=7:=by simp[interactive,I.ok.kind]
def kI(te:TE):TS:=λD Z H=>te Z H λ_ a=>D.nx Z a
def YK(b:PE X e te)(c:swapsWith e 8 a.line X.env=pure 7:=by rfl):PS X (.Expr e a) (kI te):=λY s Z H D I h=>wpAny_Expr_any (jF (b Y s Z H _ I h) λv i=>jy λx d=>j5 λf j g=>(Z,d,f,g)) I.quiet c
def r9(te:TE):TS:=λD Z H=>te Z H D.rt
def Ay(a:PE X e te):PS X (.Return (!e) b) (r9 te):=λY s Z H D I h=>wpAny_Return_some<|jF (a Y s Z H _ I h) λv i=>jy λx c=>j5 λd f g=>jh x Z c (d,f,g)
def rD(c:TT)(t u:TS):TS:=λD Z H=>c Z H λb a=>if b=6 then t D Z a else u D Z a
def Ep   (j:PT X c l)(m:xR X a t)(n:xR X b u):PS X (.If c a b o) (rD l t u):=by
 intro Y s Z H D I h;rw[wpAny_If<|jF (j Y s Z H _ I h) λd e=>xg λf=>jD λg i=>?_]
 cases(d)with
 |true=>rw[m Y e Z f D g i]
 |false=>rw[n Y e Z f D g i]
end
abbrev TG:=V->St->Hp->(St->Hp->4)->4
abbrev kd:=Yp->St->Hp->(St->Hp->4)->4
def PG(X:Cx)(a:Expr)(t:TG):4:=
 ∀(Y:Yb)(s:Shared)(Z:St)(H:Hp)(v:V)(u:Value)(Q:St->Hp->4),Inv X Y Z H s->jz v u->t v Z H Q->
  Ys X (assign a X.env u) (λ_ d=>∃b c,Inv X Y b c d/\Q b c) X.xe s
def rc(X:Cx)(e:List Expr)(t:kd):4:=
 ∀(Y:Yb)(s:Shared)(Z:St)(H:Hp)(a:Yp)(b:Yd)(Q:St->Hp->4),Inv X Y Z H s->j4 a b->t a Z H Q->
  Ys X (assignInOrder ((assignEach e X.env).map (·.2)) b) (λ_ f=>∃c d,Inv X Y c d f/\Q c d) X.xe s
abbrev mh:=V->V->V->Hp->(Hp->4)->4
def tJ(X:Cx)(t:mh):4:=
 ∀(Y:Yb)(s:Shared)(Z:St)(H:Hp)(o i v:V)(a b u:Value)(Q:Hp->4),Inv X Y Z H s->jz o a->jz i b->jz v u->t o i v H Q->
  Ys X (setItem a b u) (λ_ d=>∃c,Inv X Y Z c d/\Q c) X.xe s
abbrev tE:=V->V->Hp->VK->4
def dA(X:Cx)(a:Operator)(t:tE):4:=
 ∀(Y:Yb)(s:Shared)(Z:St)(H:Hp)(x y:V)(v u:Value)(Q:VK),Inv X Y Z H s->jz x v->jz y u->t x y H Q->
  Ys X (inplaceOp a v u) (EP X Y Z Q) X.xe s
def Wm(i:5):TG:=λv Z H Q=>Q (Z.set i<|!v) H
def JY  (a:X.N.Nodup)(b:X.N[i]?=!x)(c:zO X.env.scope x)(d:X.fn x=6\/X.env.scope.names.lookup x=!.local:=by trivial):PG X (.Name x e) (Wm i):=λY s Z H v u Q I r h=>wpAny_assign_Name<|YJ I a b c r (λg f=>(_,H,f,h)) d
def fL:kd:=λa Z H Q=>a=[]/\Q Z H
def Er(t:TG)(u:kd):kd:=λa Z H Q=>∃v r,a=v::r/\t v Z H λb c=>u r b c Q
def Kr:rc X [] fL:=λY s Z H a b Q I r h=>so h λe h=>assignInOrder_nil (Z,H,I,h)
def Qb    (b:PG X e t)(c:rc X a u)
 (d:(assignEach (e::a) X.env).map (·.2)=assign e X.env::(assignEach a X.env).map (·.2):=by rfl):rc X (e::a) (Er t u):=by
 intro Y s Z H o p Q I r h;let(v,w,f,h):=h;subst f;cases r with
 |cons r g=>
  rw[d,];rw[assignInOrder_cons<|jF (b Y s Z H _ _ _ I r h) λ_ i=>jy λj l=>jD λm n=>c Y i j l _ _ Q m g n]
def fH(K:aa)(n:5)(t:kd):TG:=λv Z H Q=>∃a b,v=.ref a/\yn K H a b/\⇑b=n/\t b Z H Q
def Ks    (g:X.calm=6)(h:rc X c t)
 (i:⇑(assignEach c X.env)=n:=by rfl)(d:(assignEach c X.env).findIdx? (·.1)=8:=by rfl):PG X (.Tuple c k j) (fH X.K n t):=by
 intro Y s Z H v u Q I r f;let(a,l,m,p,w,f):=f;subst m;cases r;let(-y,z,A,F):=I.tuple p;rw[assign_Tuple_tuple (I.ok.hd g) A (by simp[i,<-w,⇑z]) d λB C=>?_];let E:Inv X Y Z H {s with heap:=B}:=I.kept λb o e=>C b o (Zi<|Zk e) e;rw[h Y _ Z H l _ Q E () f]
def yP(a b:TE)(t:mh):TG:=λv Z H Q=>a Z H λo c=>b Z c λi d=>t o i v d λe=>Q Z e
def wD(a:TE)(g:TG):TS:=λD Z H=>a Z H λx b=>g x Z b D.nx
def Es   (c:PE X e d)(f:PG X a g)(i:swapsWithSole [a] e b.line X.env=pure 7:=by rfl)(j:swappedStores [a] e X.env=pure 8:=by rfl)
 (l:(assignEach [a] X.env).map (·.2)=[assign a X.env]:=by rfl):PS X (.Assign [a] e b) (wD d g):=by
 intro Y s Z H D I h;rw[wpAny_Assign_stores (jF (c Y s Z H _ I h) λv m=>jy λx n=>j5 λo p r=>?_) i j];rw[l,];rw[jF (f Y m Z n x v _ o p r) λ_ t q=>q]
def Ce     (c:X.N.Nodup)(d:X.N[i]?=!x)(f:zO X.env.scope x)(g:PE X e j)(l:swapsWith e (! .Name x a) b.line X.env=pure 7:=by rfl)(m:X.fn x=6\/X.env.scope.names.lookup x=!.local:=by trivial):
 PS X (.Assign [.Name x a] e b) (wD j<|Wm i):=λY s Z H D I h=>wpAny_Assign_Name (jF (g Y s Z H _ I h) λv u=>jy λy n=>j5 λo p r=>YJ o c d f p (λw t=>(_,n,t,r)) m) l
def rM(i:5)(a:TE)(b:tE):TS:=λD Z H=>∃x,Z[i]?=! !x/\a Z H λy c=>b x y c λz d=>D.nx (Z.set i<|!z) d
def LD       (n:X.N.Nodup)(f:X.N[i]?=!x)(b:zO X.env.scope x)(o:PE X e p)(t:dA X g A)(B:X.fn x=6\/X.env.scope.names.lookup x=!.local:=by trivial):
 PS X (.AugAssign (.Name x j) g e C) (rM i p A):=by
 intro Y s Z H D I h;let(-v,E,h):=h;let(-m,F,G):=I.loc;let d:ma X.env.scope x:=by obtain k|k:=b;rw[.inl k];rw[.inr<|.inl k]
 let(-u,r,l):=G i x v f E d;rw[wpAny_AugAssign_Name ?_];let go:Ys X (eval e X.env) (λw s₂=>Ys X (inplaceOp g u w) (λr s₃=>Ys X (storeName X.env x r) (λ_=>SP X Y D .next) X.xe s₃) X.xe s₂) X.xe s:=by
  rw[jF (o Y s Z H _ I h) λw J=>jy λy L=>j5 λM N O=>?_];rw[jF (t Y J Z L v y u w _ M r N O) λz s2=>jy λzv P=>j5 λQ R S=>?_];rw[YJ Q n f b R (λs3 T=>(_,P,T,S)) B]
 obtain⟨hk,U⟩|⟨hk,c,hc,a⟩:=l
 .rw[wpAny_loadName_local I.ok.kind hk F U go]
 .rcases hk with hk|hk
  .rw[wpAny_loadName_cell I.ok.kind hk hc a go]
  .rcases b with k|k
   .let:X.env.scope.names.lookup x=!.free:=hk;rw[k]at this;cases this
   .let:X.env.scope.names.lookup x=!.free:=hk;rw[k]at this;cases this
def cr(f:3->3->3):tE:=λx y H Q=>∃i j,x=.int i/\y=.int j/\Q (.int<|f i j) H
def LF:dA X .Add (cr λi j=>i+j):=by
 intro Y s Z H x y v u Q I a b h;let(i j,c,d,q):=h;subst c;subst d;let(t,rfl):=a;let(e,rfl):=b;rw[iadd_int (.int _,H,I.tok _,(_,9),q)]
def LG(c:TT)(g:TS):TS:=λD Z H=>∃W:5->St->Hp->4,(∃m,W m Z H)/\∀m Z H,W m Z H->
 c Z H λb a=>if b=6 then ∃N:St->Hp->4,(∀d e,N d e->∃f,f<m/\W f d e)/\g {D with nx:=N,ct:=N,bk:=D.nx} Z a else D.nx Z a
def LH    (u:PassesOwn (model X.prog X.w) X.A X.env X.xe)(E:PT X c F)(G:xR X a J):PS X (.While c a [] L) (LG F J):=by
 intro Y s Z H D I h;let(-W,(M,O),d):=h;rw[wpAny_While<|codeAny_whileLoop (λn P=>∃w y,Inv X Y w y P/\W n w y) ?_ M (Z,H,I,O)];rintro n Q ⟨i,z,R,S⟩;rw[wpAny_passesOwn u<|jF (E Y Q i z _ R<|d n i z S) λb T=>xg λA=>jD λB j=>?_]
 cases(b)with
 |true=>
  let(-N,C,j):=j;rw[Zd 9,];rw[wpAny_passesOwn u<|jF (G Y T i A _ B j) λf U l=>?_]
  cases(f)with
  |next=>
   let(e,g,m,o):=l;let(p,r,t):=C e g o;rw[(p,r,e,g,m,t)]
  |cont=>
   let(e,g,m,o):=l;let(p,r,t):=C e g o;rw[(p,r,e,g,m,t)]
  |brk=>rw[l]
  |ret v=>rw[l]
 |false=>
  rw[Ze Zj,];rw[wpAny_execs_nil (i,A,B,j)]
structure It where
 go:5->Hp->4
 yld:5->Hp->V->Hp->4
 stop:5->Hp->4
def xS(X:Cx)(Y:Yb)(H:Hp)(b:Addr):4:=
 H b=8/\b≠X.env.locals/\b∉X.fs/\(b∈X.ex\/X.s₀.heap.objs.size<=b)/\(∀x c,X.env.cells.lookup x=!c->c≠b)/\∀p∈X.pn++Y,p.1≠b
def Inv.fpOk  {Z:St}  {b:Addr}(I:Inv X Y Z H s)(a:s⁻¹<=b)(f:g b=8):xS X Y g b:=by
 rw[(f,UN<|Zg I.lt a,I.nofs a,.inr<|Zh I.sz a,λx c e z=>?_,λp i z=>?_)]
 .let(v,q):=I.cell x c e;rw[Zn (Zg q.lt<|by rwa[z,])<|Zy _]
 .rw[Zn (Zg (Zk (I.pin p i).1)<|by rwa[z,])<|Zy _]
structure Turn(P:Program)(w:World)(K:aa)(tg:Expr)(J:It)(fp:Yh)(it:Addr)(tn:5->Heap->4):4 where
 mem:it∈fp
 obj:∀i h,tn i h->∀b∈fp,∃o,h.get? b=!o/\∀v,o.data ≠ .cell v
 keep:∀i h h',tn i h->(∀b∈fp,∀o,h.get? b=!o->h'.get? b=!o)->tn i h'
 item:∀(X:Cx),X.prog=P->X.w=w->X.K=K->X.calm=6->∀(i:5)(Y:Yb)(s:Shared)(Z:St)(H:Hp)(E:Ya),Inv X Y Z H s->(∀b∈fp,xS X Y H b)->tn i s.heap->J.go i H->
  wpAny (model P w) X.A (pyNext<|.ref it) (λr s1=>∃u,r=!u/\
   wpAny (model P w) X.A (letOwnedTupleGo tg (.ref it) u) (λ_ s2=>∃x H',Inv X Y Z H' s2/\jz x u/\J.yld i H x H'/\tn (i+1) s2.heap/\∀b∈fp,H' b=8) E s1) E s
 done:∀(X:Cx),X.prog=P->X.w=w->X.K=K->X.calm=6->∀(i:5)(Y:Yb)(s:Shared)(Z:St)(H:Hp)(E:Ya),Inv X Y Z H s->(∀b∈fp,xS X Y H b)->tn i s.heap->J.stop i H->
  wpAny (model P w) X.A (pyNext<|.ref it) (λr s1=>r=8/\Inv X Y Z H s1) E s
 self:∀(A:Around)(i:5)(s:Shared)(Q:Ya)(E:Ya),tn i s.heap->Q (.ref it) s->wpAny (model P w) A (pyIter<|.ref it) Q E s
abbrev TI:=St->Hp->(It->Hp->4)->4
def cz(X:Cx)(Y:Yb)(Z:St)(h:Expr)(R:It->Hp->4)(a:Value)(d:Shared):4:=
 ∃(e:Addr)(f:Yh)(g:5->Heap->4)(J:It)(c:Hp),a=.ref e/\Inv X Y Z c d/\Turn X.prog X.w X.K h J f e g/\g 0 d.heap/\(∀b∈f,xS X Y c b)/\R J c
def PI(X:Cx)(b a:Expr)(c:TI):4:=
 ∀(Y:Yb)(s:Shared)(Z:St)(H:Hp)(R:It->Hp->4),Inv X Y Z H s->c Z H R->
  Ys X (eval a X.env) (λv d=>Ys X (pyIter v) (cz X Y Z b R) X.xe d) X.xe s
def YL           (b:↥s c=!o)(d:o.cls=.type n)(e:o.data=.fields f)
 (g:["enumerate","zip","dict_itemiterator","dict_reverseitemiterator","odict_iterator","itertools.zip_longest","itertools.pairwise"].contains n=7)(a:Q Yj s):wpAny M A (letOwnedTupleGo i (.ref c) u) Q E s:=by
 cases i<;>first
  |rw[Zb a]
  |(cases(u)<;>first
   |rw[Zb a]
   |(
    rw[Za<|wpAny_load b ?_];rw[d,e];show wpAny M A (if(["enumerate","zip","dict_itemiterator","dict_reverseitemiterator","odict_iterator","itertools.zip_longest","itertools.pairwise"].contains n&&f[0]?==! rawInt _)=6 then _ else _) Q E s;rw[(Ze (by intro h;rw[g,Bool.false_and]at h;cases h)),];rw[Zb a]))
def dG(K:aa)(a:Addr):It:=
 (λi H=>∃b x,qX K H a b/\b[i]?=!x,λi H x c=>c=H/\∀b,qX K H a b->b[i]?=!x,λi H=>∃b,qX K H a b/\⇑b<=i)
def dF(K:aa)(a:Addr):It:=
 (λi H=>∃b x,yn K H a b/\b[i]?=!x,λi H x c=>c=H/\∀b,yn K H a b->b[i]?=!x,λi H=>∃b,yn K H a b/\⇑b<=i)
def tS(lo:3)(n:5):It:=(λi _=>i<n,λi H x a=>a=H/\x=.int (lo+i),λi _=>n<=i)
def LI  {K:aa} (a f):Turn P w K tg (dG K a) [f] f λi h=>h.IsListIter f a i where
 mem:=by simp
 obj:=λi h st b g=>by
  let(-o,e,c,d):=st
  ext
 keep:=λi h n st k=>st.at λo e=>k f () o e
 item:=by
  intro X r t v L i Y s Z H E I l st y;subst r t v;let(N x,m,M):=y;let(-z,A,p,O):=I.list m;let(-u,hu,Q):=A.get M;let(!B,C,R,F,G,J):=l f ();rw[wpAny_pyNext_list_item st p.isList (x:=u) () λn j S=>?_];let T:Inv X Y Z H {s with heap:=n}:=I.turned (λb o g e=>(S.2 b g).trans e) B C F G J;let(-o,e,c,d):=id j;rw[(u,9,YL e c d (by decide) (x,H,T,Q,(9,λys U=>by rwa[I.list_inj U m,]),j,λb g=>(l b g).1))]
 done:=by
  intro X r t v L i Y s Z H E I l st y;subst r t v;let(N,m,M):=y;let(-z,A,p,O):=I.list m;let(!B,C,R,F,G,J):=l f ();let hl:=⇑A;rw[wpAny_pyNext_list_end (I.ok.hd L) st p.isList (by simp;lia) λn eb=>(9,I.turned (λb o g e=>eb b o g e) B C F G J)]
 self:=λ_ _ _ _ _ st h=>wpAny_pyIter_listiter st h
def LJ  {K:aa} (a f:Addr):Turn P w K tg (dF K a) [f] f λi h=>h.IsTupleIter f a i where
 mem:=by simp
 obj:=λi h st b g=>by
  let e:b=f:=by simpa using g
  subst e;let(-o,e,c,d):=st;rw[(o,e,λv z=>by rw[d]at z;cases z)]
 keep:=λi h m st k=>st.at λo e=>k f () o e
 item:=by
  intro X t y A O i Y s Z H E I n st B;subst t y A;let(Q x,r,C):=B;let(-j,F,p,R):=I.tuple r;let(-u,S,T):=F.get C;let(!G,J,U,L,M,N):=n f ();rw[wpAny_pyNext_tuple_item st (show s.heap.IsTuple a j.toArray from p) (x:=u) (by simpa using S) λm l sb=>?_];let I1:Inv X Y Z H {s with heap:=m}:=I.turned (t':=s.toks) (λb o g e=>(sb.2 b g).trans e) G J L M N;let(-o,e,c,d):=id l;rw[(u,9,YL (s:={s with heap:=m}) e c d (by decide) (x,H,I1,T,(9,λys hy=>by rw[I.tuple_inj hy r,];rw[C]),l,λb g=>(n b g).1))]
 done:=by
  intro X t y A O i Y s Z H E I n st B;subst t y A;let(Q,r,C):=B;let(-j,F,p,R):=I.tuple r;let(!G,J,U,L,M,N):=n f ();let hl:=⇑F;rw[wpAny_pyNext_tuple_end (I.ok.hd O) st (show s.heap.IsTuple a j.toArray from p) (by simp;lia) λm eb=>(9,I.turned (t':=s.toks) (λb o g e=>eb b o g e) G J L M N)]
 self:=λ_ _ _ _ _ st h=>wpAny_pyIter_tupleiter st h
def LK  {K:PySem.W.Frag} (a:Addr)(lo:3)(n:5):Turn P w K Q (tS lo n) [a] a λi h=>IsRangeIter h a (lo+(i:5)*1) ((n:3)-(i:5)) 1 where
 mem:=by simp
 obj:=λi h st b c=>by
  let e:b=a:=by simpa using c
  subst e;rw[(_,st,λv z=>by
   let G:Data.fields _=Data.cell v:=z;cases G)]
 keep:=λi h f st k=>k a () _ st
 item:=by
  intro X j l m p i Y s Z H E I g st r;subst j l m;let(!u,y,J,A,B,C):=g a ();let W:=Walks.range (prog:=X.prog) (w:=X.w) (I.ok.hd p) a lo 1 n;rw[W.item i s _ _ r st λv f F L d M=>?_];let(t,rfl):=L;let N:Inv X Y Z H {s with heap:=f,toks:=F}:=I.turned (λb o c e=>M b o (by simpa using c) e) u y A B C;rw[(_,9,YL (s:={s with heap:=f,toks:=F}) (n:="range_iterator") d 9 9 (by decide) (.int<|lo+i,H,N,(t,?_),(9,9),d,λb c=>(g b c).1))];rw[Int.mul_one,]
 done:=by
  intro X j l m p i Y s Z H E I g st r;subst j l m;let(!u,y,J,A,B,C):=g a ();rw[wpAny_pyNext_range_end (I.ok.hd p) st (by let:n<=i:=r;lia) λf O=>(9,I.turned (t':=s.toks) (λb o c e=>O b o c e) u y A B C)]
 self:=λ_ _ _ _ _ st h=>wpAny_pyIter_rangeiter st h
def fD(K:aa)(c:TE):TI:=λZ H R=>c Z H λx b=>∃a,x=.ref a/\(∃d,qX K b a d)/\R (dG K a) b
def sB(K:aa)(c:TE):TI:=λZ H R=>c Z H λx b=>∃a,x=.ref a/\(∃d,yn K b a d)/\R (dF K a) b
def LL  (f:PE X l g):PI X u l (fD X.K g):=by
 intro Y s Z H R I h;rw[jF (f Y s Z H _ I h) λv d=>jy λx i=>j5 λc j m=>?_];let(-a,e,(w,n),q):=m;subst e;cases j;let(-r,y,p,z):=c.list n;rw[wpAny_pyIter_list p.isList<|jE d⁻¹ [d⁻¹] _ _ i (9,c.kept λb o e=>Zq _ e,LI a _,(_,Zr _ 9,9,9),λb t=>?_,q)];let e:b=d⁻¹:=by simpa using t
 subst e;rw[c.fpOk (Zf _)<|c.hok.fresh<|Zf _]
def LM  (f:PE X l g):PI X u l (sB X.K g):=by
 intro Y s Z H R I h;rw[jF (f Y s Z H _ I h) λv d=>jy λx i=>j5 λc j m=>?_];let(-a,e,(w,n),q):=m;subst e;cases j;let(-r,y,p,z):=c.tuple n;rw[wpAny_pyIter_tuple p<|jE d⁻¹ [d⁻¹] _ _ i (9,c.kept λb o e=>Zq _ e,LJ a _,(_,Zr _ 9,9,9),λb t=>?_,q)];let e:b=d⁻¹:=by simpa using t
 subst e;rw[c.fpOk (Zf _)<|c.hok.fresh<|Zf _]
def fA(a:TA):TI:=λZ H R=>a Z H λb c=>∃j:3,b=[.int j]/\-2^62<=j/\j<2^62/\R (tS 0 j.toNat) c
def LN   (l:Gl X "range")(m:X.mg "range"=8)(n:PA X [a] u)(v:01 [a] X.env=[%[7|eval a X.env]]:=by rfl):PI X C (.Call (.Name "range" p) [a] [] f) (fA u):=by
 intro Y s Z H R I h;rw[Call_<|Xh I l m boot_range<|PyProof.Rows.callWith_type1 (jF (n f Y s Z H _ I h) λE c=>jy λF i=>j5 λd w g=>?_) v 9];let(j,e,g,y,q):=g;subst e;cases w with
 |cons r z=>
  cases z;let(t,rfl):=r;rw[call_range_1<|by
   rw[wpAny_pyIter_range (IsRange.new ..) (small_one () () g y) ?_];let d:Inv X Y Z i {c with heap:=c.heap.push {cls:=.type "range",data:=.fields #[.int 0 c.toks,.int j t,.int 1 (c.toks+1)]},toks:=c.toks+1+1}:=d.kept λb o e=>Zq _ e;rw[jE (c.heap.push {cls:=.type "range",data:=.fields #[.int 0 c.toks,.int j t,.int 1 (c.toks+1)]}).objs.size [(c.heap.push {cls:=.type "range",data:=.fields #[.int 0 c.toks,.int j t,.int 1 (c.toks+1)]}).objs.size] _ _ i (9,
    d.kept λb o e=>Zq _ e,LK _ 0 (j-0).toNat,?_,λb G=>?_,by simpa using q)]
   .let A:0+((0:5):3)*1=0:=by simp
    let B:(((j-0).toNat:5):3)-((0:5):3)=Builtin.Range.rangeSize 0 j 1:=by grind[rangeSize_one]
    rw[A,B];rw[Zr _ 9]
   .let e:b=(c.heap.push {cls:=.type "range",data:=.fields #[.int 0 c.toks,.int j t,.int 1 (c.toks+1)]}).objs.size:=by ext
    subst e;rw[d.fpOk (Zf _)<|d.hok.fresh<|Zf _]]
def rE(d:TI)(g:TG)(e:TS):TS:=λD Z H=>d Z H λJ f=>∃W:5->5->St->Hp->4,(∃m,W 0 m Z f)/\∀i m Z H,W i m Z H->
 J.stop i H/\D.nx Z H\/J.go i H/\∃N:St->Hp->4,(∀b a,N b a->∃c,c<m/\W (i+1) c b a)/\∀x a,J.yld i H x a->g x Z a λh j=>e {D with nx:=N,ct:=N,bk:=D.nx} h j
def YM(a:Yh)(h:Heap):Yb:=a.filterMap λb=>(h.get? b).map λo=>%[b|o]
def Az    (a:b∈c)(e:h.get? b=!o):%[b|o]∈YM c h:=Jn.mpr (b,a,by rw[e,];rfl)
def LO   (a:p∈YM c h):p.1∈c/\h.get? p.1=!p.2:=by
 let(-b,d,e):=Jn.mp a
 induction q:h.get? b with
 |none=>rw[q]at e;cases e
 |some o=>
  rw[q]at e;let f:%[b|o]=p:=Zqi e;subst f;rw[(d,q)]
def Inv.pinned {Z:St}   (I:Inv X Y Z H s)(g:∀b∈a,xS X Y H b)(i:∀b∈a,∃o,↥s b=!o/\∀v,o.data ≠ .cell v):Inv X (Y++YM a s.heap) Z H s:=
 I.pins_of λp j=>(Jd.mp j).elim (λz=>I.pin p<|Uf _ z) λz=>by
  let(c,e):=LO z;let(!l,n,r,_):=g p.1 c;let(-o,f,d):=i p.1 c;rw[e]at f;cases f;rw[(e,l,n,r,d)]
def Inv.unpinned {Z:St}  (I:Inv X (Y++pl) Z H s):Inv X Y Z H s:=I.pins_of λp a=>I.pin p<|Uf _<|Uo _ a
def Et      (A:PassesOwn (model X.prog X.w) X.A X.env X.xe)(hc:X.calm=6)(hi:PI X tg w wi)(hg:PG X tg g)(a:xR X B tb)
 (hs:∀x,foldedSetIterable w X.env x=pure x:=by intro _;rfl):PS X (.For tg w B [] pos) (rE wi g tb):=by
 intro Y s Z H D I h;rw[wpAny_For (jF (hi Y s Z H _ I h) λv s1 h1=>jF h1 λitv s2 h2=>?_) hs];let(it C tn J H2,e,I2,T,R,f2,(W,(m0,w0),E)):=h2;subst e;let c:∀{t:Hp},(∀b∈C,t b=8)->∀b∈C,xS X Y t b:=λhn b a=>(hn b a,(f2 b a).2);rw[codeAny_forLoop_any (λn s'=>∃i F t,Inv X Y F t s'/\tn i s'.heap/\(∀b∈C,t b=8)/\W i n F t) ?_ m0<|jh 0 Z H2 (I2,R,λb a=>(f2 b a).1,w0)];intro n s3;rw[xf λi G Q=>yh λI3 L M w3=>?_];obtain⟨O,qn⟩|⟨go,N,hN,step⟩:=E i n G Q w3
 .rw[wpAny_passesOwn A<|jF (T.done X 9 9 9 hc i Y s3 G Q X.xe I3 (c M) L O) λr s4=>jD λS I4=>?_];subst S;rw[wpAny_execs_nil (G,Q,I4,qn)]
 .rw[wpAny_passesOwn A<|jF (T.item X 9 9 9 hc i Y s3 G Q X.xe I3 (c M) L go) λr s4=>xg λu=>jD λS h4=>?_];subst S;rw[wpAny_passesOwn A<|jF h4 λ_ s5=>jy λx H5=>fc λI5 r5 y5 z U=>?_];let I5':=I5.pinned (c U)<|T.obj _ _ z;rw[wpAny_passesOwn A<|jF (hg _ s5 G H5 x u _ I5' r5<|step x H5 y5) λ_ s6=>jy λZ6 H6=>jD λI6 q6=>?_];rw[wpAny_passesOwn A<|jF (a _ s6 Z6 H6 _ I6 q6) λf s7 y=>?_];let again:∀{j:St}{l:Hp},Inv X (Y++YM C s5.heap) j l s7->N j l->∃m,m<n/\∃i F t,Inv X Y F t s7/\tn i s7.heap/\(∀b∈C,t b=8)/\W i m F t:=λ{j l}p P=>by
   let(-m',hm,w7):=hN j l P;rw[(m',hm,i+1,j,l,p.unpinned,T.keep _ _ _ z λb a o e=>(p.pin %[b|o]<|Uf _<|Uf _<|Az a e).1,λb a=>?_,w7)];let(-o,e,d):=T.obj _ _ z b a;rw[(p.pin %[b|o]<|Uf _<|Uf _<|Az a e).2.1]
  cases(f)with
  |next=>let(j l,p,P):=y;rw[again p P]
  |cont=>let(j l,p,P):=y;rw[again p P]
  |brk=>let(j l,p,y):=y;rw[(j,l,p.unpinned,y)]
  |ret v=>let(x7 j l,p,r7,y):=y;rw[(x7,j,l,p.unpinned,r7,y)]
abbrev R2:=V->V->Hp->VK->4
def xD(X:Cx)(f:Value->Value->Sem Value)(r:R2):4:=
 ∀(Y:Yb)(s:Shared)(Z:St)(H:Hp)(x y:V)(v u:Value)(Q:VK),Inv X Y Z H s->jz x v->jz y u->r x y H Q->
  Ys X (f v u) (EP X Y Z Q) X.xe s
def uJ(X:Cx)(f:Value->Sem Value)(r:V->Hp->VK->4):4:=
 ∀(Y:Yb)(s:Shared)(Z:St)(H:Hp)(x:V)(v:Value)(Q:VK),Inv X Y Z H s->jz x v->r x H Q->
  Ys X (f v) (EP X Y Z Q) X.xe s
def qu(X:Cx)(f:Value)(r:Yp->Hp->VK->4):4:=
 ∀(Y:Yb)(s:Shared)(Z:St)(H:Hp)(a:Yp)(b:Yd)(Q:VK),Inv X Y Z H s->j4 a b->r a H Q->
  Ys X (call f b) (EP X Y Z Q) X.xe s
def ur(r:R2)(a b:TE):TE:=λZ H Q=>a Z H λx c=>b Z c λy d=>r x y d Q
def pJ(r:V->Hp->VK->4)(a:TE):TE:=λZ H Q=>a Z H λx b=>r x b Q
def rI(C:3->3->4)(g:3->3->V):R2:=λx y H Q=>∃i j,x=.int i/\y=.int j/\C i j/\Q (g i j) H
def sf(g:3->3->V):R2:=λx y H Q=>∃i j,x=.int i/\y=.int j/\Q (g i j) H
def rU(g:3->V):V->Hp->VK->4:=λx H Q=>∃i,x=.int i/\Q (g i) H
def uF(g:PE X a i)(j:PE X b l)  {Z:St} {R:V->V->Hp->4}(I:Inv X Y Z H s)
 (h:i Z H λx e=>l Z e λy c=>R x y c) {f:Value->Value->Sem Value}
 (m:∀v u d x y c,Inv X Y Z c d->jz x v->jz y u->R x y c->Ys X (f v u) Q X.xe d):
 Ys X (eval a X.env) (λv s₁=>Ys X (eval b X.env) (λu s₂=>Ys X (f v u) Q X.xe s₂) X.xe s₁) X.xe s:=jF (g Y s Z H _ I h) λv n=>jy λx e=>j5 λo p r=>jF (j Y n Z e _ o r) λu d=>jy λy c=>j5 λt w z=>m v u d x y c t p w z
def Eu  (c:xD X (binaryOp d) r)(e:PE X a f)(g:PE X b i):PE X (.BinOp a d b j) (ur r f i):=λY s Z H Q I h=>wpAny_BinOp<|uF e g I h λv u l x y m n o p q=>c Y l Z m x y v u Q n o p q
def mF  {g:3->3->3}
 (rule:∀i j t u s Q E,C i j->Q (.int (g i j) s.toks) {s with toks:=s.toks+1}->Ys X (f (.int i t)<|.int j u) Q E s):
 xD X f (rI C λi j=>.int<|g i j):=by
 intro Y s Z H x y v u Q I a b h;let(i j,rfl,rfl,c,q):=h;let(t,rfl):=a;let(d,rfl):=b;rw[rule i j t d s _ _ c (.int<|g i j,H,I.tok _,(_,9),q)]
def gQ {g:3->3->3}
 (rule:∀i j t u s Q E,Q (.int (g i j) s.toks) {s with toks:=s.toks+1}->Ys X (f (.int i t)<|.int j u) Q E s):
 xD X f (sf λi j=>.int<|g i j):=by
 intro Y s Z H x y v u Q I a b h;let(i j,rfl,rfl,q):=h;let(t,rfl):=a;let(c,rfl):=b;rw[rule i j t c s _ _ (.int<|g i j,H,I.tok _,(_,9),q)]
def vk {g:3->3->Bool}
 (rule:∀i j t u s Q E,Q (.bool<|g i j) s->Ys X (f (.int i t)<|.int j u) Q E s):
 xD X f (sf λi j=>.bl<|g i j):=by
 intro Y s Z H x y v u Q I a b h;let(i j,rfl,rfl,q):=h;let(t,rfl):=a;let(c,rfl):=b;rw[rule i j t c s _ _ (.bl<|g i j,H,I,9,q)]
def m4(i j:3):4:=0<j/\j<1073741824
def mz(i j:3):4:=0<=j/\j<=1000000/\i.natAbs<2^64
def LP:xD X (binaryOp .FloorDiv) (rI m4 λi j=>.int<|i/j):=mF λi j _ _ _ _ _ a q=>have b:=a.1;have c:=a.2;floordiv_int () (by rwa[Int.fdiv_eq_ediv_of_nonneg i (),]) (.inl<|PyProof.noPylong_small ())
def LQ:xD X (binaryOp .Mod) (rI (λ_ j=>0<j) λi j=>.int<|i%j):=mF λi j _ _ _ _ _ a q=>mod_int' ()<|by rwa[Int.fmod_eq_emod_of_nonneg i (),]
def LR:xD X (binaryOp .Pow) (rI mz λi j=>.int<|i^j.toNat):=mF λ_ _ _ _ _ _ _ a q=>pow_int_small a.1 a.2.1 a.2.2 q
def dU {g:3->3}
 (rule:∀i t s Q E,Q (.int (g i) s.toks) {s with toks:=s.toks+1}->Ys X (f<|.int i t) Q E s):
 uJ X f (rU λi=>.int<|g i):=by
 intro Y s Z H x v Q I a h;let(i,rfl,q):=h;let(t,rfl):=a;rw[rule i t s _ _ (.int<|g i,H,I.tok _,(_,9),q)]
def scal:V->V->Bool
 |.non,.non=>6|.non,.int _=>6|.int _,.non=>6|.non,.bl _=>6|.bl _,.non=>6|.non,.str _=>6|.str _,.non=>6
 |.int _,.int _=>6|.bl _,.bl _=>6|.str _,.str _=>6|.byt _,.byt _=>6
 |.int _,.str _=>6|.str _,.int _=>6|.bl _,.str _=>6|.str _,.bl _=>6
 |_,_=>7
def cp:R2:=λx y H Q=>scal x y=6/\Q (.bl<|decide<|x=y) H
def ck:R2:=λx y H Q=>scal x y=6/\Q (.bl<|not<|decide<|x=y) H
def Ew :decide (V.int i=V.int j)=(i==j):=by
 rw[U2,];simp
def Ex :decide (V.bl i=V.bl j)=(i==j):=by
 rw[U2,];simp
def Ey :decide (V.str i=V.str j)=(i==j):=by
 rw[U2,];simp
def Ez :decide (V.byt i=V.byt j)=(i.toList==j.toList):=by
 rw[U2,];simp
section
variable   {ta tb tc:TE}
def Qo {Z:St}    (I:Inv X Y Z H s)(q:Q (.bl k) H)(e:k=a):EP X Y Z Q (.bool a) s:=by
 subst e;rw[(.bl k,H,I,9,q)]
def gP:xD X (compareOp .Eq) cp:=by
 intro Y s Z H x y v u Q I d a h;let(c,q):=h
 cases(x)with
 |non=>
  cases d
  cases(y)with
  |non=>cases a;rw[PySem.EqNone.eq_none_none<|Qo I q ()]
  |bl j=>cases a;rw[PySem.EqNone.eq_none_bool<|Qo I q ()]
  |int j=>let(b,rfl):=a;rw[PySem.EqNone.eq_none_int<|Qo I q ()]
  |str j=>let(b,rfl):=a;rw[PySem.EqNone.eq_none_str<|Qo I q ()]
  |_=>rw[Zn (show 7=6 from c) Zj]
 |bl i=>
  cases d
  cases(y)with
  |non=>cases a;rw[PySem.EqNone.eq_bool_none<|Qo I q ()]
  |bl j=>cases a;rw[eq_bool<|Qo I q Ex]
  |str j=>let(b,rfl):=a;rw[PySem.EqMixed.eq_bool_str<|Qo I q ()]
  |_=>rw[Zn (show 7=6 from c) Zj]
 |int i=>
  let(t,rfl):=d
  cases(y)with
  |non=>cases a;rw[PySem.EqNone.eq_int_none<|Qo I q ()]
  |int j=>let(b,rfl):=a;rw[eq_int<|Qo I q Ew]
  |str j=>let(b,rfl):=a;rw[PySem.EqMixed.eq_int_str<|Qo I q ()]
  |_=>rw[Zn (show 7=6 from c) Zj]
 |str i=>
  let(t,rfl):=d
  cases(y)with
  |non=>cases a;rw[PySem.EqNone.eq_str_none<|Qo I q ()]
  |bl j=>cases a;rw[PySem.EqMixed.eq_str_bool<|Qo I q ()]
  |int j=>let(b,rfl):=a;rw[PySem.EqMixed.eq_str_int<|Qo I q ()]
  |str j=>let(b,rfl):=a;rw[eq_str<|Qo I q Ey]
  |_=>rw[Zn (show 7=6 from c) Zj]
 |byt i=>
  let(t,rfl):=d
  cases(y)with
  |byt j=>let(b,rfl):=a;rw[W.eq_bytes<|Qo I q Ez]
  |_=>rw[Zn (show 7=6 from c) Zj]
 |_=>cases(y)<;>rw[Zn (show 7=6 from c) Zj]
def gO:xD X (compareOp .NotEq) ck:=by
 intro Y s Z H x y v u Q I d a h;let(c,q):=h
 cases(x)with
 |non=>
  cases d
  cases(y)with
  |non=>cases a;rw[PySem.EqNone.ne_none_none<|Qo I q ()]
  |bl j=>cases a;rw[PySem.EqNone.ne_none_bool<|Qo I q ()]
  |int j=>let(b,rfl):=a;rw[PySem.EqNone.ne_none_int<|Qo I q ()]
  |str j=>let(b,rfl):=a;rw[PySem.EqNone.ne_none_str<|Qo I q ()]
  |_=>rw[Zn (show 7=6 from c) Zj]
 |bl i=>
  cases d
  cases(y)with
  |non=>cases a;rw[PySem.EqNone.ne_bool_none<|Qo I q ()]
  |bl j=>cases a;rw[ne_bool<|Qo I q<|Zt not Ex]
  |str j=>let(b,rfl):=a;rw[PySem.EqMixed.ne_bool_str<|Qo I q ()]
  |_=>rw[Zn (show 7=6 from c) Zj]
 |int i=>
  let(t,rfl):=d
  cases(y)with
  |non=>cases a;rw[PySem.EqNone.ne_int_none<|Qo I q ()]
  |int j=>let(b,rfl):=a;rw[ne_int<|Qo I q<|Zt not Ew]
  |str j=>let(b,rfl):=a;rw[PySem.EqMixed.ne_int_str<|Qo I q ()]
  |_=>rw[Zn (show 7=6 from c) Zj]
 |str i=>
  let(t,rfl):=d
  cases(y)with
  |non=>cases a;rw[PySem.EqNone.ne_str_none<|Qo I q ()]
  |bl j=>cases a;rw[PySem.EqMixed.ne_str_bool<|Qo I q ()]
  |int j=>let(b,rfl):=a;rw[PySem.EqMixed.ne_str_int<|Qo I q ()]
  |str j=>let(b,rfl):=a;rw[ne_str<|Qo I q<|Zt not Ey]
  |_=>rw[Zn (show 7=6 from c) Zj]
 |byt i=>
  let(t,rfl):=d
  cases(y)with
  |byt j=>let(b,rfl):=a;rw[W.ne_bytes<|Qo I q<|Zt not Ez]
  |_=>rw[Zn (show 7=6 from c) Zj]
 |_=>cases(y)<;>rw[Zn (show 7=6 from c) Zj]
def LS:xD X (compareOp .In) λx y H Q=>∃i j,x=.str i/\y=.str j/\Q (.bl<|not<|(Builtin.Str.occurrences j i 0 ⇑j 1).isEmpty) H:=by
 intro Y s Z H x y v u Q I a b h;let(i j,rfl,rfl,q):=h;let(t,rfl):=a;let(c,rfl):=b;rw[in_str<|Qo I q 9]
def LU:xD X (compareOp .NotIn) λx y H Q=>∃i j,x=.str i/\y=.str j/\Q (.bl<|not<|not<|(Builtin.Str.occurrences j i 0 ⇑j 1).isEmpty) H:=by
 intro Y s Z H x y v u Q I a b h;let(i j,rfl,rfl,q):=h;let(t,rfl):=a;let(c,rfl):=b;rw[notIn_str<|Qo I q 9]
def JM(b) (h:a ≠ .In:=by decide)(c:a ≠ .NotIn:=by decide):behindInMarks a b=7:=by
 cases b<;>first|rfl|(show(_&&(_||_)&&_)=7;ext)
def E1  (d:xD X (compareOp c) r)(e:PE X a ta)(f:PE X b tb)(g:behindInMarks c b=7):PE X (.Compare a [c] [b] i) (ur r ta tb):=λY s Z H Q I h=>wpAny_Compare1 (uF e f I h λv u j x y l m n o q=>d Y j Z l x y v u Q m n o q) g
def kC(t:TE):TT:=λZ H Q=>t Z H λx a=>∃k,x=.bl k/\Q k a
def A0  (f:xD X (compareOp d) r)(g:PE X a ta)(i:PE X b tb)(j:behindInMarks d b=7):PT X (.Compare a [d] [b] l) (kC<|ur r ta tb):=by
 intro Y s Z H Q I h;rw[wpAny_isTrue_Compare1 (jF (g Y s Z H _ I h) λv m=>jy λx n=>j5 λo p t=>jF (i Y m Z n _ o t) λu w=>jy λy A=>j5 λB C E=>
  jF (f Y w Z A x y v u _ B p C E) λc M(z,F,G,J,k,e,L)=>?_) j]
 subst e;cases J;rw[wpAny_truthy_bool (F,G,L)]
def LV(r b:R2)(ta tb tc:TE):TE:=λZ H Q=>ta Z H λx c=>tb Z c λy d=>r x y d λz a=>∃k,z=.bl k/\
 if k=6 then tc Z a λe f=>b y e f Q else Q (.bl 7) a
def XJ:(00:5)<2^63:=by decide
def LW:xD X (binaryOp .Add) λx y H Q=>∃i j,x=.str i/\y=.str j/\⇑i+⇑j<=00/\Q (.str<|i++j) H:=by
 intro Y s Z H x y v u Q I a b h;let(i j,rfl,rfl,c,q):=h;let(t,rfl):=a;let(d,rfl):=b;rw[add_str (λd e=>(.str<|i++j,H,I.tok _,(_,9),q)) c]
def Kg  (r:j4 [x] a):∃u,a=[u]/\jz x u:=by
 cases r with
 |cons b c=>cases c;rw[(_,9,b)]
def E2  (r:j4 [x,y] b):∃u a,b=[u,a]/\jz x u/\jz y a:=by
 cases r with
 |cons c d=>
  cases d with
  |cons e f=>cases f;rw[(_,_,9,c,e)]
def LX:qu X (.builtin "abs") λa H Q=>∃i,a=[.int i]/\Q (.int<|if i<0 then-i else i) H:=by
 intro Y s Z H a b Q I r h;let(i,rfl,q):=h;let(-u,rfl,(t,rfl)):=Kg r;rw[call_abs_int λu c=>(.int<|if i<0 then-i else i,H,I.tok _,(_,9),q)]
def LY(c:X.calm=6):qu X (.builtin "min") λb H Q=>∃i j,b=[.int i,.int j]/\Q (.int<|if j<i then j else i) H:=by
 intro Y s Z H b d Q I r h;let(i j,rfl,q):=h;let(u e,rfl,(t,rfl),(f,rfl)):=E2 r;rw[min_two_ints (I.ok.hd c) λg l k=>(_,H,I.kept k,?_,q)];cases a:j<i
 .rw[Zd a,Zd a];rw[(_,9)]
 .rw[Ze a,Ze a];rw[(_,9)]
def LZ:qu X (.type "int") λa H Q=>(∃i,a=[.int i]/\Q (.int i) H)\/∃k,a=[.bl k]/\Q (.int<|if k then 1 else 0) H:=by
 intro Y s Z H a c Q I r h;obtain⟨i,rfl,q⟩|⟨k,rfl,q⟩:=h
 .let(u,rfl,t,rfl):=Kg r;rw[call_int_int (.int i,H,I,(_,9),q)]
 .let(u,rfl,b):=Kg r;cases b;rw[call_int_bool (.int<|if k then 1 else 0,H,I.tok _,(_,9),q)]
def Ma:qu X (.type "str") λa H Q=>∃i,a=[.int i]/\i.natAbs.log2<1920/\Q (.str<|toString i) H:=by
 intro Y s Z H a c Q I r h;let(-i,rfl,b,q):=h;let(-u,rfl,(t,rfl)):=Kg r;rw[PySem.P.str_of_int b (.str _,H,I.tok _,(_,9),q)]
end
structure ObjM(h:Heap)(x dx C:Addr)(mA:Yc):4 where
 obj:h.get? x=! W.instObj C dx
 ns:h.Ns1 dx mA
 ne:dx≠x
def E3{h:Heap}  (n:h.Ns1 f g):∃c,h.get? f=!c/\∀name,W.lookIn name c=! g name:=by
 let(o d s,i,j,l,_,m):=n;rw[(o,i,λname=>?_)];let e:=m name;unfold nsFind findBy at e;rw[<-Array.find?_toList]at e;ext W.lookIn;rw[j,];dsimp only
 split
 .rename_i y q;rw[q]at e;rw[Zt some e]
 .rename_i q;rw[q]at e;let a:d.toList.any (·.refKey)=7:=by
   rw[UU,];intro y p;let(z t,b):=l y (Array.mem_toList_iff.mp p);simp[DictEntry.refKey,b]
  let r:¬d.toList.any (·.refKey)=6:=by rw[a,];rw[Zj]
  rw[Ze r,];rw[Zt some e]
def ObjM.look   (I:ObjM h x b C c):∃a,W.InstAt h x (W.instObj C b) C !a/\∀name,W.lookIn name a=! c name:=
 yg (E3 I.ns) λa=>jD λe f=>(a,(I.obj,9,9,e),f)
section
variable      {K:aa}
def Mb  (X:K.In s.heap)(I:ObjM s.heap x i C j)
 (m:W.findIn K (.ref C) "__setattr__"=! ! .builtin "object.__setattr__")(n:W.plainOver K C=6)(o:W.takerIn K C name=!8)(p:W.hasDictIn K C=6)
 (r:PySem.Within j t)(u:⇑t<=00)
 (h:∀d,ObjM d x i C (λy=>if y=name then !v else j y)->Heap.SameBut i s.heap d->Q Yj {s with heap:=d,toks:=s.toks+2}):
 Yt l w A (setAttr (.ref x) name v) Q E s:=by
 let(-H,J,L):=I.look;rw[W.set_plain X J m<|W.osa_open X J n o λb=>?_];let(-M,z,e):=W.any_some p;rw[Za<|Zb<|Za<|Za<|wpAny_loadPart I.obj<|Za<|W.Looks.here (W.looks_clsIn X z) ?_];rw[e,];rw[Zb<|Za<|Zb<|Za<|wpAny_nsSet1 I.ns λd a c=>?_];let(N B F,f,g,G):=a.count (PySem.Within.cons name v r);rw[Za<|wpAny_lookBehind f (by rw[g,];rw[pastItsLine_dict ()])<|Zb<|h _ ((c.2 _<|Ne.symm I.ne).trans I.obj,a,I.ne) c]
end
def xo(f:Str)(v:V):List (Str×V)->List (Str×V)
 |[]=>[%[f|v]]
 |%[g|x]::r=>if g=f then%[g|v]::r else%[g|x]::xo f v r
theorem E4(f g)(v):∀fs:List (Str×V),(xo f v fs).lookup g=if g=f then !v else fs.lookup g
 |[]=>by
  show List.lookup g [%[f|v]]=_
  grind
 |%[k|x]::r=>by
  let a:=E4 f g v r;rw[show xo f v (%[k|x]::r)=if k=f then%[k|v]::r else%[k|x]::xo f v r from 9,]
  grind
theorem Cf(f)(v):∀fs:List (Str×V),f∈(xo f v fs).map (·.1)/\∀g,g∈fs.map (·.1)->g∈(xo f v fs).map (·.1)
 |[]=>(by simp[xo],())
 |%[k|x]::r=>by
  have(a,b):=Cf f v r;rw[show xo f v (%[k|x]::r)=if k=f then%[k|v]::r else%[k|x]::xo f v r from 9,]
  grind
theorem E5(f)(v):∀fs:List (Str×V),⇑(xo f v fs)<=⇑fs+1
 |[]=>by simp[xo]
 |%[k|x]::r=>by
  let a:=E5 f v r;rw[show xo f v (%[k|x]::r)=if k=f then%[k|v]::r else%[k|x]::xo f v r from 9,]
  grind
def qZ  (r:ya (!v) o):∃u,o=!u/\jz v u:=by
 cases o with
 |none=>rw[(r).elim]
 |some u=>rw[(u,9,r)]
def E6  (r:jz v u):W.handedIn u=6:=by
 cases(v)with
 |non=>cases r;rfl
 |bl b=>cases r;rfl
 |int i=>let(t,e):=r;cases e;rfl
 |str x=>let(t,e):=r;cases e;rfl
 |byt b=>let(t,e):=r;cases e;rfl
 |flt b=>let(t,e):=r;cases e;rfl
 |ref a=>cases r;rfl
 |ty n=>cases r;rfl
def A3(c:xy P w H h)(e:H a=! .ins C g fs):∃b,ObjM h a g C b/\(∀f,ya (fs.lookup f) (b f))/\PySem.Within b (fs.map (·.1))/\⇑fs<=1000/\H g=! .own a:=by
 let(!d,z,ne,i,(b,n,r,q)):=show yd P w H h a (.ins C g fs)from c a _ e;rw[(b,(i,n,ne),r,q,z,d)]
structure Cls(K:aa)(C:Addr):4 where
 pg:W.plainGet K C Str.empty=6
 hd:W.hasDictIn K C=6
 po:W.plainOver K C=6
 sa:W.findIn K (.ref C) "__setattr__"=! ! .builtin "object.__setattr__"
def Cls.get{K:aa} (c:Cls K C)(f):W.plainGet K C f=6:=c.pg
def w5(K:aa)(C:Addr)(f:Str):4:=W.findIn K (.ref C) f=!8
def w5.taker{K:aa}  (n:w5 K C f):W.takerIn K C f=!8:=by
 ext W.takerIn;rw[n,];rfl
section
variable   {Z: St}
def Mc  (I:Inv X Y Z H s)(e:H a=! .ins C m fs)(c:Cls X.K C)(n:w5 X.K C f)(l:fs.lookup f=!v)
 (h:∀u d,Inv X Y Z H d->jz v u->Q u d):wpAny (model X.prog X.w) A (getAttr (.ref a) f b) Q E s:=by
 let(-o,O,r,_,_,_):=A3 I.hok e;let(-u,i,g):=qZ (by rw[<-l];rw[r f]);let(-p,J,j):=O.look;rw[W.get_value I.kIn J (W.plainGet_of<|c.get f).1 (W.findObj_own c.hd n 9<|by rw[j,i]) (E6 g)<|h u _ (I.tok _) g]
def Md   (I:Inv X Y Z H s)(e:H a=! .ins C i fs)(c:Cls X.K C)(n:w5 X.K C f)(J:⇑fs<1000)(L:jz y u)
 (h:∀j,Inv X Y Z (upd H a<|.ins C i<|xo f y fs) j->Q Yj j):wpAny (model X.prog X.w) A (setAttr (.ref a) f u) Q E s:=by
 let(-M,O,r,l,_,m):=A3 I.hok e;let p:(fs.map (·.1)).length<=00:=by rw[Zql,sizeLine_eq];lia
 rw[Mb I.kIn O c.sa c.po n.taker c.hd l p λt d v=>h _ ?_];let w:∃o,t.get? i=!o:=uv d.ns λo _ _=>jD λB _=>(o,B);rw[I.write (by rw[e,];rw[True.intro]) (.inr m) (λb q F z=>(v.2 b F).trans z) w (by rwa[J6 O.ne,],?_,O.ne,d.obj,_,d.ns,λg=>?_,λg G=>?_)]
 .let:=E5 f y fs;lia
 .rw[E4,];cases q:g=f
  .rwa[Zd q,Zd q]
  ext
 .cases q:g=f
  .rw[q,];rw[(Cf f y fs).1]
  .rw[(Cf f y fs).2 g<|l g λz=>G ?_]
   ext
def Inv.made(I:Inv X Y Z H s):Inv X Y Z (upd (upd H s⁻¹<|.own<|s⁻¹+1) (s⁻¹+1)<|.ins C s⁻¹ [])
 {s with heap:=(s.heap.push W.emptyDict).push (W.instObj C s⁻¹)}:=by
 let c:(s.heap.push W.emptyDict).get? s⁻¹=!W.emptyDict:=Zr s.heap 9;let f:((s.heap.push W.emptyDict).push<|W.instObj C s⁻¹).get? (s⁻¹+1)=! W.instObj C s⁻¹:=by
  let:=Zr (s.heap.push W.emptyDict) (o:=W.instObj C s⁻¹) 9
  rwa[Heap.size_push]at this
 let g:(s.heap.push W.emptyDict).Ns s⁻¹ λ_=>8:=(W.emptyDict,#[],_,c,9,λe i=>Zn i (),λ_=>9);let j:=I.laid (a:=s⁻¹) (o:=.own<|s⁻¹+1) (h':=s.heap.push W.emptyDict) (t':=s.toks) (λb u q=>Zq _ q) (Zf _) (_,c);rw[j.laid (a:=s⁻¹+1) (o:=.ins C s⁻¹ []) (t':=s.toks) (λb u q=>Zq _ q) (Yk<|Heap.size_push _ _) ?_];let ne:s⁻¹≠s⁻¹+1:=Zi<|U3 _;rw[(by rw[J6 ne,JE],Um _,ne,f,λ_=>8,(Heap.Ns1.of_empty g).at λo q=>Zq _ q,λ_=>True.intro,λy l=>Zn 9 l)]
def E7        (c:attributeBase e f a (eval e a)=eval e a)
 (h:Yt b w A (eval e a) (λo s₁=>Yt b w A (getAttr o f 6) Q E s₁) E s):Yt b w A (eval (.Attribute e f d) a) Q E s:=
 Attribute_any_ h<|by rw[arm_eval_Attribute,c]
end
def rF(K:aa)(c:TE)(f:Str):TE:=λZ H Q=>c Z H λx b=>∃a C d fs v,x=.ref a/\b a=! .ins C d fs/\Cls K C/\w5 K C f/\fs.lookup f=!v/\Q v b
def rO(K:aa)(d e:TE)(f:Str):TS:=λD Z H=>e Z H λy g=>d Z g λx b=>∃a C c fs,x=.ref a/\b a=! .ins C c fs/\Cls K C/\w5 K C f/\⇑fs<1000/\
 D.nx Z (upd b a<|.ins C c<|xo f y fs)
def E8(b:PE X e d)(g:attributeBase e f X.env (eval e X.env)=eval e X.env):PE X (.Attribute e f i) (rF X.K d f):=by
 intro Y s Z H Q I h;rw[E7 g<|jF (b Y s Z H _ I h) λu w(x,j,m,o,a,C,y,fs,v,ex,p,c,n,l,q)=>?_];subst ex;obtain rfl:=o;rw[Mc m p c n l λz A r t=>(v,j,r,t,q)]
def E9(g:PE X o i)(j:PE X b m)(p:swapsWith b (! .Attribute o f d) e.line X.env=pure 7):PS X (.Assign [.Attribute o f d] b e) (rO X.K i m f):=by
 intro Y s Z H D I h;rw[plainObj_wpAny_Assign_Attribute (jF (j Y s Z H _ I h) λu r=>jy λy t=>j5 λv w q=>jF (g Y r Z t _ v q) λG J(x,L,z,A,a,C,M,fs,ex,B,c,n,l,E)=>?_) p];subst ex;obtain rfl:=A;rw[Md z B c n l w λN F=>(Z,_,F,E)]
section
variable   {Z: St}
inductive TyOf(K:aa)(H:Hp):V->Value->Prop where
 |non:TyOf K H .non (.type "NoneType")
 |bl(x:Bool):TyOf K H (.bl x) (.type "bool")
 |int(i:Int):TyOf K H (.int i) (.type "int")
 |str(x:Str):TyOf K H (.str x) (.type "str")
 |flt(x:UInt64):TyOf K H (.flt x) (.type "float")
 |lst{a:Addr}{xs:Yp}(e:H a=! .lst xs):TyOf K H (.ref a) (.type "list")
 |frz{a:Addr}{o:Obj}{xs:Yp}(e:H a=!(.frz o<|.lst xs)):TyOf K H (.ref a) (.type "list")
 |tup{a:Addr}{xs:Yp}(e:H a=! .tup xs):TyOf K H (.ref a) (.type "tuple")
 |dK{a:Addr}{kvs:List (jR×V)}(e:H a=! .dK kvs):TyOf K H (.ref a) (.type "dict")
 |dT{a:Addr}{kvs:List (List jR×V)}(e:H a=! .dT kvs):TyOf K H (.ref a) (.type "dict")
 |ins{a C dx:Addr}{fs:List (Str×V)}(e:H a=! .ins C dx fs)(cl:Cls K C)(ha:W.findIn K (.ref C) "__class__"=! ! .builtin "object.__class__")
  (hn:W.specialIn K (.builtin "object.__class__") "__get__"=! ! .builtin "getset_descriptor.__get__")(htk:W.takesIn K (.builtin "object.__class__")=!true)
  (hm:W.mroIn K C (.type "object")=!true):TyOf K H (.ref a) (.ref C)
def Me  (I:Inv X Y Z H s)(d:jz x u)(w:TyOf X.K H x t)(e:W.kitOne X.K t c=!b)(h:∀B,Q (.bool b) {s with toks:=B}):
 wpAny (model X.prog X.w) A (call (.builtin "isinstance") [u,c]) Q E s:=by
 cases(w)with
 |non=>cases d;rw[W.kia_one W.kitx_none I.kIn True.intro e (λz=>nomatch z) h]
 |bl y=>cases d;rw[W.kia_one W.kitx_bool I.kIn True.intro e (λz=>nomatch z) h]
 |int i=>have(t,q):=d;cases q;rw[W.kia_one W.kitx_int I.kIn True.intro e (λz=>nomatch z) h]
 |str y=>have(t,q):=d;cases q;rw[W.kia_one W.kitx_str I.kIn True.intro e (λz=>nomatch z) h]
 |flt y=>have(t,q):=d;cases q;rw[W.kia_one W.kitx_float I.kIn True.intro e (λz=>nomatch z) h]
 |@lst a l f=>
  cases d;let(_,_,n,_,g):=I.hok a _ f;rw[W.kia_one W.kitx_list I.kIn (_,g,9) e (λz=>nomatch z) h]
 |@frz a P l f=>
  cases d;let(!_,_,(_,n,_,g)):=I.hok a _ f;rw[W.kia_one W.kitx_list I.kIn (_,g,9) e (λz=>nomatch z) h]
 |@tup a l f=>
  cases d;let(_,_,_,p):=I.hok a _ f;let(-o,g,j,_):=p;rw[W.kia_one W.kitx_tuple I.kIn (o,g,j) e (λz=>nomatch z) h]
 |@dK a m f=>
  cases d;let(_,_,R,_,p):=I.hok a _ f;let(o F G,g,j,_):=p;rw[W.kia_one W.kitx_dict I.kIn (o,g,j.1) e (λz=>nomatch z) h]
 |@dT a m f=>
  cases d;let(!_,_,(l,_,o,F,G,g,j,_)):=I.hok a _ f;rw[W.kia_one W.kitx_dict I.kIn (o,g,j.1) e (λz=>nomatch z) h]
 |@ins a C S fs f v L M r N=>
  cases d;let(-T,O,_):=A3 I.hok f;let(-U,J,_):=O.look;rw[W.kia_one (W.kitx_own (v.get _) v.hd L M r N) I.kIn J e (λz=>nomatch z) h]
end
structure Room(k:5)(A:Around):4 where
 hd:A.handled=8
 dp:A.depth+03*k+05<recursionLimit
 un:A.units+16*k+200<cLine
def Room.mono  (r:Room k A)(h:j<=k):Room j A:=(r.hd,by let:=r.dp;lia,by let:=r.un;lia)
theorem Room.deeper  (r:Room (k+1) A)(a):Room k (A.deeper a):=
 (r.hd,by let:=r.dp;show A.depth+1+03*k+05<_;lia,by let:=r.un;show A.units+03+16*k+200<_;lia)
def Mf{A:Around}   :(A.under<|.builtin "type.__call__" (.ref C::a,b)).depth=A.depth+1:=by
 rfl
def Mg{A:Around}   :(A.under<|.builtin "type.__call__" (.ref C::a,b)).units=A.units+1:=by
 rfl
def Room.make  (r:Room (k+1) A)(C)(a)(b):Room k (A.under<|.builtin "type.__call__" (.ref C::a,b)):=
 (r.hd,by let:=r.dp;rw[Mf,];lia,by let:=r.un;rw[Mg,];lia)
theorem Room.depth  (r:Room k A):A.depth<recursionLimit:=by let:=r.dp;lia
theorem Room.units  (r:Room k A):A.units+64<cLine:=by let:=r.un;lia
def kE:TA:=λ_ H Q=>Q [] H
def EA(a:TE)(b:TA):TA:=λZ H Q=>a Z H λx c=>b Z c λd e=>Q (x::d) e
section
variable     {t:TA}
def Xi:PA X [] kE:=λ_ _ _ _ H Q I h=>Calls.spliced_nil ([],H,I,.nil,h)
def Xj(c:PE X e d)(f:PA X a t)(g:01 (e::a) X.env=%[7|eval e X.env]::01 a X.env:=by rfl):PA X (e::a) (EA d t):=by
 intro b Y s Z H Q I h;rw[g,];rw[Calls.spliced_cons<|jF (c Y s Z H _ I h) λu i=>jy λx j=>j5 λl m n=>jF (f b Y i Z j _ l n) λy z=>jy λo p=>j5 λr v w=>(x::o,p,r,.cons m v,w)]
def rr(t:TA):TE:=λZ H Q=>t Z H λa b=>⇑a<=00/\∀p,b p=8->Q (.ref p) (upd b p<|.tup a)
def rC(t:TA):TE:=λZ H Q=>t Z H λa b=>⇑a<=00/\∀p,b p=8->Q (.ref p) (upd b p<|.lst a)
def EB (h:PA X f t):PE X (.Tuple f m a) (rr t):=λY s Z H Q I g=>wpAny_Tuple_spliced<|jF (h a Y s Z H _ I g) λi c=>jy λj l=>yh λd r z q=>(by rwa[<-⇑r],(.ref c⁻¹,upd l c⁻¹<|.tup j,d.laid (λb u e=>Zq _ e) (Zf _)<|((z,(_,Zr _ 9,9)),i,r,(_,Zr _ 9,9,_,9)),9,q _<|d.hok.fresh<|Zf _))
def EC(h:PA X f t):PE X (.List f a) (rC t):=λY s Z H Q I g=>wpAny_List_spliced<|jF (h a Y s Z H _ I g) λi c=>jy λj l=>yh λd r z q=>(by rwa[<-⇑r],(.ref c⁻¹,upd l c⁻¹<|.lst j,d.laid (λb u e=>Zq _ e) (Zf _) (z,i,0,r,Zr _ 9),9,q _<|d.hok.fresh<|Zf _))
end
abbrev Sp:=Yp->Hp->VK->XK->4
abbrev uT:=List Env->Hp->Shared->XK->Ya
structure Env0(P:Program)(w:World)(K:aa)(mg:Yc)(base:Heap)(A:Around)(outer:List Env)(s:Shared)(H:Hp):4 where
 frames:A.frames=!outer
 mod:Mod K mg base
 bs:∀b o,base.get? b=!o->↥s b=!o/\H b=8
 bsz:base.objs.size<=s⁻¹
 funs:s.heap.FunFrames base outer
 frf:∀b∈frs outer,H b=8
 hok:xy P w H s.heap
 bare:AllBare s.gens
def CE(a:List Env)(P:Program)(w:World)(H:Hp)(s:Shared)(Q:VK)(u:Value)(b:Shared):4:=
 ∃v c,b.os=s.os/\AllBare b.gens/\Un (frs a) [] H c s.heap b.heap/\xy P w c b.heap/\jz v u/\Q v c
def CR(c:uT)(a:List Env)(P:Program)(w:World)(H:Hp)(s:Shared)(Q:VK)(E:XK)(r:Result)(b:Shared):4:=
 match r with
 |.ok (.ret u)=>CE a P w H s Q u b
 |.ok _=>False
 |.error e=>c a H s E e b
structure FnOk(P:Program)(w:World)(K:aa)(mg:Yc)(base:Heap)(CX:uT)(k:5)(f:Addr)(fd:FuncData)(ps:Yg)(sp:Sp):4 where
 len:∀vs H Q E,sp vs H Q E->⇑vs=⇑ps
 run:∀(A:Around)(outer:List Env)(s:Shared)(H:Hp)(args:Args)(us:Yd)(vs:Yp)(Q:VK)(E:XK),Room k A->Env0 P w K mg base A outer s H->BindsTo s fd args (ps.zip us)->j4 vs us->sp vs H Q E->
  codeAny (model P w) A (.call (.ref f) args) (CR CX outer P w H s Q E) s
theorem FnOk.mono  {K:aa}        (F:FnOk P w K e b g j f i l n)(h:j<=k):
 FnOk P w K e b g k f i l n:=(F.len,λA a s H c o p Q E r=>F.run A a s H c o p Q E<|r.mono h)
def FnOk.imp  {K:aa}        (F:FnOk P w K i c j k f l n o)
 (h:∀b H Q E,g b H Q E->o b H Q E):FnOk P w K i c j k f l n g:=
 (λb H Q E q=>F.len b H Q E<|h _ _ _ _ q,λA a s H e p b Q E r u v y z=>F.run A a s H e p b Q E r u v y<|h _ _ _ _ z)
def Env0.make  {K:aa}      (e:Env0 P w K c b A a s H)(C)(f)(g):
 Env0 P w K c b (A.under<|.builtin "type.__call__" (.ref C::f,g)) a s H:=(by first|rw[e.frames]|(simpa using e.frames),e.mod,e.bs,e.bsz,e.funs,e.frf,e.hok,e.bare)
section
variable   {Z: St}
def Inv.env0(I:Inv X Y Z H s):Env0 X.prog X.w X.K X.mg X.base X.A X.stack s H:=
 (I.ok.frames,I.ok.mod,I.bs,Zh I.ok.bsz I.sz,I.stack,I.stkFree,I.hok,I.bare)
def Inv.after  (I:Inv X Y Z H s)(h:CE X.stack X.prog X.w H s Q u c):EP X Y Z Q u c:=by
 let(v e,os,bare,un,a,r,q):=h;let(i,g,d,t,f):=c;obtain rfl:=os;rw[(v,e,I.call un a bare<|λb z=>Zn z (),r,q)]
end
def Cg(b:Sp)(a:Yp)(E:XK)(t:TA):TE:=λZ H Q=>t Z H λc d=>b (c++a) d Q E
def kG(C:Addr)(d:Sp)(b:Yp)(E:XK)(t:TA):TE:=λZ H Q=>t Z H λe c=>∀x a,c x=8->c a=8->a≠x->
 d (.ref x::(e++b)) (upd (upd c a<|.own x) x<|.ins C a []) (λv f=>v=.non/\Q (.ref x) f) E
def zH(K:aa)(d:FuncData)(b:Yg)(c:Yd):4:=
 ∀(s:Shared)(a:Yd),K.In s.heap->⇑(a++c)=⇑b->BindsTo s d (a,[]) (b.zip<|a++c)
def zH.all{K:aa}  (h:∀a:Yd,⇑a=⇑b->bindArgs e (a,[])=pure (b.zip a)):zH K e b []:=λs a _ c=>by
 rw[ZA]at c ⊢;rw[.of_eq<|h a c]
def XL(b:uT)(X:Cx)(E:XK):4:=∀(Y:Yb)(Z:St)(H:Hp)(s:Shared)(e:Value)(a:Shared),Inv X Y Z H s->b X.stack H s E e a->X.xe e a
def Mh {Z:St}     (F:FnOk X.prog X.w X.K X.mg X.base l k f m g n)(o:Room k X.A)(p:zH X.K m g d)(t:j4 a d)(v:XL l X E)
 (I:Inv X Y Z H s)(r:j4 i b)(h:n (i++a) H Q E):Ys X (call (.ref f) b) (EP X Y Z Q) X.xe s:=by
 let j:=r.append t;let w:⇑(b++d)=⇑g:=by rw[<-⇑j];rw[F.len _ _ _ _ h]
 rw[wpAny_call<|codeAny_mono (F.run X.A X.stack s H (b,[]) (b++d) (i++a) Q E o I.env0 (p s b I.kIn w) j h) λr y c=>?_]
 cases(r)with
 |error e=>rw[v Y Z H s e y I c]
 |ok z=>
  cases(z)with
  |ret u=>rw[I.after c]
  |next=>rw[False.elim c]
  |brk=>rw[False.elim c]
  |cont=>rw[False.elim c]
def ED(F:FnOk X.prog X.w X.K X.mg X.base j k f l m n)(o:Room k X.A)(u:Gl X x)(v:X.mg x=! .ref f)(w:W.keepIn X.K (.ref f)=6)(y:zH X.K l m z)(A:j4 c z)(B:XL j X E)
 (C:PA X (e::b) t)(d:(x==("__debug__":Str))=7:=by decide)(G:01 (e::b) X.env=%[7|eval e X.env]::01 b X.env:=by rfl)(g:(backTo a<|01 b X.env).any (·.1)=7:=by rfl):
 PE X (.Call (.Name x p) (e::b) [] a) (Cg n c E t):=by
 intro Y s Z H Q I h;rw[wpAny_Call_Name_kw<|W1 I u v (W.callWith_K I.ok.mod.kin w (jF (C a Y s Z H _ I h) λJ L=>jy λM N=>j5 λi r q=>(i.kIn,Mh F o y A B i r q)) G g) d]
structure Mk(K:aa)(C f:Addr):4 where
 makes:W.makesIn K C=6
 init:W.findIn K (.ref C) "__init__"=! ! .ref f
 fn:W.isFn K (.ref f)=6
 kp:W.keepIn K (.ref C)=6
def Mi {Z:St}     (M:Mk X.K C f)(F:FnOk X.prog X.w X.K X.mg X.base p k f t l w)(y:Room (k+1) X.A)(z:zH X.K t l g)(A:j4 c g)
 (B:XL p X E)(I:Inv X Y Z H s)(r:j4 m b)
 (h:∀x i,H x=8->H i=8->i≠x->w (.ref x::(m++c)) (upd (upd H i<|.own x) x<|.ins C i []) (λv G=>v=.non/\Q (.ref x) G) E):
 Ys X (call (.ref C) b) (EP X Y Z Q) X.xe s:=by
 let n:=h (s⁻¹+1) s⁻¹ (I.hok.fresh<|UV _) (I.hok.fresh<|Zf _)<|Zi<|U3 _;let j:=Inv.made (C:=C) I;let o:j4 (V.ref (s⁻¹+1)::(m++c)) (Value.ref (s⁻¹+1)::(b++g)):=.cons 9<|r.append A;let J:⇑(Value.ref (s⁻¹+1)::b++g)=⇑l:=by
  let e:=⇑o;rw[F.len _ _ _ _ n]at e;rw[e.symm]
 rw[wpAny_call<|W.make_core (W.makes_of I.kIn M.makes) (W.looks_findIn I.kIn M.init) (λd=>W.bind_fn I.kIn d<|Yi.mp M.fn) (.inl 9)<|codeAny_mono (F.run _ X.stack _ _ (Value.ref (s⁻¹+1)::b,[]) (Value.ref (s⁻¹+1)::(b++g)) _ _ E (y.make C b [])
  (j.env0.make C b []) (z _ (Value.ref (s⁻¹+1)::b) j.kIn J) o n) λr L a=>?_]
 cases(r)with
 |error e=>rw[B Y Z _ _ e L j a]
 |ok N=>
  cases(N)with
  |ret u=>
   let(v O,P,R,S,T):=j.after a;subst S;rw[(R,(V.ref<|s⁻¹+1,O,P,9,T))]
  |next=>rw[False.elim a]
  |brk=>rw[False.elim a]
  |cont=>rw[False.elim a]
def EE(M:Mk X.K C f)(F:FnOk X.prog X.w X.K X.mg X.base j k f l m n)(o:Room (k+1) X.A)(u:Gl X x)(v:X.mg x=! .ref C)(w:zH X.K l m y)(z:j4 c y)(A:XL j X E)
 (B:PA X (e::b) t)(d:(x==("__debug__":Str))=7:=by decide)(G:01 (e::b) X.env=%[7|eval e X.env]::01 b X.env:=by rfl)(g:(backTo a<|01 b X.env).any (·.1)=7:=by rfl):
 PE X (.Call (.Name x p) (e::b) [] a) (kG C n c E t):=λY s Z H Q I h=>wpAny_Call_Name_kw<|W1 I u v (W.callWith_K I.ok.mod.kin M.kp (jF (B a Y s Z H _ I h) λJ L=>jy λN O=>j5 λi r q=>(i.kIn,Mi M F o w z A i r q)) G g) d
structure FnScope(N P:Yg)(sc:Scope):4 where
 kind:sc.kind=.function
 co:sc.isCoroutine=7
 gen:sc.isGenerator=7
 nd:N.Nodup
 pre:N.take ⇑P=P
 par:∀x∈P,sc.names.lookup x=!.local\/sc.names.lookup x=!.cell
 nofree:∀y∈sc.names,y.2 ≠ .free
theorem EF{kindOf:Str->02 NameKind} :∀{binds:List (Str×Value)}{m:Yc},(∀v,%[x|v]∉binds)->bindL kindOf binds m x=m x
 |[],_,_=>9
 |%[n|v]::r,m,h=>by
  ext bindL;rw[EF λw a=>h w<|Zqm _ a,]
  split
  .let:x≠n:=by rintro rfl;rw[h v Zqs]
   simp[this]
  .rfl
theorem EG{kindOf:Str->02 NameKind} :∀{binds:List (Str×Value)}{m:Yc},(∀v,%[x|v]∉binds)->bindC kindOf binds m x=m x
 |[],_,_=>9
 |%[n|v]::r,m,h=>by
  ext bindC;rw[EG (),]
  split
  .rfl
  grind
theorem EH{kindOf:Str->02 NameKind}  :∀{P:Yg}{a:Yd}{i:5}{m:Yc},P.Nodup->P[i]?=!x->a[i]?=!v->kindOf x=!.local->
 bindL kindOf (P.zip a) m x=!v
 |[],_,_,_,_,h,_,_=>by simp at h
 |_::_,[],_,_,_,_,h,_=>by simp at h
 |p::P,w::a,0,m,nd,b,h2,hk=>by
  simp at b h2;subst b;subst h2;show bindL kindOf (%[p|w]::P.zip a) m p=_;ext bindL;rw[EF λv c=>(Je.mp nd).1 (List.of_mem_zip c).1,Zd hk];simp
 |p::P,w::a,i+1,m,nd,b,h2,hk=>by
  show bindL kindOf (%[p|w]::P.zip a) m x=_;ext bindL;rw[EH (i:=i) (Je.mp nd).2 (by simpa using b) (by simpa using h2) hk]
theorem EI{kindOf:Str->02 NameKind}  :∀{P:Yg}{a:Yd}{i:5}{m:Yc},P.Nodup->P[i]?=!x->a[i]?=!v->kindOf x≠!.local->
 bindC kindOf (P.zip a) m x=!v
 |[],_,_,_,_,h,_,_=>by simp at h
 |_::_,[],_,_,_,_,h,_=>by simp at h
 |p::P,w::a,0,m,nd,b,h2,hk=>by
  simp at b h2;subst b;subst h2;show bindC kindOf (%[p|w]::P.zip a) m p=_;ext bindC;rw[EG λv c=>(Je.mp nd).1 (List.of_mem_zip c).1,Ze hk];simp
 |p::P,w::a,i+1,m,nd,b,h2,hk=>by
  show bindC kindOf (%[p|w]::P.zip a) m x=_;rw[EI () (by simpa using b) (by simpa using h2) hk]
def start(N:Yg)(a:Yp):St:=a.map some++List.replicate (⇑N-⇑a) 8
def qk(g:uT)(P:Program)(w:World)(K:aa)(mg:Yc)(base:Heap)(N:Yg)(b:Str)(a:Scope)(f:Addr)(d:Value)(A:Around)(outer:List Env)(s:Shared)(H:Hp)(E:XK):Cx where
 prog:=P
 w:=w
 K:=K
 mg:=mg
 base:=base
 A:=A.deeper (envOfC b a s⁻¹ f d)
 N:=N
 s₀:=s
 H₀:=H
 env:=envOfC b a s⁻¹ f d
 outer:=outer
 stack:=envOfC b a s⁻¹ f d::outer
 ex:=[]
 calm:=6
 fn:=λ_=>6
 pn:=[]
 xe:=λe h=>wpAny (model P w) (A.deeper<|envOfC b a s⁻¹ f d) (leaving (envOfC b a s⁻¹ f d) e) (λ_ c=>g outer H s E e c) (λi c=>g outer H s E i c) h
def EJ{a:Scope}  (h:a.names.lookup x=!.cell):∃c,(cellsFrom n a.names []).lookup x=!c:=have q:=W.cellsFrom_some a.names n []<|.inl h;Jq.mp q
def Mj   {K:aa}
 (S:FnScope N B d)(T:A.handled=8)(m:Env0 P w K M o A j s H)(hl:⇑C=⇑B)(r:j4 C O)
 (x:InCallC s s⁻¹ (bindL (envOfC l d s⁻¹ f L).kindOf (B.zip O) λ_=>8) (cellsFrom (s⁻¹+1) d.names []) (bindC (envOfC l d s⁻¹ f L).kindOf (B.zip O) λ_=>8) U):
 Inv (qk X P w K M o N l d f L A j s H E) [] (start N C) H U:=by
 let Y:⇑B<=⇑N:=by let:=Zt List.length S.pre;rw[Ue]at this;lia
 let(I tk,rfl,Q):=x.done;let t:∀b:Addr,b∉(qk X P w K M o N l d f L A j s H E).ex:=λb z=>Zn (show b∈([]:Yh)from z) ();rw[((m.mod,S.kind,9,9,Zf _,λy z c I g=>?_,λy hy=>?_,λy c _ h=>?_,λ_=>T,Around.frames_deeper m.frames,.inr (9,9),λb z=>Zn z<|t b,m.bs,m.bsz,λb _ _=>t b,λb z=>Zn z<|t b,m.funs,m.frf),
  9,m.bare,Un.kept Q,(_,x.toInCall.ns,λi y v I g h3=>?_),λy c h=>(_,x.cell y c h),m.hok.fresh<|Zf _,λy c h=>?_,λp F=>Zn (show p∈([]:Yb)from F) (),m.hok.kept Q,?_)]
 .rw[name_of_addr x.apart (PySem.mem_of_lookup I)<|PySem.mem_of_lookup g]
 .let hy:d.names.lookup y=!.cell\/d.names.lookup y=!.free:=hy;obtain hy|hy:=hy
  .rw[EJ hy]
  .rw[Zn 9<|S.nofree _<|PySem.mem_of_lookup hy]
 .rw[Zz<|x.above y c<|PySem.mem_of_lookup h]
 .let J:i<⇑C:=by
   unfold start at g;cases J:i<⇑C
   .rw[J]
   .rw[Us (by simpa using J)]at g;rw[List.getElem?_replicate]at g
    split at g<;>cases g
  let Z:C[i]?=!v:=by
   unfold start at g;rw[Ui (by simpa using J),Zv]at g
   induction e:C[i]? with
   |none=>rw[e]at g;cases g
   |some a=>rw[e]at g;cases g;rfl
  let(-u,R,rv):=r.get Z;let F:B[i]?=!y:=by
   rw[<-S.pre,U4 ()];rw[I]
  let G:B.Nodup:=by rw[<-S.pre];rw[S.nd.sublist<|List.take_sublist _ _]
  rw[(u,rv,?_)];rcases S.par y (Ua F)with k|k
  .rw[.inl (k,EH G F R k)]
  .let(-c,e):=EJ (n:=s⁻¹+1) k;rw[.inr (.inl k,c,e,?_)];let q:=x.cell y c e;rw[EI G F R (by show d.names.lookup y≠_;rw[k,];decide)]at q;rw[q]
 .rw[m.hok.fresh<|Zz<|x.above y c<|PySem.mem_of_lookup h]
 .ext start;show _=⇑N;rw[Ub,Zql,List.length_replicate];lia
def EK   {K:aa}        {dV kV C pm g ct oc:Value}
 (lk:K.lookup f=!(oc,od,.func<|W.fnOf name d i l a dV kV C pm an g ct,osl))(O:W.codeIn K g d=6)(S:FnScope N R a)
 (len:∀j H Q E,sp j H Q E->⇑j=⇑R)
 (p:∀A c s H j Q E,Room k (A.deeper<|envOfC d a s⁻¹ f g)->sp j H Q E->
  ∃t,xR (qk T P w K U h N d a f g A c s H E) l t/\t {nx:=λ_ m=>Q .non m,rt:=Q} (start N j) H):
 FnOk P w K U h T (k+1) f (W.fnOf name d i l a dV kV C pm an g ct) R sp:=by
 rw[(len,λA c s H args us j Q E X F hb r G=>?_)];let KX:=F.mod.kin.keeps λb o e=>(F.bs b o e).1;let z:∀y∈R.zip us,a.names.lookup y.1=!.local\/a.names.lookup y.1=!.cell/\((cellsFrom (s⁻¹+1) a.names []).lookup y.1).isSome=6:=λ(n,v)hy=>by
  obtain q|q:=S.par n (List.of_mem_zip hy).1
  .rw[.inl q]
  .rw[.inr (q,W.cellsFrom_some _ _ _<|.inl q)]
 rw[codeAny_call_function X.depth (KX _ _ lk) 9 S.co S.gen 9 (W.codeRec_of KX O)<|hb _ _ _ _<|wpAny_newFunctionEnv_cells S.kind z λenv he s1 x=>?_];subst he;rw[((F.mod.nolimit.keeps λb o e=>(F.bs b o e).1).keeps x.toInCall.keep,codeAny_func ?_)];let(t,ht,hq):=p A c s H j Q E (X.deeper _) G;let I:Inv (qk T P w K U h N d a f g A c s H E) [] (start N j) H s1:=Mj S X.hd F (len _ _ _ _ G) r x;rw[Zc (ht [] s1 (start N j) H _ I hq) (λfl Y B=>?_) λe Y B=>B];let L:∀{M:St}{m:Hp}{v:V}{u:Value},Inv (qk T P w K U h N d a f g A c s H E) [] M m Y->jz v u->Q v m->CE c P w H s Q u Y:=
  λ{M m v u}J Z q=>(v,m,J.os,J.bare,J.base,J.hok,Z,q)
 cases(fl)with
 |ret u=>
  let(v M m,J,Z,q):=B;rw[L J Z q]
 |next=>
  let(M m,J,q):=B;rw[L (v:=V.non) J 9 q]
 |brk=>
  let(_ _,_,q):=B;rw[False.elim q]
 |cont=>
  let(_ _,_,q):=B;rw[False.elim q]
section
variable      {t:TA}{id T:String}{r:Yp->Hp->VK->Prop}
def mD(r:Yp->Hp->VK->4)(t:TA):TE:=λZ H Q=>t Z H λa b=>r a b Q
def EL(f:qu X (.builtin id) r)(g:Gl X x)(i:X.mg x=8)(j:bootBuiltins x=! .builtin id)(l:PA X (e::b) t)(m:x ≠"__name__":=by decide)(c:(x==("__debug__":Str))=7:=by decide)
 (n:01 (e::b) X.env=%[7|eval e X.env]::01 b X.env:=by rfl)(d:(backTo a<|01 b X.env).any (·.1)=7:=by rfl):PE X (.Call (.Name x p) (e::b) [] a) (mD r t):=λY s Z H Q I h=>wpAny_Call_Name_kw<|Xh I g i j (PyProof.Rows.callWith_builtin1 (jF (l a Y s Z H _ I h) λo u=>jy λv w=>j5 λy z A=>f Y u Z w v o Q y z A) n d) m c
def A4(f:qu X (.type T) r)(g:Gl X x)(i:X.mg x=8)(j:bootBuiltins x=! .type T)(l:PA X (e::b) t)(m:x ≠"__name__":=by decide)(c:(x==("__debug__":Str))=7:=by decide)
 (n:01 (e::b) X.env=%[7|eval e X.env]::01 b X.env:=by rfl)(d:(backTo a<|01 b X.env).any (·.1)=7:=by rfl):PE X (.Call (.Name x p) (e::b) [] a) (mD r t):=λY s Z H Q I h=>wpAny_Call_Name_kw<|Xh I g i j (PyProof.Rows.callWith_type1 (jF (l a Y s Z H _ I h) λo u=>jy λv w=>j5 λy z A=>f Y u Z w v o Q y z A) n d) m c
end
end L2
namespace HT
open PySem PyProof.Rows
section
open PySem.SeqAt
open PySem.AutoSeq1 (wpAny_loadPart')
open PySem.MeetsSeq PySem.MeetsSeq2 PySem.MeetsSeq3
end
def cat_tup   (v:IsTup s.heap t d.toArray)(y:IsTup s.heap b a.toArray)(z:d ≠[])
 (B:a=[]->Q (.ref t) s)(C:a ≠[]->Q (.ref s⁻¹) {s with heap:=s.heap.push {cls:=.type "tuple",data:=.seq (d++a).toArray}})
 (F:⇑d+⇑a<=00):Yt m w A (binaryOp .Add (.ref t)<|.ref b) Q E s:=by
 let((cls,o,data,p),h,G,n,H):=id v;let((r,f,data2,g),c,j,u,l):=id y;subst G H j l;let e:d.toArray++a.toArray=(d++a).toArray:=by simp
 cases i:a=[]
 .rw[concat_meets (_,h,9) (_,c,9) noFill_tuple_add seq_tuple_add PySem.F.slot_tuple_add PySem.F.entry_tuple_add (PySem.F.args_tuple_add_2 _ _)
   (tuple_addW1 t b d.toArray a.toArray n u o f p g ()<|by simp[i]) (h,c,B i)]
 .rw[concat_meets (_,h,9) (_,c,9) noFill_tuple_add seq_tuple_add PySem.F.slot_tuple_add PySem.F.entry_tuple_add (PySem.F.args_tuple_add_2 _ _)
   (tuple_addW2 t b d.toArray a.toArray n u o f p g (by simpa using z) (by simpa using i) ()) (h,c,?_)]
  rw[e,];rw[C i]
def sIx(n d:5):02 3->5
 |none=>d
 |some v=>if v<0 then(v+(n:3)).toNat else min v.toNat n
def sIx_nat(n d k:5):sIx n d (!(k:3))=min k n:=by
 show(if(k:3)<0 then((k:3)+(n:3)).toNat else min (k:3).toNat n)=min k n;rw[Ze (),Uk]
def Ml(n d:5)(b:d<=n)(o:02 3):sIx n d o<=n:=by
 cases(o)with
 |none=>rw[b]
 |some v=>
  show(if v<0 then(v+(n:3)).toNat else min v.toNat n)<=n;cases a:v<0
  .rw[Zd a,];lia
  .rw[Ze a,];rw[Nat.min_le_right _ _]
def EM(v:3)(n d:5):(if v<0 then max (v+(n:3)) 0 else min v (n:3))=((sIx n d !v:5):3):=by
 show(if v<0 then max (v+(n:3)) 0 else min v (n:3))=((if v<0 then(v+(n:3)).toNat else min v.toNat n:5):3);cases a:v<0
 .simp only[Zd a];lia
 .simp only[Ze a];lia
def Mm(lo a:02 3)(n:5):Builtin.Slice.sliceAdjust lo a 1 (n:3)=%[((sIx n 0 lo:5):3)|((sIx n n a:5):3)]:=by
 let b:¬(1:3)<0:=()
 ext Builtin.Slice.sliceAdjust;simp only[b,if_false];rw[Prod.ext ?_ ?_]
 .cases(lo)with
  |none=>rfl
  |some v=>rw[EM v n 0]
 .cases(a)with
  |none=>rfl
  |some v=>rw[EM v n n]
def Mn(i j:5):Builtin.Slice.slicePlaces (i:3) (j:3) 1=j-i:=by
 ext Builtin.Slice.slicePlaces;let a:(1:3)>0:=()
 simp only[a,if_true,Int.ediv_one]
 split<;>lia
def EN   (p:IsPart v o)(h:Q o s):Yt a w A (Builtin.Slice.slicePartIndex v) Q E s:=by
 cases(p)with
 |none=>rw[slicePart_none h]
 |int i t=>rw[slicePart_int h]
def EO  {lo a:02 3} {Q:3×3×5->Yo}(g:s.heap.IsSliceOf i d e .none)(pl:IsPart d lo)(j:IsPart e a)
 (h:Q %[((sIx n 0 lo:5):3),1|sIx n n a-sIx n 0 lo] s):Yt f w A (Builtin.Slice.sliceApplied (.ref i)<|pure (n:3)) Q E s:=by
 let(os,b,l,c):=id g;ext Builtin.Slice.sliceApplied Builtin.Slice.sliceFields;rw[Za<|Za<|wpAny_field b c (x:=d) 9<|Za<|wpAny_field b c (x:=e) 9<|Za<|wpAny_field b c (x:=.none) 9<|Zb ?_];rw[Za<|slicePart_none ?_];show wpAny _ _ (if((1:3)==0)=6 then _ else _) _ _ s;rw[Ze (by decide),];rw[Za<|EN pl<|Za<|EN j<|Za<|Zb ?_];show wpAny _ _ (match Builtin.Slice.sliceAdjust lo a 1 (n:3)with|%[lo|a]=>pure %[lo,(1:3)|Builtin.Slice.slicePlaces lo a 1]) _ _ s;rw[Mm lo a n,];show wpAny _ _ (pure %[((sIx n 0 lo:5):3),(1:3)|Builtin.Slice.slicePlaces ((sIx n 0 lo:5):3) ((sIx n n a:5):3) 1]) _ _ s;rw[Mn,];rw[Zb h]
def Mo(a:Array Value)(i k:5):((List.range k).filterMap λ(m:5)=>a[((i:3)+(m:3)*1).toNat]?).toArray=((a.toList.drop i).take k).toArray:=by
 let e:(λ(m:5)=>a[((i:3)+(m:3)*1).toNat]?)=λm=>a[i+m]?:=by
  funext m
  let:((i:3)+(m:3)*1).toNat=i+m:=()
  rw[this,]
 rw[e,];let:=pick_run a i k;rw[List.filterMap_map]at this;let b:((λx=>a[x]?)∘ λx=>i+x)=λm=>a[i+m]?:=9;rw[b]at this;rw[this,]
def getItem_tuple_cut   {lo c:02 3} (d:IsTup s.heap t a)(j:s.heap.IsSliceOf l o p .none)(pl:IsPart o lo)(r:IsPart p c)
 (u:¬(sIx a.size 0 lo=0/\sIx a.size a.size c=a.size))
 (h:Q (.ref s⁻¹) {s with heap:=s.heap.push {cls:=.type "tuple",data:=.seq ((a.toList.drop<|sIx a.size 0 lo).take<|sIx a.size a.size c-sIx a.size 0 lo).toArray}})
 (v:a.size<=00):Yt n w A (getItem (.ref t)<|.ref l) Q E s:=by
 let b:sizeOk (.seq ((a.toList.drop<|sIx a.size 0 lo).take<|sIx a.size a.size c-sIx a.size 0 lo).toArray):=by
  show((a.toList.drop<|sIx a.size 0 lo).take<|sIx a.size a.size c-sIx a.size 0 lo).toArray.size<=00;rw[Zm,Ue,UW,Up];lia
 let z:sIx a.size a.size c<=a.size:=Ml _ _ (Zf _) c;let(os,e,f,y):=id j;let g:s.TypeIs (.ref l) "slice":=(os,e,f);ext getItem
 try with_reducible rw[wpAny_holding ?_]
 first|rw[Za<|Zb ?_]|skip
 rw[Za<|wpAny_sequenceKey d.typeIs (by decide) ?_];rw[Za<|wpAny_callSpecial?_slot (name:=Str.ofString "__getitem__") d.typeIs PyProof.Rows.slot_tuple_getitem
 <|wpAny_call_entry PyProof.Rows.slot_tuple_getitem d.typeIs entry_tuple_getitem ?_<|args_tuple_getitem _ _]
 show wpAny _ _ (Builtin.Tuple.tupleItemsOf (.ref t)>>=_) _ _ s;rw[Za<|tupleItemsOf_ d ?_];rw[Za<|wpAny_typeOf g ?_];rw[Zd (by decide),];rw[Za<|EO j pl r ?_];let i:¬(((sIx a.size 0 lo:5):3)==0&&(1:3)==1&&sIx a.size a.size c-sIx a.size 0 lo==a.size)=6:=by
  intro q;rw[Uc,Uc]at q;let B:((sIx a.size 0 lo:5):3)=0:=eq_of_beq q.1.1;let C:sIx a.size a.size c-sIx a.size 0 lo=a.size:=eq_of_beq q.2;rw[u ((),())]
 show wpAny _ _ (if(((sIx a.size 0 lo:5):3)==0&&(1:3)==1&&sIx a.size a.size c-sIx a.size 0 lo==a.size)=6 then _ else _) _ _ s;rw[Ze i,Mo]
 first
  |rw[Za (m:=Builtin.Tuple.tupleExact _)<|wpAny_newObj_type (Zb (_,9,Zb h)) b]
  |rw[Za (m:=Builtin.Tuple.tupleExact _)<|wpAny_newObj_type (Za<|Zb<|Zb (_,9,Zb h)) b]
  |rw[Za<|Za (m:=Builtin.Tuple.tupleExact _)<|wpAny_newObj_type (Zb<|Zb (_,9,Zb h)) b]
  |rw[Za<|Za (m:=Builtin.Tuple.tupleExact _)<|wpAny_newObj_type (Zb (_,9,Zb h)) b]
end HT
namespace L2
abbrev TO:=St->Hp->(02 3->Hp->4)->4
def PO(X:Cx)(e:02 Expr)(t:TO):4:=
 ∀(Y:Yb)(s:Shared)(Z:St)(H:Hp)(Q:02 3->Hp->4),Inv X Y Z H s->t Z H Q->
  Ys X (evalPart e X.env) (λu b=>∃o a,Inv X Y Z a b/\IsPart u o/\Q o a) X.xe s
def mB:TO:=λ_ H Q=>Q 8 H
def kD(t:TE):TO:=λZ H Q=>t Z H λx a=>∃i,x=.int i/\Q (!i) a
def EQ :∀{a:Yd},j4 (b.map V.int) a->IntsAre a b:=by
 cases(b)with
 |nil=>intro a r;cases r;rw[.nil]
 |cons n b c=>
  intro a r;cases r with
  |cons d f=>
   let(t,e):=d;subst e;rw[.cons n t<|c f]
section
variable {X:Cx}  {te:TE}{lo hi:02 Expr}{tl th:TO}
def Mp(h:PE X e te):PO X (!e) (kD te):=by
 intro Y s Z H Q I a;rw[jF (h Y s Z H _ I a) λu g=>jy λx b=>j5 λc d f=>?_];let(i,rfl,q):=f;let(t,rfl):=d;rw[(!i,b,c,.int i t,q)]
def uK(X:Cx)(r:V->02 3->02 3->Hp->VK->4):4:=
 ∀(Y:Yb)(s:Shared)(Z:St)(H:Hp)(x:V)(v a b:Value)(lo hi:02 3)(c:Addr)(Q:VK),Inv X Y Z H s->jz x v->s.heap.IsSliceOf c a b .none->IsPart a lo->IsPart b hi->r x lo hi H Q->
  ∃T id,typeLookup (.type T) "__getitem__"=pure ! .builtin id/\s.TypeIs v T/\Ys X (getItem v<|.ref c) (EP X Y Z Q) X.xe s
def uK.or (h:uK X r)(i:uK X j):uK X λx lo hi H Q=>r x lo hi H Q\/j x lo hi H Q:=by
 intro Y s Z H x v a b lo hi c Q I e f pl g q;obtain q|q:=q
 .rw[h Y s Z H x v a b lo hi c Q I e f pl g q]
 .rw[i Y s Z H x v a b lo hi c Q I e f pl g q]
def dX(r:V->02 3->02 3->Hp->VK->4)(te:TE)(tl th:TO):TE:=λZ H Q=>te Z H λx a=>tl Z a λl b=>th Z b λu c=>r x l u c Q
def Mq (g:uK X r)(i:PE X e te)(j:PO X lo tl)(m:PO X hi th):PE X (.Subscript e (.Slice lo hi 8 n) o) (dX r te tl th):=by
 intro Y s Z H Q I h;rw[Subscript_<|jF (i Y s Z H _ I h) λv p=>jy λx t=>j5 λw y z=>?_];rw[wpAny_Slice<|jF (j Y p Z t _ w z) λc A=>jy λl B=>j5 λC pl E=>jF (m Y A Z B _ C E) λd a=>jy λu f=>j5 λF G J=>?_];rw[evalPart_none,];rw[Zb ?_];let L:Inv X Y Z f {a with heap:=a.heap.push {cls:=.type "slice",data:=.fields #[c,d,.none]}}:=F.kept (t':=a.toks) λb P q=>Zq _ q;let(T id,M,N,O):=g Y {a with heap:=a.heap.push {cls:=.type "slice",data:=.fields #[c,d,.none]}} Z f x v c d l u a⁻¹ Q L y (Heap.IsSliceOf.new ..) pl G J;show Ys X (subscriptTail e (.Slice lo hi 8 n) v<|.ref a⁻¹) (EP X Y Z Q) X.xe {a with heap:=a.heap.push {cls:=.type "slice",data:=.fields #[c,d,.none]}};rw[tail_any (ops:=[.ref a⁻¹,v]) N M O<|by with_unfolding_all rfl]
def zY(a:Yp)(lo hi:02 3):Yp:=(a.drop<|HT.sIx ⇑a 0 lo).take<|HT.sIx ⇑a ⇑a hi-HT.sIx ⇑a 0 lo
def rY(K:aa):V->02 3->02 3->Hp->VK->4:=λx lo hi H Q=>∃a b,x=.ref a/\yn K H a b/\
 ¬(HT.sIx ⇑b 0 lo=0/\HT.sIx ⇑b ⇑b hi=⇑b)/\∀p,H p=8->Q (.ref p) (upd H p<|.tup<|zY b lo hi)
def dN:uK X (rY X.K):=by
 intro Y s Z H x v p t lo hi u Q I i j pl l h;let(a d,rfl,m,n,q):=h;cases i;let(-e,r,f,g):=I.tuple m;let c:e.toArray.size=⇑d:=by rw[Zm,];rw[r.length.symm]
 rw[("tuple",_,PyProof.Rows.slot_tuple_getitem.lookup,f.typeIs,?_)];rw[HT.getItem_tuple_cut f j pl l (by rw[c,];rw[n]) ?_ (by rw[c,];rw[g])];rw[c,];rw[(.ref s⁻¹,_,I.laid (t':=s.toks) (o:=.tup<|zY d lo hi) (λb w q=>Zq _ q) (Zf _) ?_,9,q _<|I.hok.fresh<|Zf _)];rw[((Zh (by
  ext zY;rw[Ue,UW];lia) g,(_,Zr _ 9,9)),_,(r.drop<|HT.sIx ⇑d 0 lo).take<|HT.sIx ⇑d ⇑d hi-HT.sIx ⇑d 0 lo,IsTup.new _ _)]
def gi(K:aa):R2:=λx y H Q=>∃a b d c,x=.ref a/\y=.ref b/\yn K H a d/\yn K H b c/\d ≠[]/\⇑d+⇑c<=00/\
 (c=[]->Q (.ref a) H)/\(c ≠[]->∀p,H p=8->Q (.ref p) (upd H p<|.tup<|d++c))
def j4.nil_iff  (r:j4 a b):b=[]↔a=[]:=by
 cases(r)with
 |nil=>simp
 |cons _ _=>simp
def ER:xD X (binaryOp .Add) (gi X.K):=by
 intro Y s Z H x y v u Q I f g h;let(a b t A,rfl,rfl,i,j,l,B,m,n):=h;cases f;cases g;let(-o,d,p,_):=I.tuple i;let(-e,c,r,_):=I.tuple j;rw[HT.cat_tup p r (λz=>l<|d.nil_iff.mp z) (λz=>(.ref a,H,I,9,m<|c.nil_iff.mp z)) (λz=>(.ref s⁻¹,_,I.laid (λb C q=>Zq _ q) (Zf _) ?_,9,n (λw=>z<|c.nil_iff.mpr w) _<|I.hok.fresh<|Zf _)) (by rwa[<-⇑d,<-⇑c])];rw[(((),(_,Zr _ 9,9)),_,d.append c,IsTup.new _ _)]
end
def zm(n:5)(i:3):02 5:=if 0<=i then if i<n then !i.toNat else 8 else if-(n:3)<=i then !(i+n).toNat else 8
def qo{α:Type}(a:List α)(i:3):02 α:=(zm ⇑a i).bind λj=>a[j]?
def ES   (h:zm n i=!j):seqIndex? i n=!j/\j<n/\-(n:3)<=i/\i<n:=by
 unfold zm at h;cases b:0<=i
 .rw[Zd b]at h;cases a:i<n
  .rw[Zd a]at h;let e:i.toNat=j:=Zqi h;rw[(by rw[seqIndex_of b a,e],(),(),a)]
  .rw[Ze a]at h;cases h
 .rw[Ze b]at h;cases a:-(n:3)<=i
  .rw[Zd a]at h;let e:(i+n).toNat=j:=Zqi h;rw[(by rw[seqIndex_neg () a,e],(),a,())]
  .rw[Ze a]at h;cases h
def Ch    (h:qo a i=!v):∃j,seqIndex? i ⇑a=!j/\a[j]?=!v/\j<⇑a/\-(⇑a:3)<=i/\i<⇑a:=by
 unfold qo at h
 induction e:zm ⇑a i with
 |none=>ext
 |some j=>
  rw[e]at h;let(!b,c,d,f):=ES e;rw[(j,b,h,c,d,f)]
def A5(b:Expr):4:=∀o i,subscripted b 7 o i=operate [o,i] (getItem o i)
def wg(X:Cx)(r:R2):4:=
 ∀(b a:Expr)(Y:Yb)(s:Shared)(Z:St)(H:Hp)(x y:V)(v u:Value)(Q:VK),Inv X Y Z H s->jz x v->jz y u->r x y H Q->
  subscripted a 7 v u=operate [v,u] (getItem v u)->Ys X (subscriptTail b a v u) (EP X Y Z Q) X.xe s
def ms(X:Cx)(id:String)(r:V->Yp->Hp->VK->4):4:=
 ∀(Y:Yb)(s:Shared)(Z:St)(H:Hp)(x:V)(a:Yp)(v:Value)(b:Yd)(Q:VK),Inv X Y Z H s->jz x v->j4 a b->r x a H Q->
  Ys X (call (.builtin id)<|v::b) (EP X Y Z Q) X.xe s
section
def wg.or (h:wg X r)(g:wg X i):wg X λx y H Q=>r x y H Q\/i x y H Q:=by
 intro a b Y s Z H x y v u Q I c e q f;obtain q|q:=q
 .rw[h a b Y s Z H x y v u Q I c e q f]
 .rw[g a b Y s Z H x y v u Q I c e q f]
def Ci (c:wg X r)(d:PE X a e)(f:PE X b g)(i:A5 b):PE X (.Subscript a b j) (ur r e g):=λY s Z H Q I h=>Subscript_<|uF d f I h λv u l x y m n o p q=>c a b Y l Z m x y v u Q n o p q<|i _ _
def gf(K:aa):R2:=λx y H Q=>∃p a i v,x=.ref p/\y=.int i/\qX K H p a/\qo a i=!v/\Q v H
def ge(K:aa):R2:=λx y H Q=>∃p a i v,x=.ref p/\y=.int i/\yn K H p a/\qo a i=!v/\Q v H
def se:R2:=λx y H Q=>∃z i c,x=.str z/\y=.int i/\⇑z<=00/\qo z.cps.toList i=!c/\Q (.str ⟨#[c]⟩) H
def db:wg X (gf X.K):=by
 intro b c Y s Z H x y v u Q I o A h g;let(p J i z,rfl,rfl,B,C,q):=h;cases o;let(t,rfl):=A;let(-d,r,pl,L):=I.list B;let(-j,l,E,M,F,G):=Ch C;let(-w,m,e):=r.get E;let N:=⇑r;let O:=XJ;let a:EP X Y Z Q w s:=(z,H,I,e,q);cases n:0<=i
 .let f:i.toNat=j:=by
   rw[seqIndex_of n G]at l
   ext
  rw[item_listR pl.isList n () (by rw[f,];simpa using m) a g]
 .let f:(i+(d.toArray.size:3)).toNat=j:=by
   rw[seqIndex_neg () F]at l
   ext
  rw[subscriptTail_builtinR pl.isList.typeIs slot_list_getitem.lookup
   (wpAny_getItem_list_neg pl.isList () () () (by rw[f,];simpa using m) (9,a)) g]
def dJ:wg X (ge X.K):=by
 intro a b Y s Z H x y v u Q I e f h g;let(p B i z,rfl,rfl,l,m,q):=h;cases e;let(t,rfl):=f;let(-n,r,pl,C):=I.tuple l;let(-j,E,o,F,G,J):=Ch m;let(-w,A,c):=r.get o;let L:=⇑r;let M:=XJ;let d:EP X Y Z Q w s:=(z,H,I,c,q);rw[subscriptTail_builtinR pl.typeIs slot_tuple_getitem.lookup
  (getItem_tuple (j:=j) pl () () () (by simpa using A) (9,d)) g]
def cm(K:aa):R2:=λx y H Q=>gf K x y H Q\/ge K x y H Q\/se x y H Q
def Mr:wg X (cm X.K):=db.or<|dJ.or<|by
 intro a b Y s Z H x y v u Q I e f h g;let(z i c,rfl,rfl,r,l,q):=h;let(t,rfl):=e;let(w,rfl):=f;let(-j,d,m,A,n,o):=Ch l;let p:⇑z.cps.toList=⇑z:=by rfl
 rw[p]at d n o;let B:=XJ;rw[tail_any (typeIs_str s z t) slot_str_getitem.lookup (getItem_str (by
  grind) (by rw[d,];simpa using m) (.str ⟨#[c]⟩,H,I.tok _,(_,9),q)) g]
def Ms(a:Yd)(n j)(u):Obj.mapSeq (·.setIfInBounds j u) {cls:=.type "list",data:=.seq a.toArray n}={cls:=.type "list",data:=.seq (a.set j u).toArray n}:=by
 simp[Obj.mapSeq]
theorem Inv.lst {Z:St}    (I:Inv X Y Z H s)(h:H p=! .lst xs):
 ∃(a:Yd)(n:5),j4 xs a/\↥s p=!{cls:=.type "list",data:=.seq a.toArray n}/\⇑xs<=00:=by
 let(z,a,n,r,e):=I.hok p _ h;rw[(a,n,r,e,z)]
def Inv.lstUpd {Z:St}    {c a:Yd}  (I:Inv X Y Z H s)(h:H p=! .lst y)
 (l:↥s p=!{cls:=.type "list",data:=.seq c.toArray n})(g:f {cls:=.type "list",data:=.seq c.toArray n}={cls:=.type "list",data:=.seq a.toArray i})(r:j4 j a)(o:⇑j<=00)(t):
 Inv X Y Z (upd H p<|.lst j) {s with heap:=s.heap.update p f,toks:=t}:=by
 let e:(s.heap.update p f).get? p=!{cls:=.type "list",data:=.seq a.toArray i}:=by
  rw[Heap.get?_update_self f l (by rw[g,]<;>rfl),g]
 rw[I.write (by rw[h,];trivial) (.inl 9) (λb u v q=>(Heap.get?_update_other _ _<|Ne.symm v).trans q) (_,e) (o,a,i,r,e)]
def gd:V->V->V->Hp->(Hp->4)->4:=λo i v H Q=>∃p a k j,o=.ref p/\i=.int k/\H p=! .lst a/\zm ⇑a k=!j/\Q (upd H p<|.lst<|a.set j v)
def Mt:tJ X gd:=by
 intro Y s Z H o i v E F u Q I y ri z h;let(p A k j,rfl,rfl,f,B,q):=h;cases y;let(t,rfl):=ri;let(a n,r,c,C):=I.lst f;let(!b,G,g,l):=ES B;let d:=⇑r;let J:=XJ;let m:Inv X Y Z (upd H p<|.lst<|A.set j v) {s with heap:=s.heap.update p (Obj.mapSeq (·.setIfInBounds j u))}:=
  I.lstUpd f c (Ms a n j u) (r.set z j) (by rw[Uh,];rw[C]) s.toks
 cases w:0<=k
 .let e:k.toNat=j:=by
   rw[seqIndex_of w l]at b;rw[Zqi b]
  rw[W.ki_setAt c w () (by rw[Zm,<-d];rw[l])<|by rw[e,];rw[(_,m,q)]]
 .let e:(k+(a.toArray.size:3)).toNat=j:=by
   rw[seqIndex_neg () g]at b;rw[Zm,<-d];rw[Zqi b]
  rw[W.ki_setBack c () (by rw[Zm,<-d];rw[g]) ()<|by rw[e,];rw[(_,m,q)]]
def Mu:qu X (.builtin "len") λe H Q=>∃p a,e=[.ref p]/\(qX X.K H p a\/yn X.K H p a)/\Q (.int ⇑a) H:=by
 intro Y s Z H e i Q I r h;let(p a,rfl,hq,q):=h;let(-u,rfl,f):=Kg r;cases f;let j:=XJ;obtain hq|hq:=hq
 .let(c,d,pl,g):=I.list hq;let b:=⇑d;rw[Calls.call_len_list pl.isList () (.int ⇑a,H,I.tok _,(s.toks+1,()),q)]
 .let(c,d,pl,g):=I.tuple hq;let b:=⇑d;rw[len_tuple pl () (.int ⇑a,H,I.tok _,(s.toks+1,()),q)]
def Mv:qu X (.builtin "len") λa H Q=>∃z,a=[.str z]/\⇑z<=00/\Q (.int ⇑z) H:=by
 intro Y s Z H a b Q I r h;let(z,rfl,c,q):=h;let(-u,rfl,(t,rfl)):=Kg r;let d:=XJ;rw[len_str () (.int ⇑z,H,I.tok _,(_,9),q)]
def qu.or  (h:qu X f r)(e:qu X f g):qu X f λa H Q=>r a H Q\/g a H Q:=by
 intro Y s Z H a b Q I c q;obtain q|q:=q
 .rw[h Y s Z H a b Q I c q]
 .rw[e Y s Z H a b Q I c q]
def ET:qu X (.type "list") λz H Q=>∃p d,z=[.ref p]/\(qX X.K H p d\/yn X.K H p d)/\∀l,H l=8->Q (.ref l) (upd H l<|.lst d):=by
 intro Y s Z H z C Q I r h;let(p d,rfl,hq,q):=h;let(-u,rfl,B):=Kg r;cases B;let i:∀a,j4 d a->⇑d<=00->∀c f,(∀b A,↥s b=!A->c.get? b=!A)->
  c.get? s⁻¹=!{cls:=.type "list",dict:=8,data:=.seq a.toArray f,slots:=#[]}->EP X Y Z Q (.ref s⁻¹) {s with heap:=c}:=λa g j c f m e=>
  (.ref s⁻¹,_,I.laid m (Zf _)<|show yd X.prog X.w _ c _ (.lst d)from(j,a,f,g,e),9,q _<|I.hok.fresh<|Zf _)
 obtain hq|hq:=hq
 .let(a,g,pl,j):=I.list hq;let t:=⇑g;let(o,v,w,n,y):=pl.isList;rw[call_list_seq p (.inl 9) v w y (λc f m e=>i a g j c f m e)<|by simp<;>lia]
 .let(a,g,pl,j):=I.tuple hq;let t:=⇑g;let(o,v,w,n,y):=pl;rw[call_list_seq p (.inr 9) v w y (λc f m e=>i a g j c f m e)<|by simp<;>lia]
def Mw:qu X (.type "tuple") λi H Q=>∃p c,i=[.ref p]/\((qX X.K H p c/\∀l,H l=8->Q (.ref l) (upd H l<|.tup c))\/yn X.K H p c/\Q (.ref p) H):=by
 intro Y s Z H i y Q I r h;let(p,c,rfl,h):=h;let(-u,rfl,t):=Kg r;cases t;obtain⟨f,q⟩|⟨f,q⟩:=h
 .let(-a,g,pl,j):=I.list f;let m:=⇑g;rw[call_tuple_list pl.isList (λd v=>?_) ()];let n:Inv X Y Z H {s with heap:=d}:=I.kept v;let w:Inv X Y Z (upd H d.objs.size<|.tup c) {s with heap:=d.push {cls:=.type "tuple",data:=.seq a.toArray}}:=
   n.laid (λb o e=>Zq _ e) (Zf _)<|((j,(_,Zr _ 9,9)),a,g,IsTup.new _ _)
  rw[(.ref d.objs.size,_,w,9,q _<|n.hok.fresh<|Zf _)]
 .let(-a,g,pl,j):=I.tuple f;rw[call_tuple_same pl (.ref p,H,I,9,q)]
def ro(K:aa)(T:String)(x:V)(H:Hp):4:=match x with
 |.str _=>T="str"
 |.int _=>T="int"
 |.ref p=>(T="list"/\∃b,qX K H p b)\/(T="tuple"/\∃o,K.lookup p=!o/\o.cls=.type "tuple"/\o.dict=8)\/
  T="dict"/\((∃a,H p=! .dK a)\/∃a,H p=! .dT a)\/T="set"/\∃S n,H p=! .set S n
 |_=>False
def EU {Z:St}     (I:Inv X Y Z H s)(r:jz x v)(d:ro X.K T x H):
 s.TypeIs v T/\∀a,v=.ref a->∃j,↥s a=!j/\j.dict=8:=by
 cases(x)with
 |str z=>
  let(t,rfl):=r;cases d;rw[(typeIs_str s z t,λ_ e=>nomatch e)]
 |int i=>
  let(t,rfl):=r;cases d;rw[(typeIs_int s i t,λ_ e=>nomatch e)]
 |ref p=>
  cases r;obtain⟨rfl,w,l⟩|⟨rfl,o,b,m,f⟩|⟨rfl,b⟩|⟨rfl,S,n,b⟩:=d
  .let(-u,_,pl,_):=I.list l;rw[(pl.isList.typeIs,λa e=>?_)];cases e;let(o n,e,c,f,_):=pl;rw[(o,e,f)]
  .rw[((o,I.kIn p o b,m),λa e=>?_)];cases e;rw[(o,I.kIn _ o b,f)]
  .let z:∃o,↥s p=!o/\o.ExactDict:=by
    obtain⟨g,b⟩|⟨g,b⟩:=b
    .let(_,_,_,_,o,_,_,e,ex,_):=I.hok p _ b;rw[(o,e,ex)]
    .let(!_,_,(_,_,o,_,_,e,ex,_)):=I.hok p _ b;rw[(o,e,ex)]
   let(o,e,ex):=z;rw[((o,e,ex.1),λa h=>?_)];cases h;rw[(o,e,ex.2.1)]
  .let(o _ _ _,e,ex,_):=I.hok p _ b;rw[((o,e,ex.1),λa h=>?_)];cases h;rw[(o,e,ex.2.1)]
 |_=>rw[False.elim d]
def kM(K:aa)(T:String)(r:V->Yp->Hp->VK->4)(b:TE):TE:=λZ H Q=>b Z H λx a=>ro K T x a/\r x [] a Q
def uX(K:aa)(T:String)(r:V->Yp->Hp->VK->4)(b:TE)(t:TA):TE:=λZ H Q=>b Z H λx a=>ro K T x a/\t Z a λc d=>r x c d Q
variable       {T id:String}
def Mx(j:PlainAttrs T)(c:Slot T name id)(f:typeOf (.builtin id)=pure (.type "method_descriptor"))(l:ms X id r)(m:PE X o n)
 (a:attributeBase o name X.env (eval o X.env)=eval o X.env:=by rfl)(b:(d.endLine==e.line)=6:=by rfl):PE X (.Call (.Attribute o name d) [] [] e) (kM X.K T r n):=by
 intro Y s Z H Q I h;rw[wpAny_Call_method0_late a b<|jF (m Y s Z H _ I h) λv p=>jy λx t=>yh λg i u w=>?_];let(y,z):=EU g i u;rw[xh T id (j,c,f,y,z,Calls.callWith_builtin 9<|PySem.evalArgs_none<|l Y p Z t x [] v [] Q g i .nil w)]
def Q4(u:PlainAttrs T)(g:Slot T name id)(l:typeOf (.builtin id)=pure (.type "method_descriptor"))(w:ms X id r)(y:PE X o z)(A:PA X (e::c) t)
 (d:attributeBase o name X.env (eval o X.env)=eval o X.env:=by rfl)
 (i:((backTo a<|01 (e::c) X.env).all (λx=>not<|x.1)&&(backToKw a<|keywordEach [] X.env).all (λx=>x.1.isSome)
  &&decide (⇑(e::c)+⇑([]:List Keyword)+(if([]:List Keyword).isEmpty then 0 else 1)<30))=6:=by rfl)
 (f:(j.endLine==a.line)=6:=by rfl)(B:01 (e::c) X.env=%[7|eval e X.env]::01 c X.env:=by rfl)(b:(backTo a<|01 c X.env).any (·.1)=7:=by rfl):
 PE X (.Call (.Attribute o name j) (e::c) [] a) (uX X.K T r z t):=by
 intro Y s Z H Q I h;rw[wpAny_Call_method_late d i f 9<|jF (y Y s Z H _ I h) λv C=>jy λx E=>yh λm n F G=>?_];let(J,L):=EU m n F;rw[(T,id,u,g,l,J,L,?_)];let p:=A a Y C Z E _ m G;rw[B]at p ⊢;rw[Calls.callWith_builtin (by show(7||(backTo a<|01 c X.env).any (·.1))=7;rw[b,]<;>rfl)<|Calls.evalArgs_plain<|jF p λM N=>jy λO P=>j5 λR S U=>w Y N Z P x O v M Q R n S U]
end
def dB(X:Cx)(id:String)(r:V->Yp->Hp->VK->4):4:=
 ∀(Y:Yb)(s:Shared)(Z:St)(H:Hp)(x:V)(a:Yp)(v:Value)(b:Yd)(Q:VK),Inv X Y Z H s->jz x v->j4 a b->r x a H Q->
  Ys X (call (.builtin id)<|v::b) (EP X Y Z Q) X.xe s
def j4.one:∀{x:V}{a:Yd},j4 [x] a->∃u,a=[u]/\jz x u:=λh=>by
 cases h with
 |cons r t=>cases t;rw[(_,9,r)]
def j4.two:∀{x y:V}{a:Yd},j4 [x,y] a->∃u v,a=[u,v]/\jz x u/\jz y v:=λh=>by
 cases h with
 |cons r t=>
  cases t with
  |cons b t=>cases t;rw[(_,_,9,r,b)]
def wd:∀{a:Yd},j4 [] a->a=[]
 |_,.nil=>9
section
variable   {Z: St}
def Inv.lset{b a:Yd}   (I:Inv X Y Z H s)(g:H l=! .lst v)
 (e:↥s l=!{cls:=.type "list",data:=.seq b.toArray n})(i:f b.toArray=a.toArray)(j:j4 c a)(o:⇑c<=00):
 Inv X Y Z (upd H l<|.lst c) {s with heap:=s.heap.update l (Obj.mapSeq f),toks:=y}:=by
 let q:=PySem.IsL.update e f;rw[i]at q;rw[I.write (by rw[g,];rw[trivial]) (.inl 9) (λz u p r=>(Heap.get?_update_other s.heap (Obj.mapSeq f)<|Ne.symm p).trans r) (_,q) (o,a,_,j,q)]
def Inv.lnew  (I:Inv X Y Z H s)(c:j4 b a)(e:⇑b<=00):
 Inv X Y Z (upd H s⁻¹<|.lst b) {s with heap:=s.heap.push {cls:=.type "list",data:=.seq a.toArray},toks:=f}:=
 I.laid (λ_ _ q=>Zq _ q) (Zf _) (e,a,0,c,Zr _ 9)
theorem Inv.fresh(I:Inv X Y Z H s):H s⁻¹=8:=I.hok.fresh<|Zf _
def Inv.lstM(I:Inv X Y Z H s)(c:H l=! .lst b):⇑b<=00/\∃(a:Yd)(n:5),j4 b a/\⇑b=⇑a/\↥s l=!{cls:=.type "list",data:=.seq a.toArray n}:=have(z,a,n,r,e):=I.hok l _ c;(z,a,n,r,⇑r,e)
end
def Cj:V->Yp->Hp->VK->4:=λx b H Q=>∃l a y,x=.ref l/\b=[y]/\H l=! .lst a/\⇑a<00/\Q .non (upd H l<|.lst<|a++[y])
def Kt:dB X "list.append" Cj:=by
 intro Y s Z H x g v i Q I c d h;let(l j y,rfl,rfl,b,m,q):=h;cases c;let(-u,rfl,f):=d.one;let(z,a,n,r,o,e):=I.lstM b;rw[call_meets F.slot_list_append (_,e,9) F.entry_list_append (F.args_list_append_2 _ _) (PySem.list_append l a.toArray n u ()) (e,(.non,_,I.lset b e () (r.append<|.cons f .nil) ?_,9,q))]
 grind
set_option maxRecDepth 100000 in
section
variable {κ: Type}[DecidableEq κ]
def q9(a:List (κ × V))(k:κ):02 V:=(a.find? λb=>decide<|b.1=k).map (·.2)
def xJ(a:List (κ × V))(k:κ)(v:V):List (κ × V):=
 if a.any λb=>decide<|b.1=k=6 then a.map λb=>if b.1=k then%[b.1|v]else b else a++[%[k|v]]
def Ck  {k:κ}(e:p.1=k):q9 (p::r) k=!p.2:=by simp[q9,e]
def Cm  {k:κ}(e:¬p.1=k):q9 (p::r) k=q9 r k:=by simp[q9,e]
theorem EV(k):∀a:List (κ × V),a.any λb=>decide<|b.1=k=(q9 a k).isSome
 |[]=>9
 |p::r=>by
  rw[List.any_cons,];cases e:p.1=k
  .simp[Ck e,Zp e]
  .rw[Cm e,Zo e,Bool.false_or];rw[EV k r]
def Cn(a:List (κ × V))(k)(v):⇑(xJ a k v)<=⇑a+1:=by
 grind[xJ,Zql,List.length_append,List.length_cons,List.length_nil]
def ya.isSome_eq  (r:ya o u):o.isSome=u.isSome:=by
 cases(o)with
 |none=>cases(u)with
  |none=>rfl
  |some _=>rw[(r).elim]
 |some _=>cases(u)with
  |none=>rw[(r).elim]
  |some _=>rfl
theorem ya.getD    (r:ya o u)(a:jz d b):jz (o.getD d) (u.getD b):=by
 cases(o)with
 |none=>cases(u)with
  |none=>rw[a]
  |some _=>rw[(r).elim]
 |some _=>cases(u)with
  |none=>rw[(r).elim]
  |some _=>rw[r]
def KV.val  (r:KV a i)(k:κ):ya (q9 a k) (valueAt i k):=by
 unfold KV at r
 cases(r)with
 |nil=>rw[True.intro]
 |@cons p q n c h t j=>
  let(g,l):=h;cases e:p.1=k
  .let f:q.1=k:=g.symm.trans e;let b:valueAt (q::c) k=!q.2:=by simp[valueAt,UX,f]
   rw[Ck e,b];rw[l]
  .let f:¬q.1=k:=λz=>e<|g.trans z;let b:valueAt (q::c) k=valueAt c k:=by simp[valueAt,UX,f]
   rw[Cm e,b];rw[j]
theorem KV.any {c:List (κ × Value)}(r:KV a c)(k):a.any λb=>decide<|b.1=k=c.any λb=>decide<|b.1=k:=by
 cases(r)with
 |nil=>rfl
 |cons h t e=>ext
def KV.repl {c:List (κ × Value)}(r:KV b c)(k)  (f:jz y u):
 KV (b.map λa=>if a.1=k then%[a.1|y]else a) (c.map λa=>if a.1=k then%[a.1|u]else a):=by
 cases(r)with
 |nil=>rw[.nil]
 |@cons p q g i h t e=>
  rw[.cons ?_ e]
  grind
def KV.put {a:List (κ × Value)}(r:KV b a)(k)  (c:jz y u):KV (xJ b k y) (stored a k u):=by
 ext xJ stored;rw[r.any k,];cases e:a.any λf=>decide<|f.1=k=6
 .rw[Zd e,Zd e];rw[r.repl k c]
 .rw[Ze e,Ze e];rw[Paired.snoc r (9,c)]
theorem KV.length {b:List (κ × Value)}(r:KV a b):⇑a=⇑b:=Paired.length r
end
def W2    (r:jz (kV k) u):(QM P w).is k u=6:=by
 cases(k)with
 |inl i=>let(t,e):=show ∃t,u=Value.int i t from r;subst e;rw[L0 i t]
 |inr x=>let(t,e):=show ∃t,u=Value.str x t from r;subst e;rw[L1 x t]
theorem EW  :∀{a:List jR}{b:Yd},j4 (a.map kV) b->ItemsAre (QM P w) a b
 |[],_,r=>by cases r;rw[.nil]
 |k::a,_,r=>by
  cases r with
  |cons h t=>rw[.cons (W2 h)<|EW t]
abbrev KT(H:Hp):List (List jR×V)->List (List jR×Addr×Value)->4:=Paired λp q=>p.1=q.1/\H q.2.1=!(.tup<|p.1.map kV)/\jz p.2 q.2.2
def KT.val   (r:KT H a i)(k:List jR):ya (q9 a k) ((atKey i k).map (·.2)):=by
 cases(r)with
 |nil=>rw[True.intro]
 |@cons p q n c h t j=>
  let(!g,_,l):=h;cases e:p.1=k
  .let f:q.1=k:=g.symm.trans e;let b:atKey (q::c) k=!q.2:=by simp[atKey,UX,f]
   rw[Ck e,b];rw[l]
  .let f:¬q.1=k:=λz=>e<|g.trans z;let b:atKey (q::c) k=atKey c k:=by simp[atKey,UX,f]
   rw[Cm e,b];rw[j]
def KT.repl   (r:KT H b g)(k:List jR)  (i:jz y u):
 KT H (b.map λc=>if c.1=k then%[c.1|y]else c) (g.map<|putAt k u):=by
 cases(r)with
 |nil=>rw[.nil]
 |@cons p q n o h t j=>
  rw[Zl,Zl];rw[.cons ?_ j];let(!a,f,l):=h;ext putAt;cases e:p.1=k
  .rw[Zd e,Zd (a.symm.trans e)];rw[(a,f,i)]
  .rw[Ze e,Ze λz=>e<|a.trans z];rw[(a,f,l)]
def KT.put   (r:KT H a c)(k)   (g:H b=!(.tup<|k.map kV))(f:jz y u):
 KT H (xJ a k y) (storedH c k b u):=by
 let e:a.any λi=>decide<|i.1=k=(atKey c k).isSome:=by
  rw[EV,(r.val k).isSome_eq,Vg]
 ext xJ storedH;rw[e,];cases q:(atKey c k).isSome=6
 .rw[Zd q,Zd q];rw[r.repl k f]
 .rw[Ze q,Ze q];rw[Paired.snoc r (9,g,f)]
def KT.keeps   (r:KT H a e)(g:∀b c,H b=! .tup c->f b=! .tup c):KT f a e:=
 yu r ()
def EX (ok:xy P w H h)(e:Rd H a u):yd P w H h a u:=e.ok ok
def W3 (ok:xy P w H h)(e:Rd H a (.dK b)):⇑b<=00/\(a==sysModules)=7/\∃c,KV b c/\h.DictOf (QM P w) a c:=
 EX ok e
def A6 (ok:xy P w H h)(e:H a=! .dK b):⇑b<=00/\(a==sysModules)=7/\∃c,KV b c/\h.DictOf (QM P w) a c:=W3 ok<|.inl e
def XM (ok:xy P w H h)(e:H a=!(.tup<|c.map kV)):(tupleKind<|QM P w).is h c a:=by
 let(_,b,r,o,d,f,n,g):=show yd P w H h a (.tup<|c.map kV)from ok a _ e;rw[jh o b.toArray n (d,f,g,by simpa using EW r)]
def Xk (ok:xy P w H h)(e:Rd H a (.dT b)):⇑b<=00/\(a==sysModules)=7/\
 ∃c,KT H b c/\h.DictOfH (tupleKind<|QM P w) a c:=by
 let(!z,y,(c,r,o,f,g,i,j,n,s,u)):=show yd P w H h a (.dT b)from EX ok e;rw[(z,y,c,r,o,f,g,i,j,n,s,λx hx=>?_,u)];let all:∀{l:List (List jR×V)}{m:List (List jR×Addr×Value)},KT H l m->∀x∈m,(tupleKind<|QM P w).is h x.1 x.2.1:=by
  intro l m q
  cases(q)with
  |nil=>intro x hx;rw[nomatch hx]
  |@cons p q A B d t v=>
   intro x hx;obtain e|hx:=Ux.mp hx
   .subst e;rw[XM ok<|by rw[<-d.1];rw[d.2.1]]
   .rw[v x hx]
 rw[all r x hx]
def bF (ok:xy P w H h)(e:H a=! .dT b):⇑b<=00/\(a==sysModules)=7/\
 ∃c,KT H b c/\h.DictOfH (tupleKind<|QM P w) a c:=Xk ok<|.inl e
def yo(H:Hp)(a:Addr)(y:V)(r:02 V):4:=
 (∃c k,Rd H a (.dK c)/\y=kV k/\r=q9 c k)\/∃c k b,Rd H a (.dT c)/\y=.ref b/\H b=!(.tup<|k.map kV)/\r=q9 c k
def wS(H:Hp)(a:Addr)(y v:V)(d:Hp):4:=
 (∃c k,H a=! .dK c/\y=kV k/\⇑c<00/\d=upd H a (.dK<|xJ c k v))\/
 ∃c k b,H a=! .dT c/\y=.ref b/\H b=!(.tup<|k.map kV)/\⇑c<00/\d=upd H a (.dT<|xJ c k v)
theorem yo.k   {k:jR}(e:H a=! .dK b):yo H a (kV k) (q9 b k):=.inl (b,k,.inl e,9,9)
theorem wS.k   {k:jR} (e:H a=! .dK b)(c:⇑b<00):wS H a (kV k) v (upd H a<|.dK<|xJ b k v):=.inl (b,k,e,9,c,9)
section
variable   {Z: St}
def Inv.big(I:Inv X Y Z H s):sysModules<s⁻¹:=have h:=(I.mod.glob.keeps I.bk).lt;UO (by decide) h
def Mz (w:A.units+1<cLine)(I:Inv X Y Z H s)(g:yo H a y !v)(r:jz y u)(h:∀f t,Inv X Y Z H t->jz v f->Q f t):
 wpAny (model X.prog X.w) A (getItem (.ref a) u) Q E s:=by
 obtain⟨i,k,e,j,l⟩|⟨i,k,b,e,j,B,l⟩:=g
 .subst j;let(!z,C,(G,c,m)):=W3 I.hok e;let(f,n,d):=qZ (by rw[l,];rw[c.val k]);rw[wpAny_getItem_of (W2 r) m.mapOf n<|h f _ (I.tok _) d]
 .subst j;cases r;let(!z,C,(J,c,m)):=Xk I.hok e;let(-f,n,d):=qZ (by rw[l,];rw[c.val k]);let(-p,F,o):=Jj.mp n;rw[wpAny_getItem_heap (tupleKind_room_in1 w) (XM I.hok B) m F ?_];rw[o,];rw[h f _ (I.tok _) d]
def t4 (p:A.units+1<cLine)(I:Inv X Y Z H s)(g:yo H a y o)(m:jz y u)(h:∀n,Inv X Y Z H n->Q (.bool o.isSome) n):
 wpAny (model X.prog X.w) A (compareOp .In u<|.ref a) Q E s:=by
 obtain⟨d,k,e,f,l⟩|⟨d,k,b,e,f,r,l⟩:=g
 .subst f;let(!z,i,(t,c,j)):=W3 I.hok e;rw[wpAny_in_of (W2 m) i j.mapOf ?_];rw[<-(c.val k).isSome_eq,<-l];rw[h _<|I.tok _]
 .subst f;cases show u=Value.ref b from m;let(!z,i,(v,c,j)):=Xk I.hok e;rw[wpAny_in_heap (tupleKind_room_in1 p) (XM I.hok r) i j ?_];let q:=(c.val k).isSome_eq;rw[Vg]at q;rw[<-q,<-l];rw[h _<|I.tok _]
def M0 (p:A.units+1<cLine)(I:Inv X Y Z H s)(g:yo H a y o)(m:jz y u)(h:∀n,Inv X Y Z H n->Q (.bool<|not o.isSome) n):
 wpAny (model X.prog X.w) A (compareOp .NotIn u<|.ref a) Q E s:=by
 obtain⟨d,k,e,f,l⟩|⟨d,k,b,e,f,r,l⟩:=g
 .subst f;let(!z,i,(t,c,j)):=W3 I.hok e;rw[wpAny_notIn_of (W2 m) i j.mapOf ?_];rw[<-(c.val k).isSome_eq,<-l];rw[h _<|I.tok _]
 .subst f;cases m;let(!z,i,(v,c,j)):=Xk I.hok e;rw[wpAny_notIn_heap (tupleKind_room_in1 p) (XM I.hok r) i j ?_];let q:=(c.val k).isSome_eq;rw[Vg]at q;rw[<-q,<-l];rw[h _<|I.tok _]
def Co   (I:Inv X Y Z H s)(e:mq (H a))(f:Heap.SameBut a s.heap c)(g:∃q,c.get? a=!q)(new:yd X.prog X.w (upd H a d) c a d):
 Inv X Y Z (upd H a d) {s with heap:=c,toks:=i}:=
 I.write e (.inl 9) (λb q h z=>(f.2 b h).trans z) g new
def EY      (z:⇑b<=00)(e:(a==sysModules)=7)(c:KV b d)(f:g.DictOf (QM P w) a d):
 yd P w h g a (.dK b):=(z,e,d,c,f)
def M2  (M:A.units+1<cLine)(I:Inv X Y Z H s)(g:wS H a y v N)(C:jz y u)(F:jz v r)(h:∀G,Inv X Y Z N G->Q Yj G):
 wpAny (model X.prog X.w) A (setItem (.ref a) u r) Q E s:=by
 obtain⟨d,k,e,m,l,n⟩|⟨d,k,b,e,m,J,l,n⟩:=g
 .subst m n;let(!z,o,(O,f,p)):=A6 I.hok e;let t:⇑O<=00:=by rwa[<-⇑f]
  let w:⇑(xJ d k v)<=00:=by let:=Cn d k v;lia
  rw[wpAny_setItem_pairs (hsz:=t) (W2 C) p λL i B=>h _ ?_];let P:∃q,L.get? a=!q:=uv i λq _ _=>jD λj _=>(q,j);rw[Co I (by rw[e,];rw[True.intro]) B P<|EY w o (f.put k F) i]
 .subst m n;cases C;let(!z,o,(R,f,p)):=bF I.hok e;let t:⇑R<=00:=by rwa[<-Paired.length f]
  let w:⇑(xJ d k v)<=00:=by let:=Cn d k v;lia
  rw[wpAny_setItem_heap (hsz:=t) (tupleKind_room_in1 M) (XM I.hok J) p λL i B=>h _ ?_];let(q S T,j,U,h3,h4,_,h5):=i;rw[Co I (by rw[e,];rw[True.intro]) B (q,j) (w,o,_,(f.put k J F).keeps λc ys ec=>?_,q,S,T,j,U,h3,h4,h5)]
  rwa[J6 (),]
end
section
variable   {Z: St}
def bK (I:Inv X Y Z H s)(e:Rd H a (.dK c))(h:∀t d,Inv X Y Z H d->Q (.int ⇑c t) d):wpAny (model X.prog X.w) A (call (.builtin "len") [.ref a]) Q E s:=by
 let(!z,f,(i,b,g)):=W3 I.hok e;rw[call_len_dict f g (by rw[<-⇑b];rw[sizeLine_eq]at z;lia) ?_];rw[<-⇑b];rw[h _ _<|I.tok _]
end
def uO(i:Expr):4:=∀a b,subscripted i 7 a b=operate [a,b] (getItem a b)
def M3        {T id:String}
 (g:typeLookup (.type T) "__getitem__"=pure ! .builtin id)(j:uO b)
 (h:Yt a w A (eval c e) (λo s₁=>Yt a w A (eval b e) (λi s₂=>s₂.TypeIs o T/\Yt a w A (getItem o i) Q E s₂) E s₁) E s):
 Yt a w A (eval (.Subscript c b l) e) Q E s:=by
 rw[Subscript_<|Zc h (λo s₁ h₁=>Zc h₁ (λi s₂ h₂=>?_) λ_ _ x=>x) λ_ _ x=>x];let(f,h₂):=h₂;ext subscriptTail;rw[Za ?_];rw[getitemInPython_of_ne f.not_modules,];rw[Za<|wpAny_specialOf f g ?_];let d:Yt a w A (subscripted b 7 o i) (λr s₃=>Yt a w A (letTemporaryGo c o r>>=λ_=>pure r) Q E s₃) E s₂:=by
  rw[j o i,];rw[wpAny_operating<|Zc h₂ (λr s₃ h₃=>Za<|wpAny_letTemporaryGo<|Zb h₃) λ_ _ x=>x]
 first
  |rw[Zb<|Za d]
  |rw[Za<|Zb<|Za d]
  |rw[Za d]
def kL(c d:TE):TE:=λZ H Q=>c Z H λx e=>d Z e λy b=>∃a v,x=.ref a/\yo b a y !v/\Q v b
def rK(c d:TE):TE:=λZ H Q=>c Z H λy e=>d Z e λx b=>∃a o,x=.ref a/\yo b a y o/\Q (.bl o.isSome) b
def M4(c d:TE):TE:=λZ H Q=>c Z H λy e=>d Z e λx b=>∃a o,x=.ref a/\yo b a y o/\Q (.bl<|not o.isSome) b
def kU(c d e:TE):TS:=λD Z H=>e Z H λv f=>c Z f λx g=>d Z g λy h=>∃a b,x=.ref a/\wS h a y v b/\D.nx Z b
def M5(l:X.A.units+1<cLine)(m:PE X o n)(p:PE X i r)(t:uO i):PE X (.Subscript o i w) (kL n r):=by
 intro Y s Z H Q I h;rw[M3 PySem.F.slot_dict_getitem.lookup t<|jF (m Y s Z H _ I h) λu z=>jy λx A=>j5 λB C E=>jF (p Y z Z A _ B E) λM N(y,F,c,G,a,v,ex,g,J)=>?_];subst ex;obtain rfl:=C;rw[(
  by
  obtain⟨d,k,e,_,_⟩|⟨d,k,b,e,_,_,_⟩:=g
  .let(!_,_,(O,_,f)):=W3 c.hok e;rw[f.typeIs]
  .let(!_,_,(P,_,f)):=Xk c.hok e;rw[f.typeIs],Mz l c g G λR S L j=>(v,F,L,j,J))]
def M6(b:X.A.units+1<cLine)(c:PE X i d)(e:PE X o f):PC X .In i o (rK d f):=by
 intro Y s Z H Q I h;rw[jF (c Y s Z H _ I h) λB j=>jy λy l=>j5 λm n p=>jF (e Y j Z l _ m p) λu C(x,r,t,v,a,w,ex,g,z)=>?_];subst ex;obtain rfl:u=Value.ref a:=v;rw[t4 b t g n λE A=>(.bl w.isSome,r,A,9,z)]
def EZ(b:X.A.units+1<cLine)(c:PE X i d)(e:PE X o f):PC X .NotIn i o (M4 d f):=by
 intro Y s Z H Q I h;rw[jF (c Y s Z H _ I h) λB j=>jy λy l=>j5 λm n p=>jF (e Y j Z l _ m p) λu C(x,r,t,v,a,w,ex,g,z)=>?_];subst ex;obtain rfl:=v;rw[M0 b t g n λE A=>(.bl<|not w.isSome,r,A,9,z)]
def M7(e:X.A.units+1<cLine)(f:PE X o j)(l:PE X i m)(n:PE X b p)(t:swapsWith b (! .Subscript o i c) d.line X.env=pure 7):
 PS X (.Assign [.Subscript o i c] b d) (kU j m p):=by
 intro Y s Z H D I h;rw[wpAny_Assign_Subscript (jF (n Y s Z H _ I h) λr w=>jy λv z=>j5 λA B C=>jF (f Y w Z z _ A C) λu E=>jy λx F=>j5 λG J L=>jF (l Y E Z F _ G L) λR S(y,T,M,N,a,O,ex,g,P)=>?_) t];subst ex;obtain rfl:=J;rw[M2 e M g N B λU Q=>(Z,O,Q,P)]
def M8   (h:Heap)(a:sysModules<h.objs.size):yd P w H (h.push {cls:=.type "dict",data:=.dict #[]}) h.objs.size (.dK []):=
 (Um _,beq_eq_false_iff_ne.mpr<|Ne.symm<|Zi a,[],.nil,Heap.DictOf.new h)
def rJ:TE:=λ_ H Q=>∀p,H p=8->Q (.ref p) (upd H p<|.dK [])
structure M1(X:Cx)(o:Expr)(m:Str)(apos:Pos)(e:Expr)(cpos:Pos):4 where
 base:attributeBase o m X.env (eval o X.env)=eval o X.env
 few:((backTo cpos<|01 [e] X.env).all (λx=>not<|x.1)&&(backToKw cpos<|keywordEach [] X.env).all (λx=>x.1.isSome)
  &&decide (⇑([e]:List Expr)+⇑([]:List Keyword)+(if([]:List Keyword).isEmpty then 0 else 1)<30))=6
 line:(apos.endLine==cpos.line)=6
 trees:backTo cpos (01 [e] X.env)=[%[7|eval e X.env]]
def IsD(H:Hp)(a:Addr):4:=(∃b,Rd H a (.dK b))\/∃b,Rd H a (.dT b)
def M9  {Z:St}   (I:Inv X Y Z H s)(d:IsD H a):
 s.TypeIs (.ref a) "dict"/\(∀b,Value.ref a=.ref b->∃c,↥s b=!c/\c.dict=8)/\(a==sysModules)=7:=by
 obtain⟨g,e⟩|⟨g,e⟩:=d
 .let(_,h,l,_,f):=W3 I.hok e;rw[(f.typeIs,λb q=>?_,h)];cases q;let(c _ _,i,j,_):=f;rw[(c,i,j.2.1)]
 .let(_,h,m,_,f):=Xk I.hok e;rw[(f.typeIs,λb q=>?_,h)];cases q;let(c _ _,i,j,_):=f;rw[(c,i,j.2.1)]
section
variable   {Z: St}
def MA (r:A.units+1<cLine)(I:Inv X Y Z H s)(g:yo H a y o)(m:jz y u)(h:∀n p,Inv X Y Z H p->jz (o.getD .non) n->Q n p):
 wpAny (model X.prog X.w) A (call (.builtin "dict.get") [.ref a,u]) Q E s:=by
 obtain⟨f,k,e,i,l⟩|⟨f,k,b,e,i,t,l⟩:=g
 .subst i;let(!z,j,(w,c,d)):=W3 I.hok e;rw[call_meetsIn PySem.F.slot_dict_get d.typeIs PySem.F.entry_dict_get (PySem.F.args_dict_get_2 _ _) (meets_dict_get (QM X.prog X.w) a (W2 m) j) (_,d.mapOf,h _ _ (I.tok _) ?_)];rw[l,];rw[(c.val k).getD 9]
 .subst i;cases show u=Value.ref b from m;let(!z,j,(v,c,d)):=Xk I.hok e;rw[call_meetsIn PySem.F.slot_dict_get d.typeIs PySem.F.entry_dict_get (PySem.F.args_dict_get_2 _ _) (meetsH_dict_get (tupleKind<|QM X.prog X.w) a b j) (tupleKind_room_in1 r,k,v,XM I.hok t,d,h _ _ (I.tok _) ?_)];rw[l,];rw[(c.val k).getD 9]
end
def MB(d e:TE):TE:=λZ H Q=>d Z H λx b=>∃a,x=.ref a/\IsD b a/\e Z b λy c=>∃o,yo c a y o/\Q (o.getD .non) c
def MC(j:X.A.units+1<cLine)(l:PE X o n)(p:PE X e r)(m:M1 X o "get" b e c):PE X (.Call (.Attribute o "get" b) [e] [] c) (MB n r):=by
 intro Y s Z H Q I h;rw[wpAny_Call_method m.base m.few m.line PySem.F.plainAttrs_dict PySem.F.slot_dict_get PySem.F.type_dict_get<|jF (l Y s Z H _ I h) λu t(x,v,i,w,a,ex,d,z)=>?_];subst ex;obtain rfl:u=Value.ref a:=w;let(!A,B,_):=M9 i d;rw[(A,B,?_)];rw[m.trees,];rw[Calls.callWith_builtin 9<|Calls.evalArgs_plain<|Calls.spliced_cons<|jF (p Y t Z v _ i z) λL M(y,C,E,F,N,g,G)=>Calls.spliced_nil ?_];rw[MA j E g F λO P J f=>(_,C,J,f,G)]
end L2
namespace Att
open PySem PySem.W PySem.Calls PyProof.Rows
theorem MD  :∀c d,WellAll P h d (c.map WData.int)->IntsAre d c:=by
 intro c
 cases(c)with
 |nil=>
  intro d w;cases w;rw[.nil]
 |cons n c e=>
  intro d w;cases w with
  |cons a b=>
   cases a;rw[.cons _ _<|e _ b]
def ME{l:OpenLaw} (o:l.most=!n)
 (b:l.row.toRowW.claim.pre args=6)(f:WellAll P h e args):
 ∃a i c,e=[Value.ref a]/\args=[WData.list (c.map WData.int)]/\h.get? a=!{cls:=.type "list",data:=.seq i.toArray}/\IntsAre i c/\⇑c<=n:=by
 let(d,r,rfl,p,s):=hasAllW_cons (pre_splitW b).1;obtain rfl:=hasAllW_nil s;let(w,rfl,t):=hasW_list p;let(c,rfl):=items_int t;let j:⇑c<=n:=by
  let g:(WTm.not<|.lt (.lit<|.int (n:3))<|.len<|.arg 0).holds [] {args:=[.list (c.map .int)]}=6:=by
   let g:=(holds_andW<|(pre_splitW b).2).1
   rwa[o]at g
  let y:=condW_of g 9
  ext
 cases f with
 |cons u v=>
  cases v;cases u with
  |list z m=>grind[MD]
def attach_call{l:OpenLaw}
 (L:l.most=!n)(y:d.params.defaults=[])
 (call:∀w s₀ s₁ p z h o A t b a g u,
  Ground q c [] M w s₀ p z s₁.heap->N w s₁.heap->
  ↥s₁ h=!o->o.data=.func (docDef d.name d.params d.body d.scope A t b)->s₁.heap.CodeRec t d.name->p d.name=! .ref h->
  ↥s₁ a=!{cls:=.type "list",data:=.seq g.toArray}->IntsAre g u->⇑u<=n->s₁.gens=#[]->
  codeAny (model l.prog w) callerA (.call (.ref h) ([.ref a],[])) (λr v=>r=.ok (.ret<|.bool 6)/\OldK s₁.heap v.heap/\v.os=s₁.os/\AllBare v.gens) s₁):
 WalkO q c M N l.row.toRowW d [] λf g=>PySem.call f g:=by
 intro w s₀ s₁ p z G O h o A t b dV kV P Q B F C R H I as i J S E T;obtain rfl:=Dflts.none F y;obtain rfl:=Dflts.noKw F;let(a,g,u,rfl,rfl,j,e,m):=ME L i E;rw[enter_call<|codeAny_mono (call w s₀ s₁ p z h o A t b a g u G O P (fd_plain Q) B C j e m R) λr v U=>?_];let(rfl,X,Y,Z):=U;rw[(.inl (.bool 6,.bool 6,[],9,λ_=>9,.bool 6,postW_of
  9
  (w_eq_bool (w_res 9) w_lit) 9,λ_=>(List.Pairwise.nil,λ_ hm=>nomatch hm)),X,Y,Z)]
end Att
namespace L2
def MF:∀{a:Yd}{b:Ye},IntsAre a b->j4 (b.map V.int) a:=λh=>by
 cases(h)with
 |nil=>rw[.nil]
 |cons n t _ c=>rw[.cons (t,9) c]
def uM(H:Hp):4:=∀b,H b=8\/∃o a,H b=!(.frz o<|.lst a)
def MG  {K:aa}
 (U:K.In s₁.heap)(t:s₁.heap.Ns 000 I)(f:s₁.heap.Ns builtinsNs X)(L:∀x:Str,x ≠"__name__"->X x=bootBuiltins x)(y:s₁.heap.NoLimit)(hg:s₁.gens=#[])
 (M:↥s₁ a=!{cls:=.type "list",data:=.seq A.toArray})(Y:IntsAre A J)(hl:⇑J<=00)(hr:Room k callerA)
 (F:∀g:Heap,K.In g->g.Ns 000 I->FnOk P w K I g CX k Z fd [x] sp)(p:∀s u,BindsTo s fd ([u],[]) [%[x|u]])
 (N:∀H:Hp,uM H->qX K H a (J.map V.int)->sp [.ref a] H (λv _=>v=.bl 6) λ_ _ _=>False)
 (O:∀H e i,CX [] H s₁ (λ_ _ _=>False) e i->False):
 codeAny (model P w) callerA (.call (.ref Z) ([.ref a],[])) (λr i=>r=.ok (.ret<|.bool 6)/\OldK s₁.heap i.heap/\i.os=s₁.os/\AllBare i.gens) s₁:=by
 let rv:=MF Y;let B:=⇑Y;let l:∀H:Hp,uM H->qX K H a (J.map V.int)->xy P w H s₁.heap->(∀b,H b≠8->b=a)->(H a≠8->K.lookup a=8)->
  codeAny (model P w) callerA (.call (.ref Z) ([.ref a],[])) (λr i=>r=.ok (.ret<|.bool 6)/\OldK s₁.heap i.heap/\i.os=s₁.os/\AllBare i.gens) s₁:=by
  intro H hO hS C hA hK;let c:∀{b:Addr}{o:Obj},↥s₁ b=!o->H b=8->(zU s₁.heap H).get? b=!o:=λe n=>W.hideAll_get _ e λQ=>by
   let q:=(List.mem_filter.mp Q).2
   ext
  let R:∀{b:Addr}{o:Obj}{S:Array DictEntry}{T:5},↥s₁ b=!o->o.data=.dict S T->H b=8:=by grind
  let j:∀{b:Addr}{m:Yc},s₁.heap.Ns b m->(zU s₁.heap H).Ns b m:=λ{b m}(o,S,T,e,d,r)=>jh o S T (c e<|R e d,d,r);let E:K.In (zU s₁.heap H):=λb o e=>c (U b o e)<|by
   grind
  let hM:Mod K I (zU s₁.heap H):=(E,j t,(X,j f,L),yg y λmc=>jD λh1 h2=>(mc,j h1,h2));let e0:Env0 P w K I (zU s₁.heap H) callerA [] s₁ H:=(9,hM,λb o e=>by
   let e':=W.of_hideAll (trk s₁.heap H) e;rw[(e',?_)]
   induction q:H b with
   |none=>rfl
   |some x=>
    let Q:b∈trk s₁.heap H:=List.mem_filter.mpr (Jl.mpr<|Zk e',by simp[q]);let z:(zU s₁.heap H).get? b=8:=W.hideAll_none (trk s₁.heap H) Q
    simp_all,Yk<|W.hideAll_size _ _,trivial,λb f=>Zn (show b∈([]:Yh)from f) (),C,.of_eq hg)
  rw[codeAny_mono ((F _ E<|j t).run callerA [] s₁ H ([.ref a],[]) [.ref a] [.ref a] _ _ hr e0 (p s₁<|.ref a) (.cons 9 .nil)<|N H hO hS) λr i h=>?_]
  cases(r)with
  |error e=>rw[(O H e i h).elim]
  |ok fl=>
   cases(fl)with
   |next=>rw[False.elim h]
   |brk=>rw[False.elim h]
   |cont=>rw[False.elim h]
   |ret u=>
    let(v H',os,bare,un,G,r',q):=h;let q':v=.bl 6:=q;subst q';obtain rfl:=r';rw[(9,OldK.of_keep λb o e=>?_,os,bare)]
    induction q:H b with
    |none=>rw[un.keep b o e q (λz=>Zn (show b∈([]:Yh)from z) ()) ()]
    |some u=>
     obtain z|⟨ob,xs,z⟩:=hO b
     .rw[q]at z;cases z
     .let(e1,_):=C b _ z;let(e2,_):=G b _ (un.frzs b ob _ z);rw[e]at e1;cases e1;rw[e2]
 induction hk:K.lookup a with
 |some o=>
  let e:=U a o hk;rw[M]at e;cases e;rw[l (λ_=>8) (λ_=>.inl 9) (.inr<|jh _ A.toArray _ (hk,9,9,9,by rwa[Zm,B],by simpa using rv)) (λb u z=>by let z':=z;cases z') () λz=>Zn 9 z]
 |none=>
  rw[l (λb=>if b=a then !(.frz {cls:=.type "list",data:=.seq A.toArray}<|.lst<|J.map V.int)else 8) (λb=>?_) (.inl<|.inr ({cls:=.type "list",data:=.seq A.toArray},Zd 9)) (λb u z=>?_) (λb z=>?_) λ_=>hk]
  .cases f:b=a
   .rw[by grind]
   .rw[.inl<|Ze f]
  .cases f:b=a
   .cases(Zd f).symm.trans z;subst f;rw[(M,by rwa[Zql,],A,_,rv,M)]
   .cases(Ze f).symm.trans z
  .cases f:b=a
   .rw[f]
   .rw[Zn (Ze f) z]
def walk_of{l:W.OpenLaw}      {K:Params->aa}{CX:World->uT}{sp:World->Sp}
 (L:l.most=!n)(r:n<=00)(t:d.params.defaults=[])(M:Room k callerA)
 (N:∀w h,O w h->(K w.params).In h)
 (F:∀w i m h,(K w.params).In h->h.Ns 000 i->i d.name=! .ref m->
  ∃y:FuncData,(∀s u,BindsTo s y ([u],[]) [%[x|u]])/\
   ∀b:Heap,(K w.params).In b->b.Ns 000 i->FnOk l.prog w (K w.params) i b (CX w) k m y [x] (sp w))
 (z:∀w H a(p:Ye),⇑p<=n->uM H->qX (K w.params) H a (p.map V.int)->sp w [.ref a] H (λv _=>v=.bl 6) λ_ _ _=>False)
 (A:∀w H s e B,CX w [] H s (λ_ _ _=>False) e B->False):
 W.WalkO q C Z O l.row.toRowW d [] λf I=>PySem.call f I:=by
 rw[Att.attach_call L t λw s₀ s₁ i mb m o pm cd P a I p G Q ho hd R E j g c S=>?_];let J:=N w _ Q;let(-y,T,U):=F w i m _ J G.T.g E;rw[MG J G.T.g G.T.b G.T.builtins G.T.nolimit S j g (Zh c r) M U T (λH X Y=>z w H a p c X Y) λH e B=>A w H s₁ e B]
def VN(s:Stmt)(j:5):Stmt:=match s with
 |.ClassDef _ _ _ a _ _ _ _ _ _ _=>a.getD j (.Pass (0,0,0,0))
 |_=>.Pass (0,0,0,0)
def Xl(s:Stmt):Arguments:=match s with
 |.FunctionDef _ a _ _ _ _ _ _ _ _=>a
 |_=>{posonlyargs:=[],args:=[],vararg:=8,kwonlyargs:=[],kw_defaults:=[],kwarg:=8,defaults:=[]}
def Kn(s:Stmt):List Stmt:=match s with
 |.FunctionDef _ _ b _ _ _ _ _ _ _=>b
 |_=>[]
def Qe(s:Stmt):Scope:=match s with
 |.FunctionDef _ _ _ _ _ _ a _ _ _=>a
 |_=>{kind:=.function,names:=[],isGenerator:=7,isCoroutine:=7}
abbrev yt:uT:=λ_ _ _ _ _ _=>False
abbrev E0:XK:=λ_ _ _=>False
def Cp :XL yt X E0:=λ_ _ _ _ _ _ _ h=>h.elim
structure Fun(K:aa)(x qual:Str)(st:Stmt)(f:Addr)(fd:FuncData):4 where
 ex:∃(oc:Value)(od:02 Addr)(kV doc pm:Value)(an:02 Addr)(cdv ct:Value)(osl:Array (02 Value)),
  fd=W.fnOf x qual (Xl st) (Kn st) (Qe st) .none kV doc pm an cdv ct/\K.lookup f=!(oc,od,.func fd,osl)/\W.codeIn K cdv qual=6
 kp:W.keepIn K (.ref f)=6
section
variable   {K:aa}
def Fun.ok {st:Stmt}     (F:Fun K x c st f p)(S:FnScope N n (Qe st))(len:∀e H Q E,o e H Q E->⇑e=⇑n)
 (g:∀b A a s H e Q E,Room k (A.deeper<|envOfC c (Qe st) s⁻¹ f b)->o e H Q E->
  ∃t,xR (qk yt P w K r i N c (Qe st) f b A a s H E).nox (Kn st) t/\t {nx:=λ_ u=>Q .non u,rt:=Q} (start N e) H):FnOk P w K r i yt (k+1) f p n o:=by
 let(G,I,kV,v,J,L,b,M,y,rfl,z,j):=F.ex;rw[EK z j S len λA a s H e Q E B l=>?_];let(-t,h,q):=g b A a s H e Q E B l;rw[(t,h.nox,q)]
def Fun.binds {st:Stmt}   (F:Fun K x c st f n)
 (h:∀kV a e g b i j,⇑j=⇑l->bindArgs (W.fnOf x c (Xl st) (Kn st) (Qe st) .none kV a e g b i) (j,[])=pure (l.zip j)):zH K n l []:=by
 let(r,s,kV,a,e,g,b,i,o,rfl,u,p):=F.ex;rw[.all<|h kV a e g b i]
def fun_mk {st:Stmt}    {kV d e b g:Value}(l:K.lookup f=!(j,m,.func<|W.fnOf x a (Xl st) (Kn st) (Qe st) .none kV d e i b g,h))
 (c:W.codeIn K b a=6)(k:W.keepIn K (.ref f)=6):Fun K x a st f (W.fnOf x a (Xl st) (Kn st) (Qe st) .none kV d e i b g):=(zR j m kV d e i b (g,h,9,l,c),k)
end
def Jy  (a:Room k A):A.units+1<cLine:=UP (Nat.add_le_add_left (by decide:1<=64) _) a.units
def Fa (h:n<=1000):n<00:=UP h<|by decide
section
variable {X:Cx}
def pv(i){x:Str}{d:Pos}(n:X.N[i]?=!x:=by rfl)(o:ma X.env.scope x:=by first|rw[Or.inl 9]|rw[Or.inr<|Or.inl 9]|rw[Or.inr<|Or.inr 9])(f:(x==("__debug__":Str))=7:=by decide)
 (g:(
  x==("__classdict__":Str))=7:=by decide):PE X (.Name x d) (zl i):=by
  intro Y s Z H Q I h;let(-v,e,h):=h;let(-m,p,t):=I.loc;let(-u,r,l):=t i x v n e o;let b:EP X Y Z Q u s:=(v,H,I,r,h);obtain⟨hk,w⟩|⟨hk,c,j,a⟩:=l
  .rw[wpAny_Name (wpAny_loadName_local I.ok.kind hk p w b) f]
  .rcases hk with hk|hk
   .rw[wpAny_Name (wpAny_loadName_cell I.ok.kind hk j a b) f]
   .rw[wpAny_Name (wpAny_loadName_free I.ok.kind hk j a b g) f]
end
def ju(H a:Hp):4:=∀b o,H b=!o->a b=!o
def ju.refl(H):ju H H:=λ_ _ h=>h
def ju.trans (a:ju H e)(b:ju e f):ju H f:=λc o h=>b c o<|a c o h
def ju.free (e:ju H a) (h:a l=Option.none):H l=Option.none:=by
 induction q:H l with
 |none=>rfl
 |some o=>
  rw[e l o q]at h;cases h
def ju.seq{K:aa}   (e:ju H b)(h:qX K H a c):qX K b a c:=by
 rcases h with(h|⟨o,h⟩)|h
 .rw[.inl<|.inl<|e _ _ h]
 .rw[.inl<|.inr (o,e _ _ h)]
 .rw[.inr h]
def MH:qu X (.builtin "len") λc H Q=>∃a b,c=[V.ref a]/\H a=! .dK b/\Q (.int ⇑b) H:=by
 intro Y s Z H c g Q I r h;let(a b,rfl,d,q):=h;let(-u,rfl,e):=Kg r;cases e;rw[bK I (.inl d) λt i f=>(.int ⇑b,H,f,(t,9),q)]
end L2
def J2{P:4}{α:Type}{z:α}(h:8=!z):P:=by cases h
def JP{P:4}(h:7=6):P:=by cases h
namespace L2
theorem Cq(d:Env):∀(names:List (Str×NameKind))(b:List (Str×Addr)),(∀y∈names,y.2=.free->∃c,d.cells.lookup y.1=!c)->
 ∃f,(forIn names b λ(x:Str×NameKind)(r:List (Str×Addr))=>(match x with
  |%[name|i]=>if(i==NameKind.free)=6 then do let a<-cellOf d name;pure (ForInStep.yield<|%[name|a]::r)else pure (ForInStep.yield r):Sem (ForInStep<|List<|Str×Addr)))=(pure f:Sem (List<|Str×Addr))/\
  (∀x c,f.lookup x=!c->d.cells.lookup x=!c\/b.lookup x=!c)/\(∀x c,b.lookup x=!c->∃j,f.lookup x=!j)/\∀y∈names,y.2=.free->∃c,f.lookup y.1=!c
 |[],b,_=>(b,9,λ_ _ h=>.inr h,λx c h=>(c,h),λ_ h=>nomatch h)
 |%[n|k]::r,b,h=>by
  rw[List.forIn_cons,]
  induction hk:k==NameKind.free with
  |true=>
   let o:k=.free:=by cases(k)<;>first|rfl|(rw[Zn hk<|by decide])
   let(-c,u):=h %[n|k] Zqs o;let(-f,e,p,l,s):=Cq d r (%[n|c]::b) λy hy=>h y<|Zqm _ hy;rw[(f,?_,λx j t=>?_,λx j t=>?_,λy hy m=>?_)]
   .simp only[hk,if_true,cellOf,u];rw[e]
   .rcases p x j t with q|q
    .rw[.inl q]
    .rw[Uz]at q
     induction g:x==n with
     |true=>
      rw[g]at q;cases q;let:x=n:=by simpa using g
      subst this;rw[.inl u]
     |false=>rw[g]at q;rw[.inr q]
   .cases g:x==n with
    |true=>rw[l x c<|by rw[Uz,g]]
    |false=>rw[l x j<|by rw[Uz,g];rw[t]]
   .rcases Ux.mp hy with rfl|hy
    .rw[l n c<|by rw[Uz,beq_self_eq_true]]
    .rw[s y hy m]
  |false=>
   let(-f,e,p,l,s):=Cq d r b λy hy=>h y<|Zqm _ hy;rw[(f,?_,p,l,λy hy m=>?_)]
   .simp only[hk,U5,if_false];rw[e]
   .rcases Ux.mp hy with rfl|hy
    .rw[show k=.free from m]at hk;rw[Zn hk<|by decide]
    .rw[s y hy m]
def MI(b)(a)(h:∀y∈a.names,y.2=.free->∃c,b.cells.lookup y.1=!c):
 ∃d,closureFor a b=pure d/\(∀x c,d.lookup x=!c->b.cells.lookup x=!c)/\∀y∈a.names,y.2=.free->∃c,d.lookup y.1=!c:=by
 let(-d,e,f,_,g):=Cq b a.names [] h;rw[(d,?_,λx c i=>(f x c i).elim id<|λq=>by simp at q,g)]
 first
 |(rfl)
 |rw[Zt (·>>=λj=>pure j) e]
theorem A7{env:Env}{x:Str}:∀{names:List (Str×NameKind)},
 (names.lookup x=!.free->(names.map λ%[n|k]=>if k==NameKind.free&&env.scope.kind==.function&&env.kindOf n==!.cell then%[n|NameKind.cell]else%[n|k]).lookup x=!.cell\/(names.map λ%[n|k]=>if k==NameKind.free&&env.scope.kind==.function&&env.kindOf n==!.cell then%[n|NameKind.cell]else%[n|k]).lookup x=!.free)/\
 ∀a,(names.map λ%[n|k]=>if k==NameKind.free&&env.scope.kind==.function&&env.kindOf n==!.cell then%[n|NameKind.cell]else%[n|k]).lookup x=!a->a=.cell\/a=.free->names.lookup x=!.free\/names.lookup x=!.cell
 |[]=>(λh=>by simp at h,λ_ h=>by simp at h)
 |%[n|k]::r=>by
  let(c,d):=@A7 env x r;simp only[Zl]
  induction hx:x==n with
  |true=>
   rw[(λh=>?_,λa h b=>?_)]
   .simp only[Uz,hx]at h;obtain rfl:=Zqi h;cases e:(NameKind.free==NameKind.free&&env.scope.kind==.function&&env.kindOf n==!.cell)=6
    .rw[Zd e,];simp[Uz,hx]
    .rw[Ze e,];simp[Uz,hx]
   .rw[Uz,hx];cases f:(k==NameKind.free&&env.scope.kind==.function&&env.kindOf n==!.cell)=6
    .let:k=.free:=by
      cases(k)<;>first|rfl|(simp at f)
     rw[this,];rw[.inl 9]
    .rw[Ze f]at h;simp only[Uz,hx]at h;let h:k=a:=by simpa using h
     subst h;obtain z|z:=b
     .rw[z,];rw[.inr 9]
     .rw[z,];rw[.inl 9]
  |false=>
   rw[(λh=>?_,λa h b=>?_)]
   .simp only[Uz,hx]at h
    split<;>simp only[Uz,hx]<;>rw[c h]
   .rw[Uz,hx];rw[d a ?_ b]
    split at h<;>simp only[Uz,hx]at h<;>rw[h]
theorem YN:∀names n a,cellsFrom n names a=cellsFrom n names []++a
 |[],_,_=>9
 |%[name|b]::r,n,a=>by
  ext cellsFrom
  split
  .rw[YN r (n+1) (%[name|n]::a),YN r (n+1) [%[name|n]],Uq];rfl
  .rw[YN r n a]
theorem Cr  :∀names n a,%[x|c]∈cellsFrom n names a->%[x|c]∈a\/%[x|NameKind.cell]∈names
 |[],_,_,h=>.inl h
 |%[name|b]::r,n,a,h=>by
  unfold cellsFrom at h
  split at h
  .rcases Cr r (n+1) (%[name|n]::a) h with z|z
   .grind
   ext
  .rcases Cr r n a h with z|z
   .rw[.inl z]
   ext
def Fb:02 NameKind->Bool
 |some .cell=>6
 |_=>7
def MJ (h:Fb o=6):o=!.cell:=by
 cases(o)with
 |none=>rw[JP h]
 |some k=>cases(k)<;>first|rfl|rw[JP h]
structure CellsAt(scope:Scope)(env:Env)(cl:List (Str×Addr))(C:Addr)(h1:Heap):4 where
 from_:∀x c,cl.lookup x=!c->env.cells.lookup x=!c/\scope.names.lookup x≠!.cell\/C<c/\h1.IsCell c 8
 free:∀x,scope.names.lookup x=!.free->∃c,cl.lookup x=!c/\env.cells.lookup x=!c
 own:∀x,scope.names.lookup x=!.cell->∃c,cl.lookup x=!c
 inj:∀x y c,cl.lookup x=!c->cl.lookup y=!c->x=y
def MK   {i:Heap}{C:Addr}(f:∀x c,g.lookup x=!c->b.cells.lookup x=!c)(l:∀y∈a.names,y.2=.free->∃c,g.lookup y.1=!c)
 (inj:∀x y c,b.cells.lookup x=!c->b.cells.lookup y=!c->x=y)(low:∀x c,b.cells.lookup x=!c->c<=C)(j:i.objs.size=C+1)(m:∀y∈a.names,y.2=.cell->a.names.lookup y.1=!.cell):
 CellsAt a b (cellsFrom (C+1) a.names g) C (pushCells i a.names):=by
 let ok:=cellsFrom_ok a.names i (C+1) [] (λ_ _ n=>(nomatch n),List.Pairwise.nil)<|Yk j.symm;rw[j]at ok;let look:∀x c,(cellsFrom (C+1) a.names g).lookup x=!c->%[x|c]∈cellsFrom (C+1) a.names []\/g.lookup x=!c/\a.names.lookup x≠!.cell:=λx c e=>by
  rw[YN,List.lookup_append]at e
  induction q:(cellsFrom (C+1) a.names []).lookup x with
  |some d=>
   rw[q]at e;let e:some d=!c:=e;obtain rfl:=Zqi e;rw[.inl<|PySem.mem_of_lookup q]
  |none=>
   rw[q]at e;rw[.inr (e,λz=>?_)];let:=W.cellsFrom_some a.names (C+1) []<|.inl z;rw[q]at this;rw[JP this]
 rw[(λx c e=>?_,λx e=>?_,λx e=>?_,λx y c o p=>?_)]
 .rcases look x c e with z|⟨z1,z2⟩
  .rw[.inr ((ok.empty x c z).2,(ok.empty x c z).1)]
  .rw[.inl (f x c z1,z2)]
 .let(c,h):=l %[x|.free] (PySem.mem_of_lookup e) 9;rw[(c,?_,f x c h)];rw[YN,List.lookup_append]
  induction q:(cellsFrom (C+1) a.names []).lookup x with
  |some d=>
   rcases Cr _ _ _ (PySem.mem_of_lookup q)with z|z
   .cases z
   .let:=m %[x|.cell] z 9;rw[e]at this;cases this
  |none=>rw[h]
 .rw[Jq.mp<|W.cellsFrom_some a.names (C+1) g<|.inl e]
 .rcases look x c o with z|⟨z1,_⟩<;>obtain w|⟨w1,_⟩:=look y c p
  .rw[PySem.name_of_addr ok.apart z w]
  .rw[Zn (low y c<|f y c w1)<|Nat.not_le_of_lt (ok.empty x c z).2]
  .rw[Zn (low x c<|f x c z1)<|Nat.not_le_of_lt (ok.empty y c w).2]
  .rw[inj x y c (f x c z1)<|f y c w1]
def ML
 (e:Q (newEnv a s⁻¹ b (cellsFrom (s⁻¹+1) a.names f) c 8 .none (!d) builtinsNs) {s with heap:=pushCells (s.heap.push {cls:=.type "dict",data:=.dict #[]}) a.names}):
 wpAny M A (newFunctionEnv a b f [] c 8 .none<|!d) Q E s:=by
 rw[Za<|wpAny_alloc<|Za<|wpAny_layCells _ () _ _ _ _ ?_];rw[Heap.size_push ..,];rw[Za<|Zb<|Zb e]
def YO(X:Cx)(C:Addr):Ya:=λx b=>∃m,b.heap.Ns C m/\∀c,Heap.SameBut C b.heap c->∀a:Env,a.locals=C->Ys X (passOn "comprehension.variables-let-go" x a:Sem Value) (λ_ _=>False) X.xe {b with heap:=c}
def Qj(X:Cx)(a:Scope)(N:Yg)(b:List (Str×Addr))(C:Addr)(s:Shared)(H:Hp)(ex:Yh):Cx where
 prog:=X.prog
 w:=X.w
 K:=X.K
 mg:=X.mg
 base:=X.base
 A:=X.A
 N:=N
 s₀:=s
 H₀:=H
 env:=compEnvC a b C X.env
 outer:=X.stack
 stack:=X.stack
 ex:=ex
 fn:=λx=>Fb<|a.names.lookup x
 calm:=X.calm
 pn:=[]
 xe:=notedBy (model X.prog X.w) X.A (compEnvC a b C X.env) (YO X C)
def Xm(X:Cx)(C:Addr)(s:Shared)(H:Hp)(ex:Yh):4:=∃Y Z,Inv X Y Z H s/\(∀b∈ex,xS X Y H b)/\s⁻¹<=C
def Xn(cap:List (02 5))(Z:St):St:=cap.map λo=>o.bind λj=>(Z[j]?).join
structure CompOk(X:Cx)(scope:Scope)(N:Yg)(cap:List (02 5)):4 where
 kind:scope.kind=.function
 loc:∀y∈scope.names,y.2=.local->scope.names.lookup y.1=!.local
 cell:∀y∈scope.names,y.2=.cell->scope.names.lookup y.1=!.cell
 free:∀y∈scope.names,y.2=.free->X.env.kindOf y.1=!.cell\/X.env.kindOf y.1=!.free
 len:⇑cap=⇑N
 cap:∀(i j:5)(x:Str),cap[i]?=! !j->N[i]?=!x->X.N[j]?=!x/\scope.names.lookup x=!.free
def VA(a:Scope)(b:Env)(c N:Yg)(cap:List (02 5)):Bool:=
 decide (a.kind=.function)&&a.names.all (λy=>(not<|decide<|y.2=.local)||decide (a.names.lookup y.1=!.local))&&a.names.all (λy=>(not<|decide<|y.2=.cell)||decide (a.names.lookup y.1=!.cell))&&
 a.names.all (λy=>(not<|decide<|y.2=.free)||(decide (b.kindOf y.1=!.cell)||decide (b.kindOf y.1=!.free)))&&decide (⇑cap=⇑c)&&
 (c.zip cap).all λp=>match p.2 with|none=>6|some j=>decide (N[j]?=!p.1)&&decide (a.names.lookup p.1=!.free)
def CompOk.of   {cap:List (02 5)}(h:VA a X.env N X.N cap=6):CompOk X a N cap:=by
 unfold VA at h;simp only[Uc,Ur,decide_eq_true_eq,UF,Vh,decide_eq_false_iff_not]at h;let(((((e,f),g),l),n),o):=h;rw[(e,λy b c=>?_,λy b c=>?_,λy b p=>?_,n,λi j x r s=>?_)]
 .rcases f y b with z|z
  .rw[Zn c z]
  .rw[z]
 .rcases g y b with z|z
  .rw[Zn c z]
  .rw[z]
 .rcases l y b with z|z
  .rw[Zn p z]
  .rw[z]
 .let u:%[x|!j]∈N.zip cap:=by
   rw[Ua (i:=i) ?_];rw[List.getElem?_zip_eq_some,];rw[(s,r)]
  let q:=o %[x|!j] u;simpa using q
section
variable      {Z: St}    {C D:Addr}{fp:Yh}
def MM   (ok:CompOk X a N cap)(I:Inv X Y Z H s)(B:∀b∈fp,xS X Y H b)(y:∀b∈fp,b<s⁻¹)
 (d:CellsAt a X.env E C F)
 (t:s⁻¹<=C)(g:∀b o,↥s b=!o->F.get? b=!o)(G:F.Ns C m):
 Inv (Qj X a N E C s H fp) [] (Xn cap Z) H {s with heap:=F,toks:=tk}:=by
 let M:∀x,(Qj X a N E C s H fp).env.kindOf x=!.cell\/(Qj X a N E C s H fp).env.kindOf x=!.free->a.names.lookup x=!.free\/a.names.lookup x=!.cell:=λx h=>by
  obtain h|h:=h
  .rw[A7 (env:=X.env) (x:=x) (names:=a.names).2 _ h<|.inl 9]
  .rw[A7 (env:=X.env) (x:=x) (names:=a.names).2 _ h<|.inr 9]
 rw[((I.ok.mod,ok.kind,I.ok.glob,I.ok.blt,t,d.inj,λx h=>?_,λx c z e=>?_,I.ok.hd,I.ok.frames,.inl 9,λb n=>(?_,λx c e=>?_),I.bs,Zh I.ok.bsz I.sz,
  λb o e n=>?_,λb n z=>?_,I.stack,I.stkFree),9,I.bare,Un.kept g,(m,G,λi x v J f e3=>?_),λx c e=>?_,I.hok.fresh t,λx c e=>?_,λp O=>Zn O<|by show ¬p∈([]:Yb)++[];simp,I.hok.kept g,?_)]
 .rcases M x h with q|q
  .let(-c,e,_):=d.free x q;rw[(c,e)]
  .rw[d.own x q]
 .rcases d.from_ x c e with ⟨_,q⟩|⟨q,_⟩
  .rw[Zn (MJ z) q]
  .rw[Zh t<|Zz q]
 .rw[Zi<|Zg (y b n) t]
 .rcases d.from_ x c e with ⟨q,_⟩|⟨q,_⟩
  .rw[(B b n).2.2.2.2.1 x c q]
  .rw[UN<|UO (Zg (y b n) t) q]
 .rcases(B b n).2.2.2.1 with z|z
  .rw[I.ok.noex b o e z]
  .rw[Zn (Zg (Zk e)<|Zh I.ok.bsz z)<|Zy _]
 .rcases Ux.mp (I.stkSub b z)with q|q
  .rw[(B b n).2.1 q]
  .rw[(B b n).2.2.1 q]
 .let J:N[i]?=!x:=J;let P:∃j,cap[i]?=! !j/\Z[j]?=! !v:=by
   let f:(cap.map λo=>o.bind λj=>(Z[j]?).join)[i]?=! !v:=f;rw[Zv]at f
   induction q:cap[i]? with
   |none=>rw[q]at f;rw[J2 f]
   |some o=>
    rw[q]at f
    cases(o)with
    |none=>cases f
    |some j=>
     let f:some (Z[j]?).join=! !v:=f
     induction q2:Z[j]? with
     |none=>rw[q2]at f;cases f
     |some w=>rw[q2]at f;rw[(j,9,by cases f;rw[q2])]
  let(-j,Q,R):=P;let(S,L):=ok.cap i j x Q J;let(-m0,_,T):=I.loc;let fr:=ok.free %[x|.free] (PySem.mem_of_lookup L) 9;let(u,r,l):=T j x v S R (fr.elim (λz=>.inr<|.inl z) λz=>.inr<|.inr z);rw[(u,r,.inr (A7 (x:=x).1 L,?_))];obtain⟨k,_⟩|⟨_,c,U,z⟩:=l
  .ext
  .let(-c',e',A):=d.free x L;rw[U]at A;obtain rfl:=Zqi A;rw[(c,e',z.keeps g)]
 .rcases d.from_ x c e with ⟨q,_⟩|⟨_,q⟩
  .let(v,z):=I.cell x c q;rw[(v,z.keeps g)]
  .rw[(8,q)]
 .rcases d.from_ x c e with ⟨q,_⟩|⟨q,_⟩
  .rw[I.freeC x c q]
  .rw[I.hok.fresh<|Zh t<|Zz q]
 .show(cap.map _).length=⇑N;rw[Zql,];rw[ok.len]
def MN{y:St}       (I:Inv X Y Z H s)(j:∀b∈fp,xS X Y H b)(A:s⁻¹<=C)(E:s⁻¹<=D)(l:D≠C)
 (J:Inv (Qj X m N T C s H fp) [] y d s')(F:↥s' D=!{cls:=.type "list",data:=.seq g.toArray k})(G:d D=8)(L:j4 p g)(M:⇑p<=00)(h:Heap.SameBut C s'.heap t)
 (q:Q (.ref D) (upd d D<|.lst p)):EP X Y Z Q (.ref D) {s' with heap:=t}:=by
 let r:∀b o,↥s b=!o->b≠C:=λb o e=>Zi<|Zg (Zk e) A;let O:∀b o,↥s b=!o->b≠D:=λb o e=>Zi<|Zg (Zk e) E;let tD:∀b u,d b=!u->b≠D:=λb u e z=>by rw[z,G]at e;rw[J2 e]
 let tC:∀b u,d b=!u->b≠C:=λb u e z=>by
  let:=J.free;rw[z]at e;rw[show d C=8 from this]at e;rw[J2 e]
 let B:Un (frs X.stack) fp H d s.heap s'.heap:=J.base;rw[(.ref D,upd d D<|.lst p,I.call' (s':={s' with heap:=t}) (ch:=fp) J.os ?_ ?_ J.bare<|λb a=>((j b a).2.2.2.1,(j b a).2.1,(j b a).2.2.2.2.1,(j b a).2.2.2.2.2),9,q)]
 .rw[(λb o e n a f=>(h.2 b<|r b o e).trans<|B.keep b o e n a f,λb o e n a f=>?_,λb o e n f=>?_,λb o e f=>?_,λb w e=>?_,λb o u e=>?_,λb P e=>?_)]
  .let(-R,z):=B.slot b o e n a f;rw[(R,(h.2 b<|r b o e).trans z)]
  .rw[J6 (O b o e),];rw[B.free b o e n f]
  .let(S,z):=B.there b o e f;rw[(S,(h.2 b<|r b o e).trans z)]
  .let z:=B.tups b w e;rw[J6 (tD b _ z),];rw[z]
  .let z:=B.frzs b o u e;rw[J6 (tD b _ z),];rw[z]
  .let(i,z):=B.tbls b P e;rw[(i,by rw[J6 (tD b _ z),];rw[z])]
 .intro b u e;cases a:b=D
  .subst a;rw[JE]at e;obtain rfl:=Zqi e;rw[(M,g,k,L,(h.2 b l).trans F)]
  .rw[J6 a]at e;rw[(J.hok b u e).stay (λc v hc z=>(h.2 c ?_).trans z) (λc z=>by rw[J6 (tD c _ z),];rw[z]) (λc w z=>by rw[J6 (tD c _ z),];rw[z])];obtain hc|hc:=hc
   .rw[hc,];rw[tC b u e]
   .rw[tC c _ hc]
end
def bM(cap:List (02 5))(g:TG)(h:TE)(Z:St)(Q:VK):It->Hp->4:=λJ j=>∃W:5->5->Yp->St->Hp->4,(∃m,W 0 m [] (Xn cap Z) j)/\∀i m b c a,W i m b c a->⇑b<00/\
 (
  (J.stop i a/\∀D,a D=8->Q (.ref D) (upd a D<|.lst b))\/
  J.go i a/\∀x d,J.yld i a x d->g x c d λe l=>h e l λy n=>∃f,f<m/\W (i+1) f (b++[y]) e n)
def A8(cap:List (02 5))(a:TI)(g:TG)(b:TE):TE:=λZ H Q=>a Z H<|bM cap g b Z Q
def MO(cap:List (02 5))(g:TG)(l:TT)(n:TE)(Z:St)(Q:VK):It->Hp->4:=λJ o=>∃W:5->5->Yp->St->Hp->4,(∃m,W 0 m [] (Xn cap Z) o)/\∀i m c f a,W i m c f a->⇑c<00/\
 (
  (J.stop i a/\∀D,a D=8->Q (.ref D) (upd a D<|.lst c))\/
  J.go i a/\∀x h,J.yld i a x h->g x f h λe p=>l e p λb j=>if b=6 then n e j λy r=>∃d,d<m/\W (i+1) d (c++[y]) e r else ∃d,d<m/\W (i+1) d c e j)
def Cs(cap:List (02 5))(a:TI)(g:TG)(b:TT)(c:TE):TE:=λZ H Q=>a Z H<|MO cap g b c Z Q
section
variable {X:Cx}{tg iter elt c:Expr}
def A9(X:Cx)(Y:Yb)(Z:St)(Q:VK)(b:02 (Value->Sem Unit))(R:Ya):4:=
 ∀(C D:Addr)(m:Yc)(a:Shared)(r:Flow),a.heap.Ns C m->¬C=X.env.locals->C∉X.fs->X.s₀.heap.objs.size<=C->(∀x c,X.env.cells.lookup x=!c->c≠C)->(∀p∈X.pn++Y,p.1≠C)->
  (∀d,Heap.SameBut C a.heap d->EP X Y Z (λv e=>e C=8/\Q v e) (.ref D) {a with heap:=d})->compPost (model X.prog X.w) X.A X.xe b R (.ref D) C (.ok r) a
def mf(X:Cx)(tg elt:Expr)(f d:Value)(a:Env)(R:Result->Yo)(I:5->Yo)(b:(Bool->Yo)->Yo)(n:5)(s:Shared):4:=
 let E:Ya:=notedBy (model X.prog X.w) X.A a λe i=>R (.error e) i
 Ys X (pyNext f) (λr g=>match r with
  |none=>R (.ok .next) g
  |some v=>Ys X (letOwnedTupleGo tg f v) (λ_ j=>Ys X (assign tg a v) (λ_ l=>b (λok h=>if ok=6 then Ys X (eval elt a) (λx o=>Ys X (call (.builtin "list.append") [d,x]) (λ_ p=>∃m,m<n/\I m p) E o) E h else ∃m,m<n/\I m h) l) E j) E g) E s
def Fc (N:Yg){test:Env->(Result->Yo)->(Bool->Yo)->Yo}
 (lp:∀{it acc:Value}{env:Env}{R:Result->Yo}{s:Shared}(I:5->Yo),(∀n s,I n s->mf X tg elt it acc env R I (test env R) n s)->∀n,I n s->codeAny (model X.prog X.w) X.A (.compLoop (.ListComp elt [(tg,iter,ifs,0)] a pos) 0 it acc env) R s)
 (ht:∀A C s H ex{Y:Yb}{s7:Shared}{Z7:St}{H7:Hp}{R:Result->Yo}{q:Bool->Hp->4}{Q:Bool->Yo},Xm X C s H ex->(∀e E,YO X C e E->R (.error e) E)->Inv (Qj X a N A C s H ex) Y Z7 H7 s7->tt Z7 H7 q->(∀b s8 H8,Inv (Qj X a N A C s H ex) Y Z7 H8 s8->q b H8->Q b s8)->test (compEnvC a A C X.env) R Q s7)
 (cap:List (02 5))(hc:X.calm=6)(okB:VA a X.env N X.N cap=6)(hi:PI X tg iter wi)(hg:∀A C s H ex,PG (Qj X a N A C s H ex) tg g)(he:∀A C s H ex,Xm X C s H ex->PE (Qj X a N A C s H ex) elt te)
 (hs:∀x,foldedSetIterable iter X.env x=pure x)     {Z:St}  (I:Inv X Y Z H s)(h:Cs cap wi g tt te Z H Q)(fin:A9 X Y Z Q use R):
 Ys X (comprehension (.ListComp elt [(tg,iter,ifs,0)] a pos) a X.env fpos (newList []) 7 (eval iter X.env) use) R X.xe s:=by
 let ok:=CompOk.of okB;let(-cl0,hcl,hcl1,hcl2):=MI X.env a λy hy hf=>I.ok.has y.1<|ok.free y hy hf;rw[wpAny_comprehension_free (use:=use) 9 hs hcl ok.kind ok.loc<|jF (hi Y s Z H _ I h) λxv s1 h1=>jF h1 λitv j h2=>?_];let(it w tn J L,e,F,T,st2,f2,(W,(m0,w0),turn)):=h2;subst e;let P:∀b∈w,b<j⁻¹:=λb t=>yg (T.obj _ _ st2 b t) λ_=>jD λe _=>Zk e;rw[wpAny_newObj_type<|ML ?_];dsimp only;generalize hP:j.heap.push {cls:=.type "list",dict:=8,data:=.seq ([]:Yd).toArray}=P2;let hC:P2.objs.size=j⁻¹+1:=by rw[<-hP,Heap.size_push]
 let S:j⁻¹≠P2.objs.size:=by rw[hC,];rw[Zi<|U3 _]
 let l:j⁻¹<=P2.objs.size:=by rw[hC,];rw[UV _]
 let below:∀b,b<j⁻¹->b≠P2.objs.size/\b≠j⁻¹:=λb t=>(by rw[hC,];rw[Zi<|Nat.lt_succ_of_lt t],Zi t);let U:CellsAt a X.env (cellsFrom (P2.objs.size+1) a.names cl0) P2.objs.size (pushCells (P2.push {cls:=.type "dict",data:=.dict #[]}) a.names):=
  MK hcl1 hcl2 F.ok.inj (λx c e=>Zh (Zz<|sj (F.cell x c e) λ_ _=>jD λho _=>Zk ho) l) (Heap.size_push ..) ok.cell
 let hns1:(pushCells (P2.push {cls:=.type "dict",data:=.dict #[]}) a.names).Ns P2.objs.size λ_=>8:=(Heap.Ns.new P2<|.type "dict").keeps<|pushCells_keeps _ _;generalize cellsFrom (P2.objs.size+1) a.names cl0=A at U ⊢;let old:∀b o,↥j b=!o->(pushCells (P2.push {cls:=.type "dict",data:=.dict #[]}) a.names).get? b=!o:=λb o e=>pushCells_keeps _ _ b o<|Zq _<|hP ▸ Zq _ e;let hacc:(pushCells (P2.push {cls:=.type "dict",data:=.dict #[]}) a.names).get? j⁻¹=!{cls:=.type "list",data:=.seq ([]:Yd).toArray 0}:=pushCells_keeps _ _ _ _<|Zq _<|hP ▸ Zr _ 9;generalize pushCells (P2.push {cls:=.type "dict",data:=.dict #[]}) a.names=g1 at U hns1 old hacc ⊢;let M:∀{H':Hp}{pl:Yb},(∀b∈w,H' b=8)->(∀p∈pl,p.1∉w)->∀b∈w,xS (Qj X a N A P2.objs.size j L w) pl H' b:=λ{H' pl}hn G b t=>by
  rw[(hn b t,(below b<|P b t).1,λz=>?_,.inl t,λx c e=>?_,λp hq z=>?_)]
  .rcases Ux.mp (F.stkSub b z)with q|q
   .rw[(f2 b t).2.1 q]
   .rw[(f2 b t).2.2.1 q]
  .rcases U.from_ x c e with ⟨q,_⟩|⟨q,_⟩
   .rw[(f2 b t).2.2.2.2.1 x c q]
   .rw[UN<|UO (Zg (P b t) l) q]
  .let hq:p∈([]:Yb)++pl:=hq;rw[List.nil_append]at hq;rw[G p hq<|by rw[z,];rw[t]]
 let nD:j⁻¹∉w:=λz=>Zn (P _ z)<|Zy _;let loop:∀s3:Shared,s3={j with heap:=g1}->
  codeAny (model X.prog X.w) X.A (.compLoop (.ListComp elt [(tg,iter,ifs,0)] a pos) 0 (.ref it) (.ref j⁻¹)<|compEnvC a A P2.objs.size X.env)
   (compPost (model X.prog X.w) X.A X.xe use R (.ref j⁻¹) P2.objs.size) s3:=by
  rintro s3 rfl;let I0:=MM (tk:=j.toks) ok F f2 P U l old hns1;rw[lp (λn E=>∃i ys B k Z' H',Inv (Qj X a N A P2.objs.size j L w) [] Z' H' E/\tn i E.heap/\(∀b∈w,H' b=8)/\↥E j⁻¹=!{cls:=.type "list",data:=.seq (List.toArray B) k}/\
   H' j⁻¹=8/\j4 ys B/\W i n ys Z' H') ?_ m0
  <|vm 0 [] [] 0 (Xn cap Z) L (I0,T.keep _ _ _ st2<|λb _ o e=>old b o e,λb t=>(f2 b t).1,hacc,F.hok.fresh<|Zf _,.nil,w0)]
  let cat:Xm X P2.objs.size j L w:=(_,_,F,f2,l);let ce:∀e E,YO X P2.objs.size e E->compPost (model X.prog X.w) X.A X.xe use R (.ref j⁻¹) P2.objs.size (.error e) E:=λe E h=>by cases(use)<;>rw[h]
  let xe:∀e E,(Qj X a N A P2.objs.size j L w).xe e E->notedBy (model X.prog X.w) X.A (compEnvC a A P2.objs.size X.env) (λe E=>compPost (model X.prog X.w) X.A X.xe use R (.ref j⁻¹) P2.objs.size (.error e) E) e E:=λe E h=>Zc h (λ_ j q=>ce e j q) λe j q=>ce e j q;intro n s4;rw[vl λi ys B k Z4 H4=>uw λI4 st4 fr4 hd4 hn4 rv4 w4=>?_];let(hz,tn4):=turn i n ys Z4 H4 w4;let J4:Inv (Qj X a N A P2.objs.size j L w) [%[j⁻¹|{cls:=.type "list",data:=.seq B.toArray k}]] Z4 H4 s4:=I4.pins_of λp G=>by
   let e:=Jc.mp G;subst e;rw[(hd4,hn4,S,?_,λv z=>by cases z)];rw[λz=>Zn (Zg (by
    rcases Ux.mp (F.stkSub _ z)with q|q
    .rw[UP (Yk q) F.lt]
    .let(_,o,ho,_):=F.ok.funs.mem q;rw[Zg (Zk ho) F.sz])<|Zf j⁻¹)<|Zy _]
  let np:∀p ∈[%[j⁻¹|({cls:=.type "list",data:=.seq B.toArray k}:Obj)]],p.1∉w:=λp G=>by
   let e:=Jc.mp G;subst e;rw[nD]
  obtain⟨stop,qn⟩|⟨go,step⟩:=tn4
  .rw[Zc (T.done (Qj X a N A P2.objs.size j L w) 9 9 9 hc i _ s4 Z4 H4 (λ_ _=>False) J4 (M fr4 np) st4 stop) (λr s5 h5=>?_) λ_ _ f=>f.elim];let(rfl,I5):=h5;let(m,hm,_):=id I5.loc;let p5:=I5.pin %[j⁻¹|_]<|Uf _ Zqs;rw[fin _ _ m _ _ hm (UN<|Zg F.lt l) (F.nofs l) (Zh F.sz l) (λx c e z=>?_) (λp G z=>?_) λh' hs'=>MN F f2 l (Zf _) S (I5.pins_of λp G=>nomatch G) p5.1 p5.2.1 rv4 (Zz hz) hs' (by rw[J6 (Ne.symm S),];rw[I5.free],qn _ p5.2.1)]
   .let(v o,ho,hd):=F.cell x c e;let:=Zk ho;rw[z]at this;rw[Zn (Zg this l)<|Zy _]
   .let:=Zk (F.pin p G).1;rw[z]at this;rw[Zn (Zg this l)<|Zy _]
  .rw[Zc (T.item (Qj X a N A P2.objs.size j L w) 9 9 9 hc i _ s4 Z4 H4 (λ_ _=>False) J4 (M fr4 np) st4 go) (λr s5 h5=>?_) λ_ _ f=>f.elim];let(u,rfl,h5):=h5;rw[Zc h5 (λ_ s6 h6=>?_) λ_ _ f=>f.elim];let(x H6,I6,r6,y6,st6,fr6):=h6;let I6':=I6.pinned (M fr6 np)<|T.obj _ _ st6;rw[Zc (hg A P2.objs.size j L w _ s6 Z4 H6 x u _ I6' r6<|step x H6 y6) (λ_ s7 h7=>?_) xe];let(Z7 H7,I7,q7):=h7;rw[ht A P2.objs.size j L w cat ce I7 q7 λbv s8 H8 I8 q8=>?_];let O:∀(H9:Hp)(s9:Shared)(Z9:St),Inv (Qj X a N A P2.objs.size j L w) ([%[j⁻¹|{cls:=.type "list",data:=.seq B.toArray k}]]++YM w s6.heap) Z9 H9 s9->(∀b∈w,∀o,↥s6 b=!o->↥s9 b=!o)/\∀b∈w,H9 b=8:=λH9 s9 Z9 I9=>by
    rw[(λb t o e=>(I9.pin %[b|o]<|Uf _<|Uf _<|Az t e).1,λb t=>?_)];let(-o,e,d):=T.obj _ _ st6 b t;rw[(I9.pin %[b|o]<|Uf _<|Uf _<|Az t e).2.1]
   let p8:=I8.pin %[j⁻¹|_]<|Uf _<|Uo _ Zqs
   cases(bv)with
   |false=>
    rw[Ze ()]at q8 ⊢;let(-m',hm',w8):=q8;let(z1,z2):=O _ _ _ I8;rw[(m',hm',i+1,ys,B,k,Z7,H8,I8.pins_of (λp G=>nomatch G),T.keep _ _ _ st6 z1,z2,p8.1,p8.2.1,rv4,w8)]
   |true=>
    rw[Zd 9]at q8 ⊢;rw[Zc (he A P2.objs.size j L w cat _ s8 Z7 H8 _ I8 q8) (λyv s9 h9=>?_) xe];let(y H9,I9,ry,(m',hm',w9)):=h9;let p9:=I9.pin %[j⁻¹|_]<|Uf _<|Uo _ Zqs;let hl:=⇑rv4;rw[append_at (hsz:=by show B.toArray.size<=00;rw[Zm,<-hl];rw[Zz hz]) p9.1 λh10 hs10 hd10=>?_];let I10:Inv (Qj X a N A P2.objs.size j L w) [] Z7 H9 {s9 with heap:=h10}:=(I9.pins_of (Y':=[]) λp G=>nomatch G).turned (t':=s9.toks) (it:=j⁻¹) (λb o t e=>(hs10.2 b t).trans e) p9.2.1 S (.inr<|Zf _)
     (λx c e z=>by
      let(v o,ho,hd):=I9.cell x c e;rw[z,p9.1]at ho;cases ho;cases hd)<|λp G=>Zn G<|by show ¬p∈([]:Yb)++[];simp
    let(z1,z2):=O _ _ _ I9;rw[(m',hm',i+1,ys++[y],B++[yv],k+1,Z7,H9,I10,T.keep _ _ _ st6<|λb t o e=>?_,z2,?_,p9.2.1,j4.append rv4<|.cons ry .nil,w9)]
    .let hb':b≠j⁻¹:=λz=>nD (by rw[<-z];rw[t]);rw[(hs10.2 b hb').trans<|z1 b t o e]
    .rw[hd10.trans ?_];simp
 rw[codeAny_compStart_list (loop _ 9)<|T.self _ 0 _ _ _ (T.keep _ _ _ st2<|λb _ o e=>old b o e)<|loop _ 9]
def Fd(N)(cap)(l:X.calm=6)(d:VA a X.env N X.N cap=6)(m:PI X tg iter o)(p:∀e C s H ex,PG (Qj X a N e C s H ex) tg g)(r:∀e C s H ex,Xm X C s H ex->PE (Qj X a N e C s H ex) elt t)
 (u:∀x,foldedSetIterable iter X.env x=pure x)     {Z:St}  (I:Inv X Y Z H s)(h:A8 cap o g t Z H Q)(f:A9 X Y Z Q i R):
 Ys X (comprehension (.ListComp elt [(tg,iter,[],0)] a v) a X.env j (newList []) 7 (eval iter X.env) i) R X.xe s:=
 Fc (test:=λ_ _ Q s=>Q 6 s) N (λI b n h=>W.kcp_loop I b n h) (λ_ _ _ _ _ _ _ _ _ _ _ _ _ _ I q k=>k 6 _ _ I q) cap l d m p r u I h f
def Fe(N)(cap)(f:X.calm=6)(b:VA a X.env N X.N cap=6)(i:PI X tg iter j)(l:∀d C s H ex,PG (Qj X a N d C s H ex) tg g)(n:∀d C s H ex,Xm X C s H ex->PE (Qj X a N d C s H ex) elt o)
 (p:∀x,foldedSetIterable iter X.env x=pure x:=by intro _;rfl):PE X (.ListComp elt [(tg,iter,[],0)] a t) (A8 cap j g o):=λY s Z H Q I h=>Fd N cap f b i l n p I h<|λC D m B r u _ _ _ _ _ k=>(m,u,λw e=>by
  let(v y,z,A,_,q):=k w e;rw[(v,y,z,A,q)])
end
def yX:Ye->3
 |[]=>0
 |x::r=>r.foldl max x
theorem Ff:∀(r:Ye)x,x<=r.foldl max x/\(∀y∈r,y<=r.foldl max x)/\(r.foldl max x=x\/r.foldl max x∈r)
 |[],x=>by simp
 |y::r,x=>by
  let(!b,a,c):=Ff r (max x y);show x<=r.foldl max (max x y)/\(∀z∈y::r,z<=r.foldl max (max x y))/\(r.foldl max (max x y)=x\/r.foldl max (max x y)∈y::r);rw[((),λz hz=>?_,?_)]
  .rcases Ux.mp hz with rfl|hz
   .omega
   .rw[a z hz]
  grind
def Fg (h:l ≠[]):yX l∈l/\∀y∈l,y<=yX l:=by
 cases(l)with
 |nil=>ext
 |cons x r=>
  let(!a,b,h3):=Ff r x;rw[(?_,λy hy=>?_)]
  .rcases h3 with h3|h3
   .show r.foldl max x∈x::r;rw[h3,];rw[Zqs]
   .rw[Zqm _ h3]
  .rcases Ux.mp hy with rfl|hy
   .rw[a]
   .rw[b y hy]
def MP  (a:M∈l)(b:∀y∈l,y<=M):M=yX l:=by
 let(c,d):=Fg (l:=l) ()
 grind
def MQ(o:X.calm=6):qu X (.builtin "max") λl H Q=>∃a c,l=[.ref a]/\qX X.K H a (c.map V.int)/\c ≠[]/\Q (.int<|yX c) H:=by
 intro Y s Z H l J Q I r h;let(a c,rfl,w,y,q):=h;let(-u,rfl,z):=Kg r;obtain rfl:=z;let(-A,B,p,L):=I.list w;let m:=EQ B;let(g,e):=m.allInts.items;let d:c=g.toList.map (·.1):=by
  rw[<-m.numsOf,<-nums_intItems,<-e]
 let i:0<g.size:=by
  grind
 let f:=p.isList;rw[e]at f;rw[max_intList (I.ok.hd o) f i λv M N C E=>?_];let(t,rfl):=intItems_at C;let(O,F):=argBest_gt (numAt g) (g.size-1);rw[(.int<|yX c,H,I.kept E,(t,?_),q)]
 congr 1
 rw[MP ?_ λb n=>?_]
 .rw[d,numAt_eq];rw[PySem.getD_mem<|by rw[Zql,Up];lia]
 .rw[d]at n;let(-j,G,rfl):=PySem.mem_getD n;rw[Zql,Up]at G;rw[<-numAt_eq];rw[F j ()]
def MR:qu X (.builtin "isinstance") λa H Q=>∃x n t b,a=[x,.ty n]/\TyOf X.K H x t/\W.kitOne X.K t (.type n)=!b/\Q (.bl b) H:=by
 intro Y s Z H a i Q I r h;let(x n t b,rfl,c,e,q):=h;let(u j,rfl,d,f):=E2 r;obtain rfl:=f;rw[Me I d c e λg=>(.bl b,H,I.tok g,9,q)]
def wq(P:Program)(w:World)(K:aa)(b:Yc)(a:Heap)(name:Str)(k:5)(c:Yg)(e:Sp):4:=
 ∃f d,FnOk P w K b a yt k f d c e/\zH K d c []/\W.keepIn K (.ref f)=6/\b name=! .ref f
theorem wq.mono  {K:aa}      (c:wq P w K b a name j e g)(h:j<=k):wq P w K b a name k e g:=by
 let(f i,F,r):=c;rw[(f,i,F.mono h,r)]
def XN        (c:wq X.prog X.w X.K X.mg X.base name k s i)(j:Room k X.A)(l:Gl X name)(m:PA X (e::a) t)
 (d:(name==("__debug__":Str))=7:=by decide)(n:01 (e::a) X.env=%[7|eval e X.env]::01 a X.env:=by rfl)(g:(backTo h<|01 a X.env).any (·.1)=7:=by rfl):
 PE X (.Call (.Name name p) (e::a) [] h) (Cg i [] E0 t):=by
 let(f u,F,b,o,r):=c;rw[ED F j l r o b .nil Cp m d n g]
def Vv  (h:H p=8)(o):ju H (upd H p o):=λb u q=>by rwa[J6 (KL q h),]
def small (h:n<=1000):n<=00:=Zz<|Fa h
def AA  (o)(s:ju H a)(h:H l=8):ju H (upd a l o):=λb u e=>by
 rw[J6 (KL e h),];rw[s b u e]
def JG:bootBuiltins "len"=! .builtin "len":=boot_len
def MS:bootBuiltins "max"=! .builtin "max":=boot_max
def MT:bootBuiltins "min"=! .builtin "min":=boot_min
def QP:bootBuiltins "isinstance"=! .builtin "isinstance":=boot_isinstance
def MU:bootBuiltins "sum"=! .builtin "sum":=boot_sum
def Ct:bootBuiltins "int"=! .type "int":=boot_int
def Fh:bootBuiltins "bool"=! .type "bool":=boot_bool
def MV:bootBuiltins "str"=! .type "str":=boot_str
def W4:bootBuiltins "list"=! .type "list":=boot_list
def YP:bootBuiltins "tuple"=! .type "tuple":=boot_tuple
def bt_set:bootBuiltins "set"=! .type "set":=boot_set
def zA(r:Js):4:=(r.map (·.1)).Nodup
open PySem PyProof.Rows
def gx(a:Array 5)(k:5):5:=(a[k]?).getD 0
def MW(N)(cap)(w:X.calm=6)(l:VA a X.env N X.N cap=6)(y:PI X r d A)(B:∀f C s H ex,PG (Qj X a N f C s H ex) r g)(E:∀f C s H ex,PT (Qj X a N f C s H ex) c F)(G:∀f C s H ex,PE (Qj X a N f C s H ex) m J)
 (L:∀x,foldedSetIterable d X.env x=pure x)     {Z:St}  (I:Inv X Y Z H s)(h:Cs cap A g F J Z H Q)(o:A9 X Y Z Q p R):
 Ys X (comprehension (.ListComp m [(r,d,[c],0)] a M) a X.env t (newList []) 7 (eval d X.env) p) R X.xe s:=
 Fc (test:=λi R Q s=>Ys X (isTrue c i<|eval c i) Q (notedBy (model X.prog X.w) X.A i λe u=>R (.error e) u) s) N (λI j n h=>W.kct_loop I j n h)
  (λf C s H ex _ _ _ _ _ _ _ _ v I q k=>Zc (E f C s H ex _ _ _ _ _ I q) (λb O z=>by let(-P,S,T):=z;rw[k b O P S T]) λe u U=>Zc U (λ_ s'' z=>v _ _ z) λ_ _ z=>v _ _ z) cap w l y B (λf C s H ex _=>G f C s H ex) L I h o
def Cu(a d:Addr):HO:=.ext λh=>h.IsItemsView a d
def jw:02 3->02 3->02 3
 |none,b=>b
 |some x,none=>!x
 |some x,some y=>! if x>y then x else y
end L2
namespace L2.DL
def XP {_:Decidable c}{α:Type}{a z:α}(h:(if c then !a else 8)=!z):c/\a=z:=()
inductive D where
 |non|bl(b:Bool)|int(i:Int)|str(x:Str)|ty(n:String)|scr(ns:Ye)
 |tup(ds:List D)|lst(ds:List D)|dct(ks:List jR)(ds:List D)|ins(c:Str)(fs:Yg)(ds:List D)
 |exc(c:Str)|ucl(c:Str)
 |exr(c:Str)(n:Int)
 |adr(a:Addr)|dcf(ks:List jR)(ds:List D)
 |pin(a:Addr)(d:D)
abbrev _root_.Yq:=List D
abbrev _root_.Yr:=02 D
inductive Res(α:Type)where
 |ok(a:α)|ex(c:Str)(fs:Yq)|no
noncomputable def Res.bind{α β:Type}(r:Res α)(g:α->Res β):Res β:=match r with
 |.ok a=>g a
 |.ex c fs=>.ex c fs
 |.no=>.no
def Res.need{α:Type}(r:Res α)(p:α->4)(q:Str->Yq->4):4:=match r with
 |.ok a=>p a
 |.ex c fs=>q c fs
 |.no=>False
@[simp]def Res.bind_ok (a)(g:α->Res β):(Res.ok a).bind g=g a:=rfl
@[simp]def Res.bind_ex (c)(fs)(g:α->Res β):(Res.ex c fs:Res α).bind g=.ex c fs:=rfl
@[simp]def vV (g:α->Res β):(Res.no:Res α).bind g=.no:=rfl
def Res.need_bind {r:Res α} {p:β->4} (h:(r.bind g).need p q):r.need (λa=>(g a).need p q) q:=by
 cases(r)<;>rw[h]
def Res.need.mono {r:Res α}  (h:r.need p q)(b:∀a,p a->e a)(f:∀c fs,q c fs->g c fs):r.need e g:=by
 cases r with
 |ok a=>rw[b a h]
 |ex c fs=>rw[f c fs h]
 |no=>rw[h]
def Res.need.monoE {r:Res α}  (h:r.need p q)(b:∀a,r=.ok a->p a->e a)(f:∀c fs,q c fs->g c fs):r.need e g:=by
 cases(r)with
 |ok a=>rw[b a 9 h]
 |ex c fs=>rw[f c fs h]
 |no=>rw[h]
def ExcO(C x:Addr):HO:=.ext λh=>∃o,h.get? x=!o/\o.cls=.ref C
def ExrO(C p x:Addr):HO:=.ext λh=>∃o,h.get? x=!o/\o.cls=.ref C/\o.dict=!p/\W.notCls o=6
def RowO(p:Addr)(n:3):HO:=.ext λh=>∃a u,h.Ns1 p a/\a "row"=!u/\jz (.int n) u
def yS(_:aa)(H:Hp)(a:Addr)(b:Yp):4:=H a=! .tup b
def yS.same{K:aa}   (e:ju H b)(h:yS K H a c):yS K b a c:=e _ _ h
def yS.of{K:aa}   (h:H a=! .tup b):yS K H a b:=h
def yS.sq{K:aa}   (h:yS K H a b):yn K H a b:=yn.of h
def yb(_:aa)(H:Hp)(a:Addr)(b:Yp):4:=Rd H a<|.lst b
def yb.same{K:aa}   (e:ju H b)(h:yb K H a c):yb K b a c:=h.imp (λq=>e _ _ q)<|xg λo q=>(o,e _ _ q)
def yb.of{K:aa}   (h:H a=! .lst b):yb K H a b:=.inl h
def yb.sq{K:aa}   (h:yb K H a b):qX K H a b:=.inl h
section
variable (K:aa)
mutual
def IsD (H:Hp):D->V->Prop
 | .non,v=>v=.non
 | .bl b,v=>v=.bl b
 | .int i,v=>v=.int i
 | .str x,v=>v=.str x
 | .ty n,v=>v=.ty n
 | .scr h,v=>∃a,v=.ref a/\qX K H a (h.map V.int)
 | .tup f,v=>∃a e,v=.ref a/\yS K H a e/\IsDs H f e
 | .lst f,v=>∃a e,v=.ref a/\yb K H a e/\IsDs H f e
 | .dct g f,v=>∃a e,v=.ref a/\H a=some (.dK (g.zip e))/\⇑g=⇑e/\IsDs H f e
 | .ins c fs f,v=>∃a C j e,v=.ref a/\W.nsIn K 000 c=some (some (.ref C))/\H a=some (.ins C j (fs.zip e))/\⇑fs=⇑e/\IsDs H f e
 | .exc c,v=>∃a C,v=.ref a/\W.nsIn K 000 c=some (some (.ref C))/\H a=some (ExcO C a)
 | .exr c n,v=>∃a C p,v=.ref a/\W.nsIn K 000 c=some (some (.ref C))/\H a=some (ExrO C p a)/\H p=some (RowO p n)
 | .ucl c,v=>∃C,v=.ref C/\W.nsIn K 000 c=some (some (.ref C))
 | .adr a,v=>v=.ref a
 | .dcf g f,v=>∃a o e,v=.ref a/\H a=some (.frz o (.dK (g.zip e)))/\⇑g=⇑e/\IsDs H f e
 | .pin a d,v=>v=.ref a/\IsD H d v
def IsDs (H:Hp):Yq->Yp->Prop
 | [],a=>a=[]
 |d::b,a=>∃x r,a=x::r/\IsD H d x/\IsDs H b r
end
end
section
variable {K:aa}
def j8 :IsD K H .non v↔v=.non:=.rfl
def jp  :IsD K H (.bl b) v↔v=.bl b:=.rfl
def je  :IsD K H (.int i) v↔v=.int i:=.rfl
def jg  :IsD K H (.str x) v↔v=.str x:=.rfl
def xa  :IsD K H (.ty n) v↔v=.ty n:=.rfl
def qO  :IsD K H (.scr b) v↔∃a,v=.ref a/\qX K H a (b.map V.int):=.rfl
def jm  :IsD K H (.tup c) v↔∃a b,v=.ref a/\yS K H a b/\IsDs K H c b:=.rfl
def jx  :IsD K H (.lst c) v↔∃a b,v=.ref a/\yb K H a b/\IsDs K H c b:=.rfl
def jO   :IsD K H (.dct c e) v↔∃a b,v=.ref a/\H a=!(.dK<|c.zip b)/\⇑c=⇑b/\IsDs K H e b:=.rfl
def jN    :IsD K H (.ins c fs e) v↔∃a C f b,v=.ref a/\W.nsIn K 000 c=! ! .ref C/\H a=!(.ins C f<|fs.zip b)/\⇑fs=⇑b/\IsDs K H e b:=.rfl
def qy  :IsD K H (.exc c) v↔∃a C,v=.ref a/\W.nsIn K 000 c=! ! .ref C/\H a=! ExcO C a:=.rfl
def qh   :IsD K H (.exr c n) v↔∃a C p,v=.ref a/\W.nsIn K 000 c=! ! .ref C/\H a=! ExrO C p a/\H p=! RowO p n:=.rfl
def qN  :IsD K H (.ucl c) v↔∃C,v=.ref C/\W.nsIn K 000 c=! ! .ref C:=.rfl
def jC  :IsD K H (.adr a) v↔v=.ref a:=.rfl
def qQ   :IsD K H (.dcf c e) v↔∃a o b,v=.ref a/\H a=!(.frz o<|.dK<|c.zip b)/\⇑c=⇑b/\IsDs K H e b:=.rfl
def qP   :IsD K H (.pin a d) v↔v=.ref a/\IsD K H d v:=.rfl
def IsDs.nil_iff :IsDs K H [] a↔a=[]:=.rfl
theorem ji   :IsDs K H (d::a) b↔∃x r,b=x::r/\IsD K H d x/\IsDs K H a r:=.rfl
mutual
theorem IsD.same (e:ju H n):∀(d:D) (v:V),IsD K H d v->IsD K n d v
 | .non,_,h=>h
 | .bl _,_,h=>h
 | .int _,_,h=>h
 | .str _,_,h=>h
 | .ty _,_,h=>h
 | .scr _,_,h=>by
  obtain⟨a,b,f⟩:=qO.mp h;exact qO.mpr ⟨a,b,ju.seq e f⟩
 | .tup j,_,h=>by
  obtain⟨a,g,b,f,i⟩:=jm.mp h;exact jm.mpr ⟨a,g,b,f.same e,IsDs.same e j g i⟩
 | .lst j,_,h=>by
  obtain⟨a,g,b,f,i⟩:=jx.mp h;exact jx.mpr ⟨a,g,b,f.same e,IsDs.same e j g i⟩
 | .dct r j,_,h=>by
  obtain⟨a,g,b,f,l,i⟩:=jO.mp h;exact jO.mpr ⟨a,g,b,e _ _ f,l,IsDs.same e j g i⟩
 | .ins c fs j,_,h=>by
  obtain⟨a,C,s,g,b,u,f,l,i⟩:=jN.mp h;exact jN.mpr ⟨a,C,s,g,b,u,e _ _ f,l,IsDs.same e j g i⟩
 | .exc _,_,h=>by
  obtain⟨a,C,b,f,i⟩:=qy.mp h;exact qy.mpr ⟨a,C,b,f,e _ _ i⟩
 | .exr _ _,_,h=>by
  obtain⟨a,C,p,b,f,i,l⟩:=qh.mp h;exact qh.mpr ⟨a,C,p,b,f,e _ _ i,e _ _ l⟩
 | .ucl _,_,h=>h
 | .adr _,_,h=>h
 | .dcf r j,_,h=>by
  obtain⟨a,o,g,b,f,l,i⟩:=qQ.mp h;exact qQ.mpr ⟨a,o,g,b,e _ _ f,l,IsDs.same e j g i⟩
 | .pin a d,v,h=>qP.mpr ⟨(qP.mp h).1,IsD.same e d v (qP.mp h).2⟩
theorem IsDs.same (e:ju H c):∀a b,IsDs K H a b->IsDs K c a b
 | [],_,h=>h
 |d::a,_,h=>have ⟨x,r,f,g,i⟩:=ji.mp h;ji.mpr ⟨x,r,f,IsD.same e d x g,IsDs.same e a r i⟩
end
def IsDs.mk    (h:IsD K H d x)(r:IsDs K H b a):IsDs K H (d::b) (x::a):=ji.mpr (x,a,9,h,r)
def IsDs.nil:IsDs K H [] []:=IsDs.nil_iff.mpr 9
theorem IsDs.length:∀{b:Yq}{a:Yp},IsDs K H b a->⇑a=⇑b
 |[],a,h=>by simp_all[IsDs.nil_iff]
 |d::b,a,h=>by
  let(x r,rfl,_,c):=h;rw[Zu,Zu,IsDs.length c]
theorem IsDs.get:∀{a:Yq}{b:Yp}{i:5}{d:D},IsDs K H a b->a[i]?=!d->∃x,b[i]?=!x/\IsD K H d x
 |[],_,_,_,_,e=>J2 e
 |d::a,b,i,e,h,q=>by
  let(x r,rfl,f,c):=h
  cases(i)with
  |zero=>ext
  |succ i=>rw[IsDs.get (i:=i) c q]
def IsDs.getV  {i:5} (h:IsDs K H a b)(q:b[i]?=!x):∃d,a[i]?=!d/\IsD K H d x:=by
 let e:=⇑h;let c:i<⇑a:=();let(-y,f,g):=h.get (Zqg c)
 ext
theorem IsDs.append:∀{b c:Yq}{a e:Yp},IsDs K H b a->IsDs K H c e->IsDs K H (b++c) (a++e)
 |[],_,a,_,h,f=>by simp_all[IsDs.nil_iff]
 |d::b,_,a,_,h,f=>by
  let(x r,rfl,g,i):=h;rw[IsDs.mk g<|IsDs.append i f]
def IsDs.snoc    (h:IsDs K H a b)(c:IsD K H d x):IsDs K H (a++[d]) (b++[x]):=h.append<|.mk c .nil
theorem IsDs.take:∀(n:5){a:Yq}{xs:Yp},IsDs K H a xs->IsDs K H (a.take n) (xs.take n)
 |0,_,_,_=>.nil
 |n+1,[],xs,h=>by rw[IsDs.nil_iff]at h;subst h;rw[.nil]
 |n+1,d::a,xs,h=>by
  rw[ji]at h;let(x r,rfl,b,c):=h;rw[IsDs.mk b<|IsDs.take n c]
theorem IsDs.drop:∀(n:5){b:Yq}{a:Yp},IsDs K H b a->IsDs K H (b.drop n) (a.drop n)
 |0,_,_,h=>h
 |n+1,[],a,h=>by rw[IsDs.nil_iff]at h;subst h;rw[.nil]
 |n+1,d::b,a,h=>by
  rw[ji]at h;let(x r,rfl,e,c):=h;rw[IsDs.drop n c]
theorem IsDs.set:∀n{b:Yq}{a:Yp}{d:D}{x:V},IsDs K H b a->IsD K H d x->IsDs K H (b.set n d) (a.set n x)
 |_,[],a,_,_,h,_=>by simp_all[IsDs.nil_iff]
 |0,d::b,a,_,_,h,q=>by
  grind[ji]
 |n+1,d::b,a,_,_,h,q=>by
  let(x r,rfl,c,e):=h;rw[IsDs.mk c<|IsDs.set n e q]
theorem qW:∀(a:Ye),IsDs K H (a.map D.int) (a.map V.int)
 |[]=>.nil
 |n::a=>.mk (je.mpr 9) (qW a)
theorem xF:∀{a:Ye}{b:Yp},IsDs K H (a.map D.int) b->b=a.map V.int
 |[],_,h=>IsDs.nil_iff.mp h
 |n::a,b,h=>by
  let(x r,rfl,c,e):=h;rw[c,xF e];rfl
end
structure Ext(F H F' H':Hp):4 where
 ff:ju F F'
 fh:ju F' H'
 hh:ju H H'
 new:∀a,F a=8->H a≠8->F' a=8
theorem Ext.refl (h:ju F H):Ext F H F H:=(.refl _,h,.refl _,λ_ e _=>e)
theorem Ext.trans (a:Ext F H c f)(b:Ext c f g i):Ext F H g i:=
 (a.ff.trans b.ff,b.fh,a.hh.trans b.hh,λx e n=>b.new x (a.new x e n)<|by
  induction q:H x with
  |none=>rw[Zn q n]
  |some o=>rw[a.hh _ _ q,];simp)
def Q1  (h:ju F H)(a:H p=8):F p=8:=h.free a
def Ext.alloc  (h:ju F H)(c:H p=8)(o):Ext F H (upd F p o) (upd H p o):=
 (Vv (h.free c) o,λb u e=>by
  cases q:b=p
  .simp_all[JE]
  .rw[J6 q]at e ⊢;rw[h _ _ e],Vv c o,λa e n=>by
  let q:a≠p:=by grind
  rwa[J6 q,])
def Ext.keep  (h:ju F H)(a:H p=8)(o):Ext F H F (upd H p o):=
 (.refl _,h.trans<|Vv a o,Vv a o,λ_ e _=>e)
def Ext.grow (h:ju F H)(a:ju H b):Ext F H F b:=(.refl _,h.trans a,a,λ_ e _=>e)
inductive SV where
 |val(d:D)|own(p:Bool)(d:D)
structure Bs where
 F0:Hp
 H0:Hp
 pa:5->02 (Addr×Yp)
abbrev SD:=List<|02 SV
def zi(K:aa)(F H:Hp)(l:Addr):D->4
 |.lst b=>∃a,H l=! .lst a/\IsDs K F b a
 |.dct d b=>∃a,H l=!(.dK<|d.zip a)/\⇑d=⇑a/\IsDs K F b a
 |.ins c fs b=>∃C e a,W.nsIn K 000 c=! ! .ref C/\H l=!(.ins C e<|fs.zip a)/\⇑fs=⇑a/\IsDs K F b a
 |_=>False
def zi.has{K:aa}   (h:zi K F H l d):∃o,H l=!o:=by
 cases d with
 |lst a=>let(b,e,_):=h;rw[(_,e)]
 |dct f a=>let(b,e,_):=h;rw[(_,e)]
 |ins c fs a=>let(C,g,b,_,e,_):=h;rw[(_,e)]
 |_=>rw[False.elim h]
def zi.ext{K:aa}   (h:zi K F H l d)(b:ju F i)(f:∀o,H l=!o->j l=!o):zi K i j l d:=by
 cases d with
 |lst g=>let(a,e,q):=h;rw[(a,f _ e,IsDs.same b _ _ q)]
 |dct p g=>let(-a,e,z,q):=h;rw[(a,f _ e,z,IsDs.same b _ _ q)]
 |ins c fs g=>let(C n a,k,e,z,q):=h;rw[jh C n a (k,f _ e,z,IsDs.same b _ _ q)]
 |_=>rw[False.elim h]
def zi.frz{K:aa}    (h:zi K F H l d)(e:H l=Option.some o)(n:F l=8):IsD K (upd F l o) d (.ref l):=by
 cases d with
 |lst f=>
  let(b,a,q):=h;rw[e]at a;obtain rfl:=Zqi a;rw[jx.mpr (l,b,9,.of JE,IsDs.same (Vv n _) _ _ q)]
 |dct i f=>
  let(-b,a,z,q):=h;rw[e]at a;obtain rfl:=Zqi a;rw[jO.mpr (l,b,9,JE,z,IsDs.same (Vv n _) _ _ q)]
 |ins c fs f=>
  let(C g b,k,a,z,q):=h;rw[e]at a;obtain rfl:=Zqi a;rw[jN.mpr<|jX l C g b (9,k,JE,z,IsDs.same (Vv n _) _ _ q)]
 |_=>rw[False.elim h]
def m7(H:Hp)(l:Addr)(o:02 (Addr×Yp)):4:=∃a,o=!%[l|a]/\H l=! .lst a
structure RS(K:aa)(B:Bs)(F H:Hp)(sd:SD)(Z:St):4 where
 ext:Ext B.F0 B.H0 F H
 len:⇑Z=⇑sd
 val:∀{i:5}{d:D},sd[i]?=!~~~d->∃v,Z[i]?=! !v/\IsD K F d v
 own:∀{i:5}{p:Bool}{d:D},sd[i]?=! ! .own p d->∃l,Z[i]?=! ! .ref l/\B.H0 l=8/\F l=8/\zi K F H l d/\(p=6->m7 H l (B.pa i))
 apart:∀{i j:5}{p q:Bool}{d e:D}{l:Addr},i≠j->sd[i]?=! ! .own p d->sd[j]?=! ! .own q e->Z[i]?=! ! .ref l->Z[j]? ≠ ! ! .ref l
section
variable {K:aa}
def m7.mono  (h:m7 H l o)(k:∀u,H l=!u->a l=!u):m7 a l o:=yg h λb=>jD λc e=>(b,c,k _ e)
def RS.step(r:RS K B F H sd Z)(e:Ext F H f g):RS K B f g sd Z where
 ext:=r.ext.trans e
 len:=r.len
 val:=λh=>yg (r.val h) λv=>jD λa b=>(v,a,IsD.same e.ff _ _ b)
 own:=λh=>by
  let(-l,a,b,i,c,j):=r.own h;let(o,n):=c.has;rw[(l,a,b,e.new l i (),c.ext e.ff λo q=>e.hh _ _ q,λp=>(j p).mono λu q=>e.hh _ _ q)]
 apart:=r.apart
def Q9{α:Type}{l:List α} {a:α}(h:i≠j):(l.set i a)[j]?=l[j]?:=Zx h
def KR{α:Type}{l:List α} {a b:α}(h:(l.set i a)[i]?=!b):b=a/\i<⇑l:=()
def RS.setVal   (r:RS K B F H sd Z)(h:IsD K F d v):RS K B F H (sd.set i<|~~~d) (Z.set i<|!v)where
 ext:=r.ext
 len:=by rw[Uh,Uh,r.len]
 val:=λ{j e}q=>by
  cases z:i=j
  .subst z;let(a,s):=KR q;cases a;rw[(v,Ut<|by rwa[r.len,],h)]
  .rw[Q9 z]at q ⊢;rw[r.val q]
 own:=λ{j p e}q=>by
  cases z:i=j
  .subst z;let(a,_):=KR q;cases a
  .rw[Q9 z]at q ⊢;rw[r.own q]
 apart:=λ{j k u y E G l}n b c f=>by
  let g:i≠j:=λz=>by subst z;let(a,_):=KR b;cases a
  let o:i≠k:=λz=>by subst z;let(a,_):=KR c;cases a
  rw[Q9 g]at b f;rw[Q9 o]at c ⊢;rw[r.apart n b c f]
def RS.setOwn   (r:RS K B F H sd Z)(u:B.H0 l=8)(v:F l=8)(h:zi K F H l d)(fr:∀(j:5)p e,sd[j]?=! ! SV.own p e->Z[j]? ≠ ! ! .ref l):
 RS K B F H (sd.set i<|! .own 7 d) (Z.set i<|! .ref l)where
 ext:=r.ext
 len:=by rw[Uh,Uh,r.len]
 val:=λ{j e}q=>by
  cases z:i=j
  .subst z;let(f,_):=KR q;cases f
  .rw[Q9 z]at q ⊢;rw[r.val q]
 own:=λ{j p e}q=>by
  cases z:i=j
  .subst z;let(f,g):=KR q;cases f;rw[(l,Ut<|by rwa[r.len,],u,v,h,λz=>by cases z)]
  .rw[Q9 z]at q ⊢;rw[r.own q]
 apart:=λ{j k y E G I m}n c a b=>by
  cases o:i=j
  .subst o;let(_,g):=KR c;rw[Q9 n]at a ⊢;rw[Ut (by rwa[r.len,])]at b;cases b;rw[fr k E I a]
  .rw[Q9 o]at c b;cases s:i=k
   .subst s;let(_,g):=KR a;rw[Ut (by rwa[r.len,]),];intro e;cases e;rw[fr j y G c b]
   .rw[Q9 s]at a ⊢;rw[r.apart n c a b]
def RS.chg     (r:RS K B F H sd Z)(a:sd[i]?=! ! .own p d)(b:Z[i]?=! ! .ref l)(h:zi K F (upd H l o) l c):
 RS K B F (upd H l o) (sd.set i<|! .own 7 c) Z:=by
 let(-Y,f,y,E,_,_):=r.own a;rw[b]at f;cases f;let G:i<⇑sd:=by grind
 rw[((r.ext.ff,AA o r.ext.fh E,AA o r.ext.hh y,r.ext.new),by rw[Uh,r.len],λ{j e}q=>?_,λ{j p e}q=>?_,λ{j k s v d1 d2 m}n I J L=>?_)]
 .cases z:i=j
  .ext
  .rw[Q9 z]at q;rw[r.val q]
 .cases z:i=j
  .ext
  .rw[Q9 z]at q;let(-m,M,O,Q,R,S):=r.own q;let ne:m≠l:=λe=>r.apart z a q b (by rwa[<-e]);rw[(m,M,O,Q,R.ext (.refl _) λu T=>by rwa[J6 ne,],λp=>(S p).mono λu T=>by rwa[J6 ne,])]
 .let g:∀{j:5}{p:Bool}{e:D},(sd.set i<|! .own 7 c)[j]?=! ! .own p e->∃U X,sd[j]?=! ! .own U X:=by grind
  have(_,_,s):=g I;have(_,_,v):=g J;rw[r.apart n s v L]
def RS.frz1   (r:RS K B F H sd Z)(s:sd[i]?=! ! .own p d):∃y,ju F y/\RS K B y H (sd.set i<|~~~d) Z:=by
 let(-l,E,h0,G,I,_):=r.own s;let(o,e):=I.has;let J:i<⇑sd:=();let c:=Vv G o;rw[(upd F l o,c,(r.ext.ff.trans c,λb u q=>?_,r.ext.hh,λa f g=>?_),by rw[Uh,r.len],λ{j x}q=>?_,λ{j p x}q=>?_,λ{j k p1 p2 d1 d2 m}n f g L=>?_)]
 .cases z:b=l
  .simp_all[JE]
  .rw[J6 z]at q;rw[r.ext.fh _ _ q]
 .let z:a≠l:=by grind
  rw[J6 z,];rw[r.ext.new a f g]
 .cases z:i=j
  .subst z;let(M,_):=KR q;cases M;rw[(_,E,I.frz e G)]
  .rw[Q9 z]at q;have(v,O,Q):=r.val q;rw[(v,O,IsD.same c _ _ Q)]
 .cases z:i=j
  .ext
  .rw[Q9 z]at q;let(-m,R,S,m3,T,U):=r.own q;let ne:m≠l:=λe=>r.apart z s q E (by rwa[<-e]);rw[(m,R,S,by rwa[J6 ne,],T.ext c λu X=>X,U)]
 .let Y:i≠j:=λz=>by ext
  let z2:i≠k:=λz=>by ext
  rw[Q9 Y]at f;rw[Q9 z2]at g;rw[r.apart n f g L]
def qR:Yf->SD->SD
 |[],sd=>sd
 |i::a,sd=>qR a (match sd[i]? with
  |some (some<|.own _ d)=>sd.set i (~~~d)
  |_=>sd)
theorem RS.frz:∀a{F:Hp}{sd:SD},RS K B F H sd Z->∃b,ju F b/\RS K B b H (qR a sd) Z
 |[],F,sd,r=>(F,.refl _,r)
 |i::a,F,sd,r=>by
  ext qR
  split
  .rename_i p d h;let(-l,c,e):=r.frz1 h;let(-f,g,j):=RS.frz a e;rw[(f,c.trans g,j)]
  .rw[RS.frz a r]
end
def my(K:aa)(F H:Hp)(c:Str)(fs:Yq)(b:Value)(a:02 Addr):4:=
 ∃C,b=.ref C/\W.nsIn K 000 c=! ! .ref C/\(fs=[]\/∃p n,fs=[.int n]/\a=!p/\F p=! RowO p n)
def XW(K:aa)(E:XK)(F H:Hp)(c:Str)(fs:Yq):4:=∀d a e b,Ext F H e b->my K e b c fs d a->E d a b
def XW.ext{K:aa}    (h:XW K E F H c fs)(e:Ext F H b f):XW K E b f c fs:=λg a i j l q=>h g a i j (e.trans l) q
abbrev FE:=SD->Res D
abbrev FT:=SD->Res Bool
abbrev FA:=SD->Res Yq
def zf(K:aa)(F H:Hp)(Q:VK)(d:D):4:=∀v a b,Ext F H a b->IsD K a d v->Q v b
def kh(F H:Hp)(Q:Bool->Hp->4)(b:Bool):4:=∀c a,Ext F H c a->Q b a
def c6(K:aa)(F H:Hp)(Q:Yp->Hp->4)(d:Yq):4:=∀a b c,Ext F H b c->IsDs K b d a->Q a c
def yT(K:aa)(F H:Hp)(Q:VK)(d:D):4:=∀l a b,Ext F H a b->H l=8->a l=8->zi K a b l d->Q (.ref l) b
def tD(K:aa)(E:XK)(f:FE):TE:=λZ H Q=>∃B F sd,RS K B F H sd Z/\(f sd).need (zf K F H Q) (XW K E F H)
def mC(K:aa)(E:XK)(f:FT):TT:=λZ H Q=>∃B F sd,RS K B F H sd Z/\(f sd).need (kh F H Q) (XW K E F H)
def cg(K:aa)(E:XK)(f:FA):TA:=λZ H Q=>∃B F sd,RS K B F H sd Z/\(f sd).need (c6 K F H Q) (XW K E F H)
def ut(K:aa)(E:XK)(f:FE):TE:=λZ H Q=>∃B F sd,RS K B F H sd Z/\(f sd).need (yT K F H Q) (XW K E F H)
abbrev QE(X:Cx)(E:XK)(e:Expr)(f:FE):4:=PE X e<|tD X.K E f
abbrev QT(X:Cx)(E:XK)(e:Expr)(f:FT):4:=PT X e<|mC X.K E f
abbrev QW(X:Cx)(E:XK)(e:Expr)(f:FT):4:=PW X e<|mC X.K E f
abbrev QA(X:Cx)(E:XK)(es:List Expr)(f:FA):4:=PA X es<|cg X.K E f
abbrev QN(X:Cx)(E:XK)(e:Expr)(f:FE):4:=PE X e<|ut X.K E f
def PE.weak   (h:PE X e t)(w:∀Z H Q,a Z H Q->t Z H Q):PE X e a:=λY s Z H Q I q=>h Y s Z H Q I<|w _ _ _ q
def PT.weak   (h:PT X e t)(w:∀Z H Q,a Z H Q->t Z H Q):PT X e a:=λY s Z H Q I q=>h Y s Z H Q I<|w _ _ _ q
def PW.weak   (h:PW X e t)(w:∀Z H Q,b Z H Q->t Z H Q):PW X e b:=λa Y s Z H Q I q=>h a Y s Z H Q I<|w _ _ _ q
def PA.weak   (h:PA X e t)(w:∀Z H Q,b Z H Q->t Z H Q):PA X e b:=λa Y s Z H Q I q=>h a Y s Z H Q I<|w _ _ _ q
def PS.weak   (h:PS X e t)(w:∀D Z H,a D Z H->t D Z H):PS X e a:=λY s Z H D I q=>h Y s Z H D I<|w _ _ _ q
def xR.weak   (h:xR X e t)(w:∀D Z H,a D Z H->t D Z H):xR X e a:=λY s Z H D I q=>h Y s Z H D I<|w _ _ _ q
def PI.weak   (h:PI X a e t)(w:∀Z H R,b Z H R->t Z H R):PI X a e b:=λY s Z H R I q=>h Y s Z H R I<|w _ _ _ q
section
variable {K:aa}
def zf.ext  (h:zf K F H Q d)(e:Ext F H a b):zf K a b Q d:=λv c f g q=>h v c f (e.trans g) q
def kh.ext  (h:kh F H Q b)(e:Ext F H a c):kh a c Q b:=λf g i=>h f g<|e.trans i
def yT.ext  (h:yT K F H Q d)(e:Ext F H a b):yT K a b Q d:=λl c f g q=>h l c f (e.trans g)<|Q1 e.hh q
def Xo {r:Res D}(h:r.need (zf K F H Q) (XW K E F H))(e:Ext F H a b):r.need (zf K a b Q) (XW K E a b):=h.mono (λ_ q=>q.ext e) λ_ _ q=>q.ext e
def Fi {r:Res Bool}(h:r.need (kh F H Q) (XW K E F H))(e:Ext F H a b):r.need (kh a b Q) (XW K E a b):=h.mono (λ_ q=>q.ext e) λ_ _ q=>q.ext e
def Cv {r:Res D}(h:r.need (yT K F H Q) (XW K E F H))(e:Ext F H a b):r.need (yT K a b Q) (XW K E a b):=h.mono (λ_ q=>q.ext e) λ_ _ q=>q.ext e
theorem zf.new  (h:zf K F H Q d):yT K F H Q d:=λl f g e n c o=>by
 let(u,i):=o.has;rw[h (.ref l) (upd f l u) g (e.ff.trans<|Vv c u,λb v q=>?_,e.hh,λa j p=>?_)<|o.frz i c]
 .cases z:b=l
  .simp_all[JE]
  .rw[J6 z]at q;rw[e.fh _ _ q]
 .let z:a≠l:=by grind
  rw[J6 z,];rw[e.new a j p]
end
section
def j7  (h:QN X E e f):QE X E e f:=PE.weak h λZ H Q=>xf λB F sd=>jD λr n=>jh B F sd (r,n.mono (λ_ q=>q.new) λ_ _ q=>q)
def ja(i:5):FE:=λsd=>match sd[i]? with
 |some (~~~d)=>.ok d
 |_=>.no
def dC(d:D):FE:=λ_=>.ok d
def Xp   (h:PE X e (tC v))(i:∀F,IsD X.K F d v):QE X E e (dC d):=PE.weak h λZ H Q=>xf λB F sd=>jD λr n=>n v F H (.refl r.ext.fh)<|i F
def Jw :QE X E (.Constant (.int i) j a) (dC<|.int i):=Xp (λ_ _ _ H _ I h=>wpAny_Constant_int (.int i,H,I.tok _,(_,9),h)) λ_=>je.mpr 9
def VO :QE X E (.Constant (.bool b) j a) (dC<|.bl b):=Xp (λ_ _ _ H _ I h=>Constant_bool (.bl b,H,I,9,h)) λ_=>jp.mpr 9
def W5 :QE X E (.Constant .none j a) (dC .non):=Xp (λ_ _ _ H _ I h=>Constant_none (.non,H,I,9,h)) λ_=>j8.mpr 9
def JQ :QE X E (.Constant (.str x) j a) (dC<|.str x):=Xp Ef λ_=>jg.mpr 9
def Res.ofO{α:Type}:02 α->Res α
 |some a=>.ok a
 |none=>.no
@[simp]def vI (a:α):Res.ofO (!a)=.ok a:=rfl
def jk    (h:(Res.ofO o).need p q):∃a,o=!a/\p a:=by
 cases(o)with
 |none=>rw[h.elim]
 |some a=>rw[(a,9,h)]
def jd(g:D->D->Yr)(a b:FE):FE:=λsd=>(a sd).bind λx=>(b sd).bind λy=>.ofO<|g x y
def jJ(g:D->Yr)(a:FE):FE:=λsd=>(a sd).bind λx=>.ofO<|g x
def wF(K:aa)(g:D->D->Yr):R2:=λv w H Q=>∃F d e z,ju F H/\IsD K F d v/\IsD K F e w/\g d e=!z/\zf K F H Q z
def sg(K:aa)(g:D->D->Yr):R2:=λv w H Q=>∃F d e z,ju F H/\IsD K F d v/\IsD K F e w/\g d e=!z/\yT K F H Q z
def dm(K:aa)(g:D->Yr):V->Hp->VK->4:=λv H Q=>∃F d z,ju F H/\IsD K F d v/\g d=!z/\zf K F H Q z
def zz(K:aa)(g:Yq->Yr):Yp->Hp->VK->4:=λb H Q=>∃F a z,ju F H/\IsDs K F a b/\g a=!z/\zf K F H Q z
def gh(K:aa)(g:Yq->Yr):Yp->Hp->VK->4:=λb H Q=>∃F a z,ju F H/\IsDs K F a b/\g a=!z/\yT K F H Q z
def YQ{K:aa}     (h:tD K E (jd g c d) Z H Q):ur (wF K g) (tD K E c) (tD K E d) Z H Q:=by
 let(B F sd,r,n):=h;rw[jh B F sd (r,(Res.need_bind n).mono (λx e v f p a i=>jh B f sd (r.step a,(Res.need_bind e).mono (λy j w l s b m=>?_) λ_ _ q=>q.ext a)) λ_ _ q=>q)];let(-z,o,q):=jk j;rw[jX l x y z (b.fh,IsD.same b.ff _ _ i,m,o,q.ext<|a.trans b)]
abbrev yH(X:Cx)(f:Value->Value->Sem Value)(g:D->D->Yr):4:=xD X f<|wF X.K g
abbrev mo(X:Cx)(f:Value->Value->Sem Value)(g:D->D->Yr):4:=xD X f<|sg X.K g
def xD.weak  (h:xD X f r)(w:∀x y H Q,a x y H Q->r x y H Q):xD X f a:=λY s Z H x y v u Q I b c q=>h Y s Z H x y v u Q I b c<|w _ _ _ _ q
def uJ.weak  (h:uJ X f r)(w:∀x H Q,a x H Q->r x H Q):uJ X f a:=λY s Z H x v Q I b q=>h Y s Z H x v Q I b<|w _ _ _ q
def qu.weak  (h:qu X f r)(w:∀x H Q,a x H Q->r x H Q):qu X f a:=λY s Z H x v Q I b q=>h Y s Z H x v Q I b<|w _ _ _ q
def wg.weak (h:wg X r)(w:∀x y H Q,c x y H Q->r x y H Q):wg X c:=λa b Y s Z H x y v u Q I f g q e=>h a b Y s Z H x y v u Q I f g (w _ _ _ _ q) e
variable  {fa fb:FE}
def jo  (c:yH X (binaryOp d) g)(e:QE X E a fa)(f:QE X E b fb):QE X E (.BinOp a d b i) (jd g fa fb):=PE.weak (Eu c e f) λ_ _ _ h=>YQ h
def Fj  (e:mo X (binaryOp f) g)(i:QE X E a fa)(j:QE X E b fb):QN X E (.BinOp a f b l) (jd g fa fb):=PE.weak (Eu e i j) λ_ _ _ h=>by
 let(B F sd,r,n):=h;rw[jh B F sd (r,(Res.need_bind n).mono (λx m v o C c p=>jh B o sd (r.step c,(Res.need_bind m).mono (λy s w t G d u=>?_) λ_ _ q=>q.ext c)) λ_ _ q=>q)];let(-z,A,q):=jk s;rw[jX t x y z (d.fh,IsD.same d.ff _ _ p,u,A,q.ext<|c.trans d)]
def x9  (d:uJ X (unaryOp e) (dm X.K g))(f:QE X E a fa):QE X E (.UnaryOp e a i) (jJ g fa):=PE.weak (λY s Z H Q I h=>UnaryOp_<|jF (f Y s Z H _ I h) λv j=>jy λx b=>j5 λl m o=>d Y j Z b x v Q l m o) λ_ _ _ h=>by
 let(B F sd,r,n):=h;rw[jh B F sd (r,(Res.need_bind n).mono (λx p v t b c u=>?_) λ_ _ q=>q)];let(-z,w,q):=jk p;rw[jh t x z (c.fh,u,w,q.ext c)]
def VP  (d:yH X (compareOp c) g)(e:QE X E a fa)(f:QE X E b fb)(i:behindInMarks c b=7):QE X E (.Compare a [c] [b] j) (jd g fa fb):=PE.weak (E1 d e f i) λ_ _ _ h=>YQ h
def Jz(fa:FE):FT:=λsd=>(fa sd).bind λx=>match x with
 |.bl b=>.ok b
 |_=>.no
def VB{K:aa}   (h:mC K E (Jz fa) Z H Q):tD K E fa Z H λx b=>∃k,x=.bl k/\Q k b:=by
 let(B F sd,r,n):=h;rw[jh B F sd (r,(Res.need_bind n).mono (λx a v c d e f=>?_) λ_ _ q=>q)];cases x with
 |bl k=>rw[(k,jp.mp f,a c d e)]
 |_=>rw[a.elim]
def JV  (d:yH X (compareOp c) g)(e:QE X E a fa)(f:QE X E b fb)(i:behindInMarks c b=7):QT X E (.Compare a [c] [b] j) (Jz<|jd g fa fb):=
 PT.weak (A0 d e f i) λZ H Q h=>have h:=VB h;YQ h
def QQ(c:QE X E a fa)(d:∀b,isTrue a X.env b=(do let v<-b;standAt a.pos;holding [v] (truthy v)):=by intro _;rfl):QT X E a (Jz fa):=PT.weak (El c d) λZ H Q q=>VB q
def Qv(f:FT):FT:=λsd=>(f sd).bind λb=>.ok<|not b
def Qz(f g:FT):FT:=λsd=>(f sd).bind λb=>if b then g sd else .ok 7
def xP(f g:FT):FT:=λsd=>(f sd).bind λb=>if b then .ok 6 else g sd
variable {f g:FT}
def KC(b:QT X E a f):QT X E (.UnaryOp .Not a c) (Qv f):=PT.weak (Em b) λZ H Q=>xf λB F sd=>jD λr n=>
 jh B F sd (r,(Res.need_bind n).mono (λ_ q=>q) λ_ _ q=>q)
def KM(b:QT X E a f):QW X E (.BoolOp .And [a] d) f:=by
 intro i Y s Z H Q I h;rw[isTrue_and<|jF (b Y s Z H Q I h) λc j e=>?_]
 cases(c)with
 |true=>rw[isTrue_and_nil e]
 |false=>rw[e]
def W6(b:QT X E a f):QW X E (.BoolOp .Or [a] d) f:=by
 intro i Y s Z H Q I h;rw[isTrue_or<|jF (b Y s Z H Q I h) λc j e=>?_]
 cases(c)with
 |false=>rw[isTrue_or_nil e]
 |true=>rw[e]
def Ku(i:QT X E a f)(j:QW X E (.BoolOp .And (b::rest) c) g):QW X E (.BoolOp .And (a::b::rest) c) (Qz f g):=PW.weak (LA i j) λZ H Q l=>by
 let(B F sd,r,n):=l;rw[jh B F sd (r,(Res.need_bind n).mono (λk e h m d=>?_) λ_ _ q=>q)]
 cases(k)with
 |true=>rw[jh B h sd (r.step d,Fi e d)]
 |false=>rw[e h m d]
def Vw(i:QT X E a f)(j:QW X E (.BoolOp .Or (b::rest) c) g):QW X E (.BoolOp .Or (a::b::rest) c) (xP f g):=PW.weak (gw i j) λZ H Q l=>by
 let(B F sd,r,n):=l;rw[jh B F sd (r,(Res.need_bind n).mono (λk e h m d=>?_) λ_ _ q=>q)]
 cases(k)with
 |true=>rw[e h m d]
 |false=>rw[jh B h sd (r.step d,Fi e d)]
def jW (h:QW X E e f):QT X E e f:=ml h
def W7(fa fb:FE):FE:=λsd=>(Jz fa sd).bind λb=>if b then fb sd else .ok (.bl 7)
def vA(fa fb:FE):FE:=λsd=>(Jz fa sd).bind λb=>if b then .ok (.bl 6)else fb sd
def Cw(fa:FE):FE:=λsd=>(Jz fa sd).bind λb=>.ok<|.bl<|not b
def YR (h:QE X E a fa):QE X E (.BoolOp c [a] b) fa:=En h
def YS(i:QE X E a fa)(j:QE X E (.BoolOp .And (b::rest) c) fb):QE X E (.BoolOp .And (a::b::rest) c) (W7 fa fb):=PE.weak (Eo i j) λZ H Q l=>by
 let(B F sd,r,n):=l;rw[VB<|jh B F sd (r,(Res.need_bind n).mono (λk e h m d=>?_) λ_ _ q=>q)]
 cases(k)with
 |true=>rw[jh B h sd (r.step d,Xo e d)]
 |false=>rw[e _ h m d<|jp.mpr 9]
def sh(i:QE X E a fa)(j:QE X E (.BoolOp .Or (b::rest) c) fb):QE X E (.BoolOp .Or (a::b::rest) c) (vA fa fb):=PE.weak (gE i j) λZ H Q l=>by
 let(B F sd,r,n):=l;rw[VB<|jh B F sd (r,(Res.need_bind n).mono (λk e h m d=>?_) λ_ _ q=>q)]
 cases(k)with
 |true=>rw[e _ h m d<|jp.mpr 9]
 |false=>rw[jh B h sd (r.step d,Xo e d)]
def gq(e:QE X E a fa):QE X E (.UnaryOp .Not a i) (Cw fa):=PE.weak (by
 intro Y s Z H Q I h;rw[UnaryOp_<|jF (e Y s Z H _ I h) λv t=>jy λx b=>j5 λj l d=>?_];let(c,rfl,d):=d;cases l;rw[not_of<|wpAny_truthy_bool (.bl<|not c,b,j,9,d)]) λZ H Q=>xf λB F sd=>jD λr n=>VB<|jh B F sd (r,(Res.need_bind n).mono (λk m o b p=>m _ o b p<|jp.mpr 9) λ_ _ q=>q)
def nY(c:FT)(fa fb:FE):FE:=λsd=>(c sd).bind λk=>if k then fa sd else fb sd
def Fk (i:QT X E c f)(j:QE X E a fa)(l:QE X E b fb):QE X E (.IfExp c a b m) (nY f fa fb):=PE.weak (LC i j l) λZ H Q o=>by
 let(B F sd,r,n):=o;rw[jh B F sd (r,(Res.need_bind n).mono (λk e h p d=>?_) λ_ _ q=>q)]
 cases(k)with
 |true=>rw[(B,h,sd,r.step d,Xo e d)]
 |false=>rw[jh B h sd (r.step d,Xo e d)]
def jb:FA:=λ_=>.ok []
def Ju(fa:FE)(fr:FA):FA:=λsd=>(fa sd).bind λx=>(fr sd).bind λa=>.ok<|x::a
def Jx:QA X E [] jb:=PA.weak Xi λZ H Q=>xf λB F sd=>jD λr n=>n [] F H (.refl r.ext.fh) .nil
def Jv    (d:QE X E e h)(i:QA X E a fr)(j:01 (e::a) X.env=%[7|eval e X.env]::01 a X.env:=by rfl):QA X E (e::a) (Ju h fr):=
 PA.weak (Xj d i j) λZ H Q=>xf λB F sd=>jD λr n=>jh B F sd (r,(Res.need_bind n).mono (λx l v m w b o=>jh B m sd (r.step b,(Res.need_bind l).mono (λy p z s t c u=>p _ s t (b.trans c)<|.mk (IsD.same c.ff _ _ o) u) λ_ _ q=>q.ext b)) λ_ _ q=>q)
def qm(fr:FA):FE:=λsd=>(fr sd).bind λa=>if ⇑a<=1000 then .ok (.lst a)else .no
def jH(fr:FA):FE:=λsd=>(fr sd).bind λa=>if ⇑a<=1000 then .ok (.tup a)else .no
def Kh  (h:QA X E i fr):QN X E (.List i j) (qm fr):=PE.weak (EC h) λZ H Q l=>by
 let(B F sd,r,n):=l;rw[jh B F sd (r,(Res.need_bind n).mono (λs b d m o a e=>?_) λ_ _ q=>q)]
 split at b
 .let t:=⇑e;rw[(small (),λp c=>b p m (upd o p<|.lst d) (a.trans<|.keep a.fh c _) (Q1 a.hh c) (Q1 a.fh c) (d,JE,e))]
 .rw[b.elim]
def Qs   (h:QA X E i fr):QE X E (.Tuple i o j) (jH fr):=PE.weak (EB h) λZ H Q l=>by
 let(B F sd,r,n):=l;rw[jh B F sd (r,(Res.need_bind n).mono (λs a b t u c d=>?_) λ_ _ q=>q)]
 split at a
 .let v:=⇑d;rw[(small (),λp m=>?_)];let e:=Ext.alloc c.fh m<|.tup b;rw[a _ _ _ (c.trans e)<|jm.mpr (p,b,9,.of JE,IsDs.same e.ff _ _ d)]
 .rw[a.elim]
def xZ(K:aa)(b:Yq->Res D):Sp:=λc H Q _=>∃F a,ju F H/\IsDs K F a c/\(b a).need (zf K F H Q) (XW K E0 F H)
def vG(K:aa)(b:Yq->Res D):Sp:=λc H Q _=>∃F a,ju F H/\IsDs K F a c/\(b a).need (yT K F H Q) (XW K E0 F H)
def J9(a:Yq->Res D)(fr:FA):FE:=λsd=>(fr sd).bind a
def qg        (c:wq X.prog X.w X.K X.mg X.base name k C (xZ X.K i))(l:Room k X.A)(m:Gl X name)(o:QA X E0 (e::a) fr)
 (b:(name==("__debug__":Str))=7:=by decide)(s:01 (e::a) X.env=%[7|eval e X.env]::01 a X.env:=by rfl)(d:(backTo h<|01 a X.env).any (·.1)=7:=by rfl):
 QE X E0 (.Call (.Name name p) (e::a) [] h) (J9 i fr):=PE.weak (XN c l m o b s d) λZ H Q t=>by
 let(B F sd,r,n):=t;rw[jh B F sd (r,(Res.need_bind n).mono (λu v w y z j A=>?_) λ_ _ q=>q)];show xZ X.K i (w++[]) z Q E0;rw[ZA,];rw[(y,u,j.fh,A,Xo v j)]
def Cy        (c:wq X.prog X.w X.K X.mg X.base name k C (vG X.K i))(l:Room k X.A)(m:Gl X name)(o:QA X E0 (e::a) fr)
 (b:(name==("__debug__":Str))=7:=by decide)(s:01 (e::a) X.env=%[7|eval e X.env]::01 a X.env:=by rfl)(d:(backTo h<|01 a X.env).any (·.1)=7:=by rfl):
 QN X E0 (.Call (.Name name p) (e::a) [] h) (J9 i fr):=PE.weak (XN c l m o b s d) λZ H Q t=>by
 let(B F sd,r,n):=t;rw[jh B F sd (r,(Res.need_bind n).mono (λu v w y z j A=>?_) λ_ _ q=>q)];show vG X.K i (w++[]) z Q E0;rw[ZA,];rw[(y,u,j.fh,A,Cv v j)]
def jj(g:Yq->Yr)(fr:FA):FE:=λsd=>(fr sd).bind λa=>.ofO<|g a
def J7{id:String}    {g:Yq->Yr} (i:qu X (.builtin id) (zz X.K g))(j:Gl X x)(l:X.mg x=8)(m:bootBuiltins x=! .builtin id)(o:QA X E (e::a) fr)(s:x ≠"__name__":=by decide)(b:(x==("__debug__":Str))=7:=by decide)
 (t:01 (e::a) X.env=%[7|eval e X.env]::01 a X.env:=by rfl)(c:(backTo d<|01 a X.env).any (·.1)=7:=by rfl):QE X E (.Call (.Name x p) (e::a) [] d) (jj g fr):=
 PE.weak (EL i j l m o s b t c) λZ H Q u=>by
  let(B F sd,r,n):=u;rw[jh B F sd (r,(Res.need_bind n).mono (λv w G y I h A=>?_) λ_ _ q=>q)];let(-z,C,q):=jk w;rw[jh y v z (h.fh,A,C,q.ext h)]
def YT     {g:Yq->Yr} (i:qu X (.type T) (zz X.K g))(j:Gl X x)(l:X.mg x=8)(m:bootBuiltins x=! .type T)(o:QA X E (e::a) fr)(s:x ≠"__name__":=by decide)(b:(x==("__debug__":Str))=7:=by decide)
 (t:01 (e::a) X.env=%[7|eval e X.env]::01 a X.env:=by rfl)(c:(backTo d<|01 a X.env).any (·.1)=7:=by rfl):QE X E (.Call (.Name x p) (e::a) [] d) (jj g fr):=
 PE.weak (A4 i j l m o s b t c) λZ H Q u=>by
  let(B F sd,r,n):=u;rw[jh B F sd (r,(Res.need_bind n).mono (λv w G y I h A=>?_) λ_ _ q=>q)];let(-z,C,q):=jk w;rw[jh y v z (h.fh,A,C,q.ext h)]
def Cz     {g:Yq->Yr} (i:qu X (.type T) (gh X.K g))(j:Gl X x)(l:X.mg x=8)(m:bootBuiltins x=! .type T)(o:QA X E (e::a) fr)(s:x ≠"__name__":=by decide)(b:(x==("__debug__":Str))=7:=by decide)
 (t:01 (e::a) X.env=%[7|eval e X.env]::01 a X.env:=by rfl)(c:(backTo d<|01 a X.env).any (·.1)=7:=by rfl):QN X E (.Call (.Name x p) (e::a) [] d) (jj g fr):=
 PE.weak (A4 i j l m o s b t c) λZ H Q u=>by
  let(B F sd,r,n):=u;rw[jh B F sd (r,(Res.need_bind n).mono (λv w G y I h A=>?_) λ_ _ q=>q)];let(-z,C,q):=jk w;rw[jh y v z (h.fh,A,C,q.ext h)]
def Kz:D->Bool
 |.tup _=>7
 |.lst _=>7
 |.dct _ _=>7
 |.ins _ _ _=>7
 |.exc _=>7
 |.exr _ _=>7
 |.dcf _ _=>7
 |.pin _ _=>7
 |.scr _=>7
 |_=>6
def IsD.scal{K:aa}   (s:Kz d=6)(h:IsD K F d v):IsD K a d v:=by
 cases d with
 |tup _=>rw[JP s]
 |lst _=>rw[JP s]
 |dct _ _=>rw[JP s]
 |ins _ _ _=>rw[JP s]
 |exc _=>rw[JP s]
 |exr _ _=>rw[JP s]
 |dcf _ _=>rw[JP s]
 |pin _ _=>rw[JP s]
 |scr _=>rw[JP s]
 |_=>rw[h]
def Res.bare{α:Type}(r:Res α):Res α:=match r with
 |.ok a=>.ok a
 |.ex c []=>.ex c []
 |_=>.no
def xE {K:aa} {r:Res α} (b:ju F H)(h:r.bare.need p (XW K E0 F H)):r.need p (XW K E0 o H):=by
 cases(r)with
 |ok a=>rw[h]
 |no=>rw[h]
 |ex c fs=>
  cases(fs)with
  |nil=>rw[λe a s i j=>xg λC=>j5 λl n _=>h e 8 F i (.grow b j.hh) (C,l,n,.inl 9)]
  |cons d r=>rw[h.elim]
def zd(a:Yf)(f:FE):FE:=λsd=>(f<|qR a sd).bare.bind λd=>if Kz d then .ok d else .no
def C0  (b)(h:QE X E0 e i):QE X E0 e (zd b i):=PE.weak h λZ H Q j=>by
 let(B F sd,r,n):=j;let(-l,u,m):=r.frz b;rw[jh B l _ (m,(xE r.ext.fh<|Res.need_bind n).mono (λd a v w o p s=>?_) λc fs q=>q)]
 split at a
 .rename_i t;rw[a v F o (.grow r.ext.fh p.hh)<|s.scal t]
 .rw[a.elim]
end
inductive Out where
 |next(sd:SD)|ret(d:D)|brk(sd:SD)|cont(sd:SD)
def c5(K:aa)(F H:Hp)(Q:VK)(d:D):4:=if Kz d=6 then zf K F H Q d else yT K F H Q d
def mi(K:aa)(m:02 Bool)(B:Bs)(Q:VK)(d:D):4:=match m with
 |some true=>yT K B.F0 B.H0 Q d
 |some false=>zf K B.F0 B.H0 Q d
 |none=>c5 K B.F0 B.H0 Q d
def wn(K:aa)(m:02 Bool)(B:Bs)(F:Hp)(T:Ends):Out->4
 |.next sd=>∀Z a b,ju F a->RS K B a b sd Z->T.nx Z b
 |.brk sd=>∀Z a b,ju F a->RS K B a b sd Z->T.bk Z b
 |.cont sd=>∀Z a b,ju F a->RS K B a b sd Z->T.ct Z b
 |.ret d=>mi K m B T.rt d
abbrev FS:=SD->Res Out
def kK(K:aa)(E:XK)(m:02 Bool)(g:FS):TS:=λT Z H=>∃B F sd,RS K B F H sd Z/\(g sd).need (wn K m B F T) (XW K E B.F0 B.H0)
abbrev QS(X:Cx)(E:XK)(m:02 Bool)(st:Stmt)(g:FS):4:=PS X st<|kK X.K E m g
abbrev wf(X:Cx)(E:XK)(m:02 Bool)(st:List Stmt)(g:FS):4:=xR X st<|kK X.K E m g
section
variable {K:aa}
def wn.mono (h:wn K m B F T o)(e:ju F c):wn K m B c T o:=by
 cases o with
 |next sd=>rw[λZ a b s r=>h Z a b (e.trans s) r]
 |brk sd=>rw[λZ a b s r=>h Z a b (e.trans s) r]
 |cont sd=>rw[λZ a b s r=>h Z a b (e.trans s) r]
 |ret d=>rw[h]
end
section
variable  {E:XK}  {st:Stmt}  {g g1 g2:FS}
def JF:FS:=λsd=>.ok<|.next sd
def js(g1 g2:FS):FS:=λsd=>(g1 sd).bind λo=>match o with
 |.next a=>g2 a
 |o=>.ok o
def Qp:wf X E m [] JF:=xR.weak Cc λT Z H=>xf λB F sd=>jD λr n=>n Z F H (.refl _) r
def J8(h:QS X E m st g):wf X E m [st] g:=Ax h
def JA(e:QS X E m st g1)(f:wf X E m c g2):wf X E m (st::c) (js g1 g2):=xR.weak (Cd e f) λT Z H h=>by
 let(B F sd,r,n):=h;rw[jh B F sd (r,(Res.need_bind n).mono (λo b=>?_) λ_ _ q=>q)]
 cases(o)with
 |next a=>rw[λl i p s j=>jh B i a (j,b.mono (λo q=>q.mono s) λ_ _ q=>q)]
 |ret d=>rw[b]
 |brk a=>rw[b]
 |cont a=>rw[b]
def Fl(a)(h:QS X E m st g):QS X E m st λsd=>g<|qR a sd:=PS.weak h λT Z H b=>by
 let(B F sd,r,n):=b;let(-c,d,e):=r.frz a;rw[jh B c _ (e,n.mono (λ_ q=>q.mono d) λ_ _ q=>q)]
def j3(i:5)(f:FE):FS:=λsd=>(f sd).bind λd=>.ok<|.next<|sd.set i<|~~~d
def xH(i:5)(f:FE):FS:=λsd=>(f sd).bind λd=>.ok<|.next<|sd.set i<|! .own 7 d
def JR   (f:X.N.Nodup)(h:X.N[i]?=!x)(j:zO X.env.scope x)(l:QE X E e o)(p:swapsWith e (! .Name x a) b.line X.env=pure 7:=by rfl)
 (s:X.fn x=6\/X.env.scope.names.lookup x=!.local:=by trivial):QS X E m (.Assign [.Name x a] e b) (j3 i o):=PS.weak (Ce f h j l p s) λT Z H=>xf λB F sd=>jD λr n=>jh B F sd (r,(Res.need_bind n).mono (λd t v u w c y=>t _ u w c.ff<|(r.step c).setVal y) λ_ _ q=>q.ext r.ext)
def Xq   (f:X.N.Nodup)(h:X.N[i]?=!x)(s:zO X.env.scope x)(t:QN X E e u)(v:swapsWith e (! .Name x a) b.line X.env=pure 7:=by rfl)
 (w:X.fn x=6\/X.env.scope.names.lookup x=!.local:=by trivial):QS X E m (.Assign [.Name x a] e b) (xH i u):=PS.weak (Ce f h s t v w) λT Z H y=>by
 let(B F sd,r,n):=y;rw[jh B F sd (r,(Res.need_bind n).mono (λd z l A C c G I J=>z _ A C c.ff<|(r.step c).setOwn (Q1 r.ext.hh G) I J λj p N L O=>?_) λ_ _ q=>q.ext r.ext)];let(-P,Q,_,_,M,_):=r.own L;let(o,R):=M.has
 ext
def jL(f:FE):FS:=λsd=>(f sd).bind λd=>.ok<|.ret d
def Qh(a:QE X E e b):QS X E 7 (.Return (!e) c) (jL b):=PS.weak (Ay a) λT Z H=>xf λB F sd=>jD λr n=>jh B F sd (r,(Res.need_bind n).mono (λd f v h i j l=>f v h i (r.ext.trans j) l) λ_ _ q=>q.ext r.ext)
def MX(a:QN X E e b):QS X E 6 (.Return (!e) c) (jL b):=PS.weak (Ay a) λT Z H=>xf λB F sd=>jD λr n=>jh B F sd (r,(Res.need_bind n).mono (λd f l h i j m o p=>f l h i (r.ext.trans j) (Q1 r.ext.hh m) o p) λ_ _ q=>q.ext r.ext)
def Wn(i:5):FS:=λsd=>match sd[i]? with
 |some (some<|.own _ d)=>.ok (.ret d)
 |_=>.no
def AB (a:PE X e (zl i)):QS X E 6 (.Return (!e) b) (Wn i):=PS.weak (Ay a) λT Z H c=>by
 let(B F sd,r,n):=c;unfold Wn at n
 split at n
 .rename_i d q;let(-l,f,h,j,m,_):=r.own q;rw[(.ref l,f,n l F H r.ext h j m)]
 .rw[n.elim]
def KS(f:FE):FS:=λsd=>(f sd).bind λ_=>.ok<|.next sd
def XQ(c:QE X E e f)(h:swapsWith e 8 a.line X.env=pure 7:=by rfl):QS X E m (.Expr e a) (KS f):=PS.weak (YK c h) λT Z H i=>by
 let(B F sd,r,n):=i;rw[jh B F sd (r,(Res.need_bind n).mono (λd j v l o b p=>?_) λ_ _ q=>q.ext r.ext)];rw[j Z l o b.ff<|r.step b]
def qj(c:FT)(g1 g2:FS):FS:=λsd=>(c sd).bind λb=>if b then g1 sd else g2 sd
def Qq   (h:QT X E c i)(j:wf X E m a g1)(l:wf X E m b g2):QS X E m (.If c a b o) (qj i g1 g2):=PS.weak (Ep h j l) λT Z H p=>by
 let(B F sd,r,n):=p;rw[jh B F sd (r,(Res.need_bind n).mono (λb e f s d=>?_) λ_ _ q=>q.ext r.ext)]
 cases(b)with
 |true=>rw[(B,f,sd,r.step d,e.mono (λ_ q=>q.mono d.ff) λ_ _ q=>q)]
 |false=>rw[jh B f sd (r.step d,e.mono (λ_ q=>q.mono d.ff) λ_ _ q=>q)]
def Ko(i:5)(f:FE):FS:=λsd=>match sd[i]? with
 |some (some<|.own false<|.lst ds)=>(f sd).bind λd=>if ⇑ds<00 then .ok (.next<|sd.set i<|!(.own 7<|.lst<|ds++[d]))else .no
 |_=>.no
def XR   (J:PE X o (zl i))(L:QE X E e y)
 (M:∀{z:TE}{t:TA},PE X o z->PA X [e] t->PE X (.Call (.Attribute o "append" a) [e] [] b) (uX X.K "list" Cj z t))
 (N:swapsWith (.Call (.Attribute o "append" a) [e] [] b) 8 j.line X.env=pure 7:=by rfl)
 (p:01 [e] X.env=%[7|eval e X.env]::01 [] X.env:=by rfl):QS X E m (.Expr (.Call (.Attribute o "append" a) [e] [] b) j) (Ko i y):=
 PS.weak (YK (M J<|Jv L Jx p) N) λT Z H O=>by
  let(B F sd,r,n):=O;unfold Ko at n
  split at n
  .rename_i U A;let(-l,C,Y,h3,(s,G,I),_):=r.own A;rw[(.ref l,C,.inl (9,s,qX.of G),B,F,sd,r,?_)];ext Ju jb;let f:=Res.need_bind n
   induction q:y sd with
   |no=>rwa[q]at f
   |ex c fs=>rw[q]at f;rw[f.ext r.ext]
   |ok d=>
    rw[q]at f;intro vs P H1 h Q;let(v w,rfl,R,S):=Q;subst S;let u:=f
    split at u
    .let hl:=⇑I;rw[jh l s v (9,9,h.hh _ _ G,(),u Z P _ h.ff<|(r.step h).chg A C (s++[v],JE,(IsDs.same h.ff _ _ I).snoc R))]
    .rw[u.elim]
  .rw[n.elim]
inductive Tg where
 |one(i:Nat)|tup(is:Yf)
def setAll:Yf->Yq->SD->SD
 |i::is,d::a,sd=>setAll is a (sd.set i<|~~~d)
 |_,_,sd=>sd
def JS:Tg->D->SD->Res SD
 |.one i,d,sd=>.ok (sd.set i<|~~~d)
 |.tup a,.tup b,sd=>if ⇑b=⇑a then .ok (setAll a b sd)else .no
 |_,_,_=>.no
def AC:Yf->Yp->St->St
 |i::a,v::b,Z=>AC a b (Z.set i<|!v)
 |_,_,Z=>Z
theorem RS.setAll{K:aa}{B:Bs}{F H:Hp}:∀{is:Yf}{b:Yq}{a:Yp}{sd:SD}{Z:St},RS K B F H sd Z->IsDs K F b a->RS K B F H (setAll is b sd) (AC is a Z)
 |[],b,a,sd,Z,r,_=>r
 |i::is,[],a,sd,Z,r,h=>by
  subst h;rw[r]
 |i::is,d::b,a,sd,Z,r,h=>by
  let(v w,rfl,c,e):=h;rw[RS.setAll (is:=is) (r.setVal c) e]
def RS.forget{K:aa}    (r:RS K B F H sd Z)(b:⇑a=⇑sd)(h:∀(i:5)x,a[i]?=! !x->sd[i]?=! !x):RS K B F H a Z:=
 (r.ext,by rw[r.len,b],λq=>r.val<|h _ _ q,λq=>r.own<|h _ _ q,λn c e f=>r.apart n (h _ _ c) (h _ _ e) f)
def gT:Tg->aa->TG
 |.one i,_=>Wm i
 |.tup c,K=>λv Z H Q=>∃a b,v=.ref a/\yn K H a b/\⇑b=⇑c/\Q (AC c b Z) H
def YU{K:aa}          (r:RS K B F H sd Z)(m:IsD K F d v)(n:(JS j d sd).need p q)
 (h:∀b o,p b->JS j d sd=.ok b->RS K B F H b o->Q o H):gT j K v Z H Q:=by
 cases(j)with
 |one i=>rw[h _ _ n 9<|r.setVal m]
 |tup e=>
  cases d with
  |tup f=>
   let(a t,rfl,u,s):=m;let c:JS (.tup e) (.tup f) sd=if ⇑f=⇑e then .ok (setAll e f sd)else .no:=9
   cases l:⇑f=⇑e
   .rw[Zd l]at c;rw[c]at n;rw[(a,t,9,(u.same r.ext.fh).sq,by rw[⇑s,l],h _ _ n c<|r.setAll s)]
   .rw[Ze l]at c;rw[c]at n;rw[n.elim]
  |_=>rw[n.elim]
abbrev QG(X:Cx)(e:Expr)(tg:Tg):4:=PG X e<|gT tg X.K
def wc(K:aa)(h:Hp)(J:It)(b:Yq):4:=∀(i:5)(c a:Hp),ju h c->ju c a->
 (i<⇑b->J.go i a/\∀x e,J.yld i a x e->∃d f,b[i]?=!d/\Ext c a f e/\IsD K f d x)/\(⇑b<=i->J.stop i a)
def rL(K:aa)(E:XK)(f:FA):TI:=λZ H R=>∃B F sd,RS K B F H sd Z/\(f sd).need (λc=>∀J a b,Ext F H a b->wc K a J c->R J b) (XW K E F H)
abbrev QI(X:Cx)(E:XK)(tg iter:Expr)(f:FA):4:=PI X tg iter<|rL X.K E f
def zb(b:D->FS):Yq->FS
 |[],sd=>.ok (.next sd)
 |x::c,sd=>(b x sd).bind λo=>match o with
  |.next a=>zb b c a
  |.cont a=>zb b c a
  |.brk a=>.ok (.next a)
  |.ret d=>.ok (.ret d)
def qf(a:FA)(c:Tg)(b:FS):FS:=λsd=>(a sd).bind λds=>zb (λx sd=>(JS c x sd).bind b) ds sd
def Kc    (hp:PassesOwn (model X.prog X.w) X.A X.env X.xe)(hc:X.calm=6)(Q:QI X E R e fi)(hg:QG X R t)(hb:wf X E m s g)
 (A:∀x,foldedSetIterable e X.env x=pure x:=by intro _;rfl):QS X E m (.For R e s [] pos) (qf fi t g):=PS.weak (Et hp hc Q hg hb A) λT Z H zh=>by
 let(B F sd,r,n):=zh;rw[jh B F sd (r,(Res.need_bind n).mono (λa n1 J C H1 S wk=>(λi k Z H=>k=⇑a-i/\i<=⇑a/\∃l sd,ju C l/\RS X.K B l H sd Z/\(zb (λx sd=>(JS t x sd).bind g) (a.drop i) sd).need (wn X.K m B l T) (XW X.K E B.F0 B.H0),
  (⇑a,9,Um _,C,sd,.refl _,r.step S,n1.mono (λ_ q=>q.mono S.ff) λ_ _ q=>q),?_)) λ_ _ q=>q.ext r.ext)]
 rintro i k Z2 U ⟨rfl,Q,l,sd2,G,I,u⟩;let(w1,w2):=wk i l U G I.ext.fh;cases f:i<⇑a
 .let(go,yl):=w1 f;rw[.inr (go,λL Y=>∃h b,ju C h/\RS X.K B h Y b L/\(zb (λx sd=>(JS t x sd).bind g) (a.drop<|i+1) b).need (wn X.K m B h T) (XW X.K E B.F0 B.H0),
   λL Y=>jy λh b=>j5 λq1 q2 q3=>(⇑a-(i+1),(),9,f,h,b,q1,q2,q3),λx H3 y=>?_)]
  let(d h,hd,p,i3):=yl x H3 y;rw[UH f]at u;let M:a[i]=d:=by ext
  rw[M]at u;rw[YU (I.step p) i3 (Res.need_bind<|Res.need_bind u) λN L n4 _ r4=>jh B h N (r4,n4.mono (λo z=>?_) λ_ _ q=>q)]
  cases(o)with
  |next c=>rw[λO v P j w=>(v,c,(G.trans p.ff).trans j,w,z.mono (λ_ q=>q.mono<|p.ff.trans j) λ_ _ q=>q)]
  |cont c=>rw[λO v P j w=>(v,c,(G.trans p.ff).trans j,w,z.mono (λ_ q=>q.mono<|p.ff.trans j) λ_ _ q=>q)]
  |brk c=>rw[λO v P j w=>z O v P (p.ff.trans j) w]
  |ret d=>rw[z]
 .let he:i=⇑a:=()
  rw[.inl (w2 (),?_)];subst he;rw[UQ]at u;rw[u Z2 l U (.refl _) I]
def yY{α β:Type}(f:α->Res β):List α->Res (List β)
 |[]=>.ok []
 |x::a=>(f x).bind λy=>(yY f a).bind λb=>.ok<|y::b
def qM(cap:List (02 5))(sd:SD):SD:=cap.map λo=>o.bind λj=>match sd[j]? with
 |some (~~~d)=>~~~d
 |_=>8
def Wo(sd:SD)(i:5):Bool:=match sd[i]? with
 |some none=>6
 |_=>7
def Xr(sd:SD):Tg->Bool
 |.one i=>Wo sd i
 |.tup a=>a.all (Wo sd)
def Q2(cap:List (02 5))(b:FA)(a:Tg)(f:FE):FE:=λsd=>(b sd).bind λds=>if Xr (qM cap sd) a=6/\⇑ds<00 then
 (yY (λx=>(JS a x<|qM cap sd).bind f) ds).bind λc=>.ok<|.lst c else .no
theorem RS.cap{K:aa}    (cap:List (02 5))(r:RS K B F H sd Z):RS K B F H (qM cap sd) (Xn cap Z):=by
 let a:∀{i:5}{x:SV},(qM cap sd)[i]?=! !x->∃j d,cap[i]?=! !j/\sd[j]?=!~~~d/\x=.val d:=λ{i x}q=>by
  unfold qM at q;rw[Zv]at q
  induction hc:cap[i]? with
  |none=>rw[hc]at q;rw[J2 q]
  |some o=>
   rw[hc]at q
   cases(o)with
   |none=>cases q
   |some j=>
    let q:(match sd[j]? with
     |some (~~~d)=>! SV.val d
     |_=>8)=!x:=Zqi q
    split at q
    .rename_i d s;rw[(j,d,9,s,(Zqi q).symm)]
    .rw[J2 q]
 rw[(r.ext,by ext qM Xn;rw[Zql,Zql],λ{i d}q=>?_,λ{i p d}q=>?_,λ{i j p z d e l}_ q=>?_)]
 .let(j n,c,f,b):=a q;cases b;let(-v,u,y):=r.val f;rw[(v,?_,y)];ext Xn;rw[Zv,c];show some (Option.bind (!j) λj=>(Z[j]?).join)=_;rw[Option.bind_some,u];rfl
 .let(j n,c,f,b):=a q;cases b
 .let(j n,c,f,b):=a q;cases b
theorem C1:∀b c a sd,b.all (Wo a)=6->⇑sd=⇑a->(∀(i:5)x,a[i]?=! !x->sd[i]?=! !x)->
 ⇑(setAll b c sd)=⇑a/\∀(i:5)x,a[i]?=! !x->(setAll b c sd)[i]?=! !x
 |[],c,a,sd,_,hl,h=>(hl,h)
 |i::b,[],a,sd,_,hl,h=>(hl,h)
 |i::b,d::c,a,sd,hn,hl,h=>by
  rw[Uv,Uc]at hn;rw[C1 b c a (sd.set i<|~~~d) hn.2 (by rw[Uh,hl]) λj x q=>?_];let ne:i≠j:=λz=>by
   subst z;let:=hn.1;unfold Wo at this;rw[q]at this;rw[JP this]
  rw[Q9 ne,];rw[h j x q]
def Fm   (f:Xr a e=6)(h:JS e d a=.ok sd):⇑a=⇑sd/\∀(i:5)x,a[i]?=! !x->sd[i]?=! !x:=by
 cases(e)with
 |one i=>
  cases h;let:=C1 [i] [d] a a (by rwa[Uv,List.all_nil,Bool.and_true]) 9 λ_ _ q=>q;rw[(this.1.symm,this.2)]
 |tup b=>
  cases d with
  |tup c=>
   let j:JS (.tup b) (.tup c) a=if ⇑c=⇑b then .ok (setAll b c a)else .no:=9
   rw[j]at h
   split at h
   .cases h;let:=C1 b c a a f 9 λ_ _ q=>q;rw[(this.1.symm,this.2)]
   .cases h
  |_=>cases h
def MY  {a:List α}  {p:List β->4} (c:a[i]?=!x)(h:(yY f<|a.drop i).need p q):(f x).need (λy=>(yY f<|a.drop<|i+1).need (λd=>p<|y::d) q) q:=by
 let b:i<⇑a:=(Ja.mp c).1;rw[UH b]at h;let e:a[i]=x:=by rw[Zqg b]at c;rw[Zqi c]
 rw[e]at h;unfold yY at h;rw[(Res.need_bind h).mono (λy j=>?_) λ_ _ z=>z];rw[(Res.need_bind j).mono (λd l=>l) λ_ _ z=>z]
def C2{K:aa}       (o:ut K E (Q2 cap N t f) Z H Q):A8 cap (rL K E N) (gT t K) (tD K E f) Z H Q:=by
 let(B F sd,r,n):=o;rw[jh B F sd (r,(Res.need_bind n).mono (λb p J L O m P=>?_) λ_ _ q=>q)]
 split at p
 .rename_i o;let(R,hz):=o;rw[(λi k s Z c=>k=⇑b-i/\i<=⇑b/\∃a e,Ext L O a c/\RS K B a c (qM cap sd) Z/\IsDs K a e s/\⇑e=i/\
   (yY (λx=>(JS t x<|qM cap sd).bind f)<|b.drop i).need (λu=>yT K a c Q<|.lst<|e++u) (XW K E a c),(⇑b,9,Um _,L,[],.refl m.fh,(r.step m).cap cap,.nil,9,?_),?_)]
  .rw[(Res.need_bind p).mono (λu q=>(q).ext m) λ_ _ q=>q.ext m]
  rintro i k s Z2 c ⟨rfl,hi,a,e,w,z,A,hl,C⟩;let ly:=⇑A;rw[((),?_)];let(!S,T):=P i a c w.ff w.fh;cases j:i<⇑b
  .let(!go,U):=S j;rw[.inr (go,λx X y=>?_)];let(d Y,hd,h,i3):=U x X y;let n3:=MY hd C;let r3:=z.step h;rw[YU r3 i3 (Res.need_bind n3) λG Z' n4 hb M=>?_];let(b1,b2):=Fm R hb;rw[jh B Y G (M,n4.mono (λy n5 v F4 H4 l i4=>(⇑b-(i+1),(),9,j,F4,e++[y],(w.trans h).trans l,(M.step l).forget b1 b2,(IsDs.same (h.ff.trans l.ff) _ _ A).snoc i4,(),n5.mono (λu q=>?_) λ_ _ q=>q.ext<|h.trans l)) λ_ _ q=>q.ext h)];rw[Uq,];rw[q.ext<|h.trans l]
  .let he:i=⇑b:=()
   subst he;rw[.inl (T<|Zf _,λD I=>?_)];rw[UQ]at C;let q:yT K a c Q (.lst<|e++[]):=C;rw[ZA]at q;rw[q D a _ (.keep z.ext.fh I _) I (Q1 z.ext.fh I) (s,JE,A)]
 .rw[p.elim]
def KN     (N)(cap)(j:X.calm=6)(d:VA a X.env N X.N cap=6)(l:QI X E i b m)
 (n:∀c C s H ex,QG (Qj X a N c C s H ex) i t)(o:∀c C s H ex,QE (Qj X a N c C s H ex) E e f)(p:∀x,foldedSetIterable b X.env x=pure x:=by intro _;rfl):
 QN X E (.ListComp e [(i,b,[],0)] a r) (Q2 cap m t f):=PE.weak (Fe N cap j d l n (λc C s H ex _=>o c C s H ex) p) λ_ _ _ h=>C2 h
def JN(n:5)(a:Yq):SD:=a.map (λd=>~~~d)++List.replicate (n-⇑a) 8
def jS(n b:5)(g:FS)(a:Yq):Res D:=if ⇑a=b then(g<|JN n a).bind λo=>match o with
 |.ret d=>.ok d
 |.next _=>.ok .non
 |_=>.no else .no
def xI(n b:5)(g:FS)(a:Yq):Res D:=if ⇑a=b then(g<|JN n a).bind λo=>match o with
 |.ret d=>.ok d
 |_=>.no else .no
theorem RS.start{K:aa}{F H:Hp}{N:Yg}{b:Yq}{f:Yp}(s:ju F H)(h:IsDs K F b f):RS K (F,H,λ_=>8) F H (JN ⇑N b) (start N f):=by
 let a:∀{i:5}{x:SV},(JN ⇑N b)[i]?=! !x->∃d,b[i]?=!d/\x=.val d:=λ{i x}q=>by
  unfold JN at q;cases n:i<⇑b
  .rw[Ui (by rwa[Zql,]),Zv,Zqg n]at q;rw[(b[i],Zqg n,(Zqi<|Zqi q).symm)]
  .rw[Us (by rw[Zql,];lia),List.getElem?_replicate]at q
   split at q<;>(first|rw[J2 q]|cases q)
 rw[(.refl s,by ext JN L2.start;simp[⇑h],λ{i d}q=>?_,λ{i p d}q=>?_,λ{i j p y d e l}_ q=>?_)]
 .let(z,r,c):=a q;cases c;let(-v,o,u):=h.get r;rw[(v,?_,u)];ext L2.start;rw[Ui (by rw[Zql,];rw[(Ja.mp o).1]),Zv,o];rfl
 .let(-_,_,c):=a q;cases c
 .let(-_,_,c):=a q;cases c
section
variable   {K:aa}
def xt (F:Fun K x c st f l)(S:FnScope N j (Qe st))
 (m:∀b A a s H E,Room k (A.deeper<|envOfC c (Qe st) s⁻¹ f b)->wf (qk yt P w K p e N c (Qe st) f b A a s H E).nox E0 7 (Kn st) g):
 FnOk P w K p e yt (k+1) f l j (xZ K<|jS ⇑N ⇑j g):=by
 rw[F.ok S (λt H Q E=>jy λF u=>j5 λ_ h n=>?_) λb A a s H t Q E v=>jy λF u=>j5 λy h n=>(_,m b A a s H E v,?_)]
 .unfold jS at n
  split at n
  .rw[⇑h,];lia
  .rw[n.elim]
 .unfold jS at n
  split at n
  .rw[jh (F,H,λ_=>8) F _ (RS.start y h,(Res.need_bind n).mono (λo i=>?_) λ_ _ q=>q)]
   cases(o)with
   |next sd=>rw[λZ z B _ r=>i .non z B r.ext<|j8.mpr 9]
   |ret d=>rw[i]
   |brk sd=>rw[i.elim]
   |cont sd=>rw[i.elim]
  .rw[n.elim]
def v7 (F:Fun K x c st f l)(S:FnScope N j (Qe st))
 (m:∀b A a s H E,Room k (A.deeper<|envOfC c (Qe st) s⁻¹ f b)->wf (qk yt P w K p e N c (Qe st) f b A a s H E).nox E0 6 (Kn st) g):
 FnOk P w K p e yt (k+1) f l j (vG K<|xI ⇑N ⇑j g):=by
 rw[F.ok S (λr H Q E=>jy λF t=>j5 λ_ h n=>?_) λb A a s H r Q E u=>jy λF t=>j5 λv h n=>(_,m b A a s H E u,?_)]
 .unfold xI at n
  split at n
  .rw[⇑h,];lia
  .rw[n.elim]
 .unfold xI at n
  split at n
  .rw[jh (F,H,λ_=>8) F _ (RS.start v h,(Res.need_bind n).mono (λo i=>?_) λ_ _ q=>q)]
   cases(o)with
   |next sd=>rw[i.elim]
   |ret d=>rw[i]
   |brk sd=>rw[i.elim]
   |cont sd=>rw[i.elim]
  .rw[n.elim]
end
end
def qw(p:3×3):D:=.tup [.int p.1,.int p.2]
def jU(r:Js):D:=.tup<|r.map qw
def K0{α:Type}(f:D->02 α):Yq->02 (List α)
 |[]=>![]
 |d::a=>(f d).bind λx=>(K0 f a).map λb=>x::b
def YV:D->02 3
 |.int i=>!i
 |_=>8
theorem YW{α β:Type}{f:D->02 α}{g:β->D}{k:β->α}(h:∀x,f (g x)=! k x):∀l:List β,K0 f (l.map g)=! l.map k
 |[]=>9
 |x::r=>by rw[Zl,];ext K0;rw[h,YW h r];rfl
theorem C3  {g:α->D}(h:∀d x,f d=!x->d=g x):∀{a:Yq}{l:List α},K0 f a=!l->a=l.map g
 |[],l,e=>by cases e;rfl
 |d::a,l,e=>by
  unfold K0 at e
  induction b:f d with
  |none=>rw[b]at e;rw[J2 e]
  |some x=>
   induction h2:K0 f a with
   |none=>rw[b,h2]at e;rw[J2 e]
   |some c=>
    rw[b,h2]at e;obtain rfl:=Zqi e;rw[Zl,<-h d x b,<-C3 h h2]
def MZ  (h:YV d=!i):d=.int i:=by
 cases d with
 |int j=>cases h;rfl
 |_=>rw[J2 h]
def Na  (h:K0 YV a=!l):a=l.map D.int:=C3 (λ_ _=>MZ) h
def Nb(l):K0 YV (l.map D.int)=!l:=by
 rw[YW (f:=YV) (λ_=>9) l,List.map_id']
section
variable {X:Cx}
def gI(f:3->3->D):D->D->Yr
 |.int i,.int j=>! f i j
 |_,_=>8
def fY(c:3->3->Bool)(f:3->3->D):D->D->Yr
 |.int i,.int j=>if c i j then ! f i j else 8
 |_,_=>8
def YX   (o:xD X h (sf g))(b:∀i j F,IsD X.K F (f i j) (g i j)):yH X h (gI f):=xD.weak o λx y H Q c=>by
 let(F d e z,l,id,m,a,q):=c;cases d with
 |int i=>
  cases e with
  |int j=>cases a;rw[(i,j,je.mp id,je.mp m,q _ F H (.refl l)<|b i j F)]
  |_=>rw[J2 a]
 |_=>rw[J2 a]
def AD     (o:xD X h (rI C g))(l:∀i j,c i j=6->C i j)(m:∀i j F,IsD X.K F (f i j) (g i j)):yH X h (fY c f):=xD.weak o λx y H Q n=>by
 let(F d e z,p,id,r,a,q):=n;cases d with
 |int i=>
  cases e with
  |int j=>
   let a:(if c i j then ! f i j else 8)=!z:=a
   split at a
   .rename_i b;cases a;rw[(i,j,je.mp id,je.mp r,l i j b,q _ F H (.refl p)<|m i j F)]
   ext
  |_=>rw[J2 a]
 |_=>rw[J2 a]
def yZ(i)(F):IsD X.K F (.int i) (.int i):=je.mpr 9
def zo(b)(F):IsD X.K F (.bl b) (.bl b):=jp.mpr 9
def yP:=gI λi j=>.int<|i-j
def vC:5:=10715086071862673209484250490600018105614048117055336074437503883703510511249361224931983788156958581275946729175531468251871452856923140435984577574698574803934567774824230985421074605062371141877954182153046474983581941267398767559165543946077062914571196477686542167660429831652624386837205668069376
def XS(i j:3):Bool:=UD i.natAbs 18446744073709551616||UD j.natAbs 18446744073709551616||UD i.natAbs vC&&UD j.natAbs vC
def Fn (h:k.natAbs<vC):Builtin.Int.intBits k<=2^20:=by
 let e:vC<=2^1000:=Nat.le_of_ble_eq_true 9;let a:k.natAbs<2^1000:=Zg h e;ext Builtin.Int.intBits
 split
 .rw[Um _]
 .let l:k.natAbs.log2<1000:=by
   obtain h0|hp:=Nat.eq_zero_or_pos k.natAbs
   .rw[h0,];decide
   .rw[(Nat.log2_lt<|UN hp).mpr a]
  let e:(2:5)^20=1048576:=by decide
  lia
def xA:=fY XS λi j=>.int<|i*j
def JZ:=fY (λ_ j=>UD 0 j.toNat&&UD j.toNat 1073741824) λi j=>.int<|i/j
def j9:=fY (λ_ j=>UD 0 j.toNat) λi j=>.int<|i%j
def xq:=fY (λi j=>Nat.ble (-j).toNat 0&&(Nat.ble j.toNat 1000000&&UD i.natAbs 18446744073709551616)) λi j=>.int<|i^j.toNat
def ww:=gI λi j=>.bl<|decide<|i<j
def xM:=gI λi j=>.bl<|decide<|i<=j
def wx:=gI λi j=>.bl<|decide<|j<i
def vS:=gI λi j=>.bl<|decide<|j<=i
def XT:yH X (binaryOp .Sub) yP:=YX (gQ λ_ _ _ _ _ _ _ q=>sub_int q) λ_ _ F=>yZ _ F
def AE:yH X (binaryOp .Mult) xA:=AD (mF λ_ _ _ _ _ _ _ hc q=>mul_int q<|by
 unfold XS at hc;rw[UF,UF,Uc,UI,UI,UI,UI]at hc;rcases hc with(hc|hc)|⟨a,h2⟩
 .rw[.of_left<|intBits_le_64 () ()]
 .rw[.of_right<|intBits_le_64 () ()]
 .rw[.of_bits (Fn a)<|Fn h2]) (λi j h=>h) λ_ _ F=>yZ _ F
def QF:yH X (binaryOp .FloorDiv) JZ:=AD LP λi j h=>by simp_all[m4] λ_ _ F=>yZ _ F
def Qc:yH X (binaryOp .Mod) j9:=AD LQ () λ_ _ F=>yZ _ F
def YY:yH X (binaryOp .Pow) xq:=AD LR λi j h=>by simp_all[mz] λ_ _ F=>yZ _ F
def wG:yH X (compareOp .Lt) ww:=YX (vk λ_ _ _ _ _ _ _ q=>lt_int q) λ_ _ F=>zo _ F
def xW:yH X (compareOp .LtE) xM:=YX (vk λ_ _ _ _ _ _ _ q=>le_int q) λ_ _ F=>zo _ F
def z3:yH X (compareOp .Gt) wx:=YX (vk λ_ _ _ _ _ _ _ q=>gt_int q) λ_ _ F=>zo _ F
def fk:yH X (compareOp .GtE) vS:=YX (vk λ_ _ _ _ _ _ _ q=>ge_int q) λ_ _ F=>zo _ F
def qF:D->Yr
 |.int i=>!(.int<|-i)
 |_=>8
def K3:uJ X (unaryOp .USub) (dm X.K qF):=uJ.weak (dU λ_ _ _ _ _ q=>neg_int q) λx H Q b=>by
 let(F d z,c,id,a,q):=b;cases d with
 |int i=>cases a;rw[(i,je.mp id,q _ F H (.refl c)<|yZ _ F)]
 |_=>rw[J2 a]
def jv:D->D->Yr
 |.int i,.int j=>!(.int<|i+j)
 |.str x,.str y=>if ⇑x+⇑y<=00 then !(.str<|x++y)else 8
 |.tup a,.tup b=>if a ≠[]/\b ≠[]/\⇑a+⇑b<=00 then !(.tup<|a++b)else 8
 |.lst a,.lst b=>if ⇑a+⇑b<=00 then !(.lst<|a++b)else 8
 |_,_=>8
def gj(K:aa):R2:=λx y H Q=>∃l b a c,x=.ref l/\y=.ref b/\yb K H l a/\yb K H b c/\⇑a+⇑c<=00/\∀p,H p=8->Q (.ref p) (upd H p<|.lst<|a++c)
def Fo:xD X (binaryOp .Add) (gj X.K):=by
 intro Y s Z H x y v u Q I f g h;let(l b w z,rfl,rfl,i,j,A,q):=h;obtain rfl:=f;obtain rfl:=g;let(_,c,n,d,m):=i.ok I.hok;let(_,a,B,e,o):=j.ok I.hok;let p:=⇑d;let r:=⇑e;rw[PySem.P.add_list m o ?_ ()];let t:c.toArray++a.toArray=(c++a).toArray:=by simp
 rw[t,];rw[(.ref _,_,I.lnew (d.append e) (),9,q _ I.fresh)]
def JT:yH X (binaryOp .Add) jv:=by
 intro Y s Z H x y v u Q I o r w;let(F,d,e,z,f,id,t,c,q):=w;cases d with
 |int i=>
  cases e with
  |int j=>cases c;rw[(gQ λ_ _ _ _ _ _ _ q=>add_int q) Y s Z H x y v u Q I o r (i,j,je.mp id,je.mp t,q _ F H (.refl f)<|yZ _ F)]
  |_=>rw[J2 c]
 |str a=>
  cases e with
  |str b=>
   let c:(if ⇑a+⇑b<=00 then !(D.str<|a++b)else 8)=!z:=c
   split at c
   .rename_i J;cases c;rw[LW Y s Z H x y v u Q I o r (a,b,jg.mp id,jg.mp t,J,q _ F H (.refl f)<|jg.mpr 9)]
   ext
  |_=>rw[J2 c]
 |tup a=>
  cases e with
  |tup b=>
   let c:(if a ≠[]/\b ≠[]/\⇑a+⇑b<=00 then !(D.tup<|a++b)else 8)=!z:=c
   split at c
   .obtain rfl:=Zqi c;let(A,g,rfl,B,l):=id;let(C h,rfl,E,m):=t;let L:=⇑l;let M:=⇑m;let N:g ≠[]:=by grind
    let O:h ≠[]:=by grind
    rw[ER Y s Z H _ _ v u Q I o r<|jX A C g h (9,9,(B.same f).sq,(E.same f).sq,N,(),λz=>Zn z O,λ_ p G=>?_)];let n:=Ext.alloc f G<|.tup<|g++h;rw[q _ _ _ n<|jm.mpr (p,_,9,.of JE,IsDs.same n.ff _ _<|l.append m)]
   ext
  |_=>rw[J2 c]
 |lst a=>
  cases e with
  |lst b=>
   let c:(if ⇑a+⇑b<=00 then !(D.lst<|a++b)else 8)=!z:=c
   split at c
   .obtain rfl:=Zqi c;let(A,g,rfl,B,l):=id;let(C h,rfl,E,m):=t;let L:=⇑l;let M:=⇑m;rw[Fo Y s Z H _ _ v u Q I o r<|jX A C g h (9,9,B.same f,E.same f,(),λp G=>?_)];let n:=Ext.alloc f G<|.lst<|g++h;rw[q _ _ _ n<|jx.mpr (p,_,9,.of JE,IsDs.same n.ff _ _<|l.append m)]
   ext
  |_=>rw[J2 c]
 |_=>rw[J2 c]
mutual
def yx:D->PyData
 | .non=>.none
 | .bl b=>.bool b
 | .int i=>.int i
 | .str x=>.str x
 | .tup a=>.tuple (VQ a)
 | .lst a=>.list (VQ a)
 | .ty _=>.none
 | .scr _=>.none
 | .dct _ _=>.none
 | .ins _ _ _=>.none
 | .exc _=>.none
 | .exr _ _=>.none
 | .ucl _=>.none
 | .adr _=>.none
 | .dcf _ _=>.none
 | .pin _ _=>.none
def VQ:Yq->List PyData
 | []=>[]
 |d::a=>yx d::VQ a
end
def plN:5->D->Bool
 |0,_=>7
 |_+1,.int _=>6
 |_+1,.str x=>PyData.strOk x
 |_+1,.non=>6
 |n+1,.tup a=>a.all (plN n)
 |n+1,.lst a=>a.all (plN n)
 |_+1,_=>7
def XU:∀n d,plN n d=6->(yx d).canLay0=6/\(yx d).depth<=n:=λn=>by
 cases(n)with
 |zero=>intro _ h;rw[JP h]
 |succ n b=>
  intro d h;let all:∀a:Yq,a.all (plN n)=6->PyData.canLayAll0 (VQ a)=6/\PyData.depthAll (VQ a)<=n:=by
   intro a
   cases(a)with
   |nil=>intro _;rw[(9,Um _)]
   |cons d a c=>
    intro h;rw[Uv,Uc]at h;let(e,f):=b d h.1;let(g,j):=c h.2;rw[(Bool.and_eq_true_iff.mpr (e,g),Nat.max_le.mpr (f,j))]
  cases d with
  |int i=>rw[(9,Um _)]
  |str i=>rw[(h,Um _)]
  |non=>rw[(9,Um _)]
  |tup a=>rw[((all a h).1,Nat.succ_le_succ (all a h).2)]
  |lst a=>rw[((all a h).1,Nat.succ_le_succ (all a h).2)]
  |_=>rw[JP h]
def D.ne{d e:D}(h:(d.ctorIdx==e.ctorIdx)=7):¬d=e:=λq=>by
 ext
def C4:∀(n:5)(d e:D),plN n d=6->plN n e=6->(PyData.eqv (yx d) (yx e)=6↔d=e):=λn=>by
 cases(n)with
 |zero=>intro _ _ h;rw[JP h]
 |succ n f=>
  intro d e h c;let all:∀b a:Yq,b.all (plN n)=6->a.all (plN n)=6->(PyData.eqvAll (VQ b) (VQ a)=6↔b=a):=by
   intro b
   cases(b)with
   |nil=>
    intro a _ _
    cases(a)with
    |nil=>rw[iff_of_true 9 9]
    |cons e a=>rw[Zs Zj<|λq=>List.cons_ne_nil _ _ q.symm]
   |cons d b m=>
    intro a g l
    cases(a)with
    |nil=>rw[Zs Zj<|List.cons_ne_nil _ _]
    |cons e a=>
     rw[Uv,Uc]at g l;show(PyData.eqv (yx d) (yx e)&&PyData.eqvAll (VQ b) (VQ a))=6↔_;rw[Bool.and_eq_true_iff,f d e g.1 l.1,m a g.2 l.2,List.cons.injEq]
  cases d with
  |int i=>
   cases e with
   |int j=>rw[(λq=>Zt D.int<|Yi.mp q,λq=>Yi.mpr<|D.int.inj q)]
   |str _=>rw[Zs Zj<|D.ne 9]
   |non=>rw[Zs Zj<|D.ne 9]
   |tup _=>rw[Zs Zj<|D.ne 9]
   |lst _=>rw[Zs Zj<|D.ne 9]
   |_=>rw[JP c]
  |str i=>
   cases e with
   |str j=>rw[(λq=>Zt D.str<|of_decide_eq_true q,λq=>Zp<|D.str.inj q)]
   |int _=>rw[Zs Zj<|D.ne 9]
   |non=>rw[Zs Zj<|D.ne 9]
   |tup _=>rw[Zs Zj<|D.ne 9]
   |lst _=>rw[Zs Zj<|D.ne 9]
   |_=>rw[JP c]
  |non=>
   cases e with
   |non=>rw[iff_of_true 9 9]
   |int _=>rw[Zs Zj<|D.ne 9]
   |str _=>rw[Zs Zj<|D.ne 9]
   |tup _=>rw[Zs Zj<|D.ne 9]
   |lst _=>rw[Zs Zj<|D.ne 9]
   |_=>rw[JP c]
  |tup b=>
   cases e with
   |tup a=>rw[(all b a h c).trans (λq=>Zt D.tup q,λq=>D.tup.inj q)]
   |int _=>rw[Zs Zj<|D.ne 9]
   |str _=>rw[Zs Zj<|D.ne 9]
   |non=>rw[Zs Zj<|D.ne 9]
   |lst _=>rw[Zs Zj<|D.ne 9]
   |_=>rw[JP c]
  |lst b=>
   cases e with
   |lst a=>rw[(all b a h c).trans (λq=>Zt D.lst q,λq=>D.lst.inj q)]
   |int _=>rw[Zs Zj<|D.ne 9]
   |str _=>rw[Zs Zj<|D.ne 9]
   |non=>rw[Zs Zj<|D.ne 9]
   |tup _=>rw[Zs Zj<|D.ne 9]
   |_=>rw[JP c]
  |_=>rw[JP h]
theorem Xs  {K:aa}  (ok:xy P w H h):∀n d v u,plN n d=6->IsD K H d v->jz v u->∃l,Reads h u (yx d) l
 |0,_,_,_,p,_,_=>JP p
 |n+1,d,v,u,p,q,r=>by
  let all:∀b f s,b.all (plN n)=6->IsDs K H b f->j4 f s->∃l,ReadsAll h s (VQ b) l:=by
   intro b
   cases(b)with
   |nil=>
    intro f s _ y g;subst y;cases g;rw[(_,.nil)]
   |cons d b C=>
    intro f s z y g;rw[Uv,Uc]at z;let(x E,rfl,m,F):=y;cases g with
    |cons G I=>
     let(l,A):=Xs ok n d x _ z.1 m G;let(bs,J):=C E _ z.2 F I;rw[(_,.cons A J)]
  cases d with
  |int i=>
   subst q;let(t,rfl):=r;rw[(_,.int i t)]
  |str x=>
   subst q;let(t,rfl):=r;rw[(_,.str x t)]
  |non=>
   subst q;obtain rfl:=r;rw[(_,.none)]
  |tup b=>
   let(a f,rfl,g,m):=q;obtain rfl:=r;let(_,j,B,o,e,c,L,M):=ok a _ g;let(l,A):=all b f j p m B;rw[(_,.tuple e c M ())]
  |lst b=>
   let(a f,rfl,g,m):=q;obtain rfl:=r;let(_,j,L,B,e):=g.ok ok;let(l,A):=all b f j p m B;rw[(_,.list e 9 9 ())]
  |_=>rw[JP p]
section
open Classical
def sameD(d e:D):Bool:=decide<|d=e
def VR(d):sameD d d=6:=Zp 9
theorem ko :sameD d e=6↔d=e:=decide_eq_true_iff
def wV :sameD d e=7↔d≠e:=decide_eq_false_iff_not
def qI:D->D->Yr
 |.bl a,.bl b=>!(.bl<|a==b)
 |d,e=>if plN 12 d&&plN 12 e then !(.bl<|sameD d e)else 8
def xL:D->D->Yr
 |.bl a,.bl b=>!(.bl<|a !=b)
 |d,e=>if plN 12 d&&plN 12 e then !(.bl<|not<|sameD d e)else 8
end
def YZ (a:plN 12 d=6)(b:plN 12 e=6):qI d e=!(.bl<|sameD d e):=by
 ext qI
 split
 .rw[JP a]
 ext
def Z1 (a:plN 12 d=6)(b:plN 12 e=6):xL d e=!(.bl<|not<|sameD d e):=by
 ext xL
 split
 .rw[JP a]
 ext
def Nc(i j):qI (.int i) (.int j)=!(.bl<|decide<|i=j):=by
 rw[YZ 9 9,];cases h:i=j
 .simp_all[VR]
 .rw[Zo h,wV.mpr ()]
def Nd(i j):xL (.int i) (.int j)=!(.bl<|not<|decide<|i=j):=by
 rw[Z1 9 9,];cases h:i=j
 .simp_all[VR]
 .rw[Zo h,wV.mpr ()]
def qA(r:X.A.units+64<cLine):yH X (compareOp .Eq) qI:=by
 intro Y s Z H x y v u Q I j l h;let(F,d,e,z,g,id,i,f,q):=h;unfold qI at f
 split at f
 .rename_i a b;obtain rfl:=Zqi f;rw[gP Y s Z H x y v u Q I j l (?_,?_)]
  .rw[jp.mp id,jp.mp i];rfl
  .rw[jp.mp id,jp.mp i];rw[q _ F H (.refl g) ?_]
   cases(a)<;>cases(b)<;>rfl
 .split at f
  .rename_i c;rw[Uc]at c;obtain rfl:=Zqi f;let(t,m):=Xs I.hok 12 d x v c.1 (IsD.same g _ _ id) j;let(bs,n):=Xs I.hok 12 e y u c.2 (IsD.same g _ _ i) l;have(o,w):=XU 12 d c.1;have(p,A):=XU 12 e c.2;rw[PySem.SeqAt.compareEq_reads m n o p () ?_];rw[U2.mpr<|(C4 12 d e c.1 c.2).trans ko.symm,];rw[(.bl _,H,I,9,q _ F H (.refl g)<|zo _ F)]
  ext
def yE(r:X.A.units+64<cLine):yH X (compareOp .NotEq) xL:=by
 intro Y s Z H x y v u Q I j l h;let(F,d,e,z,g,id,i,f,q):=h;unfold xL at f
 split at f
 .rename_i a b;obtain rfl:=Zqi f;rw[gO Y s Z H x y v u Q I j l (?_,?_)]
  .rw[jp.mp id,jp.mp i];rfl
  .rw[jp.mp id,jp.mp i];rw[q _ F H (.refl g) ?_]
   cases(a)<;>cases(b)<;>rfl
 .split at f
  .rename_i c;rw[Uc]at c;obtain rfl:=Zqi f;let(t,m):=Xs I.hok 12 d x v c.1 (IsD.same g _ _ id) j;let(bs,n):=Xs I.hok 12 e y u c.2 (IsD.same g _ _ i) l;have(o,w):=XU 12 d c.1;have(p,A):=XU 12 e c.2;rw[PySem.SeqAt.compareNe_reads m n o p () ?_];rw[U2.mpr<|(C4 12 d e c.1 c.2).trans ko.symm,];rw[(.bl _,H,I,9,q _ F H (.refl g)<|zo _ F)]
  ext
end
def PE.or   (h:PE X e t)(a:PE X e b):PE X e λZ H Q=>t Z H Q\/b Z H Q:=λY s Z H Q I q=>q.elim (h Y s Z H Q I)<|a Y s Z H Q I
def PT.or   (h:PT X e t)(a:PT X e b):PT X e λZ H Q=>t Z H Q\/b Z H Q:=λY s Z H Q I q=>q.elim (h Y s Z H Q I)<|a Y s Z H Q I
def Q3:D->02 jR
 |.int i=>! .inl i
 |.str x=>! .inr x
 |_=>8
def XV{K:aa}    (h:Q3 d=!k)(i:IsD K H d v):v=kV k:=by
 cases d with
 |int j=>cases h;rw[je.mp i]
 |str x=>cases h;rw[jg.mp i]
 |_=>rw[J2 h]
def ql:List jR->Yq->jR->Yr
 |k::a,d::b,q=>if k=q then !d else ql a b q
 |_,_,_=>8
def Nf(k q:jR)(v)(r):q9 (%[k|v]::r) q=if k=q then !v else q9 r q:=by
 grind[q9,List.find?_cons]
def Ng    :ql (k::a) (d::b) q=if k=q then !d else ql a b q:=rfl
theorem Z3{K:aa} (q:jR):∀{ks:List jR}{b:Yq}{a:Yp},⇑ks=⇑a->IsDs K H b a->
 (∀d,ql ks b q=!d->∃x,q9 (ks.zip a) q=!x/\IsD K H d x)/\(ql ks b q=8->q9 (ks.zip a) q=8)
 |[],b,a,hl,h=>by
  let:a=[]:=Jk.mp hl.symm;subst this;rw[(λd e=>?_,λ_=>9)]
  cases(b)<;>rw[J2 e]
 |k::ks,[],a,hl,h=>by
  rw[IsDs.nil_iff]at h;subst h;cases hl
 |k::ks,d::b,a,hl,h=>by
  rw[ji]at h;let(x r,rfl,f,g):=h;let i:=Z3 q (ks:=ks) (UL hl) g;rw[Vi,Nf];rw[Ng,];cases c:k=q
  .rw[Zd c,Zd c];rw[(λj e=>by cases e;rw[(x,9,f)],λe=>by cases e)]
  .rw[Ze c,Ze c];rw[i]
def wN:List jR->Yq->jR->D->Yq
 |k::a,d::b,q,v=>(if k=q then v else d)::wN a b q v
 |_,_,_,_=>[]
def zZ:List jR->Yp->jR->V->Yp
 |k::a,d::b,q,v=>(if k=q then v else d)::zZ a b q v
 |_,_,_,_=>[]
def Nh    :wN (k::a) (d::b) q v=(if k=q then v else d)::wN a b q v:=rfl
def Ni    :zZ (k::a) (d::b) q v=(if k=q then v else d)::zZ a b q v:=rfl
theorem Fp{K:aa}    (g:IsD K H d v):∀{a:List jR}{c:Yq}{b:Yp},⇑a=⇑b->IsDs K H c b->IsDs K H (wN a c q d) (zZ a b q v)/\⇑(zZ a b q v)=⇑a/\
 (a.zip b).map (λf=>if f.1=q then%[f.1|v]else f)=a.zip (zZ a b q v)
 |[],c,b,hl,h=>by
  rw[(?_,9,9)];rfl
 |k::a,[],b,hl,h=>by
  simp_all[IsDs.nil_iff]
 |k::a,m::c,b,hl,h=>by
  let(x r,rfl,n,i):=h;let(j,l,o):=Fp g (UL hl) i;rw[Nh,Ni];rw[(IsDs.mk ?_ j,by rw[Zu,l];rfl,?_)]
  .cases e:k=q
   .rwa[Zd e,Zd e]
   .rwa[Ze e,Ze e]
  grind[List.zip_cons_cons,List.map_cons]
def zV(q:jR)(a:List jR):Bool:=a.any λk=>decide<|k=q
theorem Fq(q):∀{a:List jR}{b:Yp},⇑a=⇑b->(a.zip b).any λc=>decide<|c.1=q=zV q a
 |[],b,_=>9
 |k::a,[],h=>by cases h
 |k::a,x::b,h=>by
  rw[Vi,List.any_cons,Fq q (UL h)];rfl
def W8(a:List jR)(q:jR):List jR:=if zV q a=6 then a else a++[q]
def Xt(a:List jR)(b:Yq)(q:jR)(v:D):Yq:=if zV q a=6 then wN a b q v else b++[v]
def Fs{K:aa}       (c:⇑b=⇑e)(h:IsDs K H i e)(g:IsD K H d v):
 ∃f,xJ (b.zip e) q v=(W8 b q).zip f/\⇑(W8 b q)=⇑f/\IsDs K H (Xt b i q d) f:=by
 ext xJ W8 Xt;rw[Fq q c,];cases a:zV q b=6
 .rw[Zd a,Zd a,Zd a];let(j,l,m):=Fp g c h;rw[(_,m,l.symm,j)]
 .rw[Ze a,Ze a,Ze a];rw[(e++[v],by rw[List.zip_append c,];rfl,by simp[c],h.snoc g)]
def C5{K:aa}     (h:IsDs K H a b)(e:qo a k=!d):∃x,qo b k=!x/\IsD K H d x:=by
 unfold qo at e ⊢;rw[⇑h,]
 induction hj:zm ⇑a k with
 |none=>rw[hj]at e;rw[J2 e]
 |some j=>
  rw[hj]at e;rw[h.get e]
def jf:D->D->Yr
 |.lst ds,.int k=>qo ds k
 |.tup ds,.int k=>qo ds k
 |.scr b,.int k=>(qo b k).map .int
 |.str x,.int k=>if ⇑x<=00 then(qo x.cps.toList k).map λc=>.str ⟨#[c]⟩ else 8
 |.dct a ds,k=>(Q3 k).bind λq=>ql a ds q
 |.dcf a ds,k=>(Q3 k).bind λq=>ql a ds q
 |_,_=>8
def Ft{K:aa}     (j:d=.dct c i\/d=.dcf c i)(h:IsD K H d v):∃a b,v=.ref a/\Rd H a (.dK<|c.zip b)/\⇑c=⇑b/\IsDs K H i b:=by
 obtain rfl|rfl:=j
 .let(a b,e,f,g):=jO.mp h;rw[(a,b,e,.inl f,g)]
 .let(a o b,e,f,g):=qQ.mp h;rw[(a,b,e,.inr (o,f),g)]
def C6   (e:ju H b)(h:Rd H a u):Rd b a u:=h.imp (λq=>e _ _ q)<|xg λo q=>(o,e _ _ q)
def Fu    (e:Rd H a (.dK b)):yo H a (kV k) (q9 b k):=.inl (b,k,e,9,9)
def Fv:wg X (wF X.K λd e=>match d with
 |.dct _ _=>8
 |.dcf _ _=>8
 |d=>jf d e):=wg.weak Mr λx y H Q=>si λF d e z=>fc λb id g a q=>by
 cases d with
 |lst o=>
  cases e with
  |int k=>
   let(p,l,rfl,f,m):=id;let(x,h,n):=C5 m a;rw[.inl<|jX p l k x (9,je.mp g,(f.same b).sq,h,q _ F H (.refl b) n)]
  |_=>rw[J2 a]
 |tup o=>
  cases e with
  |int k=>
   let(p,l,rfl,f,m):=id;let(x,h,n):=C5 m a;rw[.inr<|.inl<|jX p l k x (9,je.mp g,(f.same b).sq,h,q _ F H (.refl b) n)]
  |_=>rw[J2 a]
 |scr r=>
  cases e with
  |int k=>
   let(p,rfl,f):=id;let(-j,s,a):=Jj.mp a;subst a;rw[.inl<|jX p _ k (.int j) (9,je.mp g,ju.seq b f,?_,q _ F H (.refl b)<|yZ _ F)];unfold qo at s ⊢
   induction h:zm ⇑r k with
   |none=>ext
   |some i=>ext
  |_=>rw[J2 a]
 |str t=>
  cases e with
  |int k=>
   let a:(if ⇑t<=00 then(qo t.cps.toList k).map λc=>D.str ⟨#[c]⟩ else 8)=!z:=a
   split at a
   .rename_i u
    induction hc:qo t.cps.toList k with
    |none=>rw[hc]at a;rw[J2 a]
    |some c=>
     rw[hc]at a;obtain rfl:=Zqi a;rw[.inr<|.inr<|jh t k c (jg.mp id,je.mp g,u,hc,q _ F H (.refl b)<|jg.mpr 9)]
   ext
  |_=>rw[J2 a]
 |_=>rw[J2 a]
def J1(C:X.A.units+1<cLine)(t:QE X E a j)(u:QE X E b G)(I:A5 b)(l:uO b):QE X E (.Subscript a b J) (jd jf j G):=
 PE.weak (PE.or (M5 C t u l)<|Ci Fv t u I) λZ H Q h=>by
  let(B F sd,r,n):=h;cases m:∃d f g,j sd=.ok d/\(d=.dct f g\/d=.dcf f g)
  .let(d f g,m,A):=m;rw[.inl<|jh B F sd (r,(Res.need_bind n).monoE (λx e L v M H1 i N=>?_) λ_ _ q=>q)];rw[m]at e;cases e;rw[jh B M sd (r.step i,(Res.need_bind L).mono (λy O w P R o S=>?_) λ_ _ q=>q.ext i)];let(-z,s,q):=jk O;let(-k,T,s):=Jg.mp (show(Q3 y).bind (λq=>ql f g q)=!z by obtain rfl|rfl:=A<;>rw[s]);let(p xs,rfl,U,Y,h3):=Ft A N;let(-x,e,ix):=(Z3 k Y h3).1 z s;rw[(p,x,9,?_,q x P R (i.trans o)<|IsD.same o.ff _ _ ix)];rw[XV T S,<-e];rw[Fu<|C6 o.hh<|C6 i.fh U]
  .rw[.inr<|YQ<|jh B F sd (r,?_)];unfold jd at n ⊢
   induction e:j sd with
   |ok d=>
    ext
   |no=>ext
   |ex c fs=>ext
def x8(a:Bool):D->D->Yr
 |k,.dct b ds=>(Q3 k).map λq=>.bl<|if a then not<|(ql b ds q).isSome else(ql b ds q).isSome
 |k,.dcf b ds=>(Q3 k).map λq=>.bl<|if a then not<|(ql b ds q).isSome else(ql b ds q).isSome
 |d,.lst ds=>if plN 12 d&&ds.all (plN 12)then !(.bl<|if a then not<|ds.any<|λe=>sameD e d else ds.any λe=>sameD e d)else 8
 |d,.tup ds=>if plN 12 d&&ds.all (plN 12)then !(.bl<|if a then not<|ds.any<|λe=>sameD e d else ds.any λe=>sameD e d)else 8
 |_,_=>8
theorem Fw{K:aa} :∀(n:5)(d e:D)(v:V),plN n d=6->plN n e=6->IsD K H d v->IsD K H e v->d=e
 |0,_,_,_,h,_,_,_=>by rw[JP h]
 |n+1,d,e,v,hd,he,f,b=>by
  let all:∀(t c:Yq)(g:Yp),t.all (plN n)=6->c.all (plN n)=6->IsDs K H t g->IsDs K H c g->t=c:=by
   intro t
   cases(t)with
   |nil=>
    intro c g _ _ f b;rw[IsDs.nil_iff]at f;subst f;let:=⇑b;rw[(Jk.mp this.symm).symm]
   |cons d t F=>
    intro c g A B f b;rw[Uv,Uc]at A;rw[ji]at f;let(x r,rfl,G,I):=f
    cases(c)with
    |nil=>rw[IsDs.nil_iff]at b;cases b
    |cons e c=>
     rw[Uv,Uc]at B;rw[ji]at b;let(M N,u,J,L):=b;cases u;rw[Fw n d e x A.1 B.1 G J,F c r A.2 B.2 I L]
  let ne:∀{a:Addr}{g E:Yp},yS K H a g->yb K H a E->False:=λ{a g E}l m=>by
   obtain m|⟨o,m⟩:=m
   .rw[l]at m;cases m
   .rw[l]at m;cases m
  cases d with
  |int i=>
   rw[je]at f;subst f;cases e with
   |int j=>rw[je]at b;cases b;rfl
   |str j=>rw[jg]at b;cases b
   |non=>rw[j8]at b;cases b
   |tup c=>rw[jm]at b;let(_,_,z,_):=b;cases z
   |lst c=>rw[jx]at b;let(_,_,z,_):=b;cases z
   |_=>rw[JP he]
  |str i=>
   rw[jg]at f;subst f;cases e with
   |int j=>rw[je]at b;cases b
   |str j=>rw[jg]at b;cases b;rfl
   |non=>rw[j8]at b;cases b
   |tup c=>rw[jm]at b;let(_,_,z,_):=b;cases z
   |lst c=>rw[jx]at b;let(_,_,z,_):=b;cases z
   |_=>rw[JP he]
  |non=>
   rw[j8]at f;subst f;cases e with
   |int j=>rw[je]at b;cases b
   |str j=>rw[jg]at b;cases b
   |non=>rfl
   |tup c=>rw[jm]at b;let(_,_,z,_):=b;cases z
   |lst c=>rw[jx]at b;let(_,_,z,_):=b;cases z
   |_=>rw[JP he]
  |tup t=>
   rw[jm]at f;let(a,g,rfl,l,m):=f;cases e with
   |int j=>rw[je]at b;cases b
   |str j=>rw[jg]at b;cases b
   |non=>rw[j8]at b;cases b
   |tup c=>
    rw[jm]at b;let(C,p,u,s,w):=b;cases u;let y:H a=! .tup g:=l;rw[show H a=! .tup p from s]at y;cases y;rw[all t c _ hd he m w,]
   |lst c=>
    rw[jx]at b;let(C,p,u,s,w):=b;cases u;rw[(ne l s).elim]
   |_=>rw[JP he]
  |lst t=>
   rw[jx]at f;let(a,g,rfl,l,m):=f;cases e with
   |int j=>rw[je]at b;cases b
   |str j=>rw[jg]at b;cases b
   |non=>rw[j8]at b;cases b
   |tup c=>
    rw[jm]at b;let(C,p,u,s,w):=b;cases u;rw[(ne s l).elim]
   |lst c=>
    rw[jx]at b;let(C,p,u,s,w):=b;cases u;let:g=p:=by
     obtain l|⟨_,l⟩:=l<;>obtain s|⟨_,s⟩:=s<;>rw[l]at s<;>cases s<;>rfl
    subst this;rw[all t c _ hd he m w,]
   |_=>rw[JP he]
  |_=>rw[JP hd]
def me(K:aa)(H:Hp)(d:D)(u:Value):4:=∃v,jz v u/\IsD K H d v
def eqTo(K:aa)(H:Hp)(d:D)(u:Value):Bool:=@decide (me K H d u)<|Classical.propDecidable _
def Nj{K:aa}    (b:plN 12 d=6)(c:plN 12 e=6)(h:IsD K H e v)(r:jz v u):eqTo K H d u=sameD e d:=by
 cases q:e=d
 .rw[q,VR];rw[@decide_eq_true _ (Classical.propDecidable _) (v,r,q ▸ h)]
 .rw[wV.mpr q,];rw[@decide_eq_false _ (Classical.propDecidable _)<|xg λg=>jD λf a=>q ?_];rw[f.inj r]at a;rw[Fw 12 e d v c b h a]
def any_eq  {K:aa}   (j:A.units+60<cLine)(ok:xy P w H s.heap)   (g:plN 12 d=6)(o:IsD K H d x)(p:jz x v):
 ∀{a:Yq}{h:Yp}{c:Yd},a.all (plN 12)=6->IsDs K H a h->j4 h c->c.map (eqTo K H d)=a.map (λe=>sameD e d)/\∀u∈c,SeqAt.EqAt A s u v (eqTo K H d u):=by
 intro a
 cases(a)with
 |nil=>
  intro h c _ f i;rw[IsDs.nil_iff]at f;subst f;cases i;rw[(9,λu j=>nomatch j)]
 |cons e a r=>
  intro h c b f i;rw[Uv,Uc]at b;rw[ji]at f;let(y M,rfl,l,t):=f;cases i with
  |cons m z=>
   let(B,C):=r b.2 t z;let(E,F):=Xs ok 12 e y _ b.1 l m;let(G,I):=Xs ok 12 d x v g o p;let(J,N):=XU 12 e b.1;let(L,O):=XU 12 d g;let n:=Nj g b.1 l m;rw[(by rw[Zl,Zl,B,n],λu hm=>?_)];obtain hm|hm:=Ux.mp hm
   .subst hm;rw[n,<-(U2.mpr ((C4 12 e d b.1 g).trans ko.symm):PyData.eqv (yx e) (yx d)=sameD e d)];rw[SeqAt.eqAt_reads (yx e) (yx d) A s _ v E G F I J L ()]
   .rw[C u hm]
def any_map'{α:Type}{f:α->Bool}{l:List α}:l.any f=(l.map f).any id:=()
def C7(L:X.A.units+64<cLine)(b:Bool):xD X (compareOp<|if b then .NotIn else .In) (wF X.K λd e=>match e with
 |.dct _ _=>8
 |.dcf _ _=>8
 |e=>x8 b d e):=by
 intro Y s Z H x y v u Q I C E j;let(F,d,e,z,f,id,o,c,q):=j;let l:=IsD.same f _ _ id;cases e with
 |lst g=>
  let c:(if plN 12 d&&g.all (plN 12)then !(D.bl<|if b then not<|g.any<|λe=>sameD e d else g.any λe=>sameD e d)else 8)=!z:=c
  split at c
  .rename_i h;rw[Uc]at h;obtain rfl:=Zqi c;rw[jx]at o;let(p,G,rfl,r,t):=o;obtain rfl:u=Value.ref p:=E;let(a,ri,pl,J):=I.list (r.same f).sq;let(B,m):=any_eq (A:=X.A.in1) (by show X.A.units+1+60<cLine;lia) I.hok h.1 l C h.2 (IsDs.same f _ _ t) ri;let n:a.toArray.any (eqTo X.K H d)=g.any λe=>sameD e d:=by
    rw[show a.toArray.any (eqTo X.K H d)=a.any (eqTo X.K H d)by simp,any_map',B,<-any_map']
   cases b with
   |true=>
    rw[SeqAt.notIn_listAt (eqTo X.K H d) pl.isList (λw i=>m w<|by simpa using i) (.bl _,H,I,9,?_)];rw[n,];rw[q _ F H (.refl f)<|zo _ F]
   |false=>
    rw[SeqAt.in_listAt (eqTo X.K H d) pl.isList (λw i=>m w<|by simpa using i) (.bl _,H,I,9,?_)];rw[n,];rw[q _ F H (.refl f)<|zo _ F]
  .rw[J2 c]
 |tup g=>
  let c:(if plN 12 d&&g.all (plN 12)then !(D.bl<|if b then not<|g.any<|λe=>sameD e d else g.any λe=>sameD e d)else 8)=!z:=c
  split at c
  .rename_i h;rw[Uc]at h;obtain rfl:=Zqi c;rw[jm]at o;let(p,G,rfl,r,t):=o;obtain rfl:u=Value.ref p:=E;let(a,ri,pl,J):=I.tuple (r.same f).sq;let(B,m):=any_eq (A:=X.A.in1) (by show X.A.units+1+60<cLine;lia) I.hok h.1 l C h.2 (IsDs.same f _ _ t) ri;let n:a.toArray.any (eqTo X.K H d)=g.any λe=>sameD e d:=by
    rw[show a.toArray.any (eqTo X.K H d)=a.any (eqTo X.K H d)by simp,any_map',B,<-any_map']
   cases b with
   |true=>
    rw[SeqAt.notIn_tupleAt (eqTo X.K H d) pl (λw i=>m w<|by simpa using i) (.bl _,H,I,9,?_)];rw[n,];rw[q _ F H (.refl f)<|zo _ F]
   |false=>
    rw[SeqAt.in_tupleAt (eqTo X.K H d) pl (λw i=>m w<|by simpa using i) (.bl _,H,I,9,?_)];rw[n,];rw[q _ F H (.refl f)<|zo _ F]
  .rw[J2 c]
 |_=>rw[J2 c]
def C8{K:aa}    (h:tD K E (jd (x8 f) m j) Z H Q):
 (λZ H Q=>tD K E m Z H λy C=>tD K E j Z C λx l=>∃a o,x=.ref a/\yo l a y o/\Q (.bl<|if f then not o.isSome else o.isSome) l) Z H Q\/ur (wF K λd e=>match e with
 |.dct _ _=>8
 |.dcf _ _=>8
 |e=>x8 f d e) (tD K E m) (tD K E j) Z H Q:=by
 let(B F sd,r,n):=h;cases s:∃d b g,j sd=.ok d/\(d=.dct b g\/d=.dcf b g)
 .let(d b g,s,G):=s;rw[.inl<|jh B F sd (r,(Res.need_bind n).mono (λx L v M C t N=>jh B M sd (r.step t,(Res.need_bind L).monoE (λy i O w P l I R=>?_) λ_ _ q=>q.ext t)) λ_ _ q=>q)];rw[s]at i;cases i;let(-z,u,q):=jk O;let(-k,S,u):=Jj.mp (show(Q3 x).map (λq=>D.bl<|if f then not<|(ql b g q).isSome else(ql b g q).isSome)=!z by obtain rfl|rfl:=G<;>rw[u]);subst u;let(p J,rfl,T,U,X):=Ft G R;let(Y,g2):=Z3 k U X;rw[(p,q9 (b.zip J) k,9,?_,?_)]
  .rw[XV S N,];rw[Fu<|C6 I.fh T]
  .let es:(q9 (b.zip J) k).isSome=(ql b g k).isSome:=by
    induction hv:ql b g k with
    |none=>rw[g2 hv,];rfl
    |some d=>let(-x,A,_):=Y d hv;rw[A,];rfl
   rw[es,];rw[q _ P l (t.trans I)<|jp.mpr 9]
 .rw[.inr<|YQ<|jh B F sd (r,?_)];unfold jd at n ⊢
  induction A:m sd with
  |ok d=>
   rw[A]at n
   induction i:j sd with
   |ok e=>
    ext
   |no=>rwa[i]at n
   |ex c fs=>rwa[i]at n
  |no=>ext
  |ex c fs=>ext
def Nk(f:X.A.units+64<cLine)(c:QE X E a g)(d:QE X E b i)(e:behindInMarks .NotIn b=7:=by rfl):QE X E (.Compare a [.NotIn] [b] j) (jd (x8 6) g i):=
 PE.weak (PE.or (Ek (EZ () c d) e)<|E1 (C7 f 6) c d e) λZ H Q h=>C8 h
def C9(f:X.A.units+64<cLine)(c:QE X E a g)(d:QE X E b i)(e:behindInMarks .In b=7:=by rfl):QT X E (.Compare a [.In] [b] j) (Jz<|jd (x8 7) g i):=
 PT.weak (PT.or (Aw (M6 () c d) e)<|A0 (C7 f 7) c d e) λZ H Q h=>C8<|VB h
def AF(f:X.A.units+64<cLine)(c:QE X E a g)(d:QE X E b i)(e:behindInMarks .NotIn b=7:=by rfl):QT X E (.Compare a [.NotIn] [b] j) (Jz<|jd (x8 6) g i):=
 PT.weak (PT.or (Aw (EZ () c d) e)<|A0 (C7 f 6) c d e) λZ H Q h=>C8<|VB h
section
variable    {a b o i e f tg:Expr}{fa fb fo fi fv:FE}{fr:FA}
def QU{K:aa}   (h:IsDs K H [d] c):∃v,c=[v]/\IsD K H d v:=by
 simp_all[ji,IsDs.nil_iff]
def Xu{K:aa}{H:Hp}{d e:D}{c:Yp}(h:IsDs K H [d,e] c):∃v w,c=[v,w]/\IsD K H d v/\IsD K H e w:=by
 rw[ji]at h;let(v,r,rfl,g,j):=h;let(w,rfl,l):=QU j;rw[(v,w,9,g,l)]
def jq:Yq->Yr
 |[.lst ds]=>! .int ⇑ds
 |[.tup ds]=>! .int ⇑ds
 |[.dct c _]=>! .int ⇑c
 |[.scr d]=>! .int ⇑d
 |[.str x]=>if ⇑x<=00 then ! .int ⇑x else 8
 |_=>8
def tQ(d:Yq)(z:D):4:=(∃c,d=[.lst c]/\z=.int ⇑c)\/(∃c,d=[.tup c]/\z=.int ⇑c)\/(∃g c,d=[.dct g c]/\z=.int ⇑g)\/(∃h,d=[.scr h]/\z=.int ⇑h)\/∃x,⇑x<=00/\d=[.str x]/\z=.int ⇑x
def Nl  (c:jq g=!z):tQ g z:=by
 cases g with
 |nil=>rw[J2 c]
 |cons d g=>
  cases g with
  |nil=>
   cases d with
   |lst g=>rw[.inl (_,9,(Zqi c).symm)]
   |tup g=>rw[.inr<|.inl (_,9,(Zqi c).symm)]
   |dct h g=>rw[.inr<|.inr<|.inl (_,_,9,(Zqi c).symm)]
   |scr j=>rw[.inr<|.inr<|.inr<|.inl (_,9,(Zqi c).symm)]
   |str x=>rw[let q:=XP c;.inr (.inr<|.inr<|.inr (_,q.1,9,q.2.symm))]
   |_=>rw[J2 c]
  |cons e g=>cases d<;>rw[J2 c]
def JI:qu X (.builtin "len") (zz X.K jq):=qu.weak (qu.or Mu<|qu.or MH Mv) λr H Q m=>by
 let(F s z,c,id,n,q):=m;obtain⟨l,rfl,rfl⟩|⟨l,rfl,rfl⟩|⟨t,l,rfl,rfl⟩|⟨u,rfl,rfl⟩|⟨x,p,rfl,rfl⟩:=Nl n
 .let(-v,rfl,h):=QU id;let(a j,rfl,d,g):=h;rw[<-⇑g]at q;rw[.inl (a,j,9,.inl (d.same c).sq,q _ F H (.refl c)<|yZ _ F)]
 .let(v,rfl,h):=QU id;let(a j,rfl,d,g):=h;rw[<-⇑g]at q;rw[.inl (a,j,9,.inr (d.same c).sq,q _ F H (.refl c)<|yZ _ F)]
 .let(-v,rfl,h):=QU id;let(a j,rfl,d,g,w):=h;rw[.inr<|.inl (a,_,9,c _ _ d,?_)];rw[List.length_zip,<-g,Nat.min_self];rw[q _ F H (.refl c)<|yZ _ F]
 .let(v,rfl,h):=QU id;let(-a,rfl,d):=h;rw[.inl (a,_,9,.inl<|ju.seq c d,?_)];rw[Zql,];rw[q _ F H (.refl c)<|yZ _ F]
 .let(-v,rfl,h):=QU id;subst h;rw[.inr<|.inr (_,9,p,q _ F H (.refl c)<|yZ _ F)]
def Xv:Yq->Yr
 |[.int i,.int j]=>!(.int<|if j<i then j else i)
 |_=>8
def mw(c:Yq):4:=∃i j,c=[.int i,.int j]
def Nm  (g:Xv c=!z):mw c:=by
 cases c with
 |nil=>rw[J2 g]
 |cons d c=>
  cases c with
  |nil=>cases d<;>rw[J2 g]
  |cons e c=>
   cases d with
   |int i=>
    cases e with
    |int j=>
     cases(c)with
     |nil=>rw[xh _ _ 9]
     |cons _ _=>rw[J2 g]
    |_=>rw[J2 g]
   |_=>rw[J2 g]
def No(d:X.calm=6):qu X (.builtin "min") (zz X.K Xv):=qu.weak (LY d) λn H Q g=>by
 let(F p z,h,id,c,q):=g;let(i j,rfl):=Nm c;obtain rfl:=Zqi c;let(v w,rfl,l,m):=Xu id;rw[(_,_,by rw[je.mp l,je.mp m],q _ F H (.refl h)<|yZ _ F)]
def XX:D->02 Ye
 |.lst c=>K0 YV c
 |_=>8
def Fx{K:aa}    (h:XX d=!g)(i:IsD K H d v):∃a,v=.ref a/\yb K H a (g.map V.int):=by
 cases d with
 |lst l=>
  let(a m,rfl,j,c):=i;rw[Na h]at c;rw[xF c]at j
  ext
 |_=>rw[J2 h]
def Fy(c):XX (.lst<|c.map D.int)=!c:=Nb c
def Z5:Yq->Yr
 |[d]=>(XX d).bind λc=>if c=[]then 8 else !(.int<|yX c)
 |_=>8
def Np(g:X.calm=6):qu X (.builtin "max") (zz X.K Z5):=qu.weak (MQ g) λr H Q j=>by
 let(F s z,d,id,c,q):=j;unfold Z5 at c
 split at c
 .let(-l,m,c):=Jg.mp c
  split at c
  .rw[J2 c]
  .rename_i n;obtain rfl:=Zqi c;let(-v,rfl,h):=QU id;let(-a,rfl,p):=Fx m h;rw[(a,l,9,(p.same d).sq,n,q _ F H (.refl d)<|yZ _ F)]
 ext
def dh:D->02 String
 |.non=>!"NoneType"
 |.bl _=>!"bool"
 |.int _=>!"int"
 |.str _=>!"str"
 |.lst _=>!"list"
 |.tup _=>!"tuple"
 |.dct _ _=>!"dict"
 |_=>8
def uq(t n:String):Bool:=t==n||t=="bool"&&n=="int"
def AG(t n:String):Bool:=["NoneType","bool","int","str","list","tuple","dict"].contains t&&["bool","int","str","list","tuple","dict"].contains n
def Nq(K)(t n)(h:AG t n=6):W.kitOne K (.type t) (.type n)=! uq t n:=by
 unfold AG at h;rw[Uc,List.contains_iff_mem,List.contains_iff_mem]at h;let(c,d):=h;simp only[Ux,UA,or_false]at c d;obtain rfl|rfl|rfl|rfl|rfl|rfl|rfl:=c<;>obtain rfl|rfl|rfl|rfl|rfl|rfl:=d<;>first|rfl|kernel_rfl
def qx:Yq->Yr
 |[d,.ty n]=>(dh d).bind λt=>if AG t n then !(.bl<|uq t n)else 8
 |_=>8
def tU(c:Yq)(z:D):4:=∃d n t,c=[d,.ty n]/\dh d=!t/\AG t n=6/\z=.bl (uq t n)
def Nr  (c:qx g=!z):tU g z:=by
 cases g with
 |nil=>rw[J2 c]
 |cons d g=>
  cases g with
  |nil=>rw[J2 c]
  |cons e g=>
   cases g with
   |nil=>
    cases e with
    |ty n=>
     let(-t,h,c):=Jg.mp c;rw[jh d n t (9,h,(XP c).1,(XP c).2.symm)]
    |_=>rw[J2 c]
   |cons _ _=>cases e<;>rw[J2 c]
def VT:qu X (.builtin "isinstance") (zz X.K qx):=qu.weak MR λl H Q p=>by
 let(F h z,m,id,r,q):=p;let(d n t,rfl,g,s,rfl):=Nr r;let(v w,rfl,u,y):=Xu id;rw[jX v _ _ _ (by rw[xa.mp y,],by
  let i:=IsD.same m _ _ u;cases d with
  |non=>cases g;rw[j8.mp i,];rw[.non]
  |bl b=>cases g;rw[jp.mp i,];rw[.bl b]
  |int j=>cases g;rw[je.mp i,];rw[.int j]
  |str x=>cases g;rw[jg.mp i,];rw[.str x]
  |lst h=>
   obtain rfl:=Zqi g;let(a l,rfl,g,_):=i;obtain g|⟨o,g⟩:=g
   .rw[.lst g]
   .rw[.frz g]
  |tup h=>
   obtain rfl:=Zqi g;let(a l,rfl,g,_):=i;rw[.tup g]
  |dct A h=>
   obtain rfl:=Zqi g;let(a l,rfl,g,_):=i;rw[.dK g]
  |ty n=>rw[J2 g]
  |scr n=>rw[J2 g]
  |ins C fs h=>rw[J2 g]
  |exc c=>rw[J2 g]
  |exr c n=>rw[J2 g]
  |ucl c=>rw[J2 g]
  |adr c=>rw[J2 g]
  |dcf c h=>rw[J2 g]
  |pin c h=>rw[J2 g],Nq _ _ _ s,q _ F H (.refl m)<|zo _ F)]
def VC   (c:Gl X x)(d:X.mg x=8)(g:bootBuiltins x=!u)(r:jz (.ty n) u)(j:x ≠"__name__":=by decide)(l:(x==("__debug__":Str))=7:=by decide):QE X E (.Name x m) (dC<|.ty n):=
 Xp (λ_ _ _ H _ I h=>Xh I c d g (V.ty n,H,I,r,h) j l) λ_=>xa.mpr 9
def Wp:Yq->Yr
 |[.lst c]=>! .lst c
 |[.tup c]=>! .lst c
 |[.scr d]=>!(.lst<|d.map .int)
 |_=>8
def mu(d:Yq)(z:D):4:=(∃c,d=[.lst c]/\z=.lst c)\/(∃c,d=[.tup c]/\z=.lst c)\/∃g,d=[.scr g]/\z=.lst (g.map .int)
def Nt  (g:Wp c=!z):mu c z:=by
 cases c with
 |nil=>rw[J2 g]
 |cons d c=>
  cases c with
  |nil=>
   cases d with
   |lst c=>rw[.inl (_,9,(Zqi g).symm)]
   |tup c=>rw[.inr<|.inl (_,9,(Zqi g).symm)]
   |scr h=>rw[.inr<|.inr (_,9,(Zqi g).symm)]
   |_=>rw[J2 g]
  |cons e c=>cases d<;>rw[J2 g]
def CA:qu X (.type "list") (gh X.K Wp):=qu.weak ET λt H Q r=>by
 let(F u z,g,id,s,q):=r;let d:∀{j:Yq}{c:Yp},IsDs X.K F j c->yT X.K F H Q (.lst j)->∀l,H l=8->Q (.ref l) (upd H l<|.lst c):=λ{j c}h q l n=>
  q l F _ (.keep g n _) n (Q1 g n) (c,JE,h)
 obtain⟨j,rfl,rfl⟩|⟨j,rfl,rfl⟩|⟨w,rfl,rfl⟩:=Nt s
 .let(-v,rfl,h):=QU id;let(a,c,rfl,m,p):=h;rw[(a,c,9,.inl (m.same g).sq,d p q)]
 .let(v,rfl,h):=QU id;let(a c,rfl,m,p):=h;rw[(a,c,9,.inr (m.same g).sq,d p q)]
 .let(v,rfl,h):=QU id;let(a,rfl,m):=h;rw[(a,_,9,.inl<|ju.seq g m,d (qW _) q)]
def Z8:Yq->Yr
 |[.lst c]=>! .tup c
 |[.tup c]=>! .tup c
 |_=>8
def tA(d:Yq)(z:D):4:=(∃c,d=[.lst c]/\z=.tup c)\/∃c,d=[.tup c]/\z=.tup c
def Nu  (g:Z8 c=!z):tA c z:=by
 cases c with
 |nil=>rw[J2 g]
 |cons d c=>
  cases c with
  |nil=>
   cases d with
   |lst c=>rw[.inl (_,9,(Zqi g).symm)]
   |tup c=>rw[.inr (_,9,(Zqi g).symm)]
   |_=>rw[J2 g]
  |cons e c=>cases d<;>rw[J2 g]
def Fz:qu X (.type "tuple") (zz X.K Z8):=qu.weak Mw λu H Q n=>by
 let(F w z,d,id,p,q):=n;obtain⟨r,rfl,rfl⟩|⟨r,rfl,rfl⟩:=Nu p
 .let(v,rfl,h):=QU id;let(a c,rfl,g,j):=h;rw[(a,c,9,.inl ((g.same d).sq,λl s=>?_))];let m:=Ext.alloc d s<|.tup c;rw[q _ _ _ m<|jm.mpr (l,c,9,.of JE,IsDs.same m.ff _ _ j)]
 .let(v,rfl,h):=QU id;let t:=h;let(a c,rfl,g,j):=h;rw[(a,c,9,.inr ((g.same d).sq,q _ F H (.refl d) t))]
def ZD:FE:=λ_=>.ok<|.dct [] []
def CB:QN X E (.Dict [] [] d) ZD:=PE.weak (λY s Z H Q I h=>
 wpAny_Dict_empty (.ref s⁻¹,_,I.laid (λ_ _ q=>Zq _ q) (Zf _)<|M8 s.heap I.big,9,h _<|I.hok.fresh<|Zf _)) λZ H Q=>xf λB F sd=>jD λr n=>λp c=>n p F _ (.keep r.ext.fh c _) c (Q1 r.ext.fh c) ([],JE,9,.nil)
def W9(i:5)(d fv:FE):FS:=λsd=>(fv sd).bind λv=>match sd[i]? with
 |some (some<|.own false<|.dct c ds)=>(d sd).bind λk=>match Q3 k with
  |some q=>if ⇑c<00 then .ok (.next<|sd.set i<|!(.own 7<|.dct (W8 c q)<|Xt c ds q v))else .no
  |none=>.no
 |_=>.no
def F6 (z:X.A.units+1<cLine)(A:PE X o (zl j))(C:QE X E i fi)(G:QE X E e fv)(I:swapsWith e (! .Subscript o i c) s.line X.env=pure 7:=by rfl):
 QS X E m (.Assign [.Subscript o i c] e s) (W9 j fi fv):=PS.weak (M7 z A C G I) λT Z H J=>by
 let(B F sd,r,n):=J;rw[jh B F sd (r,(Res.need_bind n).mono (λd t v L H1 g M=>?_) λ_ _ q=>q.ext r.ext)]
 split at t
 .rename_i ks ds u;let(-l,y,h2,h3,(xs,N,O,P),_):=(r.step g).own u;rw[(.ref l,y,B,L,sd,r.step g,(Res.need_bind t).mono (λk h w Q H2 p R=>?_) λ_ _ q=>q.ext (r.step g).ext)]
  split at h
  .rename_i q S
   split at h
   .let(U,Y,y2,y3):=Fs O (IsDs.same p.ff _ _ P) (IsD.same p.ff _ _ M);rw[(l,_,9,by rw[XV S R,];rw[wS.k (p.hh _ _ N) ()],h Z Q _ (g.ff.trans p.ff)<|((r.step g).step p).chg u y (U,by rw[JE,Y],y2,y3))]
   .rw[h.elim]
  .rw[h.elim]
 .rw[t.elim]
def AH:D->02 Yq
 |.lst c=>!c
 |.scr d=>! d.map .int
 |_=>8
def ky:D->02 Yq
 |.tup c=>!c
 |_=>8
def iL(f:FE):FA:=λsd=>(f sd).bind λd=>.ofO<|AH d
def iT(f:FE):FA:=λsd=>(f sd).bind λd=>.ofO<|ky d
def AI{K:aa}    {S:Hp->4}(h:IsDs K n v j)(w:∀F H,ju n F->ju F H->S H)(g:∀i H x,S H->j[i]?=!x->J.go i H)(st:∀i H,S H->⇑j<=i->J.stop i H)
 (z:∀i H x p,S H->J.yld i H x p->p=H/\j[i]?=!x):wc K n J v:=λi r c s t=>by
 let l:=w r c s t;rw[(λu=>?_,λu=>st i c l<|by rwa[⇑h,])];let(-x,A,_):=h.get (Zqg u);rw[(g i c x l A,λy B C=>?_)];let(!rfl,m):=z i c y B l C;let(-d,E,id):=h.getV m;rw[(d,r,E,.refl t,IsD.same s _ _ id)]
def Nv(h:QE X E e fa):QI X E tg e (iL fa):=PI.weak (LL h) λZ H R C=>by
 let(B F sd,r,n):=C;rw[jh B F sd (r,(Res.need_bind n).mono (λd G v y z l A=>?_) λ_ _ q=>q)];let(-M,p,q):=jk G;cases d with
 |lst N=>
  obtain rfl:=Zqi p;let(a m,rfl,g,I):=A;rw[(a,9,(m,(g.same l.fh).sq),q _ y z l<|AI I (λF H s t=>((g.same s).same t).sq) (λi H x c u=>(m,x,c,u)) (λi H c w=>(m,c,w)) λi H x J c j=>(j.1,j.2 m c))]
 |scr L=>
  obtain rfl:=Zqi p;let(-a,rfl,g):=A;rw[(a,9,(_,ju.seq l.fh g),q _ y z l<|AI (qW L) (λF H s t=>ju.seq t<|ju.seq s g) (λi H x c u=>(_,x,c,u)) (λi H c w=>(_,c,w)) λi H x J c j=>(j.1,j.2 _ c))]
 |_=>rw[J2 p]
def Nw(h:QE X E e fa):QI X E tg e (iT fa):=PI.weak (LM h) λZ H R s=>by
 let(B F sd,r,n):=s;rw[jh B F sd (r,(Res.need_bind n).mono (λd t v u w j y=>?_) λ_ _ q=>q)];let(-J,l,q):=jk t;cases d with
 |tup L=>
  obtain rfl:=Zqi l;let(a g,rfl,m,z):=y;rw[(a,9,(g,(m.same j.fh).sq),q _ u w j<|AI z (λF H A C=>((m.same A).same C).sq) (λi H x c G=>(g,x,c,G)) (λi H c I=>(g,c,I)) λi H x M c p=>(p.1,p.2 g c))]
 |_=>rw[J2 l]
def tK   (h:PI X tg e t)(c:PI X tg e d):PI X tg e λZ H R=>t Z H R\/d Z H R:=λY s Z H R I q=>q.elim (h Y s Z H R I)<|c Y s Z H R I
def WA:D->02 Yq
 |.lst c=>!c
 |.scr d=>! d.map .int
 |.tup c=>!c
 |_=>8
def iS(f:FE):FA:=λsd=>(f sd).bind λd=>.ofO<|WA d
def Q5(h:QE X E e fa):QI X E tg e (iS fa):=PI.weak (tK (Nv h)<|Nw h) λZ H R l=>by
 let(B F sd,r,n):=l;cases g:∃j,fa sd=.ok (.tup j)
 .let(-j,g):=g;rw[.inr<|jh B F sd (r,?_)];unfold iS at n;ext iT
  rwa[g]at n ⊢
 .rw[.inl<|jh B F sd (r,?_)];unfold iS at n;ext iL
  induction hx:fa sd with
  |ok d=>
   rw[hx]at n;cases d with
   |tup j=>ext
   |_=>rw[n]
  |no=>rwa[hx]at n
  |ex c fs=>rwa[hx]at n
def Qw(lo:3)(n:5):Yq:=(List.range n).map λk:5=>.int<|lo+k
def Vx(j:3):Bool:=Nat.ble j.toNat 1000000000&&Nat.ble (-j).toNat 1000000000
def F7 (h:Vx j=6):-2^62<=j/\j<2^62:=by
 unfold Vx at h;rw[Uc,UM,UM]at h;lia
def F8 (c:-1000000000<=j)(d:j<=1000000000):Vx j=6:=by
 ext Vx;rw[Uc,UM,UM];lia
def vw(fr:FA):FA:=λsd=>(fr sd).bind λc=>match c with
 |[.int j]=>if Vx j then .ok (Qw 0 j.toNat)else .no
 |_=>.no
def Nx{K:aa} (lo)(n):wc K l (tS lo n) (Qw lo n):=λi d m p g=>by
 let h:⇑(Qw lo n)=n:=by ext Qw;simp
 rw[h,];rw[(λc=>(c,λx r j=>?_),λc=>c)];let(rfl,rfl):=j;rw[(.int<|lo+i,d,?_,.refl g,je.mpr 9)]
 simp_all[Qw]
def XY (g:Gl X "range")(l:X.mg "range"=8)(m:QA X E [a] fr)(s:01 [a] X.env=[%[7|eval a X.env]]:=by rfl):QI X E tg (.Call (.Name "range" p) [a] [] t) (vw fr):=PI.weak (LN g l m s) λZ H R u=>by
 let(B F sd,r,n):=u;rw[jh B F sd (r,(Res.need_bind n).mono (λC c G w y z A=>?_) λ_ _ q=>q)]
 split at c
 .split at c
  .rename_i j d;let(-v,rfl,h):=QU A;rw[je.mp h,];rw[(j,9,(F7 d).1,(F7 d).2,c _ w y z<|Nx 0 _)]
  .rw[c.elim]
 .rw[c.elim]
end
section
variable    {a b o i e f tg:Expr}
def PG.weak  (h:PG X e t)(w:∀v Z H Q,c v Z H Q->t v Z H Q):PG X e c:=λY s Z H v u Q I r q=>h Y s Z H v u Q I r<|w _ _ _ _ q
def CC:Yf->kd
 |[]=>fL
 |i::c=>Er (Wm i) (CC c)
theorem F9:∀{is:Yf}{xs:Yp}{Z:St}{H:Hp}{Q:St->Hp->4},⇑xs=⇑is->Q (AC is xs Z) H->CC is xs Z H Q
 |[],xs,Z,H,Q,hl,q=>(Jk.mp hl,q)
 |i::is,[],Z,H,Q,hl,q=>by cases hl
 |i::is,x::xs,Z,H,Q,hl,q=>(x,xs,9,F9 (is:=is) (xs:=xs) (UL hl) q)
def QC{i:5} (h:PG X e (Wm i)):QG X e (.one i):=h
def Kv(c) (h:PG X e (fH X.K ⇑c<|CC c)):QG X e (.tup c):=PG.weak h λv Z H Q=>jy λa g=>yh λe j d q=>(a,g,e,j,d,F9 d q)
def VU(tg:Tg)(c:FT)(f:FE)(sd:SD):Yq->Res Yq
 |[]=>.ok []
 |x::d=>(JS tg x sd).bind λs=>(c s).bind λb=>if b then(f s).bind λy=>(VU tg c f sd d).bind λg=>.ok<|y::g else VU tg c f sd d
def ZE(cap:List (02 5))(d:FA)(tg:Tg)(c:FT)(f:FE):FE:=λsd=>(d sd).bind λds=>if Xr (qM cap sd) tg=6/\⇑ds<00 then
 (VU tg c f (qM cap sd) ds).bind λg=>.ok<|.lst g else .no
def Ny{K:aa}   {f:FE}    (L:ut K E (ZE cap fi t M f) Z H Q):Cs cap (rL K E fi) (gT t K) (mC K E M) (tD K E f) Z H Q:=by
 let(B F sd,r,n):=L;rw[jh B F sd (r,(Res.need_bind n).mono (λj N J T H1 A wk=>?_) λ_ _ q=>q)]
 split at N
 .rename_i L;let(hn,hz):=L;rw[(λi k O Z m=>k=⇑j-i/\i<=⇑j/\∃l p,Ext T H1 l m/\RS K B l m (qM cap sd) Z/\IsDs K l p O/\⇑p<=i/\
   (VU t M f (qM cap sd)<|j.drop i).need (λs=>yT K l m Q<|.lst<|p++s) (XW K E l m),(⇑j,9,Um _,T,[],.refl A.fh,(r.step A).cap cap,.nil,Zf _,?_),?_)]
  .rw[(Res.need_bind N).mono (λs q=>(show yT K F H Q (.lst s)from q).ext A) λ_ _ q=>q.ext A]
  rintro i k O Z2 m ⟨rfl,hi,l,p,C,P,G,U,u⟩;let ly:=⇑G;rw[((),?_)];let(!w1,w2):=wk i l m C.ff C.fh;cases g:i<⇑j
  .let(!go,yl):=w1 g;rw[.inr (go,λx H3 y=>?_)];let(d F3,X,h,i3):=yl x H3 y;rw[UH g]at u;let R:j[i]=d:=by rw[Zqg g]at X;rw[Zqi X]
   rw[R]at u;unfold VU at u;let r3:=P.step h;rw[YU (K:=K) r3 i3 (Res.need_bind u) λw Z' n4 hb I=>?_];let(!Y,b2):=Fm hn hb;rw[jh B F3 w (I,(Res.need_bind n4).mono (λb n5 F4 H4 c=>?_) λ_ _ q=>q.ext h)]
   cases(b)with
   |true=>
    rw[jh B F4 w (I.step c,(Res.need_bind n5).mono (λy n6 v F5 H5 z i5=>?_) λ_ _ q=>q.ext<|h.trans c)];rw[(⇑j-(i+1),(),9,g,F5,p++[y],((C.trans h).trans c).trans z,((I.step c).step z).forget Y b2,(IsDs.same ((h.ff.trans c.ff).trans z.ff) _ _ G).snoc i5,by rw[Ub,];rw[Nat.succ_le_succ U],?_)];rw[(Res.need_bind n6).mono (λs q=>?_) λ_ _ q=>q.ext<|(h.trans c).trans z];rw[Uq,];rw[(show yT K l m Q (.lst<|p++y::s)from q).ext<|(h.trans c).trans z]
   |false=>
    rw[(⇑j-(i+1),(),9,g,F4,p,(C.trans h).trans c,(I.step c).forget Y b2,IsDs.same (h.ff.trans c.ff) _ _ G,Nat.le_succ_of_le U,?_)];rw[(show(VU t M f (qM cap sd)<|j.drop<|i+1).need _ _ from n5).mono (λs q=>q.ext<|h.trans c) λ_ _ q=>q.ext<|h.trans c]
  .let he:i=⇑j:=()
   subst he;rw[.inl (w2<|Zf _,λD S=>?_)];rw[UQ]at u;let q:yT K l m Q (.lst<|p++[]):=u;rw[ZA]at q;rw[q D l _ (.keep P.ext.fh S _) S (Q1 P.ext.fh S) (O,JE,G)]
 .rw[N.elim]
end
section
variable   {K:aa}
def hV:FnOk P w K b a yt k f c d (xZ K λ_=>.no):=(λ_ _ _ _=>jy λ_ _=>j5 λ_ _ n=>n.elim,λ_ _ _ _ _ _ _ _ _ _ _ _ _=>jy λ_ _=>j5 λ_ _ n=>n.elim)
end
def xN(a:Bool):D->Yr
 |.non=>!(.bl<|not a)
 |_=>! .bl a
def Nz:D->Bool
 |.non=>6
 |_=>7
def FB{K:aa}   (h:IsD K H d v):decide (v=.non)=Nz d:=by
 cases d with
 |non=>rw[j8.mp h,];rfl
 |bl b=>rw[jp.mp h,];rfl
 |int b=>rw[je.mp h,];rfl
 |str b=>rw[jg.mp h,];rfl
 |ty b=>rw[xa.mp h,];rfl
 |scr b=>let(a,rfl,_):=qO.mp h;rfl
 |tup b=>let(a _,rfl,_):=jm.mp h;rfl
 |lst b=>let(a _,rfl,_):=jx.mp h;rfl
 |dct b c=>let(a _,rfl,_):=jO.mp h;rfl
 |ins b c d=>let(a _ _ _,rfl,_):=jN.mp h;rfl
 |exc b=>let(a _,rfl,_):=qy.mp h;rfl
 |exr b c=>let(a _ _,rfl,_):=qh.mp h;rfl
 |ucl b=>let(a,rfl,_):=qN.mp h;rfl
 |adr b=>rw[jC.mp h,];rfl
 |dcf b c=>let(a _ _,rfl,_):=qQ.mp h;rfl
 |pin b c=>rw[(qP.mp h).1,];rfl
def FC{K:aa}   (h:tD K E (jJ (xN 7) b) Z H Q):kH (tD K E b) Z H Q:=by
 let(B F sd,r,n):=h;rw[jh B F sd (r,(Res.need_bind n).mono (λx c v d a e f=>?_) λ_ _ q=>q)];show Q (V.bl<|decide<|v=V.non) a;rw[FB f,];cases x<;>rw[c _ d a e<|jp.mpr 9]
def N0{K:aa}   (h:tD K E (jJ (xN 6) b) Z H Q):Ei (tD K E b) Z H Q:=by
 let(B F sd,r,n):=h;rw[jh B F sd (r,(Res.need_bind n).mono (λx c v d a e f=>?_) λ_ _ q=>q)];show Q (V.bl<|not<|decide<|v=V.non) a;rw[FB f,];cases x<;>rw[c _ d a e<|jp.mpr 9]
def gr (c:QE X E a d):QE X E (.Compare a [.Is] [.Constant .none j b] e) (jJ (xN 7) d):=PE.weak (Ek<|Ej c) λ_ _ _ h=>FC h
def N1 (c:QE X E a d):QT X E (.Compare a [.Is] [.Constant .none j b] e) (Jz<|jJ (xN 7) d):=PT.weak (Aw<|Ej c) λ_ _ _ h=>FC<|VB h
def CD (c:QE X E a d):QT X E (.Compare a [.IsNot] [.Constant .none j b] e) (Jz<|jJ (xN 6) d):=PT.weak (Aw<|L9 c) λ_ _ _ h=>N0<|VB h
end L2.DL
namespace L2
def FD      (d:X.N.Nodup)(f:X.N[G]?=!y)(g:zO X.env.scope y)(h:X.fn y=6\/X.env.scope.names.lookup y=!.local):
 A9 X Y Z (λv H=>I.nx (Z.set G<|!v) H) (! assign (.Name y U) X.env) λ_ J=>SP X Y I .next J:=λC D m i r L A M sz N O k=>by
 let(v5 B,E,j,F,P):=k i.heap (9,λ_ _=>9);let(c l n,s,a,t):=id L;let Q:Inv X (Y++[%[C|c]]) Z B {i with heap:=i.heap}:=E.pins_of λp hp=>by
  obtain hp|hp:=Jd.mp hp
  .rw[E.pin p<|Uf _ hp]
  .let e:=Jc.mp hp;subst e;rw[(s,F,A,M,λv z=>by rw[show c.data=_ from z]at a;cases a)]
 rw[wpAny_assign_Name<|YJ Q d f g j (λR u=>?_) h];let S:=u.pin %[C|c]<|Uf _<|Uf _ Zqs;rw[(m,jh c l n (S.1,a,t),λh' w=>(_,B,?_,P))];rw[(u.pins_of (Y':=Y) λp hp=>u.pin p<|Uf _<|Uo _ hp).turned (t':=R.toks) (it:=C) (λb o T e=>(w.2 b T).trans e) F A (.inr sz) N O]
def N2   (f:swapsWith (.ListComp c [(i,b,[],0)] a j) (! .Name y t) d.line X.env=pure 6)(l:X.N.Nodup)(m:X.N[u]?=!y)(n:zO X.env.scope y)(o:X.fn y=6\/X.env.scope.names.lookup y=!.local)(N)(cap)(v:X.calm=6)(p:VA a X.env N X.N cap=6)(w:PI X i b z)(A:∀r C s H ex,PG (Qj X a N r C s H ex) i g)(G:∀r C s H ex,PE (Qj X a N r C s H ex) c B)
 (E:∀x,foldedSetIterable b X.env x=pure x:=by intro _;rfl):PS X (.Assign [.Name y t] (.ListComp c [(i,b,[],0)] a j) d) (wD (A8 cap z g B)<|Wm u):=by
 intro Y s Z H J I h;rw[exec_Assign_Name_used _ _ _ _ f,];rw[Za<|wpAny_standAt<|Za<|Za<|Zc (Fd N cap v p w A () E I h<|FD l m n o) (λ_ L F=>Zb<|Zb F) λ_ _ e=>e]
end L2
namespace L2.DL
def N3{K:aa}   (w:∀Z H Q,ut K E b Z H Q->c Z H Q)   (h:kK K E m (j3 i b) T Z H):wD c (Wm i) T Z H:=w _ _ _<|by
 let(B F sd,r,n):=h;rw[jh B F sd (r,(Res.need_bind n).mono (λd e=>zf.new λv f g a j=>e _ f g a.ff<|(r.step a).setVal j) λ_ _ q=>q.ext r.ext)]
def N5{K:aa}   (w:∀Z H Q,ut K E b Z H Q->c Z H Q)   (h:kK K E m (xH i b) T Z H):wD c (Wm i) T Z H:=w _ _ _<|by
 let(B F sd,r,n):=h;rw[jh B F sd (r,(Res.need_bind n).mono (λd e l f g a s t u=>e _ f g a.ff<|(r.step a).setOwn (Q1 r.ext.hh s) t u λj p z v A=>?_) λ_ _ q=>q.ext r.ext)];let(-C,G,_,_,y,_):=r.own v;let(o,I):=y.has
 ext
def N6(N)(cap)(e:X.N.Nodup)(g:X.N[u]?=!y)(i:zO X.env.scope y)(v:X.calm=6)(j:VA a X.env N X.N cap=6)(w:QI X E l b z)
 (A:∀n C s H ex,QG (Qj X a N n C s H ex) l t)(B:∀n C s H ex,QE (Qj X a N n C s H ex) E c f)(o:swapsWith (.ListComp c [(l,b,[],0)] a p) (! .Name y F) d.line X.env=pure 6:=by rfl)
 (r:X.fn y=6\/X.env.scope.names.lookup y=!.local:=by trivial)(G:∀x,foldedSetIterable b X.env x=pure x:=by intro _;rfl):
 QS X E m (.Assign [.Name y F] (.ListComp c [(l,b,[],0)] a p) d) (j3 u<|Q2 cap z t f):=PS.weak (N2 o e g i r N cap v j w A B G) λT Z H h=>N3 (λ_ _ _ q=>C2 q) h
def FF:02 (02 SV)->Res D
 |some (~~~d)=>.ok d
 |_=>.no
@[simp]def cC(d):FF (!~~~d)=.ok d:=rfl
@[simp]def sL(i)(sd):ja i sd=FF sd[i]?:=rfl
@[simp]def cu(d)(sd):dC d sd=.ok d:=rfl
@[simp]def dy(g)(a b)(sd):jd g a b sd=(a sd).bind λx=>(b sd).bind λy=>.ofO<|g x y:=rfl
@[simp]def dv(g)(a)(sd):jJ g a sd=(a sd).bind λx=>.ofO<|g x:=rfl
def d7:D->Res Bool
 |.bl b=>.ok b
 |_=>.no
@[simp]def t7(b):d7 (.bl b)=.ok b:=rfl
@[simp]def nT(a)(sd):Jz a sd=(a sd).bind d7:=by
 rfl
@[simp]def nH(f)(sd):Qv f sd=(f sd).bind λb=>.ok<|not b:=rfl
@[simp]def nV(f g)(sd):Qz f g sd=(f sd).bind λb=>if b then g sd else .ok 7:=rfl
@[simp]def sZ(f g)(sd):xP f g sd=(f sd).bind λb=>if b then .ok 6 else g sd:=rfl
@[simp]def nU(a c)(sd):W7 a c sd=(Jz a sd).bind λb=>if b then c sd else .ok (.bl 7):=rfl
@[simp]def sY(a c:FE)(sd:SD):vA a c sd=(Jz a sd).bind λb=>if b then .ok (.bl 6)else c sd:=rfl
@[simp]def nG(a)(sd):Cw a sd=(Jz a sd).bind λb=>.ok<|.bl<|not b:=rfl
@[simp]def dz(c:FT)(a b:FE)(sd:SD):nY c a b sd=(c sd).bind λk=>if k then a sd else b sd:=rfl
@[simp]def tf(sd):jb sd=.ok []:=rfl
@[simp]def nQ(a)(fr)(sd):Ju a fr sd=(a sd).bind λx=>(fr sd).bind λb=>.ok<|x::b:=rfl
@[simp]def ti(fr)(sd):qm fr sd=(fr sd).bind λa=>if ⇑a<=1000 then .ok (.lst a)else .no:=rfl
@[simp]def sP(fr)(sd):jH fr sd=(fr sd).bind λa=>if ⇑a<=1000 then .ok (.tup a)else .no:=rfl
@[simp]def nS(a)(fr)(sd):J9 a fr sd=(fr sd).bind a:=rfl
@[simp]def tw(g)(fr)(sd):jj g fr sd=(fr sd).bind λa=>.ofO<|g a:=rfl
@[simp]def nZ (a:α):(Res.ok a).bare=.ok a:=rfl
@[simp]def sQ(a)(f)(sd):zd a f sd=(f<|qR a sd).bare.bind λd=>if Kz d then .ok d else .no:=rfl
@[simp]def kT(i):Kz (.int i)=6:=rfl
@[simp]def mE(i):Kz (.bl i)=6:=rfl
@[simp]def kS(i:Str):Kz (.str i)=6:=rfl
@[simp]def hJ(sd):qR [] sd=sd:=rfl
def frz1(i:5)(sd:SD):02 (02 SV)->SD
 |some (some<|.own _ d)=>sd.set i (~~~d)
 |_=>sd
@[simp]def hQ(i)(sd)(p)(d):frz1 i sd (! ! .own p d)=sd.set i (~~~d):=rfl
@[simp]def cP(i)(a)(sd):qR (i::a) sd=qR a (frz1 i sd sd[i]?):=by
 rfl
def vf(g:FS):Out->Res Out
 |.next sd=>g sd
 |o=>.ok o
@[simp]def cI(g)(sd):vf g (.next sd)=g sd:=rfl
@[simp]def kQ(g)(d):vf g (.ret d)=.ok (.ret d):=rfl
@[simp]def sU(a b)(sd):js a b sd=(a sd).bind (vf b):=by
 rfl
@[simp]def nI(sd):JF sd=.ok (.next sd):=rfl
@[simp]def sT(i)(f)(sd):j3 i f sd=(f sd).bind λd=>.ok<|.next<|sd.set i<|~~~d:=rfl
@[simp]def sX(i)(f)(sd):xH i f sd=(f sd).bind λd=>.ok<|.next<|sd.set i<|! .own 7 d:=rfl
@[simp]def sW(f)(sd):jL f sd=(f sd).bind λd=>.ok<|.ret d:=rfl
def gG:02 (02 SV)->Res D
 |some (some<|.own _ d)=>.ok d
 |_=>.no
@[simp]def gF(p)(d):gG (! ! .own p d)=.ok d:=rfl
@[simp]def cO(i)(sd):Wn i sd=(gG sd[i]?).bind λd=>.ok<|.ret d:=by
 ext Wn
 cases(sd[i]?)with
 |none=>rfl
 |some o=>
  cases(o)with
  |none=>rfl
  |some v=>cases(v)<;>rfl
@[simp]def nO(f:FE)(sd:SD):KS f sd=(f sd).bind λ_=>.ok<|.next sd:=rfl
@[simp]def tj(c)(a d)(sd):qj c a d sd=(c sd).bind λb=>if b then a sd else d sd:=rfl
def gJ:02 (02 SV)->Res Yq
 |some (some<|.own false<|.lst a)=>.ok a
 |_=>.no
@[simp]def gH(a):gJ (! !(.own 7<|.lst a))=.ok a:=rfl
@[simp]def cJ(i)(f)(sd):Ko i f sd=(gJ sd[i]?).bind λa=>(f sd).bind λd=>if ⇑a<00 then .ok (.next<|sd.set i<|!(.own 7<|.lst<|a++[d]))else .no:=by
 ext Ko
 cases(sd[i]?)with
 |none=>rfl
 |some o=>
  cases(o)with
  |none=>rfl
  |some v=>
   cases(v)with
   |val d=>rfl
   |own p d=>cases(p)<;>cases d<;>rfl
def vh:02 (02 SV)->Res (List jR×Yq)
 |some (some<|.own false<|.dct a b)=>.ok %[a|b]
 |_=>.no
@[simp]def gK(a)(b):vh (! !(.own 7<|.dct a b))=.ok %[a|b]:=rfl
@[simp]def nP(i)(a b)(sd):W9 i a b sd=(b sd).bind λv=>(vh sd[i]?).bind λo=>(a sd).bind λk=>(Res.ofO<|Q3 k).bind λq=>if ⇑o.1<00 then .ok (.next<|sd.set i<|!(.own 7<|.dct (W8 o.1 q)<|Xt o.1 o.2 q v))else .no:=by
 ext W9
 cases(b sd)with
 |ok v=>
  cases(sd[i]?)with
  |none=>rfl
  |some o=>
   cases(o)with
   |none=>rfl
   |some w=>
    cases(w)with
    |val d=>rfl
    |own p d=>
     cases(p)with
     |true=>cases d<;>rfl
     |false=>
      cases d with
      |dct e f=>
       cases(a sd)with
       |ok k=>show(match Q3 k with|some q=>_|none=>_)=(Res.ofO<|Q3 k).bind _;cases(Q3 k)<;>rfl
       |ex c fs=>rfl
       |no=>rfl
      |_=>rfl
 |ex c fs=>rfl
 |no=>rfl
def xK:Out->Res D
 |.ret d=>.ok d
 |.next _=>.ok .non
 |_=>.no
@[simp]def gM(d):xK (.ret d)=.ok d:=rfl
@[simp]def cD(sd:SD):xK (.next sd)=.ok .non:=rfl
def kY(n b)(g)(a)(h:⇑a=b):jS n b g a=(g<|JN n a).bind xK:=by
 ext jS;rw[Zd h,];rfl
def vj:Out->Res D
 |.ret d=>.ok d
 |_=>.no
@[simp]def gN(d):vj (.ret d)=.ok d:=rfl
def kX(n b)(g)(a)(h:⇑a=b):xI n b g a=(g<|JN n a).bind vj:=by
 ext xI;rw[Zd h,];rfl
@[simp]def rV(n)(g)(a):jS n 1 g [a]=(g<|~~~a::List.replicate (n-1) 8).bind xK:=kY n 1 g [a] 9
@[simp]def rT(n)(g)(a b):jS n 2 g [a,b]=(g<|~~~a::~~~b::List.replicate (n-2) 8).bind xK:=rfl
@[simp]def rS(n)(g)(a b c):jS n 03 g [a,b,c]=(g<|~~~a::~~~b::~~~c::List.replicate (n-03) 8).bind xK:=rfl
@[simp]def rQ(n)(g)(a):xI n 1 g [a]=(g<|~~~a::List.replicate (n-1) 8).bind vj:=kX n 1 g [a] 9
@[simp]def rP(n)(g)(a b):xI n 2 g [a,b]=(g<|~~~a::~~~b::List.replicate (n-2) 8).bind vj:=rfl
@[simp]def h8(i j):jv (.int i) (.int j)=!(.int<|i+j):=rfl
@[simp]def fJ(i j):yP (.int i) (.int j)=!(.int<|i-j):=rfl
@[simp]def fM(i):qF (.int i)=!(.int<|-i):=rfl
@[simp]def mP(i j):ww (.int i) (.int j)=!(.bl<|decide<|i<j):=rfl
@[simp]def mS(i j:3):xM (.int i) (.int j)=!(.bl<|decide<|i<=j):=rfl
@[simp]def mY(i j):wx (.int i) (.int j)=!(.bl<|decide<|j<i):=rfl
@[simp]def mZ(i j):vS (.int i) (.int j)=!(.bl<|decide<|j<=i):=rfl
@[simp]def fZ(i j):qI (.int i) (.int j)=!(.bl<|decide<|i=j):=Nc i j
@[simp]def fN(i j):xL (.int i) (.int j)=!(.bl<|not<|decide<|i=j):=Nd i j
@[simp]def sD(a b:Bool):xL (.bl a) (.bl b)=!(.bl<|a !=b):=rfl
def CF (h:XS i j=6):xA (.int i) (.int j)=!(.int<|i*j):=by
 show(if XS i j then _ else _)=_;rw[Zd h,]
def CG (a:-18446744073709551616<i)(b:i<18446744073709551616):XS i j=6:=by
 ext XS;rw[UF,UF,UI,UI];rw[.inl ()]
@[simp]def Xw (h:0<j):j9 (.int i) (.int j)=!(.int<|i%j):=by
 show(if UD 0 j.toNat then _ else _)=_;rw[Zd (by rw[UI,];lia),]
@[simp]def N7 (h:0<j)(a:j<1073741824):JZ (.int i) (.int j)=!(.int<|i/j):=by
 show(if UD 0 j.toNat&&UD j.toNat 1073741824 then _ else _)=_;rw[Zd (by rw[Uc,UI,UI];lia),]
@[simp]def N8(a):jq [.lst a]=! .int ⇑a:=rfl
@[simp]def fP(a:Yq):jq [.tup a]=! .int ⇑a:=rfl
@[simp]def fQ(a):jq [.scr a]=! .int ⇑a:=rfl
@[simp]def N9(i j):Xv [.int i,.int j]=!(.int<|if j<i then j else i):=rfl
@[simp]def pd(a):Z8 [.lst a]=! .tup a:=rfl
@[simp]def mW(a)(k):jf (.lst a) (.int k)=qo a k:=rfl
@[simp]def mT(a)(k):jf (.scr a) (.int k)=(qo a k).map .int:=rfl
def CH:D->Res (List jR×Yq)
 |.dct a b=>.ok %[a|b]
 |_=>.no
@[simp]def d5(f)(sd):iS f sd=(f sd).bind λd=>.ofO<|WA d:=rfl
@[simp]def py(a):WA (.lst a)=!a:=rfl
@[simp]def cG(a):WA (.tup a)=!a:=rfl
def Wq:Yq->Res Yq
 |[.int j]=>if Vx j then .ok (Qw 0 j.toNat)else .no
 |_=>.no
@[simp]def tm(fr)(sd):vw fr sd=(fr sd).bind Wq:=by
 rfl
def XZ (a:-1000000000<=j)(b:j<=1000000000):Wq [.int j]=.ok (Qw 0 j.toNat):=Zd<|F8 a b
def CI{lo:3}{n i:5} (h:(Qw lo n)[i]?=!x):x=.int (lo+i)/\i<n:=by
 unfold Qw at h;rw[Zv]at h;cases a:i<n
 .rw[U6 a]at h;rw[((Zqi h).symm,a)]
 .rw[Vj (by rw[ZB,];lia)]at h;rw[J2 h]
def AJ(lo)(n):⇑(Qw lo n)=n:=by ext Qw;simp
def qa(a:Tg)(b:FS)(c:Yq)(sd:SD):Res Out:=zb (λx sd=>(JS a x sd).bind b) c sd
@[simp]def tv(a)(c)(b)(sd):qf a c b sd=(a sd).bind λd=>qa c b d sd:=rfl
@[simp]def hR(a:Tg)(b:FS)(sd:SD):qa a b [] sd=.ok (.next sd):=rfl
@[simp]def cU(i)(d)(sd):JS (.one i) d sd=.ok (sd.set i<|~~~d):=rfl
@[simp]def c8(i j)(a b)(sd):JS (.tup [i,j]) (.tup [a,b]) sd=.ok ((sd.set i<|~~~a).set j<|~~~b):=rfl
@[simp]def cZ(i j)(p)(sd):JS (.tup [i,j]) (qw p) sd=.ok ((sd.set i<|~~~.int p.1).set j<|~~~.int p.2):=rfl
def K4 {b:FS}  (P:5->SD->4)(m:P 0 sd)(d:∀i(x:D)sd,ds[i]?=!x->P i sd->∃a,(JS tg x sd).bind b=.ok (.next a)/\P (i+1) a):∃a,qa tg b ds sd=.ok (.next a)/\P ⇑ds a:=by
 let f:∀k i sd,⇑ds-i=k->i<=⇑ds->P i sd->∃a,qa tg b (ds.drop i) sd=.ok (.next a)/\P ⇑ds a:=by
  intro k
  cases(k)with
  |zero=>
   intro i sd e g p;let:i=⇑ds:=()
   ext
  |succ k h=>
   intro i sd e g p;let c:i<⇑ds:=()
   rw[UH c,];let(-a,n,j):=d i ds[i] sd () p;have(l,o,r):=h (i+1) a () c j
   simp_all[qa,zb]
 grind
def FH {b:FS}  (R:Res Out->4)(P:5->SD->4)(m:P 0 sd)(n:∀sd,P ⇑c sd->R (.ok<|.next sd))
 (o:∀(i:5)(x:D)(sd:SD),c[i]?=!x->P i sd->(∃a,((JS h x sd).bind b=.ok (.next a)\/(JS h x sd).bind b=.ok (.cont a))/\P (i+1) a)\/(∃a,(JS h x sd).bind b=.ok (.brk a)/\R (.ok<|.next a))\/∃d,(JS h x sd).bind b=.ok (.ret d)/\R (.ok<|.ret d)):R (qa h b c sd):=by
 let j:∀(k i:5)(sd:SD),⇑c-i=k->i<=⇑c->P i sd->R (qa h b (c.drop i) sd):=by
  intro k
  cases(k)with
  |zero=>
   intro i sd e r p;let:i=⇑c:=()
   subst this;rw[UQ,];rw[n sd p]
  |succ k l=>
   intro i sd e r p;let f:i<⇑c:=()
   rw[UH f,];ext qa zb;obtain⟨a,h1|h1,g⟩|⟨a,h1,g⟩|⟨d,h1,g⟩:=o i c[i] sd (Zqg f) p
   .rw[h1,];rw[l (i+1) a () f g]
   .rw[h1,];rw[l (i+1) a () f g]
   .rw[h1,];rw[g]
   .rw[h1,];rw[g]
 let:=j ⇑c 0 sd () (Um _) m
 rwa[List.drop_zero]at this
def FI{α β γ:Type}{f:α->Res β}{k:γ->α}{g:γ->β}{a:List γ}(h:∀x∈a,f (k x)=.ok (g x)):yY f (a.map k)=.ok (a.map g):=by
 cases(a)with
 |nil=>rfl
 |cons x a b=>
  rw[Zl,];ext yY;rw[h x Zqs,b λy c=>h y<|Zqm _ c];rfl
def qB(a:Tg)(f:FE)(c:SD)(b:Yq):Res Yq:=yY (λx=>(JS a x c).bind f) b
@[simp]def nR(cap)(b)(a)(f)(sd):Q2 cap b a f sd=(b sd).bind λc=>if Xr (qM cap sd) a=6/\⇑c<00 then(qB a f (qM cap sd) c).bind λd=>.ok<|.lst d else .no:=rfl
def bQ:02 (02 SV)->02 SV
 |some (~~~d)=>~~~d
 |_=>8
@[simp]def bP(d):bQ (!~~~d)= ~~~d:=rfl
@[simp]def bR(sd):qM [] sd=[]:=rfl
@[simp]def t6(cap)(sd):qM (8::cap) sd=8::qM cap sd:=rfl
@[simp]def t5(j)(cap)(sd):qM (some j::cap) sd=bQ sd[j]?::qM cap sd:=rfl
@[simp]def cW(sd)(i):Xr sd (.one i)=Wo sd i:=rfl
@[simp]def pk(sd)(a):Xr sd (.tup a)=a.all (Wo sd):=rfl
@[simp]def ft(sd:SD):Wo (8::sd) 0=6:=rfl
@[simp]def fq(o)(sd:SD)(i):Wo (o::sd) (i+1)=Wo sd i:=rfl
def K5{α:Type} {f:FE} {k:α->D}{g:α->D}{a:List α}(h:∀x∈a,(JS b (k x) c).bind f=.ok (g x)):qB b f c (a.map k)=.ok (a.map g):=FI h
def FK {f:FE} {lo:3}{n:5} (h:∀i,i<n->(JS a (.int<|lo+i) c).bind f=.ok (g i)):qB a f c (Qw lo n)=.ok ((List.range n).map g):=FI λi b=>h i<|Jl.mp b
@[simp]def px(cap)(b)(a)(c)(f)(sd):ZE cap b a c f sd=(b sd).bind λd=>if Xr (qM cap sd) a=6/\⇑d<00 then(VU a c f (qM cap sd) d).bind λe=>.ok<|.lst e else .no:=rfl
def NA{α:Type}    {k:α->D}{s:α->SD}{p:α->Bool}{g:α->D}{a:List α}(e:∀x∈a,JS j (k x) sd=.ok (s x))(h:∀x∈a,c (s x)=.ok (p x))(i:∀x∈a,p x=6->f (s x)=.ok (g x)):
 VU j c f sd (a.map k)=.ok ((a.filter p).map g):=by
 cases(a)with
 |nil=>rfl
 |cons x a d=>
  let d:=d (λy b=>e y<|Zqm _ b) (λy b=>h y<|Zqm _ b)<|λy b=>i y<|Zqm _ b;rw[Zl,List.filter_cons];ext VU;rw[e x Zqs,Res.bind_ok,h x Zqs,Res.bind_ok]
  induction q:p x with
  |true=>
   rw[Zd 9,Zd 9,i x Zqs q,Res.bind_ok,d];rfl
  |false=>
   rw[Ze (),Ze (),d]
def Qi (h:n<=1000):n<00:=Fa h
@[simp]def pE(i):qx [.int i,.ty "bool"]=! .bl 7:=rfl
@[simp]def p3(i):qx [.int i,.ty "int"]=! .bl 6:=rfl
@[simp]def pB(i:3):qx [.int i,.ty "list"]=! .bl 7:=rfl
@[simp]def pI(i:3):qx [.int i,.ty "tuple"]=! .bl 7:=rfl
@[simp]def pC(x:Str):qx [.str x,.ty "bool"]=! .bl 7:=rfl
@[simp]def p4(x:Str):qx [.str x,.ty "list"]=! .bl 7:=rfl
@[simp]def pF(x:Str):qx [.str x,.ty "tuple"]=! .bl 7:=rfl
@[simp]def p7(a:Yq):qx [.lst a,.ty "list"]=! .bl 6:=rfl
@[simp]def pH(a:Yq):qx [.lst a,.ty "tuple"]=! .bl 7:=rfl
@[simp]def pA(a:Yq):qx [.tup a,.ty "list"]=! .bl 7:=rfl
@[simp]def pG(a:Yq):qx [.tup a,.ty "tuple"]=! .bl 6:=rfl
def Q6{α:Type}(a:List α)(lo b st:02 3):List α:=(sliceRange (sliceBounds lo b st ⇑a).1 (sliceBounds lo b st ⇑a).2.1 (sliceBounds lo b st ⇑a).2.2).filterMap (a[·]?)
def FL(a)(lo hi st):slicePick a.toArray lo hi st=(Q6 a lo hi st).toArray:=by
 simp_all[slicePick,Q6]
def FM (f:α->β)(a)(lo hi st):Q6 (a.map f) lo hi st=(Q6 a lo hi st).map f:=by
 grind[Q6,Zql,List.filterMap_cons,List.getElem?_map]
section
variable  {E:XK}  {a b o i e f tg:Expr}{fa fb fo fi fv fe:FE}   {lo hi st:02 Expr}
abbrev FO:=SD->Res (02 3)
def cb(K:aa)(E:XK)(f:FO):TO:=λZ H Q=>∃B F sd,RS K B F H sd Z/\(f sd).need (λo=>∀d c,Ext F H d c->Q o c) (XW K E F H)
def QX:FO:=λ_=>.ok 8
def Kw(f:FE):FO:=λsd=>(f sd).bind λd=>match d with
 |.int i=>.ok !i
 |_=>.no
abbrev QO(X:Cx)(E:XK)(e:02 Expr)(f:FO):4:=PO X e<|cb X.K E f
def PO.weak{e:02 Expr} (h:PO X e t)(w:∀Z H Q,c Z H Q->t Z H Q):PO X e c:=λY s Z H Q I q=>h Y s Z H Q I<|w _ _ _ q
def KD:QO X E 8 QX:=PO.weak (λY s Z H Q I h=>Zb (8,H,I,.none,h)) λZ H Q=>xf λB F sd=>jD λr n=>n F H<|.refl r.ext.fh
def VD(h:QE X E e fe):QO X E (!e) (Kw fe):=PO.weak (Mp h) λZ H Q g=>by
 let(B F sd,r,n):=g;rw[jh B F sd (r,(Res.need_bind n).mono (λd c v j l m p=>?_) λ_ _ q=>q)];cases d with
 |int i=>rw[(i,je.mp p,c j l m)]
 |_=>rw[c.elim]
def rZ(K:aa):V->02 3->02 3->02 3->Hp->VK->4:=λx lo hi st H Q=>∃a c,x=.ref a/\qX K H a c/\st≠!0/\∀p,H p=8->Q (.ref p) (upd H p<|.lst<|Q6 c lo hi st)
def rz(r:V->02 3->02 3->02 3->Hp->VK->4)(d:TE)(g th h:TO):TE:=λZ H Q=>d Z H λx j=>g Z j λl m=>th Z m λu n=>h Z n λc p=>r x l u c p Q
def NB  (B:PE X e C)(F:PO X lo G)(j:PO X hi th)(J:PO X st L):PE X (.Subscript e (.Slice lo hi st p2) M) (rz (rZ X.K) C G th L):=by
 intro Y s Z H Q I h;rw[Subscript_<|jF (B Y s Z H _ I h) λv N=>jy λx O=>j5 λP R S=>wpAny_Slice<|jF (F Y N Z O _ P S) λt T=>jy λl U=>j5 λI2 pl q2=>jF (j Y T Z U _ I2 q2) λw s3=>jy λu H3=>j5 λI3 pu q3=>jF (J Y s3 Z H3 _ I3 q3) λy d=>jy λc H4=>j5 λI4 ps q4=>?_];let(a m,rfl,g,h0,q):=q4;obtain rfl:=R;let n:Inv X Y Z H4 {d with heap:=d.heap.push {cls:=.type "slice",data:=.fields #[t,w,y]}}:=I4.kept λb ob q=>Zq _ q;let(-its,r,p,hz):=n.list g;let z:=⇑r
 suffices fin:Ys X (getItem (.ref a)<|.ref d⁻¹) (EP X Y Z Q) X.xe {d with heap:=d.heap.push {cls:=.type "slice",data:=.fields #[t,w,y]}}by
  cases(st)with
  |none=>rw[tail_any p.isList.typeIs slot_list_getitem.lookup fin<|by rfl]
  |some c=>rw[tail_any p.isList.typeIs slot_list_getitem.lookup fin<|by rfl]
 rw[wpAny_getItem_list_slice p.isList (Heap.IsSliceOf.new ..) pl pu ps h0 ?_ ()];rw[FL,];rw[(.ref _,_,n.laid (o:=.lst<|Q6 m l u c) (λb ob q=>Zq _ q) (Zf _) (Zh (by
  let h:=slicePick_size_le (m.map λ_=>Value.none).toArray l u c
  simp_all[FL,FM]) hz,_,0,by
   ext Q6;rw[⇑r,];generalize sliceRange _ _ _=A
   cases(A)with
   |nil=>rw[.nil]
   |cons i A ih=>
    rw[UG,UG]
    induction g:m[i]? with
    |none=>rwa[r.none_of g,]
    |some x=>
     let(-u,j,ru):=r.get g;rw[j,];rw[.cons ru ih],Zr _ 9),9,q _<|n.hok.fresh<|Zf _)]
def vz:D->02 3->02 3->02 3->Yr
 |.lst c,lo,hi,st=>if st=!0 then 8 else !(.lst<|Q6 c lo hi st)
 |.scr d,lo,hi,st=>if st=!0 then 8 else !(.lst<|(Q6 d lo hi st).map .int)
 |_,_,_,_=>8
def wM(fe:FE)(g j fs:FO):FE:=λsd=>(fe sd).bind λd=>(g sd).bind λl=>(j sd).bind λh=>(fs sd).bind λc=>.ofO<|vz d l h c
def Yv (P:QE X E e fe)(R:QO X E lo S)(A:QO X E hi T)(U:QO X E st fs):QN X E (.Subscript e (.Slice lo hi st p2) Y) (wM fe S T fs):=PE.weak (NB P R A U) λZ H Q zh=>by
 let(B F sd,r,n):=zh;rw[jh B F sd (r,(Res.need_bind n).mono (λd n1 v F1 H1 m J=>jh B F1 sd (r.step m,(Res.need_bind n1).mono (λl n2 F2 H2 t=>jh B F2 sd ((r.step m).step t,(Res.need_bind n2).mono (λh n3 F3 H3 C=>jh B F3 sd (((r.step m).step t).step C,(Res.need_bind n3).mono (λc n4 L H4 w=>?_) λ_ _ q=>q.ext<|(m.trans t).trans C)) λ_ _ q=>q.ext<|m.trans t)) λ_ _ q=>q.ext m)) λ_ _ q=>q)];let(z,j,q):=jk n4;let g:=(t.trans C).trans w;let y:=m.trans g;cases d with
 |lst M=>
  let j:(if c=!0 then 8 else !(D.lst<|Q6 M l h c))=!z:=j
  split at j
  .rw[J2 j]
  .rename_i G;obtain rfl:=Zqi j;let(a N,rfl,I,h2):=J;rw[(a,N,9,((I.same g.ff).same g.fh).sq,G,λp s=>q p L _ (y.trans<|.keep w.fh s _) (Q1 y.hh s) (Q1 w.fh s) (_,JE,by
    let r:=IsDs.same g.ff _ _ h2;ext Q6;rw[⇑r,];generalize sliceRange _ _ _=O
    cases(O)with
    |nil=>rfl
    |cons i O ih=>
     rw[UG,UG]
     induction hx:M[i]? with
     |none=>
      let hn:N[i]?=8:=Jr.mpr<|by rw[⇑r,];ext
      rwa[hn,]
     |some x=>
      let(-u,A,ru):=r.get hx;rw[A,];rw[.mk ru ih]))]
 |scr ns=>
  let j:(if c=!0 then 8 else !(D.lst<|(Q6 ns l h c).map .int))=!z:=j
  split at j
  .rw[J2 j]
  .rename_i G;obtain rfl:=Zqi j;let(a,rfl,I):=J;rw[(a,_,9,ju.seq g.fh<|ju.seq g.ff I,G,λp s=>q p L _ (y.trans<|.keep w.fh s _) (Q1 y.hh s) (Q1 w.fh s) (_,JE,?_))];rw[FM,];rw[qW _]
 |_=>rw[J2 j]
@[simp]def dw(fe)(g j fs)(sd):wM fe g j fs sd=(fe sd).bind λd=>(g sd).bind λl=>(j sd).bind λh=>(fs sd).bind λc=>.ofO<|vz d l h c:=rfl
@[simp]def cR(sd):QX sd=.ok 8:=rfl
def FN:D->Res (02 3)
 |.int i=>.ok !i
 |_=>.no
@[simp]def pf(i):FN (.int i)=.ok !i:=rfl
@[simp]def nF(f)(sd):Kw f sd=(f sd).bind FN:=by
 rfl
@[simp]def fK(c)(lo hi):vz (.lst c) lo hi 8=!(.lst<|Q6 c lo hi 8):=rfl
@[simp]def fX(c:Bool):xN c .non=!(.bl<|not c):=rfl
end
end L2.DL
namespace L2
def NC(i:X.calm=6):qu X (.builtin "sum") λf H Q=>∃(a:Addr)(b:Ye),f=[.ref a]/\qX X.K H a (b.map V.int)/\Q (.int b.sum) H:=by
 intro Y s Z H f w Q I r h;let(a b,rfl,j,q):=h;let(-u,rfl,l):=Kg r;obtain rfl:=l;let(-m,n,p,y):=I.list j;let g:=EQ n;let(o,e):=g.allInts.items;let d:b=o.toList.map (·.1):=by
  rw[<-g.numsOf,<-nums_intItems,<-e]
 let c:=p.isList;rw[e]at c;rw[sum_intListG (I.ok.hd i) c λz A t v=>(.int b.sum,H,I.kept v,(t,?_),q)];rw[preSum_eq,UJ (),<-d]
def ND{bs:List Bool} (r:j4 (bs.map V.bl) a)(i:5)(v:Value)(h:a.toArray[i]?=!v):v=.bool (bs.getD i 7):=by
 let b:a[i]?=!v:=by ext
 let g:=(Ja.mp b).1;let d:=⇑r;rw[Zql]at d;let e:bs[i]?=!bs[i]:=by simp
 let(-u,c,f):=r.get (i:=i) (x:=.bl bs[i]) ();rw[b]at c;obtain rfl:=Zqi c;rw[f,Ul,e];rfl
def NE(bs:List Bool):(List.range ⇑bs).all (λi=>bs.getD i 7)=bs.all id:=by
 apply U2.mpr;rw[Ur,Ur];constructor
 .intro h b c;let(i,a,rfl):=U7 c;let:=h i<|Jl.mpr a
  rwa[Ul,Zqg a]at this
 .intro h i a;let a:=Jl.mp a;rw[Ul,Zqg a];rw[h _<|UR a]
def NF(l:X.calm=6):qu X (.builtin "all") λg H Q=>∃(a:Addr)(bs:List Bool),g=[.ref a]/\qX X.K H a (bs.map V.bl)/\Q (.bl<|bs.all id) H:=by
 intro Y s Z H g C Q I r h;let(a bs,rfl,m,q):=h;let(-u,rfl,n):=Kg r;obtain rfl:=n;let(-d,j,p,E):=I.list m;let f:a<s⁻¹:=by let(-_,e,_):=p.isList;rw[Zk e]
 let c:=⇑j;rw[Zql]at c;rw[call_all_walk<|wpAny_pyIter_list p.isList<|zR _ _ _ _ _ _ (λi=>bs.getD i 7) (9,Walks.list (A:=X.A.in1) (I.ok.hd l) s⁻¹ a (Zi f) d.toArray,((_,Zr _ 9,9,9),p.isList.push _),?_,λF G t=>?_)]
 .intro i v J L M w y;let z:=ND j i v w;subst z;rw[wpAny_of_eq 9 y]
 .rw[Zm,<-c,NE];rw[(.bl _,H,I.kept λb o e=>t b o ?_<|Zq _ e,9,q)];intro B;rw[Jc.mp B]at e;rw[Zy _<|Zk e]
def NG:xD X (binaryOp .Add) λx y H Q=>∃a b l,x=.ref a/\y=.ref b/\yn X.K H a []/\yn X.K H b l/\Q (.ref b) H:=by
 intro Y s Z H x y v u Q I w z h;let(a b l,rfl,rfl,A,B,q):=h;obtain rfl:v=Value.ref a:=w;obtain rfl:u=Value.ref b:=z;let(-g,C,E,_):=I.tuple A;let(-c,O,F,_):=I.tuple B;let G:g=[]:=C.nil_iff.mpr 9;subst G;let((J,L,m,M),o,p,n,r):=id E;let((t,i,data2,j),d,e,N,f):=id F;simp only at p r e f;subst p r e f;rw[concat_meets (_,o,9) (_,d,9) noFill_tuple_add seq_tuple_add PySem.F.slot_tuple_add PySem.F.entry_tuple_add (PySem.F.args_tuple_add_2 _ _)
  (tuple_addW0 a b #[] c.toArray n N L i M j 9) (o,d,.ref b,H,I,9,q)]
end L2
namespace L2.DL
def uE:D->02 Bool
 |.bl i=>!i
 |_=>8
def NH  (h:uE d=!i):d=.bl i:=by
 cases d with
 |bl j=>cases h;rfl
 |_=>rw[J2 h]
theorem yc{K:aa} :∀{bs:List Bool}{a:Yp},IsDs K H (bs.map D.bl) a->a=bs.map V.bl
 |[],_,h=>IsDs.nil_iff.mp h
 |b::bs,_,h=>by
  let(x r,rfl,c,e):=h;rw[jp.mp c,yc e];rfl
def VV:D->02 (List Bool)
 |.lst a=>K0 uE a
 |_=>8
def FP{K:aa}    (h:VV d=!c)(i:IsD K H d v):∃a,v=.ref a/\yb K H a (c.map V.bl):=by
 cases d with
 |lst f=>
  let(a g,rfl,e,b):=i;rw[C3 (λ_ _=>NH) h]at b;rw[yc b]at e
  ext
 |_=>rw[J2 h]
def CJ(a:List Bool):VV (.lst<|a.map D.bl)=!a:=by
 let h:=YW (f:=uE) (g:=D.bl) (λ_=>9) a
 rwa[List.map_id']at h
def zW:Yq->Yr
 |[d]=>(XX d).bind λa=>! .int a.sum
 |_=>8
def za:Yq->Yr
 |[d]=>(VV d).bind λa=>!(.bl<|a.all id)
 |_=>8
section
variable        {lo hi st:02 Expr}
def bU(d:X.calm=6):qu X (.builtin "sum") (zz X.K zW):=qu.weak (NC d) λj H Q e=>by
 let(F l z,c,id,b,q):=e;unfold zW at b
 split at b
 .let(-f,g,b):=Jg.mp b;obtain rfl:=Zqi b;let(-v,rfl,h):=QU id;let(-a,rfl,i):=Fx g h;rw[(a,f,9,(i.same c).sq,q _ F H (.refl c)<|yZ _ F)]
 ext
def AK(d:X.calm=6):qu X (.builtin "all") (zz X.K za):=qu.weak (NF d) λj H Q e=>by
 let(F l z,c,id,b,q):=e;unfold za at b
 split at b
 .let(-f,g,b):=Jg.mp b;obtain rfl:=Zqi b;let(-v,rfl,h):=QU id;let(-a,rfl,i):=FP g h;rw[(a,f,9,(i.same c).sq,q _ F H (.refl c)<|zo _ F)]
 ext
def yi{α:Type}(a:List α)(lo hi:02 3):List α:=(a.drop<|HT.sIx ⇑a 0 lo).take<|HT.sIx ⇑a ⇑a hi-HT.sIx ⇑a 0 lo
def KU:D->D->Yr
 |.tup a,.tup b=>if ⇑a+⇑b<=00 then !(.tup<|a++b)else 8
 |_,_=>8
def AL:yH X (binaryOp .Add) KU:=by
 intro Y s Z H x y v u Q I o r h;let(F,d,e,z,c,id,i,f,q):=h;cases d with
 |tup a=>
  cases e with
  |tup b=>
   let f:(if ⇑a+⇑b<=00 then !(D.tup<|a++b)else 8)=!z:=f
   split at f
   .rename_i O;obtain rfl:=Zqi f;let j:=id;let l:=i;rw[jm]at id i;let(t,m,rfl,w,A):=id;let(B,n,rfl,C,E):=i;let J:=⇑A;let L:=⇑E;cases G:m=[]
    .subst G;let g:a=[]:=Jk.mp (by rw[<-J];rfl);subst g;rw[NG Y s Z H _ _ v u Q I o r<|jh t B n (9,9,(w.same c).sq,(C.same c).sq,q _ F H (.refl c) l)]
    .rw[ER Y s Z H _ _ v u Q I o r<|jX t B m n (9,9,(w.same c).sq,(C.same c).sq,G,(),λz=>?_,λ_ p M=>?_)]
     .subst z;let N:b=[]:=Jk.mp (by rw[<-L];rfl);subst N;rw[ZA]at q;rw[q _ F H (.refl c) j]
     .let g:=Ext.alloc c M<|.tup<|m++n;rw[q _ _ _ g<|jm.mpr (p,_,9,.of JE,(IsDs.same g.ff _ _ A).append<|IsDs.same g.ff _ _ E)]
   .rw[J2 f]
  |_=>rw[J2 f]
 |_=>rw[J2 f]
end
@[simp]def NI(a:Ye):zW [.lst (a.map .int)]=! .int a.sum:=by
 show(XX _).bind _=_;rw[Fy,];rfl
theorem ZF(a:List Bool):za [.lst (a.map .bl)]=!(.bl<|a.all id):=by
 show(VV _).bind _=_;rw[CJ,];rfl
def AM (h:⇑a+⇑b<=1000):KU (.tup a) (.tup b)=!(.tup<|a++b):=Zd<|small h
end L2.DL
namespace L2
def AN:bootBuiltins "all"=! .builtin "all":=boot_all
end L2
namespace L2.DL
end L2.DL
namespace L2
section
variable {X:Cx}{Y:Yb}{Z: St}{H:Hp}
def Inv.turnedL {ch:Yh}(I:Inv X Y Z H s)(k:∀b o,b∉ch->↥s b=!o->g.get? b=!o)(f:∀b∈ch,xS X Y H b):Inv X Y Z H {s with heap:=g,toks:=t'}:=by
 let i:∀b u,H b=!u->b∉ch:=λb u e z=>by rw[(f b z).1]at e;rw[J2 e]
 rw[I.step (λb j=>?_) (λb o _ _ a e _=>k b o a e) (λb o _ _ a e _=>(o.slots,k b o a e)) (λ_ _ _ _ n=>n)
  (λb o a e=>(o,k b o a e)) (λ_ _ e=>e) (λ_ _ _ e=>e) (λb L e=>(#[],by rw[e,];simp)) (λm l=>?_) (λb u e=>?_) I.bare]
 .let(!_,p,_,y,B,E):=f b j;rw[(y,p,B,E)]
 .let(o F G,J,r):=l;rw[jh o F G (k _ o (λz=>(f _ z).2.1 9) J,r)]
 .rw[(I.hok b u e).stay (λc v a q=>k c v ?_ q) (λ_ q=>q) λ_ _ q=>q]
  grind
theorem xS.upd{b T:Addr}{o:HO}(h:xS X Y H b)(n:b≠T):xS X Y (upd H T o) b:=((J6 n).trans h.1,h.2)
def Inv.paired {ch:Yh}  (I:Inv X Y Z H s)(c:jz x u)(f:jz y v)(g:∀b∈ch,xS X Y H b)(i:∀b∈ch,b≠s⁻¹)
 (l:h'.get? s⁻¹=!{cls:=.type "tuple",data:=.seq #[u,v]})(k:∀b o,b∉ch->↥s b=!o->h'.get? b=!o):
 Inv X Y Z (upd H s⁻¹<|.tup [x,y]) {s with heap:=h',toks:=t'}:=by
 let j:Inv X Y Z (upd H s⁻¹<|.tup [x,y]) {s with heap:=s.heap.push {cls:=.type "tuple",data:=.seq #[u,v]},toks:=s.toks}:=
  I.laid (λb o e=>Zq _ e) (Zf _) ((by simp only[sizeLine_eq,Zu,ZC];lia,_,Zr _ 9,9),[u,v],.cons c<|.cons f .nil,_,Zr _ 9,9,_,9)
 rw[Inv.turnedL (s:={s with heap:=s.heap.push {cls:=.type "tuple",data:=.seq #[u,v]},toks:=s.toks}) j (λb o a e=>?_) λb a=>(g b a).upd<|i b a]
 grind[Heap.get?_push_cases]
end
def dH(K:aa)(a:Addr):It:=
 (λi H=>∃b x,qX K H a b/\b[i]?=!x,
  λi H v c=>∃T x,v=.ref T/\H T=8/\c=upd H T (.tup [.int i,x])/\∀b,qX K H a b->b[i]?=!x,
  λi H=>∃b,qX K H a b/\⇑b<=i)
def NJ(e c a:Addr)(i:5)(h:Heap):4:=(∃b,IsEnum h e c i b)/\h.IsListIter c a i
def NK  {K:aa}   (a e j:Addr)(l:e≠j):Turn P w K (.Tuple N kx Q) (dH K a) [e,j] e (NJ e j a)where
 mem:=by simp
 obj:=λi h st c b=>by
  let((d,g),(R,O,c1,d1)):=st
  grind
 keep:=λi h r st t=>(yg st.1 λd g=>(d,t e () _ g),st.2.at λo q=>t j () o q)
 item:=by
  intro X A B C b i Y s Z H E I v st F;subst A B C;let(S x,y,G):=F;let(-J,L,p,T):=I.list y;let(-u,U,ru):=L.get G;let((d,g),f):=id st;let(-R,O,_):=id f;rw[wpAny_pyNext_enum_item g f p.isList (x:=u) (by simpa using U) l λr a1 a2 a3 a4 t=>?_];rw[(_,9,wpAny_letOwnedTupleGo_enum (s:={s with heap:=r,toks:=s.toks+1}) a1 λh2 b1 m=>?_)];let m:Heap.SameBut e r h2:=m;let lt:∀{c o},↥s c=!o->c≠s⁻¹:=λq=>Zi<|Zk q;let n:∀c ∈[e,j],c≠s⁻¹:=λc b=>by
   simp only[Ux,UA,or_false]at b;obtain rfl|rfl:=b
   .rw[lt g]
   .rw[lt O]
  let M:s⁻¹≠e:=λq=>lt g q.symm;let I2:=I.paired (t':=s.toks+1) (x:=.int i) (_,9) ru v n (m.extBut _ _ M a3)<|λc o b q=>by
   simp only[Ux,UA,or_false,not_or]at b;rw[m.extBut c o b.1<|t c o b.1 b.2 q]
  rw[(.ref s⁻¹,_,I2,9,(_,x,9,I.hok.fresh<|Zf _,9,λzs hq=>by rw[I.list_inj hq y,];rw[G]),((u,?_),a2.extBut m.extBut<|Ne.symm l),λc b=>(J6<|n c b).trans (v c b).1)]
  grind
 done:=by
  intro X A B C b i Y s Z H E I v st F;subst A B C;let(S,y,G):=F;let(-J,L,p,T):=I.list y;let l1:=⇑L;let(!(d,g),f):=id st;rw[wpAny_pyNext_enum_end (I.ok.hd b) g f p.isList (by simp;lia) λr eb=>(9,I.turnedL (ch:=[j]) (λc o b q=>?_) λc b=>v c ?_)]
  .rw[eb c o λz=>b<|by simp[z] q]
  ext
 self:=λ_ _ _ _ _ st h=>wpAny_pyIter_enum st.1.choose_spec h
def fE(K:aa)(c:TA):TI:=λZ H R=>c Z H λd b=>∃a,d=[.ref a]/\(∃e,qX K b a e)/\R (dH K a) b
def NL      (m:Gl X "enumerate")(n:X.mg "enumerate"=8)(o:PA X [a] t)(u:01 [a] X.env=[%[7|eval a X.env]]:=by rfl):
 PI X (.Tuple i F G) (.Call (.Name "enumerate" p) [a] [] g) (fE X.K t):=by
 intro Y s Z H R I h;rw[Call_<|Xh I m n (show bootBuiltins "enumerate"=! .type "enumerate"by kernel_rfl)<|PyProof.Rows.callWith_type1 (jF (o g Y s Z H _ I h) λJ b=>jy λL v=>j5 λf w y=>?_) u 9];let(-a,e,(M,z),q):=y;subst e;cases w with
 |cons r A=>
  cases A;cases r;let(-B,N,p,O):=f.list z;rw[call_enumerate_list p.isList λP j C Q E=>wpAny_pyIter_enum j<|jE (b⁻¹+1) [b⁻¹+1,b⁻¹] _ _ v (9,f.kept E,NK a (b⁻¹+1) b⁻¹<|Nat.succ_ne_self _,((_,j),C),λc l=>?_,q)];let d:b⁻¹<=c:=by
   simp at l;obtain rfl|rfl:=l<;>first|rw[Zf _]|rw[Nat.le_add_right _ _]
  rw[f.fpOk d<|f.hok.fresh d]
end L2
namespace L2.DL
def FQ{K:aa}    (h:AH d=!e)(i:IsD K F d v):∃a b,v=.ref a/\qX K F a b/\IsDs K F e b:=by
 cases d with
 |lst j=>
  obtain rfl:=Zqi h;let(a b,rfl,c,f):=i;rw[(a,b,9,c.sq,f)]
 |scr g=>
  obtain rfl:=Zqi h;let(a,rfl,c):=i;rw[(a,_,9,c,qW g)]
 |_=>rw[J2 h]
def Vy(a:Yq):Yq:=List.zipWith (λ(k:5)x=>D.tup [.int k,x]) (List.range ⇑a) a
def ZG:Yq->Res Yq
 |[d]=>(Res.ofO<|AH d).bind λa=>.ok<|Vy a
 |_=>.no
def fF(fr:FA):FA:=λsd=>(fr sd).bind ZG
@[simp]def tu(fr:FA)(sd:SD):fF fr sd=(fr sd).bind ZG:=rfl
@[simp]def pz(a:Yq):ZG [.lst a]=.ok (Vy a):=rfl
def CK(a:Yq)(i:5):(Vy a)[i]?=a[i]?.map λx=>D.tup [.int i,x]:=by
 grind[Vy,List.getElem?_zipWith]
def FR(a:Yq):⇑(Vy a)=⇑a:=by grind[Vy,List.length_zipWith,List.length_range,Nat.min_self]
def FU  (u:Gl X "enumerate")(w:X.mg "enumerate"=8)(y:QA X E [a] fr)(z:01 [a] X.env=[%[7|eval a X.env]]:=by rfl):QI X E (.Tuple f U Y) (.Call (.Name "enumerate" p) [a] [] A) (fF fr):=PI.weak (NL u w y z) λZ H R C=>by
 let(B F sd,r,n):=C;rw[jh B F sd (r,(Res.need_bind n).mono (λds b vs G I g J=>?_) λ_ _ q=>q)];unfold ZG at b
 split at b
 .let(-L,c,M):=jk (Res.need_bind b);let(-v,rfl,h):=QU J;let(N d,rfl,j,l):=FQ c h;rw[(N,9,(_,ju.seq g.fh j),M _ G I g<|λi F2 H2 m o=>by
   let e:=ju.seq o<|ju.seq m j;let l1:=⇑l;rw[FR,];rw[(λs=>?_,λs=>(d,e,()))];let(-x,c,O):=l.get (Zqg s);rw[((d,x,e,c),λv H3 P=>?_)];let(T x',rfl,Q,rfl,S):=P;let ex:=S d e;rw[c]at ex;obtain rfl:=Zqi ex;let t:=Ext.alloc o Q<|.tup [.int i,x];rw[(.tup [.int i,L[i]],_,?_,t,jm.mpr (T,_,9,.of JE,.mk (je.mpr 9)<|.mk (IsD.same (m.trans t.ff) _ _ O) .nil))]
   simp_all[CK])]
 .rw[b.elim]
def zp:Yq->Yr
 |[.int i]=>!(.int<|if i<0 then-i else i)
 |_=>8
def v6:Yq->Yr
 |[.int i]=>! .int i
 |[.bl b]=>!(.int<|if b then 1 else 0)
 |_=>8
@[simp]def hB(i:3):zp [.int i]=!(.int<|if i<0 then-i else i):=rfl
@[simp]def mX(b:Bool):v6 [.bl b]=!(.int<|if b then 1 else 0):=rfl
def FW:qu X (.builtin "abs") (zz X.K zp):=qu.weak LX λd H Q b=>by
 let(F e z,c,id,a,q):=b;unfold zp at a
 split at a
 .obtain rfl:=Zqi a;let(-v,rfl,h):=QU id;rw[(_,by rw[je.mp h,],q _ F H (.refl c)<|yZ _ F)]
 .rw[J2 a]
def tV(a:Yq)(z:D):4:=(∃i,a=[.int i]/\z=.int i)\/∃b,a=[.bl b]/\z=.int (if b then 1 else 0)
def NM  (a:v6 c=!z):tV c z:=by
 cases c with
 |nil=>rw[J2 a]
 |cons d c=>
  cases c with
  |nil=>
   cases d with
   |int i=>rw[.inl (_,9,(Zqi a).symm)]
   |bl b=>rw[.inr (_,9,(Zqi a).symm)]
   |_=>rw[J2 a]
  |cons _ _=>cases d<;>rw[J2 a]
def bW:qu X (.type "int") (zz X.K v6):=qu.weak LZ λe H Q c=>by
 let(F f z,a,id,d,q):=c;obtain⟨i,rfl,rfl⟩|⟨b,rfl,rfl⟩:=NM d
 .let(v,rfl,h):=QU id;rw[.inl (_,by rw[je.mp h,],q _ F H (.refl a)<|yZ _ F)]
 .let(v,rfl,h):=QU id;rw[.inr (_,by rw[jp.mp h,],q _ F H (.refl a)<|yZ _ F)]
def FX:bootBuiltins "abs"=! .builtin "abs":=by kernel_rfl
end L2.DL
namespace L2.ST
open PySem
def CL(t:SetTable):5->SetTable.Probe->SetTable.Probe
 |0,p=>p
 |n+1,p=>CL t n (t.advance p)
open PySem
def cx(a:Array 5):4:=∀i j,i<j->j<a.size->a.getD i 0<a.getD j 0
def cq(t:SetTable)(j:5):4:=∃i,i<t.place.size/\t.place.getD i 0=j
def cw(t:SetTable)(o:5->4)(x:3)(y:5):4:=∃n,(CL t n<|t.probeStart x).j=y/\∀m,m<n->o (CL t m<|t.probeStart x).j
structure TabOk(t:SetTable)(hs:Array 3):4 where
 size:t.place.size=hs.size
 up:cx t.place
 le:∀i,i<t.place.size->t.place.getD i 0<=t.mask
 nod:t.dummies=#[]
 pow:∃k,t.mask+1=2^k
 room:t.place.size<=t.mask
 ways:∀i,i<t.place.size->cw t (cq t) (hs.getD i 0) (t.place.getD i 0)
open PySem
structure SetIs(hp:Heap)(a:Addr)(es:Array (3×Value))(t:SetTable):4 where
 at_:∃ep,hp.get? a=!{cls:=.type "set",dict:=8,data:=.set es ep t,slots:=#[]}
 tab:TabOk t (es.map (·.1))
 seven:07<=t.mask
 most:t.mask<=08*es.size+07
 room:es.size*05<t.mask*03
 refs:∀i(hi:i<es.size),∃b,es[i].2=.ref b
def Holds(a:Value->3)(c:Heap)(S:Addr)(ld:Bool)(D:Yd):4:=∃b t,SetIs c S b t/\b.toList.Perm (D.map λv=>%[a v|v])/\t.led=ld/\t.plain=6
section
variable  {w:World}
def uz(w:World):Bool:=not<|w.params.followText "set-order"
def NN(a:Value)
 (h:Q₁ (.ref s⁻¹) {s with heap:=s.heap.push {cls:=.type "set",dict:=8,data:=.set #[] 0 (.fresh 0 0<|uz w)}}):
 codeAny (model prog w) A (.call (.builtin "set.__new__") ([.type "set",a],[])) (wants Q₁ E) s:=by
 rw[codeAny_of_tree ?_];show wpAny _ A.in1 (do checkBuiltinCall "set.__new__" ([.type "set",a],[]);again (.builtin "set.__new__" ([.type "set",a],[]))) _ _ s;rw[Za<|wpAny_of_eq (F.newCall_set_1 a)<|Zb (plainId_quiet F.plain_set_new _,codeAny_builtin F.entry_set_new ?_)];rw[Around.under_plainId F.plain_set_new _,];ext Builtin.«set.__new__» Builtin.Frozenset.newClass;let b:=sub_set_self;let(c,g,d,e,os):=s;dsimp only
 wp_walk
 rw[wpAny_askSetting<|Zb ?_];dsimp only;simp only[newObj];rw[Za<|wpAny_alloc<|Zb ?_];rw[Zb h]
end
end L2.ST
namespace L2.DL
open PySem PySem.Spec PyProof.Rows L2.ST
def bt_set:bootBuiltins "set"=! .type "set":=by kernel_rfl
end L2.DL
namespace L2
def kZ(H:Hp)(a:Addr):Hp:=λb=>if b=a then 8 else H b
def FY  :kZ H a a=8:=Zd 9
def WC  (h:b≠a):kZ H a b=H b:=Ze h
section
variable   {Z: St}
def Inv.forget  (I:Inv X Y Z H s)(h:H it=! .ext φ):Inv X Y Z (kZ H it) s:=by
 refine I.step (h':=s.heap) (g':=s.gens) (d':=s.drawn) (t':=s.toks) (ch:=[]) (λb a=>nomatch a) (λb o _ _ _ e _=>e) (λb o _ _ _ e _=>(o.slots,e)) (λb o _ _ n=>?_) (λb o _ e=>(o,e)) (λb f e=>?_) (λb o u e=>?_) (λb i e=>(#[],?_)) (λm g=>g) (λb u e=>?_) I.bare
 .unfold kZ;split
  .rfl
  .exact n
 .rw[(WC λz=>by rw[z,h]at e;cases e),];exact e
 .rw[(WC λz=>by rw[z,h]at e;cases e),];exact e
 .rw[WC (λz=>by rw[z,h]at e;cases e),e];simp
 .let nb:b≠it:=λz=>by rw[z,FY]at e;exact J2 e
  rw[WC nb]at e;refine(I.hok b u e).stay (λ_ _ _ q=>q) (λc q=>?_) λc f q=>?_
  .rw[(WC λz=>by rw[z,h]at q;cases q),];exact q
  .rw[(WC λz=>by rw[z,h]at q;cases q),];calc q
end
end L2
namespace L2.DL
end L2.DL
namespace L2
def yd.has      (x:yd P w H h a o):∃u,h.get? a=!u:=by
 cases(o)with
 |lst c=>let(_,_,_,_,e):=x;rw[(_,e)]
 |tup c=>let(_,_,_,o,e,_):=x;rw[(_,e)]
 |dK b=>let(!_,_,(_,_,o,_,_,e,_)):=x;rw[(_,e)]
 |dT b=>let(!_,_,(_,_,o,_,_,e,_)):=x;rw[(_,e)]
 |set S n=>let(o _ _ _,e,_):=x;rw[(_,e)]
 |ins C g fs=>rw[(_,x.2.2.2.1)]
 |own y=>rw[x]
 |xd fs=>let(-_,(_,_,_,e,_),_):=x;rw[(_,e)]
 |rng lo i=>let(_ _ _,e):=x;rw[(_,e)]
 |frz j u=>rw[(_,x.1)]
 |tbl l=>rw[(_,x)]
 |met f y=>rw[(_,x)]
 |ext φ=>rw[x.2.1]
def cy(M:Model)(Γ:PySem.Ctx)(p:Pos)(s:Shared)(e:End)(b:Shared):List Frame->Sem PySem.Fin->4
 |[],.pure (.done f)=>e=.ret (.ok f)/\b=s
 |[],.pure (.again c)=>Runs M (Γ.goto c) p (M.den c) [] s e b
 |[],.raise x=>e=.ret (.error x)/\b=s
 |[],.rule _ k=>Runs M Γ p (k Yj) [] s e b
 |[],.at q k=>Runs M Γ q (k Yj) [] s e b
 |[],.load a _ k=>∃o,↥s a=!o/\Runs M Γ p (k o) [] s e b
 |[],.update a _ f k=>Runs M Γ p (k Yj) [] {s with heap:=s.heap.update a f} e b
 |[],.loadIfAlive a k=>Runs M Γ p (k<|↥s a) [] s e b
 |[],.point _ k=>Runs M Γ p (k Yj) [] s e b
 |[],.alloc o k=>Runs M Γ p (k s⁻¹) [] {s with heap:=s.heap.push o} e b
 |[],.fresh k=>Runs M Γ p (k s.toks) [] {s with toks:=s.toks+1} e b
 |[],.ask k=>Runs M Γ p (k (M.prog,M.w.params)) [] s e b
 |[],.choose src n k=>Runs M Γ p (k<|M.w.draws src (s.drawn.get src)%n) [] {s with drawn:=s.drawn.bump src} e b
 |[],.os q _ k=>Runs M Γ p (k (Os.step s.os q).2) [] {s with os:=(Os.step s.os q).1} e b
 |[],.handled own k=>Runs M Γ p (k<|if own then Γ.own else Γ.handled) [] s e b
 |[],.genState g k=>∃st,s.gens[g]?=!st/\Runs M Γ p (k st.seen) [] s e b
 |[],.stack k=>Runs M Γ p (k<|%[Γ.code|p]::Γ.below) [] s e b
 |[],.thread k=>Runs M Γ p (k 0) [] s e b
 |[],.newGen c k=>Runs M Γ p (k s.gens.size) [] {s with gens:=s.gens.push (.fresh c)} e b
 |[],.call c h g l k=>∃e₁ s₁,Runs M (Γ.enter c h p) p (M.den c) [] s e₁ s₁/\match e₁ with
  |.ret r=>Runs M Γ p (k r) [] s₁ e b
  |.susp v g₀ l₀ k₀ c₀ p₀ fs=>e=.susp v g₀ l₀ k₀ c₀ p₀ (fs++[.ret k h g l Γ.code p []])/\b=s₁
 |[],.yield v g l k=>e=.susp v g l k Γ.code p []/\b=s
 |[],.resume g r _ k=>∃d s₁,Wakes M Γ p g r s d s₁/\Runs M Γ p (k d) [] s₁ e b
 |[],_=>True
 |F::fs,t=>∃e₁ s₁,Runs M (Γ.over<|F::fs) p t [] s e₁ s₁/\match e₁ with
  |.ret r=>match F with
   |.ret k _ _ _ c₁ p₁ _=>Runs M (Γ.goto c₁) p₁ (k r) fs s₁ e b
   |.gen g k _ c₁ p₁=>Runs M (Γ.goto c₁) p₁ (k (End.ret r).result) fs (s₁.setGen g .finished) e b
  |.susp v g₀ l₀ k₀ c₀ p₀ fs₀=>match splitAtGen (F::fs)with
   |none=>e=.susp v g₀ l₀ k₀ c₀ p₀ (fs₀++F::fs)/\b=s₁
   |some %[pre,%[g,k,c₁|p₁]|rest]=>Runs M (Γ.goto c₁) p₁ (k<|.yielded v) rest (s₁.setGen g (End.susp v g₀ l₀ k₀ c₀ p₀<|fs₀++pre).genState) e b
def FZ        (q:s.gens[g]?=! .fresh c)(n:v ≠ .none):Wakes M Γ p g (.send v) s a b↔a=.justStarted/\b=s:=by
 ext Wakes;rw[q,]
 cases(v)<;>first|rw[Zn 9 n]|rw[Iff.rfl]
def ri       (h:Runs M Γ p t fs s e d):cy M Γ p s e d fs t:=by
 cases(h)with
 |done|raise|yield=>rw[(9,9)]
 |again _ h|rule h|«at» h|update _ h|loadIfAlive h|point h|alloc h|fresh h|ask h|choose _ h|os h|handled h|stack h|thread h|newGen h=>rw[h]
 |load q h|genState q h=>rw[(_,q,h)]
 |call a b=>rw[(_,_,a,b)]
 |callSusp a=>rw[xh _ _ (a,9,9)]
 |resumeFresh q a c b=>rw[(_,_,by ext Wakes;rw[q,];rw[(_,_,a,c,9,9)],b)]
 |resumeSuspended q a c b=>rw[(_,_,by ext Wakes;rw[q,];rw[(_,_,a,c,9,9)],b)]
 |resumeJustStarted q n b=>rw[(_,_,(FZ q n).mpr (9,9),b)]
 |resumeThrowFresh q b|resumeRunning q b|resumeFinished q b=>rw[(_,_,by ext Wakes;rw[q,];rw[(9,9)],b)]
 |segRet a b|segGen a b=>rw[xh _ _ (a,b)]
 |segSuspOut q a=>
  rw[xh _ _ (a,?_)];show match splitAtGen _ with|none=>_|some %[pre,%[g,k,c₁|p₁]|rest]=>_
  rw[q,];rw[(9,9)]
 |segSuspGen q a _ b=>
  rw[xh _ _ (a,?_)];show match splitAtGen _ with|none=>_|some %[pre,%[g,k,c₁|p₁]|rest]=>_
  rw[q,];rw[b]
theorem Ga       (h:Runs M Γ p t fs s e r):∀{f i},Runs M Γ p t fs s f i->e=f/\r=i:=by
 cases(h)with
 |done|raise|yield=>intro f i k;rw[((ri k).1.symm,(ri k).2.symm)]
 |again _ _ d|rule _ d|«at» _ d|update _ _ d|loadIfAlive _ d|point _ d|alloc _ d|fresh _ d|ask _ d|choose _ _ d|os _ d|handled _ d|stack _ d|thread _ d|newGen _ d=>intro f i k;rw[d<|ri k]
 |load q _ d|genState q _ d=>intro f i k;let(-o,m,k):=ri k;rw[q]at m;cases m;rw[d k]
 |call _ _ j l=>intro f i k;let(_ _,a,b):=ri k;let(rfl,rfl):=j a;rw[l b]
 |callSusp _ j=>intro f i k;let(_ _,a,b):=ri k;let(rfl,rfl):=j a;rw[(b.1.symm,b.2.symm)]
 |resumeFresh q _ _ _ j l|resumeSuspended q _ _ _ j l=>intro f i k;let(_ _,w,b):=ri k;unfold Wakes at w;rw[q]at w;let(_,_,a,_,rfl,rfl):=w;let(rfl,rfl):=j a;rw[l b]
 |resumeJustStarted q n _ d=>intro f i k;let(_ _,w,b):=ri k;let(rfl,rfl):=(FZ q n).mp w;rw[d b]
 |resumeThrowFresh q _ d|resumeRunning q _ d|resumeFinished q _ d=>intro f i k;let(_ _,w,b):=ri k;unfold Wakes at w;rw[q]at w;let(rfl,rfl):=w;rw[d b]
 |segRet _ _ j l|segGen _ _ j l=>intro f i k;let(_ _,a,b):=ri k;let(rfl,rfl):=j a;rw[l b]
 |segSuspOut q _ j=>
  intro f i k;let(_ _,a,b):=ri k;let(rfl,rfl):=j a;let b:match splitAtGen _ with|none=>_|some %[pre,%[g,k,c₁|p₁]|rest]=>_:=b
  rw[q]at b;rw[(b.1.symm,b.2.symm)]
 |segSuspGen q _ _ _ j l=>
  intro f i k;let(_ _,a,b):=ri k;let(rfl,rfl):=j a;let b:match splitAtGen _ with|none=>_|some %[pre,%[g,k,c₁|p₁]|rest]=>_:=b
  rw[q]at b;rw[l b]
def NO       (h:Wakes M Γ p g r s a d)(k:Wakes M Γ p g r s b f):a=b/\d=f:=by
 unfold Wakes at h k;let two{Γ:PySem.Ctx}{p:Pos}{t:Sem PySem.Fin}{fs:List Frame}{z:Shared}(h:∃e₁ s₁,Runs M Γ p t fs z e₁ s₁/\e₁.quiet=6/\a=e₁.result/\d=s₁.setGen g e₁.genState)(k:∃e₁ s₁,Runs M Γ p t fs z e₁ s₁/\e₁.quiet=6/\b=e₁.result/\f=s₁.setGen g e₁.genState):a=b/\d=f:=by
  grind[Ga]
 let one{x:GenResult}{z:Shared}(h:a=x/\d=z)(k:b=x/\f=z):a=b/\d=f:=by grind
 induction hg:s.gens[g]? with
 |none=>ext
 |some st=>
  rw[hg]at h k
  cases(st)with
  |fresh c=>
   cases(r)with
   |send v=>cases(v)<;>first|rw[two h k]|rw[one h k]
   |throw x=>rw[one h k]
  |suspended=>rw[two h k]
  |running=>rw[one h k]
  |finished=>rw[one h k]
def NP     (t:Sem α):∀p s,Sem.wp M Γ t Q E p s->Sem.wp M Γ t j m p s->Sem.wp M Γ t (λa p s=>Q a p s/\j a p s) (λa p s=>E a p s/\m a p s) p s:=by
 cases(t)with
 |pure x=>rw[λ_ _ a b=>(a,b)]
 |raise v=>rw[λ_ _ a b=>(a,b)]
 |unsupported|finish|yield|fork|await|register=>rw[λ_ _ a _=>a]
 |rule _ k d|«at» _ k d|alloc _ k d|loadIfAlive _ k d|point _ k d|fresh k d|ask k d|os _ _ k d|handled _ k d|newGen _ k d|stack k d|thread k d=>rw[λ_ _ a b=>d _ _ _ a b]
 |load a _ k d|genState a k d=>rw[λ_ _=>xg λo=>jD λn h=>xg λB=>jD λu i=> (o,n,d _ _ _ h ())]
 |update a _ f k d|choose _ _ k d=>rw[λ_ _=>jD λw h=>jD λ_ i=> (w,d _ _ _ h i)]
 |call c h g l k d=>
  intro p s(r,e,x,y)(z,s1',x',y');let(!A,rfl):=Ga x x';cases A;rw[(r,e,x,d _ _ _ y y')]
 |resume g r l k d=>
  intro p s(r,e,x,y)(z,s1',x',y');let(rfl,rfl):=NO x x';rw[(r,e,x,d _ _ _ y y')]
def WD       (h:wpAny M A t Q E s)(k:wpAny M A t b c s):wpAny M A t (λa s=>Q a s/\b a s) (λa s=>E a s/\c a s) s:=
 λΓ p i=>NP t p s (h Γ p i)<|k Γ p i
def DT(h:Heap)(e:Addr)(d:02 Addr):4:=∃a b T c f,h.get? e=!a/\a.dict=d/\a.data=.fields b/\b[1]?=! .ref T/\T≠e/\h.get? T=!c/\c.data=.fields f/\03<f.size
def ZH (h:DT s.heap e d):wpAny M A (setFlight (.ref e) f) (λ_ m=>DT m.heap e d) E s:=by
 let(n o T r t,c,p,g,i,b,j,a,l):=h;rw[Za<|wpAny_field c g i<|wpAny_setField j a l<|jE n o T _ _ ((Heap.get?_update_other _ _ b).trans c,p,g,i,b,Heap.get?_update_self _ j<|Obj.isFreed_of_fields<|Obj.data_mapFields a _,Obj.data_mapFields a _,by simpa using l)]
def Gb    (l:A.frames=! d::c)(p:s.heap.FunFrames r (d::c))(u:d.frame=!L)(f:↥s e=!t)(m:t.data=.fields v)(g:1<v.size):
 wpAny M A (do let a<-frameOf d;let pl<-entryPlaceOf L b;let b<-EntryCells.newEntry i a .none (rawInt L) .none pl;setField (.ref e) 1 b) (λ_ w=>DT w.heap e t.dict) E s:=by
 let j:e∉(d::c).filterMap (·.frame):=λy=>by
  let(_,o,C,z):=p.mem y
  ext
 rw[Za<|wpAny_frameOf_fun l p u λh₁ hs₁=>Za<|wpAny_entryPlaceOf λpl n=>Za<|wpAny_newObj_type ?_<|n.sizeOk5 _ _ _ _ _];let he₁:=(hs₁.2.1 e j).trans f;let he₂:=Zq {cls:=.type "traceback",dict:=8,data:=.fields ([i,.ref L,.none,rawInt L,.none]++if pl.isEmpty then List.replicate 06 Value.none else pl).toArray} he₁;let ne:=UN<|Zk he₁;rw[wpAny_setField he₂ m g<|jE _ _ h₁.objs.size _ _ (Heap.get?_update_self _ he₂<|Obj.isFreed_of_fields<|Obj.data_mapFields m _,?_,Obj.data_mapFields m _,by simp[g],ne,(Heap.get?_update_other _ _<|Ne.symm ne).trans<|Zr h₁ 9,9,())];ext Obj.mapFields
 split<;>rfl
def Gc(i:A.frames=! c::f)(w:s.heap.FunFrames m (c::f))(n:c.frame=!L)(h:DT s.heap e d):
 wpAny M A (noteFrame (.ref e) c) (λ_ y=>DT y.heap e d) E s:=by
 let z:=h;let(F G T H I,p,B,r,t,j,u,g,v):=h;ext noteFrame;simp only[n];rw[Za<|wpAny_field p r t ?_];rw[Za<|wpAny_field u g (Array.getElem?_eq_getElem v) ?_]
 split
 .rw[Zb z]
 rw[Za<|wpAny_setField u g v ?_];let a:∀b,b≠T->(s.heap.update T<|Obj.mapFields (·.setIfInBounds 03 Value.none)).get? b=↥s b:=λb l=>Heap.get?_update_other _ _<|Ne.symm l;subst B;rw[Gb i (w.of_keeps λb o l C=>(o,(a b λq=>()).trans l,9)) n ((a e<|Ne.symm j).trans p) r (Jm.mp t).1]
def Gd  (c:A.frames=! a::b)(l:s.heap.FunFrames d (a::b))(f:a.frame=!L)(g:↥s e=!h)(i:h.data=.fields m)(j:m[1]?=!.none):
 wpAny M A (leaving a<|.ref e) (λ_ n=>DT n.heap e h.dict) E s:=Za<|Zc (by
  ext noteFrame;simp only[f];rw[Za<|wpAny_field g i j<|Gb c l f g i (Jm.mp j).1]) (λ_ _ q=>ZH q) λ_ _ z=>z
def Ge(c:A.frames=! a::b)(g:s.heap.FunFrames f (a::b))(i:a.frame=!L)(h:DT s.heap e d):
 wpAny M A (leaving a<|.ref e) (λ_ j=>DT j.heap e d) E s:=Za<|Zc (Gc c g i h) (λ_ _ q=>ZH q) λ_ _ z=>z
def Gf(i:A.frames=! f::c)(m:f.frame=!L)(j:Heap.FlyingW h (f::c) e l n s.heap)(o:DT s.heap e d)
 (r:∀g,Heap.HeldW h (f::c) e l n L g->s.heap.UpToSlots g->DT g e d->Q Yj {s with heap:=g}):wpAny M A (noteFrame (.ref e) f) Q E s:=
 Zc (WD (wpAny_looks_onW (Q:=λ_ p=>∃g,Heap.HeldW h (f::c) e l n L g/\s.heap.UpToSlots g/\p={s with heap:=g}) i m j λg a b=>(g,a,b,9))<|Gc (E:=E) i j.2.2.1 m o) () λ_ _ z=>z.1
def NQ(j:Heap.HeldW g l e h i L s.heap)(m:DT s.heap e d)(n:∀f,Heap.FlyingW g l e h i f->s.heap.UpToSlots f->DT f e d->Q Yj {s with heap:=f}):wpAny M A (setFlight (.ref e) 8) Q E s:=
 Zc (WD (wpAny_landsW (Q:=λ_ o=>∃f,Heap.FlyingW g l e h i f/\s.heap.UpToSlots f/\o={s with heap:=f}) j λf a b=>(f,a,b,9))<|ZH (E:=E) m) (λ_ _((f,a,b,c),q)=>by subst c;rw[n f a b q]) λ_ _ z=>z.1
def NR(j:Heap.FlyingW g l e h i s.heap)(m:DT s.heap e d)(n:∀f,Heap.FlyingW g l e h i f->s.heap.UpToSlots f->DT f e d->Q Yj {s with heap:=f}):wpAny M A (setFlight (.ref e) 8) Q E s:=
 Zc (WD (lands_againW (Q:=λ_ o=>∃f,Heap.FlyingW g l e h i f/\s.heap.UpToSlots f/\o={s with heap:=f}) j λf a b=>(f,a,b,9))<|ZH (E:=E) m) (λ_ _((f,a,b,c),q)=>by subst c;rw[n f a b q]) λ_ _ z=>z.1
def NS(j:A.frames=! i::f)(n:i.frame=!L)(l:Heap.FlyingW h (i::f) e m o s.heap)(p:DT s.heap e d)
 (r:∀g,Heap.FlyingW h f e m o g->s.heap.UpToSlots g->DT g e d->Q Yj {s with heap:=g}):wpAny M A (leaving i<|.ref e) Q E s:=
 Zc (WD (wpAny_leaves_onW (Q:=λ_ t=>∃g,Heap.FlyingW h f e m o g/\s.heap.UpToSlots g/\t={s with heap:=g}) j n l λg a b=>(g,a,b,9))<|Ge (E:=E) j l.2.2.1 n p) (λ_ _((g,a,b,c),q)=>by subst c;rw[r g a b q]) λ_ _ z=>z.1
structure FlyAt(l:List Env)(h₀:Heap)(H:Hp)(x C:Addr)(B h:Heap):4 where
 fly:∃t,Heap.FlyingW B l x (.ref C) (.ref t) h
 trk:∀b o,h.get? b=!o->H b≠8\/(∃u,h₀.get? b=!u)/\b∉frs l->B.get? b=!o
def yq(P:Program)(w:World):uT:=λa H s E e b=>∃c x C B,e=.ref x/\b.os=s.os/\AllBare b.gens/\Un (frs a) [] H c s.heap b.heap/\xy P w c b.heap/\FlyAt a s.heap c x C B b.heap/\∃d,DT b.heap x d/\E (.ref C) d c
structure Thrown(X:Cx)(E:XK):4 where
 on:∀(Y:Yb)(Z:St)(H:Hp)(s:Shared)(h₀:Heap)(x C:Addr)(B:Heap)(d:02 Addr),Inv X Y Z H s->(∀b u,X.s₀.heap.get? b=!u->b∉X.ex->∃u',h₀.get? b=!u')->FlyAt X.stack h₀ H x C B s.heap->DT s.heap x d->E (.ref C) d H->X.xe (.ref x) s
structure Raises(X:Cx)(E:XK):4 where
 new:∀(Y:Yb)(Z:St)(H:Hp)(s:Shared)(h':Heap)(x C:Addr)(args:Yd),Inv X Y Z H s->Heap.MadeExcOf s.heap h' x (.ref C) args->E (.ref C) 8 H->X.xe (.ref x) {s with heap:=h'}
def Thrown.passes  (T:Thrown X E):XL (yq X.prog X.w) X E:=by
 intro Y Z H s e f I a;let(g,x,C,B,i,os,bare,un,c,j,d,l,n):=a;subst i;rw[T.on Y Z g f s.heap x C B d (I.call' os un c bare<|λb z=>Zn z ()) (λb u e o=>I.base.there b u e o) j l n]
def NT :Thrown X E0:=⟨λ_ _ _ _ _ _ _ _ _ _ _ _ _ z=>z.elim⟩
section
variable   {K:aa}
def AO {Z:St}  {h₀ i B:Heap}  (I:Inv (qk (yq P w) P w K S y N j g f J A a s H E) Y Z F s')
 (T:∀b u,↥s b=!u->∃U,h₀.get? b=!U)(G:Heap.FlyingW B a x (.ref C) (.ref t) i)(up:s'.heap.UpToSlots i)
 (trk:∀b o,↥s' b=!o->F b≠8\/(∃u,h₀.get? b=!u)/\b∉frs (envOfC j g s⁻¹ f J::a)->B.get? b=!o)(X:DT i x R)(hE:E (.ref C) R F):
 yq P w a H s E (.ref x) {s' with heap:=i}:=by
 let L:∀b u,↥s b=!u->b∉frs a->b∉frs (envOfC j g s⁻¹ f J::a):=λb u e d z=>by
  unfold frs at z d;rw[UG]at z;let z:b∈s⁻¹::a.filterMap (·.frame):=z;obtain q|q:=Ux.mp z
  .rw[Zn (Zk e)<|by rw[q,];rw[Zy _]]
  .rw[d q]
 let l:∀b:Addr,b∉(qk (yq P w) P w K S y N j g f J A a s H E).ex:=λb z=>Zn (show b∈([]:Yh)from z) ();let keep:∀b o,↥s' b=!o->F b≠8\/(∃u,↥s b=!u)/\b∉frs a->B.get? b=!o:=λb o e c=>by
  rw[trk b o e ?_];obtain c|⟨⟨u,hu⟩,d⟩:=c
  .rw[.inl c]
  .rw[.inr (T b u hu,L b u hu d)]
 let r:∀b o,↥s b=!o->b∈frs a->∃M,i.get? b=!{o with slots:=M}:=λb o e d=>by
  let(M,e1):=I.base.slot b o e (I.ok.frf b d) d (l b);let(_,m,p,hd):=I.ok.funs.mem d;let p:↥s b=!m:=p;rw[e]at p;obtain rfl:=Zqi p;let(O,e2):=up b _ e1 hd;rw[(O,e2)]
 rw[jX F x C B (9,I.os,I.bare,(λb o e n d _=>?_,λb o e n d _=>r b o e d,λb o e n _=>I.base.free b o e n<|l b,λb o e _=>?_,I.base.tups,I.base.frzs,I.base.tbls),λb u e=>?_,((t,G),λb o e c=>?_),R,X,hE)]
 .rw[G.1 b o<|keep b o (I.base.keep b o e n d<|l b)<|.inr ((o,e),d)]
 .cases d:b∈frs a
  .let(M,q):=r b o e d;rw[(_,q)]
  .let(m,Q):=I.base.there b o e (l b);rw[(m,G.1 b m<|keep b m Q<|.inr ((o,e),d))]
 .rw[(I.hok b u e).stay (λc v hc q=>G.1 c v<|keep c v q<|.inl ?_) (λ_ q=>q) λ_ _ q=>q];obtain z|z:=hc
  .rw[z,e];simp
  .rw[z,];simp
 .let ex:∃m,↥s' b=!m:=by
   obtain c|⟨⟨u,hu⟩,_⟩:=c
   .induction q:F b with
    |none=>rw[Zn q c]
    |some u=>rw[(I.hok b u q).has]
   .rw[I.base.there b u hu<|l b]
  let(m,Q):=ex;let k:=keep b m Q c;let:=G.1 b m k;let e:i.get? b=!o:=e;rw[e]at this;obtain rfl:=Zqi this;rw[k]
def WE:Thrown (qk (yq P w) P w K n d N g a f o A c s H E) E:=by
 rw[⟨λY Z y F h₀ x C B G I p i r v=>?_⟩];let((t,j),trk):=i;let l:∀b:Addr,b∉(qk (yq P w) P w K n d N g a f o A c s H E).ex:=λb z=>Zn (show b∈([]:Yh)from z) ();rw[NS I.ok.frames 9 j r λJ i up m=>AO I (λb u e=>p b u e<|l b) i up trk m v]
def VW:Raises (qk (yq P w) P w K T y N i g f n A d s H E) E:=by
 rw[⟨λY Z U B G x C F I m J=>?_⟩];let p:∀j∈ envOfC i g s⁻¹ f n::d,∀a,j.frame=!a->a∈frs (envOfC i g s⁻¹ f n::d):=λj L a M=>Jn.mpr (j,L,M);let(-X,r,_,_):=m.there;let l:=W.funFrames_hide I.stack p;rw[Zc (WD (wpAny_leaves_madeW (Q:=λ_ O=>∃h t,Heap.FlyingW (W.hideAll B.heap<|frs<|envOfC i g s⁻¹ f n::d) d x (.ref C) (.ref t) h/\G.UpToSlots h/\O={B with heap:=h}) I.ok.frames 9 (λb o e=>W.of_hideAll _ e) l m λh t v R tn up=>(h,t,v,up,9))
 <|Gd (E:=λ_ _=>True) I.ok.frames (l.of_keeps λb o S _=>(o,m.keeps b o S,9)) 9 r 9 9) ?_ λ_ _ z=>z.1]
 rintro _ _ ⟨⟨h,t,v,up,rfl⟩,dt⟩;rw[AO I λb u e=>I.base.there b u e<|by show b∉([]:Yh);simp v ((Heap.UpToSlots.of_keeps m.keeps).trans up) (λb o e c=>W.hideAll_get _ e λz=>?_) dt J];obtain c|c:=c
 .rw[c<|I.stkFree b z]
 .rw[c.2 z]
end
def wU(P:Program)(w:World)(K:aa)(b:Yc)(a:Heap)(name:Str)(k:5)(c:Yg)(e:Sp):4:=
 ∃f d,FnOk P w K b a (yq P w) k f d c e/\zH K d c []/\W.keepIn K (.ref f)=6/\b name=! .ref f
theorem wU.mono  {K:aa}      (c:wU P w K b a name j e g)(h:j<=k):wU P w K b a name k e g:=by
 let(f i,F,r):=c;rw[(f,i,F.mono h,r)]
def Gg(c:wU X.prog X.w X.K X.mg X.base name k s i)(T:Thrown X E)(j:Room k X.A)(l:Gl X name)(m:PA X (e::a) t)
 (d:(name==("__debug__":Str))=7:=by decide)(n:01 (e::a) X.env=%[7|eval e X.env]::01 a X.env:=by rfl)(g:(backTo h<|01 a X.env).any (·.1)=7:=by rfl):
 PE X (.Call (.Name name p) (e::a) [] h) (Cg i [] E t):=by
 let(f u,F,b,o,r):=c;rw[ED F j l r o b .nil T.passes m d n g]
def Fun.okX  {K:aa}   {st:Stmt}     (F:Fun K x c st f p)(S:FnScope N n (Qe st))(len:∀e H Q E,o e H Q E->⇑e=⇑n)
 (g:∀b A a s H e Q E,Room k (A.deeper<|envOfC c (Qe st) s⁻¹ f b)->o e H Q E->
  ∃t,xR (qk (yq P w) P w K r i N c (Qe st) f b A a s H E) (Kn st) t/\t {nx:=λ_ u=>Q .non u,rt:=Q} (start N e) H):FnOk P w K r i (yq P w) (k+1) f p n o:=by
 let(G,I,kV,v,J,L,b,M,y,rfl,z,j):=F.ex;rw[EK z j S len λA a s H e Q E B l=>g b A a s H e Q E B l]
end L2
namespace L2.DL
def xY(K:aa)(b:Yq->Res D):Sp:=λc H Q E=>∃F a,ju F H/\IsDs K F a c/\(b a).need (zf K F H Q) (XW K E F H)
def vF(K:aa)(b:Yq->Res D):Sp:=λc H Q E=>∃F a,ju F H/\IsDs K F a c/\(b a).need (yT K F H Q) (XW K E F H)
def Res.strict{α:Type}:Res α->Res α
 |.ok a=>.ok a
 |_=>.no
@[simp]def va (a:α):(Res.ok a).strict=.ok a:=rfl
def Res.need_strict {r:Res α}  (h:r.strict.need p q):r.need p q':=by
 cases r with
 |ok a=>rw[h]
 |ex c fs=>rw[h.elim]
 |no=>rw[h]
def KW(a:Yq->Res D)(fr:FA):FE:=λsd=>(fr sd).bind λds=>(a ds).strict
@[simp]def bD(a)(fr)(sd):KW a fr sd=(fr sd).bind λb=>(a b).strict:=rfl
def Ws(c:wU X.prog X.w X.K X.mg X.base name k z (xY X.K g))(T:Thrown X E)(i:Room k X.A)(j:Gl X name)(l:QA X E (e::a) fr)
 (b:(name==("__debug__":Str))=7:=by decide)(m:01 (e::a) X.env=%[7|eval e X.env]::01 a X.env:=by rfl)(d:(backTo f<|01 a X.env).any (·.1)=7:=by rfl):
 QE X E (.Call (.Name name p) (e::a) [] f) (J9 g fr):=PE.weak (Gg c T i j l b m d) λZ H Q o=>by
 let(B F sd,r,n):=o;rw[jh B F sd (r,(Res.need_bind n).mono (λs t u v w h y=>?_) λ_ _ q=>q)];show xY X.K g (u++[]) w Q E;rw[ZA,];rw[(v,s,h.fh,y,Xo t h)]
def NU(c:wU X.prog X.w X.K X.mg X.base name k z (vF X.K g))(T:Thrown X E)(i:Room k X.A)(j:Gl X name)(l:QA X E (e::a) fr)
 (b:(name==("__debug__":Str))=7:=by decide)(m:01 (e::a) X.env=%[7|eval e X.env]::01 a X.env:=by rfl)(d:(backTo f<|01 a X.env).any (·.1)=7:=by rfl):
 QN X E (.Call (.Name name p) (e::a) [] f) (J9 g fr):=PE.weak (Gg c T i j l b m d) λZ H Q o=>by
 let(B F sd,r,n):=o;rw[jh B F sd (r,(Res.need_bind n).mono (λs t u v w h y=>?_) λ_ _ q=>q)];show vF X.K g (u++[]) w Q E;rw[ZA,];rw[(v,s,h.fh,y,Cv t h)]
def CM(c:wq X.prog X.w X.K X.mg X.base name k z (xZ X.K g))(i:Room k X.A)(j:Gl X name)(l:QA X E (e::a) fr)
 (b:(name==("__debug__":Str))=7:=by decide)(m:01 (e::a) X.env=%[7|eval e X.env]::01 a X.env:=by rfl)(d:(backTo f<|01 a X.env).any (·.1)=7:=by rfl):
 QE X E (.Call (.Name name p) (e::a) [] f) (KW g fr):=PE.weak (XN c i j l b m d) λZ H Q o=>by
 let(B F sd,r,n):=o;rw[jh B F sd (r,(Res.need_bind n).mono (λs t u v w h y=>?_) λ_ _ q=>q)];show xZ X.K g (u++[]) w Q E0;rw[ZA,];rw[(v,s,h.fh,y,Res.need_strict<|Xo t h)]
def Gh(c:wq X.prog X.w X.K X.mg X.base name k z (vG X.K g))(i:Room k X.A)(j:Gl X name)(l:QA X E (e::a) fr)
 (b:(name==("__debug__":Str))=7:=by decide)(m:01 (e::a) X.env=%[7|eval e X.env]::01 a X.env:=by rfl)(d:(backTo f<|01 a X.env).any (·.1)=7:=by rfl):
 QN X E (.Call (.Name name p) (e::a) [] f) (KW g fr):=PE.weak (XN c i j l b m d) λZ H Q o=>by
 let(B F sd,r,n):=o;rw[jh B F sd (r,(Res.need_bind n).mono (λs t u v w h y=>?_) λ_ _ q=>q)];show vG X.K g (u++[]) w Q E0;rw[ZA,];rw[(v,s,h.fh,y,Res.need_strict<|Cv t h)]
section
variable   {K:aa}        {st:Stmt}
def WF (F:Fun K x c st f l)(S:FnScope N j (Qe st))
 (m:∀b A a s H E,Room k (A.deeper<|envOfC c (Qe st) s⁻¹ f b)->wf (qk (yq P w) P w K p e N c (Qe st) f b A a s H E) E 7 (Kn st) g):
 FnOk P w K p e (yq P w) (k+1) f l j (xY K<|jS ⇑N ⇑j g):=by
 rw[F.okX S (λt H Q E=>jy λF u=>j5 λ_ h n=>?_) λb A a s H t Q E v=>jy λF u=>j5 λy h n=>(_,m b A a s H E v,?_)]
 .unfold jS at n
  split at n
  .rw[⇑h,];lia
  .rw[n.elim]
 .unfold jS at n
  split at n
  .rw[jh (F,H,λ_=>8) F _ (RS.start y h,(Res.need_bind n).mono (λo i=>?_) λ_ _ q=>q)]
   cases(o)with
   |next sd=>rw[λZ z B _ r=>i .non z B r.ext<|j8.mpr 9]
   |ret d=>rw[i]
   |brk sd=>rw[i.elim]
   |cont sd=>rw[i.elim]
  .rw[n.elim]
def hW (F:Fun K x c st f l)(S:FnScope N j (Qe st))
 (m:∀b A a s H E,Room k (A.deeper<|envOfC c (Qe st) s⁻¹ f b)->wf (qk (yq P w) P w K p e N c (Qe st) f b A a s H E) E 6 (Kn st) g):
 FnOk P w K p e (yq P w) (k+1) f l j (vF K<|xI ⇑N ⇑j g):=by
 rw[F.okX S (λr H Q E=>jy λF t=>j5 λ_ h n=>?_) λb A a s H r Q E u=>jy λF t=>j5 λv h n=>(_,m b A a s H E u,?_)]
 .unfold xI at n
  split at n
  .rw[⇑h,];lia
  .rw[n.elim]
 .unfold xI at n
  split at n
  .rw[jh (F,H,λ_=>8) F _ (RS.start v h,(Res.need_bind n).mono (λo i=>?_) λ_ _ q=>q)]
   cases(o)with
   |next sd=>rw[i.elim]
   |ret d=>rw[i]
   |brk sd=>rw[i.elim]
   |cont sd=>rw[i.elim]
  .rw[n.elim]
end
end L2.DL
namespace L2
section
variable     {t:TA}  {k}
structure Exc(K:aa)(mg:Yc)(c:Str)(C:Addr):4 where
 ns:W.nsIn K 000 c=! ! .ref C
 mgc:mg c=! .ref C
 exc:W.excIn K C [.type "ValueError",.type "Exception",.type "BaseException",.type "object"] "ValueError.__new__"=6
def tW(m:Yd)(l:List (02 Value))(g:Addr->List Value->02 Value->02 Value->02 Value->02 Value->String->02 Value->Bool):4:=
 ∃C a b c d e n f,m=.ref C::a/\l=[b,c,d,e,! .builtin n,f]/\g C a b c d e n f=6
def NV
 (q:W.excIn.match_1 (λ_ _=>Bool) m l g (λ_ _=>7)=6):tW m l g:=by
 cases m with
 |nil=>rw[JP q]
 |cons v b=>
  cases(v)with
  |ref C=>
   cases l with
   |nil=>rw[JP q]
   |cons c l=>
    cases l with
    |nil=>rw[JP q]
    |cons d l=>
     cases l with
     |nil=>rw[JP q]
     |cons e l=>
      cases l with
      |nil=>rw[JP q]
      |cons f l=>
       cases l with
       |nil=>rw[JP q]
       |cons a l=>
        cases(a)with
        |none=>rw[JP q]
        |some u=>
         cases(u)with
         |builtin n=>
          cases l with
          |nil=>rw[JP q]
          |cons h l=>
           cases(l)with
           |nil=>rw[zR _ _ _ _ _ _ _ (_,9,9,q)]
           |cons _ _=>rw[JP q]
         |_=>rw[JP q]
  |_=>rw[JP q]
def CN{K:aa}    {P:4}(g:K.In h)(q:W.excIn K C s b=6)
 (k:∀i N nm u bs e v sub w c y j m o p r A,h.get? C=! excClassObj nm u C N bs i e v sub w c y j m o p r b->h.Ns N A->A "__init__"=8->OwnTail h s i->P):P:=by
 unfold W.excIn at q
 split at q
 .rename_i y G B H;let(T,i,j,m,o,p,n,r,E,I,q):=NV q;simp only[Uc,Yi,Vh]at q;let(((((J,L),a),M),d),f):=q;subst J L;let F:=g _ _ H;let(nm,bs,O,Q,u,R,v,sub,w,c,S):=G;dsimp only at E a d f F;subst E a;let z:B=#[j,m,o,p,! .builtin n,r]:=by
   obtain⟨l⟩:=B;rw[Zt Array.mk I]
  subst z;rw[k i Q nm u bs R v sub w c y j m o p r _ F (.of_isNs<|W.isNs_of_in g d) (W.nsMap_none_of_in g d f)<|W.tail_of_in g M]
 .rw[JP q]
def NW(C:Addr)(E:XK)(t:TA):TS:=λ_ Z H=>t Z H λa b=>⇑a<=1000/\E (.ref C) 8 b
def NX   (R:Raises X E)(ex:Exc X.K X.mg c C)(i:X.calm=6)(j:Gl X c)(l:PA X [e] t)(m:(c==("__debug__":Str))=7:=by decide)
 (f:01 [e] X.env=%[7|eval e X.env]::01 [] X.env:=by rfl):PS X (.Raise (! .Call (.Name c B) [e] [] a) 8 n) (NW C E t):=by
 intro Y s Z H D I h;rw[CN I.mod.kin ex.exc λF N nm q bs hdct sn sub ab col dd k0 k1 k2 k3 k5 G o p d T=>wpAny_Raise_call_subU (nm:=nm) (q:=q) (N:=N) (bs:=bs) (hdct:=hdct) (sn:=sn) (sub:=sub) (ab:=ab) (col:=col) (dd:=dd) (k0:=k0) (k1:=k1) (k2:=k2) (k3:=k3) (k5:=k5)
  PySem.F.excBase_ValueError (by rfl) PySem.F.excBase_ValueError (T.hasType PySem.F.excBase_ValueError.hasBase) (I.ok.hd i) (by rw[f,];rfl) d<|W1 I j ex.mgc (9,?_) m]
 let g:=l a Y s Z H _ I h;rw[f]at g ⊢;rw[Calls.evalArgs_plain<|Zc g (λJ r=>jy λL u=>yh λb v M w=>?_) λ_ _ y=>y];let O:=⇑v;rw[(9,small (),b.bk _ _ o,p.keeps b.bk,T.keeps b.bk,λz x A=>R.new Y Z u r z x C _ b A w)]
end
end L2
namespace L2.DL
def Qt(c:Str)(f:FE):FS:=λsd=>(f sd).bind λ_=>.ex c []
@[simp]def b9(c)(f)(sd):Qt c f sd=(f sd).bind λ_=>.ex c []:=rfl
section
variable        {k}
def VX  (R:Raises X E)(ex:Exc X.K X.mg c C)(h:X.calm=6)(i:Gl X c)(j:QE X E e b)(l:(c==("__debug__":Str))=7:=by decide)
 (a:01 [e] X.env=%[7|eval e X.env]::01 [] X.env:=by rfl):QS X E m (.Raise (! .Call (.Name c A) [e] [] f) 8 o) (Qt c b):=
 PS.weak (NX R ex h i (Jv j Jx a) l a) λT Z H p=>by
  let(B F sd,r,n):=p;let s:(Ju b jb sd).need (λg=>⇑g=1/\XW X.K E B.F0 B.H0 c []) (XW X.K E F H):=by
   unfold Qt at n;ext Ju jb
   induction hf:b sd with
   |ok d=>rw[hf]at n;rw[(9,n)]
   |ex t fs=>rw[hf]at n;rw[XW.ext (n:XW X.K E B.F0 B.H0 t fs) r.ext]
   |no=>rwa[hf]at n
  rw[jh B F sd (r,s.mono (λg u G v w y z=>?_) λ_ _ q=>q)];let:=⇑z;rw[((),u.2 (.ref C) 8 v w (r.ext.trans y) (C,9,ex.ns,.inl 9))]
end
end L2.DL
namespace L2
def Gi(X:Cx)(Y:Yb)(Z:St)(E:XK)(e:Value)(a:Shared):4:=
 ∃c h₀ x C B,e=.ref x/\Inv X Y Z c a/\(∀b u,X.s₀.heap.get? b=!u->b∉X.ex->∃f,h₀.get? b=!f)/\(∀p∈X.pn++Y,∃u,h₀.get? p.1=!u)/\FlyAt X.stack h₀ c x C B a.heap/\∃d,DT a.heap x d/\E (.ref C) d c
section
variable   {Z: St}
def NY        (F:FnOk X.prog X.w X.K X.mg X.base (yq X.prog X.w) k f m j n)(o:Room k X.A)(t:zH X.K m j [])
 (I:Inv X Y Z H s)(r:j4 l a)(h:n l H Q E):Ys X (call (.ref f) a) (EP X Y Z Q) (Gi X Y Z E) s:=by
 let v:⇑(a++[])=⇑j:=by rw[ZA,<-⇑r];rw[F.len _ _ _ _ h]
 let c:=t s a I.kIn v;rw[ZA]at c;rw[wpAny_call<|codeAny_mono (F.run X.A X.stack s H (a,[]) a l Q E o I.env0 c r h) λr L d=>?_]
 cases(r)with
 |error e=>
  let(w x C B,y,os,bare,un,g,i,A):=d;subst y;rw[jE w s.heap x C B (9,I.call' os un g bare<|λb z=>Zn z (),λb u e G=>I.base.there b u e G,λp J=>(_,(I.pin p J).1),i,A)]
 |ok i=>
  cases(i)with
  |ret u=>rw[I.after d]
  |next=>rw[False.elim d]
  |brk=>rw[False.elim d]
  |cont=>rw[False.elim d]
def Inv.flown{h₀ E B:Heap} (I:Inv X Y Z H s)(S:∀b u,X.s₀.heap.get? b=!u->b∉X.ex->∃u',h₀.get? b=!u')(hp:∀p∈X.pn++Y,∃u,h₀.get? p.1=!u)
 (trk:∀b o,↥s b=!o->H b≠8\/(∃u,h₀.get? b=!u)/\b∉frs X.stack->B.get? b=!o)(L:Heap.FlyingW B X.stack x (.ref C) (.ref t) E)(up:s.heap.UpToSlots E):Inv X Y Z H {s with heap:=E}:=by
 let F:∀b u,X.s₀.heap.get? b=!u->b∉X.fs->b∉frs X.stack:=λb u e a z=>by
  rcases Ux.mp (I.stkSub b z)with q|q
  .rw[Zn (Zk e)<|by rw[q,];rw[Nat.not_lt.mpr I.ok.above]]
  .rw[a q]
 let g:∀b o,X.s₀.heap.get? b=!o->b∈X.fs->b∉X.ex->∃M,E.get? b=!{o with slots:=M}:=λb o e a f=>by
  let(M,e1):=I.base.slot b o e (I.ok.frf b a) a f;let(_,O,G,Q):=I.ok.funs.mem a;rw[e]at G;obtain rfl:=Zqi G;let(R,e2):=up b _ e1 Q;rw[(R,e2)]
 let j:∀c v,s.heap.IsCell c v->E.IsCell c v:=λc v zh=>by
  let(o,ho,Q):=zh;let(M,e):=up c o ho λvs q=>by ext
  rw[(_,e,Q)]
 let(-m,hn,hl):=id I.loc;rw[(I.ok,I.os,I.bare,(λb o e n a f=>?_,λb o e n a f=>g b o e a f,λb o e n f=>I.base.free b o e n f,λb o e f=>?_,I.base.tups,I.base.frzs,I.base.tbls),(m,up.ns hn,λi y v h1 h2 h3=>?_),λy c e=>?_,I.free,I.freeC,λp J=>?_,λb u e=>?_,I.len)]
 .rw[L.1 b o<|trk b o (I.base.keep b o e n a f)<|.inr (S b o e f,F b o e a)]
 .cases a:b∈X.fs
  .let(M,q):=g b o e a f;rw[(_,q)]
  .let(O,e'):=I.base.there b o e f;rw[(O,L.1 b O<|trk b O e'<|.inr (S b o e f,F b o e a))]
 .let(-u,r,l):=hl i y v h1 h2 h3;rw[(u,r,?_)];obtain l|⟨k,c,e,z⟩:=l
  .rw[.inl l]
  .rw[.inr (k,c,e,j c _ z)]
 .let(v,q):=I.cell y c e;rw[(v,j c v q)]
 .let(!q1,q2,T,U,q5):=I.pin p J;rw[(L.1 _ _<|trk _ _ q1<|.inr (hp p J,λz=>?_),q2,T,U,q5)];rcases Ux.mp (I.stkSub _ z)with q|q
  .rw[T q]
  .rw[U q]
 .rw[(I.hok b u e).stay (λc v hc q=>L.1 c v<|trk c v q<|.inl ?_) (λ_ q=>q) λ_ _ q=>q]
  grind
abbrev Cx.inSuite(X:Cx)(x:Addr):Cx:={X with A:=X.A.mark ! .ref x,calm:=7,xe:=λ_ _=>False}
def Inv.suite(I:Inv X Y Z H s)(x:Addr):Inv (X.inSuite x) Y Z H s:=
 ((I.ok.mod,I.ok.kind,I.ok.glob,I.ok.blt,I.ok.above,I.ok.inj,I.ok.has,I.ok.cab,λz=>by rw[JP z],I.ok.frames,I.ok.stk,I.ok.exf,I.ok.bs,I.ok.bsz,I.ok.noex,I.ok.exfs,I.ok.funs,I.ok.frf),I.os,I.bare,I.base,I.loc,I.cell,I.free,I.freeC,I.pin,I.hok,I.len)
def Inv.unsuite (I:Inv (X.inSuite x) Y Z H s)(ok:X.Ok):Inv X Y Z H s:=(ok,I.os,I.bare,I.base,I.loc,I.cell,I.free,I.freeC,I.pin,I.hok,I.len)
theorem SP.unsuite    (h:SP (X.inSuite x) Y D f c)(ok:X.Ok):SP X Y D f c:=by
 cases(f)with
 |next=>let(a,b,I,q):=h;rw[(a,b,I.unsuite ok,q)]
 |brk=>let(a,b,I,q):=h;rw[(a,b,I.unsuite ok,q)]
 |cont=>let(a,b,I,q):=h;rw[(a,b,I.unsuite ok,q)]
 |ret u=>let(v a b,I,r,q):=h;rw[(v,a,b,I.unsuite ok,r,q)]
end
end L2
namespace L2.DL
end L2.DL
namespace L2
def VY  {K:aa}            :
 PassesOwn (model (qk (yq P w) P w K g c N d b f h A a s H E).prog (qk (yq P w) P w K g c N d b f h A a s H E).w) (qk (yq P w) P w K g c N d b f h A a s H E).A (qk (yq P w) P w K g c N d b f h A a s H E).env (qk (yq P w) P w K g c N d b f h A a s H E).xe:=
 PassesOwn.leaving (Q₁:=λe i=>yq P w a H s E e i)
end L2
namespace L2.DL
def AQ(a:D->D->Yr)(b:FE)(sd:SD)(y:D):D->Res D
 |.bl true=>(b sd).bind λw=>.ofO<|a y w
 |.bl false=>.ok (.bl 7)
 |_=>.no
@[simp]def bN(a:D->D->Yr)(b:FE)(sd:SD)(y:D):AQ a b sd y (.bl 6)=(b sd).bind λw=>.ofO<|a y w:=rfl
@[simp]def bO(a:D->D->Yr)(b:FE)(sd:SD)(y:D):AQ a b sd y (.bl 7)=.ok (.bl 7):=rfl
def Kd(g a:D->D->Yr)(b c d:FE):FE:=λsd=>(b sd).bind λx=>(c sd).bind λy=>(Res.ofO<|g x y).bind<|AQ a d sd y
@[simp]def bB(g a:D->D->Yr)(b c d:FE)(sd:SD):Kd g a b c d sd=(b sd).bind λx=>(c sd).bind λy=>(Res.ofO<|g x y).bind<|AQ a d sd y:=rfl
def Gj{K:aa}   (h:tD K E (Kd g l m o p) Z H Q):LV (wF K g) (wF K l) (tD K E m) (tD K E o) (tD K E p) Z H Q:=by
 let(B F sd,r,n):=h;rw[jh B F sd (r,(Res.need_bind n).mono (λx s v t R a A=>?_) λ_ _ q=>q)];rw[jh B t sd (r.step a,(Res.need_bind s).mono (λy C w G S b i=>?_) λ_ _ q=>q.ext a)];let(-z,I,d):=jk (Res.need_bind C);rw[jX G x y z (b.fh,IsD.same b.ff _ _ A,i,I,λT j J c L=>?_)];cases z with
 |bl k=>
  rw[(k,jp.mp L,?_)]
  cases(k)with
  |true=>
   rw[Zd 9,];rw[jh B j sd (((r.step a).step b).step c,(Res.need_bind d).mono (λu M U N X e O=>?_) λ_ _ q=>q.ext<|a.trans<|b.trans c)];let(-P,f,q):=jk M;rw[jX N y u P (e.fh,IsD.same (c.ff.trans e.ff) _ _ i,O,f,q.ext<|a.trans<|b.trans<|c.trans e)]
  |false=>
   rw[Ze (by decide),];rw[d _ j J (a.trans<|b.trans c)<|jp.mpr 9]
 |_=>rw[d.elim]
def NZ (p:xD X (compareOp j) (wF X.K g))(i:xD X (compareOp f) (wF X.K r))(t:QE X E a w)(A:QE X E b B)(C:QE X E c F)
 (G:lastMarks [j,f] [b,c]=7:=by with_unfolding_all rfl):QE X E (.Compare a [j,f] [b,c] J) (Kd g r w B F):=PE.weak (by
  intro Y s Z H Q I h;rw[Compare_chain (jF (t Y s Z H _ I h) λv L=>jy λx M=>j5 λN O P=>chain_link<|jF (A Y L Z M _ N P) λu R=>jy λy S=>j5 λT l U=>
   jF (p Y R Z S x y v u _ T O l U) λd s3(z,m,n,r3,k,e,o)=>?_) G]
  subst e;cases r3;rw[wpAny_truthy_bool ?_]
  cases(k)with
  |false=>rw[ite_ff (.bl 7,m,n,9,o)]
  |true=>rw[ite_tt<|chain_last<|jF (C Y s3 Z m _ n o) λw' s4=>jy λz' H4=>j5 λI4 r4 q4=>i Y s4 Z H4 y z' u w' Q I4 l r4 q4]) λ_ _ _ h=>Gj h
def yR(H:Hp)(l:Addr):Hp:=λa=>if a=l then 8 else H a
def Oa  (h:a≠l):yR H l a=H a:=by simp_all[yR]
def WG {b:FS}  (R:Res Out->4)(P:5->SD->4)(s:P 0 sd)(t:∀sd,P ⇑d sd->R (.ok<|.next sd))
 (m:∀(i:5)(x:D)(sd:SD),d[i]?=!x->P i sd->(∃a,(JS g x sd).bind b=.ok (.next a)/\P (i+1) a)\/∃c h,(JS g x sd).bind b=.ex c h/\R (.ex c h)):R (qa g b d sd):=by
 let n:∀(k i:5)(sd:SD),⇑d-i=k->i<=⇑d->P i sd->R (qa g b (d.drop i) sd):=by
  intro k
  cases(k)with
  |zero=>
   intro i sd e o p;let:i=⇑d:=()
   ext
  |succ k r=>
   intro i sd e o p;let f:i<⇑d:=()
   rw[UH f,];ext qa zb;obtain⟨a,j,l⟩|⟨c,h,j,l⟩:=m i d[i] sd () p
   .rw[j,];rw[r (i+1) a () f l]
   .rwa[j,]
 grind
def Yw:D->D->Yr
 |.lst a,.lst b=>if ⇑a+⇑b<=00 then !(.lst<|a++b)else 8
 |_,_=>8
def Gk:mo X (binaryOp .Add) Yw:=xD.weak Fo λx y H Q j=>by
 let(F d e z,f,id,m,c,q):=j;cases d with
 |lst a=>
  cases e with
  |lst b=>
   let c:(if ⇑a+⇑b<=00 then !(D.lst<|a++b)else 8)=!z:=c
   split at c
   .obtain rfl:=Zqi c;let(l n,rfl,o,h):=id;let(r s,rfl,t,i):=m;let u:=⇑h;let v:=⇑i;rw[jX l r n s (9,9,o.same f,t.same f,(),λp g=>q p F _ (.keep f g _) g (Q1 f g) (_,JE,h.append i))]
   ext
  |_=>rw[J2 c]
 |_=>rw[J2 c]
end L2.DL
namespace L2
abbrev TB:=Ends->XK->St->Hp->4
def PB(X:Cx)(a:List Stmt)(t:TB):4:=
 ∀(Y:Yb)(s:Shared)(Z:St)(H:Hp)(D:Ends)(E:XK),Inv X Y Z H s->t D E Z H->Ys X (execs a X.env) (SP X Y D) (Gi X Y Z E) s
def PB.weak  (h:PB X b t)(w:∀D E Z H,a D E Z H->t D E Z H):PB X b a:=λY s Z H D E I q=>h Y s Z H D E I<|w _ _ _ _ q
def Ob
 (u:wU X.prog X.w X.K X.mg X.base name k O w)(y:Room k X.A)(A:Gl X name)(B:PA X.nox (e::c) t)
 (j:(name==("__debug__":Str))=7:=by decide)(C:01 (e::c) X.env=%[7|eval e X.env]::01 c X.env:=by rfl)(l:(backTo a<|01 c X.env).any (·.1)=7:=by rfl)
 (m:swapsWith (.Call (.Name name p) (e::c) [] a) 8 d.line X.env=pure 7:=by rfl):
 PB X [.Expr (.Call (.Name name p) (e::c) [] a) d] λD E Z H=>t Z H λn g=>w n g (λ_ G=>D.nx Z G) E:=by
 intro Y s Z H D E I h;rw[wpAny_execs_cons<|wpAny_Expr_any (Zc (by
  let(f P,F,b,J,L):=u;rw[wpAny_Call_Name_kw<|W1 I A L (W.callWith_K I.ok.mod.kin J (Zc (B a Y s Z H _ (I.wish _) h) (λQ o=>jy λn g=>j5 λi r q=>(i.kIn,NY F y b i.unwish r q)) λ_ _ z=>z.elim) C l) j]) (λv o q=>?_) λe o M=>M) I.quiet m]
 let(z g,i,R,N):=q;rw[wpAny_execs_nil (_,g,i,N)]
end L2
namespace L2.DL
def cf(K:aa)(m:02 Bool)(g:FS):TB:=λD E Z H=>∃B F sd,RS K B F H sd Z/\(g sd).need (wn K m B F D) (XW K E F H)
abbrev QB(X:Cx)(m:02 Bool)(body:List Stmt)(g:FS):4:=PB X body<|cf X.K m g
def AR(a:Yq->Res D)(fr:FA):FE:=λsd=>(fr sd).strict.bind a
@[simp]def bC(a:Yq->Res D)(fr:FA)(sd:SD):AR a fr sd=(fr sd).strict.bind a:=rfl
def Oc
 (s:wU X.prog X.w X.K X.mg X.base name k L (xY X.K g))(t:Room k X.A)(u:Gl X name)(w:QA X.nox E0 (e::b) fr)
 (h:(name==("__debug__":Str))=7:=by decide)(y:01 (e::b) X.env=%[7|eval e X.env]::01 b X.env:=by rfl)(i:(backTo a<|01 b X.env).any (·.1)=7:=by rfl)
 (j:swapsWith (.Call (.Name name p) (e::b) [] a) 8 c.line X.env=pure 7:=by rfl):
 QB X m [.Expr (.Call (.Name name p) (e::b) [] a) c] (KS<|AR g fr):=
 PB.weak (Ob s t u w h y i j) λT E Z H z=>by
  let(B F sd,r,n):=z;rw[jh B F sd (r,?_)];unfold KS AR at n
  induction hf:fr sd with
  |ex A fs=>rw[hf]at n;rw[n.elim]
  |no=>rwa[hf]at n
  |ok l=>
   rw[hf]at n;let n:((g l).bind λ_=>Res.ok<|Out.next sd).need (wn X.K m B F T) (XW X.K E F H):=n;intro M C N f G;rw[(C,l,f.fh,G,?_)]
   induction hq:g l with
   |ok d=>
    rw[hq]at n;rw[λv I J o O=>n _ I J (f.ff.trans o.ff)<|(r.step f).step o]
   |no=>rwa[hq]at n
   |ex A fs=>
    rw[hq]at n;rw[n.ext f]
end L2.DL
namespace L2
def vQ(K:aa)(x:Str)(st:Stmt):4:=∃f a,W.nsIn K 000 x=! ! .ref f/\Fun K x x st f a
def vQ.callee  {K:aa}   {st:Stmt}   (X:K.In h)(G:h.Ns 000 l)(d:vQ K x st)
 (ok:∀{f:Addr}{c:FuncData},Fun K x x st f c->FnOk P w K l b yt k f c e n)
 (o:∀(kV g p:Value)(r:02 Addr)(i s:Value)(j:Yd),⇑j=⇑e->bindArgs (W.fnOf x x (Xl st) (Kn st) (Qe st) .none kV g p r i s) (j,[])=pure (e.zip j)):wq P w K l b x k e n:=by
 let(f c,a,F):=d;rw[(f,c,ok F,F.binds o,F.kp,W.mg_of X G a)]
def vQ.calleeX  {K:aa}   {st:Stmt}   (X:K.In h)(G:h.Ns 000 l)(d:vQ K x st)
 (ok:∀{f:Addr}{c:FuncData},Fun K x x st f c->FnOk P w K l b (yq P w) k f c e n)
 (o:∀(kV g p:Value)(r:02 Addr)(i s:Value)(j:Yd),⇑j=⇑e->bindArgs (W.fnOf x x (Xl st) (Kn st) (Qe st) .none kV g p r i s) (j,[])=pure (e.zip j)):wU P w K l b x k e n:=by
 let(f c,a,F):=d;rw[(f,c,ok F,F.binds o,F.kp,W.mg_of X G a)]
section
variable   {Z: St}
def Inv.track  (I:Inv X Y Z H s)(j:H x=8)(l:X.s₀.heap.get? x=8)(r:x≠X.env.locals)(v:∀y c,X.env.cells.lookup y=!c->c≠x)(B:∀p∈X.pn++Y,p.1≠x)(ok:yd X.prog X.w (upd H x<|.ext φ) s.heap x (.ext φ)):Inv X Y Z (upd H x<|.ext φ) s:=by
 let ne:∀{b:Addr}{u:HO},H b=!u->b≠x:=λ{b u}e z=>by rw[z,j]at e;rw[J2 e]
 rw[(I.ok,I.os,I.bare,(I.base.keep,I.base.slot,λb o e n g=>?_,I.base.there,λb i e=>?_,λb o u e=>?_,λb E e=>?_),I.loc,I.cell,?_,λy c e=>?_,λp a=>?_,λb u e=>?_,I.len)]
 .let z:b≠x:=λz=>by rw[z,l]at e;rw[J2 e]
  rw[J6 z,];rw[I.base.free b o e n g]
 .let q:=I.base.tups b i e;rw[J6 (ne q),];rw[q]
 .let q:=I.base.frzs b o u e;rw[J6 (ne q),];rw[q]
 .let(f,q):=I.base.tbls b E e;rw[(f,by rw[J6 (ne q),];rw[q])]
 .rw[J6 (Ne.symm r),];rw[I.free]
 .rw[J6 (v y c e),];rw[I.freeC y c e]
 .let(!F,G,J,L,M):=I.pin p a;rw[(F,by rw[J6 (B p a),];rw[G],J,L,M)]
 .cases z:b=x
  .subst z;rw[JE]at e;cases e;rw[ok]
  .rw[J6 z]at e;rw[(I.hok b u e).stay (λ_ _ _ q=>q) (λc q=>?_) λc i q=>?_]
   .rw[J6 (ne q),];rw[q]
   .rw[J6 (ne q),];rw[q]
def Inv.gone      (I:Inv X Y Z H s)(M:X.N.Nodup)(B:X.N[j]?=!n)(O:s.heap.Ns X.env.locals m)(l:∀(i:5)(x:Str)(v:V),X.N[i]?=!x->Z[i]?=! !v->ma X.env.scope x->∃u,jz v u/\mt X.env s.heap m x u)
 (F:J.Ns X.env.locals λx=>if x=n then v else m x)(a:Heap.SameBut X.env.locals s.heap J):Inv X Y (Z.set j 8) H {s with heap:=J,toks:=t'}:=by
 let(oL _ _,Q,_):=id O;let cne:=I.cne;let hjσ:j<⇑Z:=by rw[I.len,];rw[(Ja.mp B).1]
 rw[(I.ok,I.os,I.bare,(λb o e n G r=>?_,λb o e n G r=>?_,I.base.free,λb o e r=>?_,I.base.tups,I.base.frzs,I.base.tbls),(_,F,λi y R g E S=>?_),λy c e=>?_,I.free,I.freeC,λp T=>?_,λb U e=>?_,by simpa using I.len)]
 .rw[(a.2 b<|Zi<|Zg (Zk e) I.ok.above).trans<|I.base.keep b o e n G r]
 .let(sl,g):=I.base.slot b o e n G r;rw[(sl,(a.2 b<|Zi<|Zg (Zk e) I.ok.above).trans g)]
 .let(o',g):=I.base.there b o e r;rw[(o',(a.2 b<|Zi<|Zg (Zk e) I.ok.above).trans g)]
 .cases f:i=j
  .subst f;rw[Ut hjσ]at E;cases E
  .rw[Zx (Ne.symm f)]at E;let(u',r',q):=l i y R g E S;rw[(u',r',?_)];obtain⟨k,e⟩|⟨k,c,e,z⟩:=q
   .rw[.inl (k,?_)];let:y≠n:=λe=>f<|Cb M g<|e ▸ B;simp[this,e]
   .rw[.inr (k,c,e,z.sameBut a<|cne y c e)]
 .let(L,z):=I.cell y c e;rw[(L,z.sameBut a<|cne y c e)]
 .let(!e,n,ne,nf,d):=I.pin p T;rw[((a.2 p.1 ne).trans e,n,ne,nf,d)]
 .rw[(I.hok b U e).stay (λc L hc q=>(a.2 c ?_).trans q) (λ_ q=>q) λ_ _ q=>q];rintro rfl;obtain z|hc:=hc
  .rw[<-z,I.free]at e;rw[J2 e]
  .rw[I.free]at hc;rw[J2 hc]
def Gm(j:5)(D:Ends):Ends:={nx:=λZ H=>D.nx (Z.set j 8) H,bk:=λZ H=>D.bk (Z.set j 8) H,ct:=λZ H=>D.ct (Z.set j 8) H,rt:=D.rt}
def Od                  {os:OsState}
 (j:h.get? U=! excClassObj nm q U N bs l m u sub v n w y z B F G c)(o:h.get? e=!p)(b:p.cls=.ref C)(a:l.contains (.type "BaseException")=6)(r:W.Looks M h (isSubtype (.ref C)<|.ref U) 6)
 (s:Q 6 (h,g,d,t,os)):wpAny M A (excMatches (.ref e)<|.ref U) Q E (h,g,d,t,os):=by
 let i:(Value.ref U::l).contains (.type "BaseException")=6:=by rw[List.contains_cons,a,U8]
 let f:=tc_notTuple;ext excMatches
 repeat(first|(with_reducible rw[wpAny_loadPart_at o ?_];rw[b,])|with_reducible rw[wpAny_loadPart_at j ?_]|(with_reducible rw[wpAny_isSubtype_exc j ?_];rw[i,])|with_reducible rw[r.at ?_]|wp_step)
 rw[s]
def Gn(C:Addr)(d:02 Addr)(x:Addr)(o:HO):4:=o=DL.ExcO C x\/∃p,d=!p/\o=DL.ExrO C p x
def Oe         (M:X.stack=X.env::X.outer)(hfr:X.env.frame=!X.env.locals)(hex:X.ex=[])(hb:PB X body tb)(ex:Exc X.K X.mg c U)(hgc:Gl X c)
 (hN:X.N.Nodup)(hj:X.N[j]?=!n)(hk:X.env.scope.names.lookup n=!.local)(hs:∀x,xR (X.inSuite x) (b₀::suite) ts)(hd:(c==("__debug__":Str))=7:=by decide):
 PS X (.Try body [.ExceptHandler (! .Name c np) (!n) (b₀::suite) hpos] [] [] pos) λD Z H=>tb D (λcv d G=>∃C,cv=.ref C/\W.subIn X.K (.ref C) (.ref U)=!6/\∀x,G x=8->∃o,Gn C d x o/\ts (Gm j D) (Z.set j<|! .ref x) (upd G x o)) Z H:=by
 intro Y s Z H D I h;rw[arm_exec_Try,];rw[Za<|wpAny_standAt<|wpAny_tryStmt_except<|Zc (hb Y s Z H D _ I h) (λf s1 q=>?_) λe s1 J=>by
  let(H' h₀ x C' B,rfl,I,h0,hp,((t,Q),trk),(dx,R,C,hC',up,S)):=J;cases hC';let P:=Q;rw[M]at P;rw[Gf (I.ok.frames.trans<|by rw[M,]) hfr P R λh₄ held₄ up₄ dt₄=>?_];rw[NQ held₄ dt₄ λh₅ fl₅ up₅ dt₅=>?_];let fl5:=fl₅;rw[<-M]at fl5;let up5:=up₄.trans up₅;let I5:=I.flown h0 hp trk fl5 up5;rw[wpAny_handleBy_cons (codeAny_handlers_test<|W1 (X:=X.inSuite x) (I5.suite x) hgc ex.mgc ?_ hd) (by intro q;cases q)];rw[CN (h:=h₅) I5.kIn ex.exc λtl N nm q bs hdct sn sub ab col dd k0 k1 k2 k3 k5 mN hC hN' hni T=>?_];let(ob,hob,hobc):=fl₅.there;let L4:W.Looks (model X.prog X.w) h₅ (isSubtype (.ref C')<|.ref U) 6:=W.looks_subIn I5.kIn up;let hbase:tl.contains (.type "BaseException")=6:=T.hasType PySem.F.excBase_ValueError.hasBase;rw[Od hC hob hobc hbase L4<|codeAny_handlers_suite_as ?_];rw[NR fl₅ dt₅ λh₆ fl₆ up₆ dt₆=>?_];rw[<-M]at fl₆;let up6:=up5.trans up₆;let I6:=I.flown h0 hp trk fl₆ up6;let bx:B.get? x=8:=Q.2.1;let(-o0,ho0,_):=Q.there;let fr6:=fl₆.2.2.1;let(L vs _ _ _,r,(a,_),w,_):=id fl₆.2.2.2;let hxH:H' x=8:=by
   induction z:H' x with
   |none=>rfl
   |some u=>
    rw[trk x o0 ho0 (.inl<|by rw[z,];simp)]at bx;cases bx
  let nfr:x∉frs X.stack:=λz=>by
   let(_,o,l,hdd):=fr6.mem z;rw[r]at l;obtain rfl:=Zqi l;rw[hdd vs w]
  let nex:X.s₀.heap.get? x=8:=by
   induction z:X.s₀.heap.get? x with
   |none=>rfl
   |some o=>
    let(u',hu'):=h0 x o z (by rw[hex,];simp);rw[trk x o0 ho0 (.inr ((u',hu'),nfr))]at bx;cases bx
  let(-m6,hm6,_):=id I6.loc;let nl:x≠X.env.locals:=λz=>by
   let(o es ep,l,A,_):=hm6;let l:h₆.get? X.env.locals=!o:=l;rw[<-z,r]at l;obtain rfl:=Zqi l;rw[w]at A;cases A
  let nc:∀y cc,X.env.cells.lookup y=!cc->cc≠x:=λy cc e z=>by
   let(v o,l,A):=I6.cell y cc e;let l:h₆.get? cc=!o:=l;rw[z,r]at l;obtain rfl:=Zqi l;rw[w]at A;cases A
  let np:∀p∈X.pn++Y,p.1≠x:=λp hpp z=>by
   let(q1,_):=I.pin p hpp;let h1:=hp p hpp;rw[z]at q1 h1;rw[trk x _ q1 (.inr (h1,nfr))]at bx;cases bx
  let(oo,l,S):=S x hxH;let I6t:Inv X Y Z (upd H' x oo) {s1 with heap:=h₆}:=by
   obtain rfl|⟨p,rfl,rfl⟩:=l
   .rw[I6.track (φ:=λh=>∃o,h.get? x=!o/\o.cls=.ref C') hxH nex nl nc np<|((L,r,a),(L,r),λh1 h2(L,r,a)k=>(L,k L r,a))]
   .let(oe' _ _ _ _,g1,g2,g3,_):=dt₆;let g1:h₆.get? x=!oe':=g1;rw[r]at g1;cases g1;rw[I6.track (φ:=λh=>∃o,h.get? x=!o/\o.cls=.ref C'/\o.dict=!p/\W.notCls o=6) hxH nex nl nc np<|((L,r,a,g2,by ext W.notCls;rw[g3,]),(L,r),λh1 h2=>xg λL=>jD λr a=>λk=> (L,k L r,a))]
  rw[YJ (X:=X.inSuite x) (I6t.suite x) hN hj (.inl hk) (v:=.ref x) (u:=.ref x) 9 (λs7 I7=>?_)<|.inr hk];rw[Zc (hs x Y _ _ _ (Gm j D) I7 S) (λf s8 q=>?_) λ_ _ z=>z.elim];let q:=q.unsuite I.ok;let O:(X.env.scope.kind==.class||X.env.scope.kind==.module&&X.env.locals !=X.env.globals)=7:=by rw[I.ok.kind,];rfl
  show Ys X (do bindName X.env n .none;unbindBehindTheSuite X.env n hpos) (λ_ s₃=>SP X Y D f s₃) X.xe s8
  cases(f)with
  |next=>
   let(Z',G,E,q8):=q;let(m,F,hl):=id E.loc;rw[wpAny_nameGoes_keeps hk F O λh' v g i=>(Z'.set j 8,G,E.gone hN hj F hl g i,q8)]
  |brk=>
   let(Z',G,E,q8):=q;let(m,F,hl):=id E.loc;rw[wpAny_nameGoes_keeps hk F O λh' v g i=>(Z'.set j 8,G,E.gone hN hj F hl g i,q8)]
  |cont=>
   let(Z',G,E,q8):=q;let(m,F,hl):=id E.loc;rw[wpAny_nameGoes_keeps hk F O λh' v g i=>(Z'.set j 8,G,E.gone hN hj F hl g i,q8)]
  |ret u=>
   let(v0 Z' G,E,r8,q8):=q;let(-m,F,hl):=id E.loc;rw[wpAny_nameGoes_keeps hk F O λh' v g i=>(v0,Z'.set j 8,G,E.gone hN hj F hl g i,r8,q8)]]
 cases(f)with
 |next=>rw[wpAny_execs_nil q]
 |ret v=>rw[q]
 |brk=>rw[q]
 |cont=>rw[q]
end
end L2
namespace L2.DL
def Xx(j:5):Out->Out
 |.next sd=>.next (sd.set j 8)
 |.brk sd=>.brk (sd.set j 8)
 |.cont sd=>.cont (sd.set j 8)
 |.ret d=>.ret d
@[simp]def ph(j:5)(sd:SD):Xx j (.next sd)=.next (sd.set j 8):=rfl
def RS.drop{K:aa}    (j:5)(r:RS K B F H sd Z):RS K B F H (sd.set j 8) (Z.set j 8):=by
 let get:∀{i:5}{x:SV},(sd.set j 8)[i]?=! !x->i≠j/\sd[i]?=! !x:=λ{i x}q=>by
  cases z:i=j
  .subst z;let:=(KR q).1;cases this
  .rw[Q9 (Ne.symm z)]at q;rw[(z,q)]
 rw[(r.ext,by rw[Uh,Uh];rw[r.len],λ{i d}q=>?_,λ{i p d}q=>?_,λ{i k p n d e l}a q b=>?_)]
 .let(z,q):=get q;let(-v,c,f):=r.val q;rw[(v,by rw[Q9 (Ne.symm z),];rw[c],f)]
 .let(z,q):=get q;let(-l,c,f):=r.own q;rw[(l,by rw[Q9 (Ne.symm z),];rw[c],f)]
 .let(!z,q):=get q;let(g,b):=get b;rw[Q9 (Ne.symm z),Q9 (Ne.symm g)];rw[r.apart a q b]
def Xy(a:Yg)(j:5)(b:FS)(sd:SD):Res Out->Res Out
 |.ok o=>.ok o
 |.ex c []=>@ite _ (c∈a) (Classical.propDecidable _) ((b<|sd.set j<|~~~.exc c).strict.bind λo=>.ok<|Xx j o) .no
 |.ex c [.int n]=>@ite _ (c∈a) (Classical.propDecidable _) ((b<|sd.set j<|~~~.exr c n).strict.bind λo=>.ok<|Xx j o) .no
 |_=>.no
@[simp]def cM(a:Yg)(j:5)(b:FS)(sd:SD)(o:Out):Xy a j b sd (.ok o)=.ok o:=rfl
def Og  (j:5)(a:FS)(sd:SD)(h:c∈cs):Xy cs j a sd (.ex c [])=(a<|sd.set j<|~~~.exc c).strict.bind λo=>.ok<|Xx j o:=@if_pos _ (Classical.propDecidable _) h _ _ _
def Oh   (j:5)(a:FS)(sd:SD)(h:c∈cs):Xy cs j a sd (.ex c [.int n])=(a<|sd.set j<|~~~.exr c n).strict.bind λo=>.ok<|Xx j o:=@if_pos _ (Classical.propDecidable _) h _ _ _
def Oi        (h:(Xy b j f sd<|.ex c fs).need p q):c∈b/\∃d,(fs=[]/\d=.exc c\/∃n,fs=[.int n]/\d=.exr c n)/\((f<|sd.set j<|~~~d).strict.bind λo=>.ok<|Xx j o).need p q:=by
 unfold Xy at h
 split at h
 .rename_i e;cases e
 .rename_i e;cases e;cases a:c∈b
  .rw[@if_pos _ (Classical.propDecidable _) a]at h;rw[(a,_,.inl (9,9),h)]
  .rw[@if_neg _ (Classical.propDecidable _) a]at h;rw[h.elim]
 .rename_i e;cases e;cases a:c∈b
  .rw[@if_pos _ (Classical.propDecidable _) a]at h;rw[(a,_,.inr (_,9,9),h)]
  .rw[@if_neg _ (Classical.propDecidable _) a]at h;rw[h.elim]
 .rw[h.elim]
def AS(a:Yg)(j:5)(g b:FS):FS:=λsd=>Xy a j b sd<|g sd
@[simp]def b7(a:Yg)(j:5)(g b:FS)(sd:SD):AS a j g b sd=Xy a j b sd (g sd):=rfl
def Oj         (A:X.stack=X.env::X.outer)(G:X.env.frame=!X.env.locals)(I:X.ex=[])(hb:QB X m f g)(ex:Exc X.K X.mg c U)(J:Gl X c)
 (hN:X.N.Nodup)(hj:X.N[j]?=!n)(hk:X.env.scope.names.lookup n=!.local)(hs:∀x,wf (X.inSuite x) E0 m (b₀::suite) Q)(hc:∀L∈cs,∃C,W.nsIn X.K 000 L=! ! .ref C/\W.subIn X.K (.ref C) (.ref U)=!6)(M:(c==("__debug__":Str))=7:=by decide):
 QS X E m (.Try f [.ExceptHandler (! .Name c R) (!n) (b₀::suite) S] [] [] pos) (AS cs j g Q):=
 PS.weak (Oe (ts:=kK X.K E0 m Q) A G I hb ex J hN hj hk hs M) λT Z H zh=>by
  let(B F sd,r,n):=zh;rw[jh B F sd (r,?_)];unfold AS at n
  induction hq:g sd with
  |ok o=>rw[hq]at n;rw[n]
  |no=>rw[hq]at n;rw[n.elim]
  |ex L fs=>
   rw[hq]at n;let(hm,d,M,n):=Oi n;intro cv a F2 H2 e h;let(w,h1,Y,h3):=h;let(-C,N,i):=hc L hm;rw[N]at Y;cases Y;rw[(w,h1,i,λx O=>?_)];let(o,ho,hi):∃o,Gn w a x o/\IsD X.K (upd F2 x o) d (.ref x):=by
    obtain⟨_,rfl⟩|⟨n,P,rfl⟩:=M
    .rw[(_,.inl 9,qy.mpr (x,w,9,N,JE))]
    .rcases h3 with z|⟨p,n',hf',rfl,hp⟩
     .rw[z]at P;cases P
     .rw[P]at hf';cases hf';let R:p≠x:=λz=>by rw[<-z,e.fh _ _ hp]at O;cases O
      rw[(_,.inr (p,9,9),qh.mpr<|jh x w p (9,N,JE,(J6 R).trans hp))]
   let y:=Ext.alloc e.fh O o;rw[(o,ho,B,_,_,((r.step e).step y).setVal hi,?_)];rw[(Res.need_strict<|Res.need_bind n).mono (λo q=>?_) λ_ _ q=>q];let q:wn X.K m B F T (Xx j o):=q
   cases(o)with
   |next l=>rw[λZ' s t u v=>q _ s t ((e.ff.trans y.ff).trans u)<|v.drop j]
   |brk l=>rw[λZ' s t u v=>q _ s t ((e.ff.trans y.ff).trans u)<|v.drop j]
   |cont l=>rw[λZ' s t u v=>q _ s t ((e.ff.trans y.ff).trans u)<|v.drop j]
   |ret d=>rw[q]
end L2.DL
namespace L2
def Ol         (f:v ≠ .builtin "__main__.__loader__#opaque")(e:W.Looks (model b w) s.heap (typeOf v) (.ref C))(c:W.Looks (model b w) s.heap (isSubtype (.ref C)<|.type T) 6)
 (d:typeOf (.type T)=pure (.type "type"))(h:Q (.bool 6) s):Yt b w A (call (.builtin "isinstance") [v,.type T]) Q E s:=by
 calc call_isinstance_of ?_ f;unfold Builtin.«isinstance.nested»;calc Za (m:=typeOf v)<|e.here ?_;rw[(Ze λq=>by cases Yi.mp q),];calc Za (m:=typeOf<|.type T)<|wpAny_of_eq d ?_;show wpAny _ _ (if(Value.type "type"==Value.type "type")=6 then _ else _) _ _ s;rw[Zd (by decide),];calc Za<|Za (m:=isType<|.type T)<|Zb (a:=6) ?_;calc Za (m:=isInstance v<|.type T)<|W.Looks.here (W.Looks.andThen e c) ?_;calc Zb (a:=6)<|Zb h
def Om:bootBuiltins "ValueError"=! .type "ValueError":=by decide+kernel
end L2
namespace L2.DL
def VE   (b:W.nsIn X.K 000 c=! ! .ref C)(a:X.mg c=! .ref C)(d:Gl X c)(e:(c==("__debug__":Str))=7:=by decide):QE X E (.Name c f) (dC<|.ucl c):=
 Xp (v:=.ref C) (λY s Z H Q I h=>W1 I d a (.ref C,H,I,9,h) e) λF=>qN.mpr (C,9,b)
theorem Go :∀(a:List Bool)(c:Yd),j4 (a.map V.bl) c->∃d,ReadsAll h c (a.map PyData.bool) d
 |[],c,r=>by cases r;rw[(_,.nil)]
 |b::a,c,r=>by
  cases r with
  |cons e f=>
   let(bs,g):=Go a _ f;obtain rfl:_=Value.bool b:=e;rw[(_,.cons (.bool b) g)]
theorem Gp:∀(a:List Bool),PyData.canLayAll0 (a.map PyData.bool)=6/\PyData.depthAll (a.map PyData.bool)<=1
 |[]=>by ext PyData.canLayAll0 PyData.depthAll;rw[(9,Um _)]
 |b::a=>by
  let(c,d):=Gp a;rw[Zl,];ext PyData.canLayAll0 PyData.depthAll;rw[c,];rw[(by ext PyData.canLay0;rfl,Nat.max_le.mpr (?_,d))];ext PyData.depth;rw[Um _]
theorem Gq:∀(a b:List Bool),PyData.eqvAll (a.map PyData.bool) (b.map PyData.bool)=(a==b)
 |[],[]=>by ext PyData.eqvAll;rfl
 |[],_::_=>by rw[Zl,List.map_nil];ext PyData.eqvAll;rfl
 |_::_,[]=>by rw[Zl,List.map_nil];ext PyData.eqvAll;rfl
 |x::a,y::b=>by
  rw[Zl,Zl];ext PyData.eqvAll;rw[Gq a b,];ext PyData.eqv;rfl
def Oo  {K:aa}      (ok:xy P w H h)(f:ju F H)(g:VV d=!a)(i:IsD K F d v)(r:jz v u):∃c,Reads h u (.list<|a.map PyData.bool) c:=by
 let(-l,rfl,j):=FP g i;obtain rfl:u=Value.ref l:=r;let(_,b,o,m,e):=(j.same f).ok ok;let(c,n):=Go (h:=h) a b m;rw[(_,.list e 9 9<|by simpa using n)]
def Op(a:List Bool):(PyData.list<|a.map PyData.bool).canLay0=6/\(PyData.list<|a.map PyData.bool).depth<=2:=by
 let(b,c):=Gp a;ext PyData.canLay0 PyData.depth;rw[(b,())]
end L2.DL
namespace L2
def tR(x:Str):It:=(λi _=>i<x.cps.size,λi H y a=>a=H/\∃c,x.cps[i]?=!c/\y=.str ⟨#[c]⟩,λi _=>x.cps.size<=i)
def Oq  {K:aa} (a:Addr)(x:Str)(t:Tok):Turn P w K N (tR x) [a] a λi h=>h.IsStrIter a "str_ascii_iterator" x t i where
 mem:=by simp
 obj:=λi h st b f=>by
  let(-o,z,_,O):=st
  ext
 keep:=λi h m st k=>yg st λo=>jD λz r=>(o,k a () o z,r)
 item:=by
  intro X B C F A i Y s Z H E I l st g;let(!n,p,G,u,v,y):=l a ();let g:i<x.cps.size:=g;rw[wpAny_pyNext_ascii_item st (c:=x.cps[i]) () λm j J=>?_];let L:Inv X Y Z H {s with heap:=m,toks:=s.toks+1}:=I.turned (λb o f e=>(J.2 b f).trans e) n p u v y;let(-o,e,c,d):=id j;rw[(_,9,YL e c d (by decide) (.str ⟨#[x.cps[i]]⟩,H,L,(_,9),(9,_,(),9),j,λb f=>(l b f).1))]
 done:=by
  intro X B C F A i Y s Z H E I l st g;let(!n,p,G,u,v,y):=l a ();let g:x.cps.size<=i:=g;rw[wpAny_pyNext_ascii_end (I.ok.hd A) st (by simp[g]) λm M=>(9,I.turned (λb o f e=>M b o f e) n p u v y)]
 self:=λ_ _ _ _ _ st h=>wpAny_pyIter_striter_ascii st h
def f8(a:TE):TI:=λZ H R=>a Z H λy b=>∃x,y=.str x/\x.cps.all (·<128)=6/\R (tR x) b
def Ot  (d:PE X l f):PI X p l (f8 f):=by
 intro Y s Z H R I h;rw[jF (d Y s Z H _ I h) λv a=>jy λy g=>j5 λc i j=>?_];let(-x,rfl,m,q):=j;let(t,rfl):=i;rw[wpAny_pyIter_ascii m<|jE a⁻¹ [a⁻¹] _ _ g (9,c.kept λb o e=>Zq _ e,Oq _ x t,(_,Zr _ 9,9,9),λb n=>?_,q)];let e:b=a⁻¹:=by simpa using n
 subst e;rw[c.fpOk (Zf _)<|c.hok.fresh<|Zf _]
def Ou {lo n:02 Expr}   (A:PE X e B)(C:PO X lo E)(F:PO X n th):
 PE X (.Subscript e (.Slice lo n 8 G) J) λZ H Q=>B Z H λx o=>E Z o λl p=>th Z p λu g=>∃z,x=.str z/\⇑z<=00/\Q (.str<|Txt.slice z l u) g:=by
 intro Y s Z H Q I h;rw[Subscript_<|jF (A Y s Z H _ I h) λv L=>jy λx o=>j5 λM N O=>?_];rw[wpAny_Slice<|jF (C Y L Z o _ M O) λj P(l,p,R,pl,S)=>jF (F Y P Z p _ R S) λm a(u,g,T,U,q3)=>?_];let(z,rfl,hz,q):=q3;let(t,rfl):=N;rw[evalPart_none,];rw[Zb ?_];let w:Inv X Y Z g {a with heap:=a.heap.push {cls:=.type "slice",data:=.fields #[j,m,.none]}}:=T.kept (t':=a.toks) λb ob q=>Zq _ q;show Ys X (subscriptTail e (.Slice lo n 8 G) (.str z t)<|.ref a⁻¹) (EP X Y Z Q) X.xe {a with heap:=a.heap.push {cls:=.type "slice",data:=.fields #[j,m,.none]}}
 suffices fin:Ys X (getItem (.str z t)<|.ref a⁻¹) (EP X Y Z Q) X.xe {a with heap:=a.heap.push {cls:=.type "slice",data:=.fields #[j,m,.none]}}by
  rw[tail_any (ops:=[.ref a⁻¹,.str z t]) (typeIs_str _ z t) slot_str_getitem.lookup fin<|by with_unfolding_all rfl]
 let(d,hl'):∃d:02 (3×Tok),j=partValue d/\d.map (·.1)=l:=by
  cases(pl)with
  |none=>rw[(8,9,9)]
  |int i t=>rw[(!%[i|t],9,9)]
 let(f,hu'):∃f:02 (3×Tok),m=partValue f/\f.map (·.1)=u:=by
  cases(U)with
  |none=>rw[(8,9,9)]
  |int i t=>rw[(!%[i|t],9,9)]
 rw[wpAny_getItem_str_slice (l:=d) (u:=f) (st:=8) (_,Zr _ 9,9,by rw[hl'.1,hu'.1];rfl) 9 ?_];let y:=Txt.slice_le z l u;let es:Txt.slice z l u=if((1:3)==1&&⇑(slicePicked z d f 8)==⇑z)=6 then z else⟨((slicePicked z d f 8).filterMap (z.cps[·]?)).toArray⟩:=by
  ext Txt.slice slicePicked;rw[hl'.2,hu'.2];rfl
 ext sliceMade;rw[es]at q y;cases c:((1:3)==1&&⇑(slicePicked z d f 8)==⇑z)=6
 .rw[Zd c]at q;let r:(((8:02 (3×Tok)).map (·.1)).getD 1==1&&⇑(slicePicked z d f 8)==⇑z)=6:=c;rw[Zd r,];rw[(.str z,g,w,(_,9),q)]
 .rw[Ze c]at q y;let r:¬(((8:02 (3×Tok)).map (·.1)).getD 1==1&&⇑(slicePicked z d f 8)==⇑z)=6:=c;rw[Ze r,];rw[((),.str _,g,w.tok _,(_,9),q)]
def Ov(B:X.A.units+64<cLine)(b:Bool):xD X (compareOp<|if b then .NotIn else .In) λx y H Q=>∃(d:DL.D)(a:Yg)(p:Addr),DL.IsD X.K H d x/\DL.plN 12 d=6/\(a.map DL.D.str).all (DL.plN 12)=6/\y=.ref p/\yn X.K H p (a.map V.str)/\
 Q (.bl<|if b then not<|(a.map DL.D.str).any<|λe=>DL.sameD e d else(a.map DL.D.str).any λe=>DL.sameD e d) H:=by
 intro Y s Z H x y v u Q I j l f;let(d,a,p,id,m,g,n,o,q):=f;subst n;obtain rfl:=l;let(-c,ri,pl,C):=I.tuple o;let r:∀a:Yg,DL.IsDs X.K H (a.map DL.D.str) (a.map V.str):=λa=>by
  cases(a)with
  |nil=>rw[.nil]
  |cons w a t=>rw[.mk 9 t]
 let(z,h):=DL.any_eq (A:=X.A.in1) (by show X.A.units+1+60<cLine;lia) I.hok m id j g (r a) ri;let i:c.toArray.any (DL.eqTo X.K H d)=(a.map DL.D.str).any λe=>DL.sameD e d:=by
  rw[show c.toArray.any (DL.eqTo X.K H d)=c.any (DL.eqTo X.K H d)by simp,DL.any_map',z,<-DL.any_map']
 cases(b)with
 |true=>
  rw[SeqAt.notIn_tupleAt (DL.eqTo X.K H d) pl (λw g=>h w<|by simpa using g) (.bl _,H,I,9,?_)]
  rwa[i,]
 |false=>
  rw[SeqAt.in_tupleAt (DL.eqTo X.K H d) pl (λw g=>h w<|by simpa using g) (.bl _,H,I,9,?_)]
  rwa[i,]
end L2
namespace L2.DL
def wO(x:Str):Bool:=x.cps.all (·<128)
def vB(x:Str):Yq:=x.cps.toList.map λc=>.str ⟨#[c]⟩
def vv(f:FE):FA:=λsd=>(f sd).bind λd=>match d with
 |.str x=>if wO x=6 then .ok (vB x)else .no
 |_=>.no
@[simp]def nL(f:FE)(sd:SD):vv f sd=(f sd).bind λd=>match d with
 |.str x=>if wO x=6 then .ok (vB x)else .no
 |_=>.no:=rfl
def xO(a:Bool):D->D->Yr
 |.str c,.str x=>!(.bl<|if a then not<|not<|(Builtin.Str.occurrences x c 0 ⇑x 1).isEmpty else not<|(Builtin.Str.occurrences x c 0 ⇑x 1).isEmpty)
 |_,_=>8
def AT(a:Bool)(c:5)(x:Str):xO a (.str ⟨#[c]⟩) (.str x)=!(.bl<|if a then not<|decide<|c∈x.cps.toList else decide (c∈x.cps.toList)):=by
 show some (D.bl<|if a then not<|not<|(Builtin.Str.occurrences x ⟨#[c]⟩ 0 ⇑x 1).isEmpty else not<|(Builtin.Str.occurrences x ⟨#[c]⟩ 0 ⇑x 1).isEmpty)=_;rw[PySem.StrLaws.found_one,]
def vy:Yq->Yr
 |[.int i]=>if Nat.ble i.natAbs.log2 1900 then !(.str<|toString i)else 8
 |_=>8
def u0:D->02 3->02 3->Yr
 |.str x,l,u=>if ⇑x<=00 then !(.str<|Txt.slice x l u)else 8
 |_,_,_=>8
def uD(a:FE)(b c:FO):FE:=λsd=>(a sd).bind λd=>(b sd).bind λl=>(c sd).bind λh=>.ofO<|u0 d l h
@[simp]def sS(a:FE)(b c:FO)(sd:SD):uD a b c sd=(a sd).bind λd=>(b sd).bind λl=>(c sd).bind λh=>.ofO<|u0 d l h:=rfl
section
variable     {lo hi:02 Expr}
def Gr(h:QE X E e m):QI X E C e (vv m):=PI.weak (Ot h) λZ H R o=>by
 let(B F sd,r,n):=o;rw[jh B F sd (r,(Res.need_bind n).mono (λd a v g p s t=>?_) λ_ _ q=>q)];cases d with
 |str x=>
  let a:(if wO x=6 then Res.ok (vB x)else Res.no).need (λu=>∀J j b,Ext F H j b->wc X.K j J u->R J b) (XW X.K E F H):=a
  split at a
  .rename_i w;let z:∀l:Yf,IsDs X.K g (l.map λc=>D.str ⟨#[c]⟩) (l.map λc=>V.str ⟨#[c]⟩):=λl=>by
    cases(l)with
    |nil=>rw[.nil]
    |cons c l A=>rw[.mk (jg.mpr 9) A]
   rw[(x,jg.mp t,w,a (tR x) g p s<|AI (S:=λ_=>True) (z _) () (λi H y _ f=>?_) (λi H _ hi=>?_) λi H y b _ f=>?_)]
   .let:=(Ja.mp f).1
    rwa[Zql,Up]at this
   .rwa[Zql,Up]at hi
   .let(G,c,I,L):=f
    ext
  .rw[a.elim]
 |_=>rw[a.elim]
def Gs(a:Bool):yH X (compareOp<|if a then .NotIn else .In) (xO a):=by
 intro Y s Z H x y v u Q I g h b;let(F,d,e,z,i,id,m,f,q):=b;cases d with
 |str c=>
  cases e with
  |str t=>
   obtain rfl:=Zqi f;let j:=jg.mp id;let l:=jg.mp m
   cases(a)with
   |true=>rw[LU Y s Z H x y v u Q I g h (c,t,j,l,q _ F H (.refl i)<|zo _ F)]
   |false=>rw[LS Y s Z H x y v u Q I g h (c,t,j,l,q _ F H (.refl i)<|zo _ F)]
  |_=>rw[J2 f]
 |_=>rw[J2 f]
def CO:yH X (compareOp .In) (xO 7):=Gs 7
def Ow:yH X (compareOp .NotIn) (xO 6):=Gs 6
def bV:qu X (.type "str") (zz X.K vy):=qu.weak Ma λg H Q b=>by
 let(F h z,c,id,a,q):=b;unfold vy at a
 split at a
 .rename_i i
  split at a
  .rename_i d;obtain rfl:=Zqi a;let(j l,e,f,id):=ji.mp id;subst id e;rw[(i,by rw[je.mp f,],UP (UM.mp d)<|by decide,q _ F H (.refl c)<|jg.mpr 9)]
  .rw[J2 a]
 ext
def Ox (f:QE X E e g)(i:QO X E lo j)(m:QO X E hi o):QE X E (.Subscript e (.Slice lo hi 8 M) p) (uD g j o):=PE.weak (Ou f i m) λZ H Q s=>by
 let(B F sd,r,n):=s;rw[jh B F sd (r,(Res.need_bind n).mono (λd t v u N b w=>?_) λ_ _ q=>q)];rw[jh B u sd (r.step b,(Res.need_bind t).mono (λl y A O c=>?_) λ_ _ q=>q.ext b)];rw[jh B A sd ((r.step b).step c,(Res.need_bind y).mono (λh C G I J=>?_) λ_ _ q=>q.ext<|b.trans c)];let(z,a,q):=jk C;cases d with
 |str x=>
  let a:(if ⇑x<=00 then !(D.str<|Txt.slice x l h)else 8)=!z:=a
  split at a
  .rename_i L;obtain rfl:=Zqi a;rw[(x,jg.mp w,L,q _ G I ((b.trans c).trans J)<|jg.mpr 9)]
  .rw[J2 a]
 |_=>rw[J2 a]
def AU  (a:X.mg x=! .str v t)(b:Gl X x)(c:(x==("__debug__":Str))=7:=by decide):QE X E (.Name x d) (dC<|.str v):=Xp (Eg (v:=.str v) b a (t,9) c) λF=>jg.mpr 9
structure KTup(K:aa)(mg:Yc)(x:Str)(ws:Yg):4 where
 ex:∃p,mg x=! .ref p/\∀H,yn K H p (ws.map V.str)
def Oy{K:aa} {a:Yg}    (i:∀H,yn K H p (a.map V.str))(h:tD K E (jd (x8 b) j<|dC<|.tup<|a.map .str) Z H Q):
 ur (λx y H Q=>∃(d:D)(a:Yg)(p:Addr),IsD K H d x/\plN 12 d=6/\(a.map D.str).all (plN 12)=6/\y=.ref p/\yn K H p (a.map V.str)/\
 Q (.bl<|if b then not<|(a.map D.str).any<|λe=>sameD e d else(a.map D.str).any λe=>sameD e d) H) (tD K E j) (tC<|.ref p) Z H Q:=by
 let(B F sd,r,n):=h;rw[jh B F sd (r,(Res.need_bind n).mono (λx l v m o g s=>?_) λ_ _ q=>q)];let(z,c,q):=jk l;let c:(if plN 12 x&&(a.map D.str).all (plN 12)then !(D.bl<|if b then not<|(a.map D.str).any<|λe=>sameD e x else(a.map D.str).any λe=>sameD e x)else 8)=!z:=c
 split at c
 .rename_i f;rw[Uc]at f;obtain rfl:=Zqi c;rw[jh x a p (IsD.same g.fh _ _ s,f.1,f.2,9,i _,q _ m o g<|jp.mpr 9)]
 .rw[J2 c]
def Oz  (b:X.A.units+64<cLine)(k:KTup X.K X.mg g ws)(c:Gl X g)(d:QE X E a e)(f:(g==("__debug__":Str))=7:=by decide):QT X E (.Compare a [.In] [.Name g p] i) (Jz<|jd (x8 7) e<|dC<|.tup<|ws.map .str):=by
 let(-q,j,l):=k.ex;rw[PT.weak (A0 (Ov b 7) d (Eg (v:=.ref q) c j 9 f) 9) λZ H Q h=>Oy l<|VB h]
def Yx    (p:xD X (compareOp j) (wF X.K g))(i:xD X (compareOp f) (wF X.K r))(t:QE X E a w)(A:QE X E b B)(C:QE X E c F)
 (G:lastMarks [j,f] [b,c]=7:=by with_unfolding_all rfl):QT X E (.Compare a [j,f] [b,c] J) (Jz<|Kd g r w B F):=PT.weak (by
  intro Y s Z H Q I h;rw[isTrue_chain (jF (t Y s Z H _ I h) λv L=>jy λx M=>j5 λN O P=>test_link<|jF (A Y L Z M _ N P) λu R=>jy λy S=>j5 λT l U=>
   jF (p Y R Z S x y v u _ T O l U) λd s3(z,m,n,r3,k,e,o)=>?_) G]
  subst e;cases r3;rw[wpAny_truthy_bool ?_]
  cases(k)with
  |false=>
   let(-k',e',q'):=o;cases e';rw[ite_ff (m,n,q')]
  |true=>
   rw[ite_tt<|test_last<|jF (C Y s3 Z m _ n o) λw' s4=>jy λz' H4=>j5 λI4 r4 q4=>jF (i Y s4 Z H4 y z' u w' _ I4 l r4 q4) λd' s5(z2,H5,I5,r5,k2,e2,q5)=>?_];subst e2;cases r5;rw[wpAny_truthy_bool (H5,I5,q5)]) λ_ _ _ h=>Gj<|VB h
end
structure ClsD(K:aa)(mg:Yc)(c:Str)(C:Addr)(fs:Yg):4 where
 ns:W.nsIn K 000 c=! ! .ref C
 mgc:mg c=! .ref C
 cls:Cls K C
 no:∀f∈fs,w5 K C f
def zX(f:Str):Yg->Yq->Yr
 |g::a,d::b=>if g=f then !d else zX f a b
 |_,_=>8
theorem CP{K:aa}  :∀{fs:Yg}{b:Yq}{a:Yp}{d:D},IsDs K H b a->⇑fs=⇑a->zX f fs b=!d->∃x,(fs.zip a).lookup f=!x/\IsD K H d x
 |[],b,a,d,_,_,h=>J2 h
 |g::c,[],a,d,i,l,h=>by
  simp_all[IsDs.nil_iff]
 |g::c,e::b,a,d,i,l,h=>by
  let(x r,rfl,m,j):=ji.mp i;unfold zX at h;rw[Vi,];cases q:g=f
  .ext
  .rw[Ze q]at h;let(-y,n,o):=CP j (by simpa using l) h
   grind
def jA(c f:Str):D->Yr
 |.ins c' fs ds=>if c'=c then zX f fs ds else 8
 |_=>8
def Qu   (k:ClsD X.K X.mg c C fs)(m:f∈fs)(o:QE X E e p)(s:attributeBase e f X.env (eval e X.env)=eval e X.env:=by rfl):QE X E (.Attribute e f t) (jJ (jA c f) p):=PE.weak (E8 o s) λZ H Q u=>by
 let(B F sd,r,n):=u;rw[jh B F sd (r,(Res.need_bind n).mono (λd w v y A b G=>?_) λ_ _ q=>q)];let(-z,g,q):=jk w;cases d with
 |ins h I J=>
  let i:(if h=c then zX f I J else 8)=!z:=g;cases j:h=c
  .rw[Zd j]at i;subst j;let(a S L T,rfl,l,M,N,O):=jN.mp G;rw[k.ns]at l;cases l;let(-x,P,R):=CP O N i;rw[jE a C L _ x (9,b.fh _ _ M,k.cls,k.no f m,P,q _ y A b R)]
  ext
 |_=>rw[J2 g]
theorem CQ(f)(v):∀fs:List (Str×V),f∉fs.map (·.1)->xo f v fs=fs++[%[f|v]]
 |[],_=>9
 |%[g|x]::r,h=>by
  rw[Zl,Ux,not_or]at h;show(if g=f then%[g|v]::r else%[g|x]::xo f v r)=_;rw[Ze λz=>h.1 z.symm,CQ f v r h.2];rfl
def tI(K:aa)(c:Str)(names:Yg)(g:FA):TS:=λT Z H=>∃B F sd x C j fs e b,RS K B F H sd Z/\(∀(i:5)(p:Bool)(d:D),sd[i]? ≠ ! ! SV.own p d)/\Z[0]?=! ! .ref x/\B.H0 x=8/\F x=8/\W.nsIn K 000 c=! ! .ref C/\H x=!(.ins C j<|fs.zip e)/\⇑fs=⇑e/\(fs++names).Nodup/\⇑(fs++names)<900/\IsDs K F b e/\
 (g sd).need (λl=>∀f h a,Ext B.F0 B.H0 f h->f x=8->h x=!(.ins C j<|(fs++names).zip a)->⇑(fs++names)=⇑a->IsDs K f (b++l) a->T.nx Z h) (XW K E0 B.F0 B.H0)
def Gu:xR X [] (tI X.K c [] jb):=xR.weak Cc λT Z H f=>by
 let(B,F,sd,x,C,g,fs,h,b,r,o,p,s,i,t,j,l,u,v,m,n):=f;let n:∀d e a,Ext B.F0 B.H0 d e->d x=8->e x=!(.ins C g<|(fs++[]).zip a)->⇑(fs++[])=⇑a->IsDs X.K d (b++[]) a->T.nx Z e:=n;simp at n;rw[n F H h r.ext i j l m]
def AV(k:ClsD X.K X.mg c C fs)(L:f∈fs)(M:PE X o (zl 0))(N:QE X E0 e O)(P:xR X Q (tI X.K c names g))(R:swapsWith e (! .Attribute o f i) p.line X.env=pure 7:=by rfl):
 xR X (.Assign [.Attribute o f i] e p::Q) (tI X.K c (f::names)<|Ju O g):=xR.weak (Cd (E9 M N R) P) λT Z H S=>by
 let(B,F,sd,x,s,z,b,j,t,r,U,A,E,Y,u,G,I,hn,hm,hi,n):=S;rw[jh B F sd (r,(Res.need_bind n).mono (λd n1 v J H1 m i1=>?_) λ_ _ q=>q.ext r.ext)];let c1:s=C:=by
  rw[k.ns]at u;cases u;rfl
 subst c1;let w:=m.hh _ _ G;let l:J x=8:=m.new x Y (by rw[G,];simp);let lz:(b.zip j).map (·.1)=b:=by rw[List.map_fst_zip (),]
 let hfn:f∉b:=by grind
 let ll:⇑(b.zip j)<1000:=by
  grind
 rw[(.ref x,A,x,s,z,_,9,w,k.cls,k.no f L,ll,?_)];rw[CQ f v _ (by rwa[lz,]),];let ez:b.zip j++[%[f|v]]=(b++[f]).zip (j++[v]):=by rw[List.zip_append I,];rfl
 rw[ez,];let h:=r.step m;rw[zR B J sd x s z (b++[f]) (j++[v],t++[d],((h.ext.ff,λa o e=>?_,λa o e=>?_,h.ext.new),h.len,h.val,(),()),U,A,E,l,u,JE,by simp[I],by simpa using hn,by simpa using hm,IsDs.snoc (IsDs.same m.ff _ _ hi) i1,(Res.need_bind n1).mono (λds n2 F2 H2 y e2 f2 q1 q2 q3=>?_) λ_ _ q=>q)]
 .rw[J6 (KL e l),];rw[h.ext.fh _ _ e]
 .rw[J6 (KL e E),];rw[h.ext.hh _ _ e]
 .rw[n2 F2 H2 y e2 f2 (by simpa using q1) (by simpa using q2)<|by simpa using q3]
def d8(K:aa)(c:Str)(names:Yg)(h:Yq->Res Yq):Sp:=λi H Q _=>∃F e x C f g,ju F H/\i=.ref x::g/\IsDs K F e g/\F x=8/\W.nsIn K 000 c=! ! .ref C/\H x=! .ins C f []/\
 (h e).need (λj=>∀a b d,Ext F (yR H x) a b->a x=8->b x=!(.ins C f<|names.zip d)->⇑names=⇑d->IsDs K a j d->Q .non b) (XW K E0 F<|yR H x)
def wE(n b:5)(g:FA)(a:Yq):Res Yq:=if ⇑a+1=b then g (8::JN (n-1) a)else .no
def we{K:aa}     (s:ju F H)(h:IsDs K F b g):
 RS K (F,yR H x,λ_=>8) F H (8::JN ⇑N b) (some (.ref x)::L2.start N g)/\∀(i:5)p d,(8::JN ⇑N b:SD)[i]? ≠ ! ! SV.own p d:=by
 let c:=RS.start (N:=N) s h;let f:∀(i:5)p d,(8::JN ⇑N b:SD)[i]? ≠ ! ! SV.own p d:=λi p d q=>by
  cases(i)with
  |zero=>cases q
  |succ i=>
   let(-l,_,n,_,j,_):=c.own q;let(o,r):=j.has
   ext
 rw[(((.refl _,s,λa o e=>by
  simp_all[yR],λ_ e _=>e),by simp[c.len],λ{i d}q=>?_,λq=>Zn q<|f _ _ _,λ_ q _ _=>Zn q<|f _ _ _),f)]
 cases(i)with
 |zero=>cases q
 |succ i=>rw[c.val q]
section
variable   {K:aa}    {st:Stmt}
def hX   (F:Fun K x d st f p)(S:FnScope (y::N) m (Qe st))(t:names.Nodup)(u:⇑names<900)
 (v:∀b A a s H E,Room k (A.deeper<|envOfC d (Qe st) s⁻¹ f b)->xR (qk yt P w K z j (y::N) d (Qe st) f b A a s H E).nox (Kn st) (tI K c names g)):
 FnOk P w K z j yt (k+1) f p m (d8 K c names<|wE ⇑(y::N) ⇑m g):=by
 rw[F.ok S (λB H Q E=>vl λF G x C o l=>uw λ_ e i _ _ _ n=>?_) λb A a s H B Q E I=>vl λF G x C o l=>uw λJ e i L M O n=>(_,v b A a s H E I,?_)]
 .unfold wE at n
  split at n
  .rename_i h;rw[e,<-h,Zu,⇑i]
  .rw[n.elim]
 .subst e;unfold wE at n
  split at n
  .let R:L2.start (y::N) (.ref x::l)=some (.ref x)::L2.start N l:=by
    ext L2.start;simp
   rw[R,];let(r,T):=we J i;rw[zR _ F _ x C o [] ([],[],r,T,9,by simp_all[yR],L,M,O,9,t,u,.nil,n)]
  .rw[n.elim]
end
def tN(P:Program)(w:World)(K:aa)(b:Yc)(a:Heap)(c:Str)(names:Yg)(k:5)(d:Yg)(g:Yq->Res Yq):4:=
 ∃C f e,ClsD K b c C names/\Mk K C f/\FnOk P w K b a yt k f e d (d8 K c names g)/\zH K e d []
def bL(c:Str)(names:Yg)(a:Yq->Res Yq)(b:FA):FE:=λsd=>(b sd).bind λd=>(a d).bind λe=>.ok<|.ins c names e
def CS(K:aa)(c a:Str)(fs:Yg)(st:Stmt):4:=∃C d b,W.nsIn K 000 c=! ! .ref C/\Cls K C/\(∀f∈fs,w5 K C f)/\Mk K C d/\Fun K "__init__" a st d b
def AW(F c:Hp):4:=∀a b,c a=! .tup b->F a=! .tup b
section
variable {K:aa}  {F H F' H':Hp}
def RS.frz1C   (r:RS K B F H sd Z)(G:sd[i]?=! ! .own p d):∃F',ju F F'/\AW F F'/\RS K B F' H (sd.set i<|~~~d) Z:=by
 let(-l,I,M,J,f,_):=r.own G;let(o,e):=f.has;let O:i<⇑sd:=(Ja.mp G).1;let E:ju F (upd F l o):=Vv J o;let Q:AW F (upd F l o):=λa xs q=>by
  cases z:a=l
  .subst z;rw[JE]at q;obtain rfl:=Zqi q;cases d with
   |lst L=>let(-_,h,_):=f;ext
   |dct ks L=>let(-_,h,_):=f;ext
   |ins c fs L=>let(_ _ _,_,h,_):=f;ext
   |_=>rw[f.elim]
  .rw[J6 z]at q;rw[q]
 rw[(upd F l o,E,Q,(r.ext.ff.trans E,λb u q=>?_,r.ext.hh,λa s g=>?_),by rw[Uh,r.len],λ{j x}q=>?_,λ{j p x}q=>?_,λ{j k p1 p2 d1 d2 m}n s g R=>?_)]
 .cases z:b=l
  .simp_all[JE]
  .rw[J6 z]at q;rw[r.ext.fh _ _ q]
 .let z:a≠l:=λz=>g (by rw[z,];rw[M]);rw[J6 z,];rw[r.ext.new a s g]
 .cases z:i=j
  .subst z;let(y,_):=KR q;cases y;rw[(_,I,f.frz e J)]
  .rw[Q9 z]at q;let(-v,S,T):=r.val q;rw[(v,S,IsD.same E _ _ T)]
 .cases z:i=j
  .ext
  .rw[Q9 z]at q;let(-m,U,X,m3,Y,m5):=r.own q;let ne:m≠l:=λe=>r.apart z G q I ();rw[(m,U,X,by rwa[J6 ne,],Y.ext E λu q'=>q',m5)]
 .let z1:i≠j:=λz=>by subst z;let(y,_):=KR s;cases y
  let z2:i≠k:=λz=>by subst z;let(y,_):=KR g;cases y
  rw[Q9 z1]at s;rw[Q9 z2]at g;rw[r.apart n s g R]
theorem RS.frzC:∀(b:Yf){F:Hp}{sd:SD},RS K B F H sd Z->∃F',ju F F'/\AW F F'/\RS K B F' H (qR b sd) Z
 |[],F,sd,r=>(F,.refl _,λ_ _ q=>q,r)
 |i::b,F,sd,r=>by
  ext qR
  split
  .rename_i p d h;let(-s,e,f,g):=r.frz1C h;let(-j,l,n,o):=RS.frzC b g;rw[(j,e.trans l,λa c q=>f a c<|n a c q,o)]
  .rw[RS.frzC b r]
def CT:D->Bool
 |.tup a=>a.all Kz
 |d=>Kz d
def WH(F H b:Hp):Hp:=λa=>match H a,b a with
 |none,some (.tup c)=>! .tup c
 |_,_=>F a
theorem yI:∀{a:Yq}{b:Yp},a.all Kz=6->IsDs K F a b->IsDs K F' a b
 |[],b,_,h=>by simp_all[IsDs.nil_iff]
 |d::a,b,s,h=>by
  let(x r,rfl,c,e):=ji.mp h;rw[Uv,Uc]at s;rw[ji.mpr (x,r,9,c.scal s.1,yI s.2 e)]
theorem Gv (s:ju F H)(m:ju F i)(l:AW F i)(e:Ext i H g n):∀{f:Yq}{c:Yp},f.all CT=6->IsDs K g f c->IsDs K (WH F H g) f c
 |[],c,_,h=>by simp_all[IsDs.nil_iff]
 |d::f,c,hd,h=>by
  let(x r,rfl,b,j):=ji.mp h;rw[Uv,Uc]at hd;rw[ji.mpr (x,r,9,by
   cases d with
   |tup f=>
    let(a,c,rfl,b,j):=jm.mp b;rw[jm.mpr (a,c,9,?_,yI hd.1 j)];let b:g a=! .tup c:=b;show WH F H g a=! .tup c;ext WH
    induction h:H a with
    |none=>rw[b,]
    |some o=>
     induction q:i a with
     |none=>rw[e.new a q (by rw[h,];simp)]at b;rw[J2 b]
     |some u=>
      let:=e.ff _ _ q;rw[b]at this;obtain rfl:=Zqi this;rw[l _ _ q]
   |_=>rw[b.scal hd.1],Gv s m l e hd.2 j)]
def CU:D->Bool
 |.lst a=>a.all CT
 |_=>7
def ZI(a:Yf)(f:FE):FE:=λsd=>(f<|qR a sd).bare.bind λd=>if CU d then .ok d else .no
def rq   (h:ut K E0 (ZI j m) Z H Q):ut K E0 m Z H Q:=by
 let(B F sd,r,n):=h;let(-p,s,t,u):=r.frzC j;rw[jh B p _ (u,(xE r.ext.fh<|Res.need_bind n).mono (λd f l v w e b g y=>?_) λc fs q=>q)]
 split at f
 .rename_i i;cases d with
  |lst E=>
   let(-z,A,C):=y;rw[f l (WH F H v) w (by
    rw[(λa o q=>?_,λa o q=>?_,e.hh,λa G I=>?_)]
    .ext WH
     rwa[r.ext.fh _ _ q,]
    .unfold WH at q
     split at q
     .rename_i b g;obtain rfl:=Zqi q;rw[e.fh _ _ g]
     .rw[e.hh _ _<|r.ext.fh _ _ q]
    simp_all[WH]) b ?_ (z,A,Gv r.ext.fh s t e i C)]
   ext WH;rw[b,g]
   induction q:F l with
   |none=>rfl
   |some o=>rw[r.ext.fh _ _ q]at b;cases b
  |_=>rw[JP i]
 .rw[f.elim]
end
def O0(w:Yf)(N:Yg)(cap:List (02 5))(j:X.N.Nodup)(l:X.N[z]?=!y)(n:zO X.env.scope y)(A:X.calm=6)(o:VA a X.env N X.N cap=6)(B:QI X E0 p b E)
 (F:∀d C s H ex,QG (Qj X a N d C s H ex) p t)(G:∀d C s H ex,QT (Qj X a N d C s H ex) E0 c J)(L:∀d C s H ex,QE (Qj X a N d C s H ex) E0 g f)(r:swapsWith (.ListComp g [(p,b,[c],0)] a u) (! .Name y M) i.line X.env=pure 6:=by rfl)
 (v:X.fn y=6\/X.env.scope.names.lookup y=!.local:=by trivial)(O:∀x,foldedSetIterable b X.env x=pure x:=by intro _;rfl):
 QS X E0 m (.Assign [.Name y M] (.ListComp g [(p,b,[c],0)] a u) i) (xH z<|ZI w<|ZE cap E t J f):=PS.weak (by
  intro Y s Z H Q I h;rw[exec_Assign_Name_used _ _ _ _ r,];rw[Za<|wpAny_standAt<|Za<|Za<|Zc (MW N cap A o B F G L O I h<|FD j l n v) (λ_ R P=>Zb<|Zb P) λ_ _ e=>e]) λT Z H h=>N5 (λ_ _ _ q=>Ny<|rq q) h
abbrev FJ:=Str->SD->Res D
def qC:FJ:=λa _=>if ⇑a<=00 then .ok (.str a)else .no
def jT(x:Str)(r:FJ):FJ:=λa sd=>if(a++x).length<=00 then r (a++x) sd else .no
def yF(g:D->02 Str)(b:FE)(r:FJ):FJ:=λa sd=>(b sd).bind λd=>match g d with
 |some z=>if ⇑z<=00/\⇑(a++z)<=00 then r (a++z) sd else .no
 |none=>.no
def Ka:D->02 Str
 |.str x=>! reprText x
 |_=>8
def QJ(X:Cx)(E:XK)(c:List Expr)(f:FJ):4:=∀(Y:Yb)(s:Shared)(Z:St)(H:Hp)(a:Str)(Q:VK),Inv X Y Z H s->tD X.K E (f a) Z H Q->
 Joins (model X.prog X.w) X.A X.xe (evalEach c X.env) a (λout b=>⇑out<=00/\EP X Y Z Q (.str out b.toks) {b with toks:=b.toks+1}) s
section
variable         {k}
def ZJ:QJ X E [] qC:=λY s Z H a Q I b=>by
 let(B F sd,r,n):=b;unfold qC at n
 split at n
 .rename_i h;rw[(h,.str a,H,I.tok _,(_,9),n _ F H (.refl r.ext.fh)<|jg.mpr 9)]
 .rw[n.elim]
def WI(b:QJ X E c r):QJ X E (.Constant (.str x) k p::c) (jT x r):=λY s Z H d Q I e=>by
 let(B F sd,f,n):=e;unfold jT at n
 split at n
 .rename_i h;rw[jF (Ef Y s Z H (λy a=>y=.str x/\a=H) I (9,9)) λu g=>jy λy a=>yh λi j l m=>?_];subst l m;let(o,rfl):=j;rw[(x,o,9,h,b Y g Z a _ Q i<|jh B F sd (f,n))]
 .rw[n.elim]
def ZK(o:QE X E e p)(g:QJ X E t r):QJ X E (.FormattedValue e 114 8 G::t) (yF Ka p r):=λY s Z H a Q I v=>by
 let(B F sd,i,n):=v;rw[wpAny_FormattedValue_repr<|jF (o Y s Z H (λy c=>∃z:Str,y=.str z/\⇑(reprText z)<=00/\⇑(a++reprText z)<=00/\tD X.K E (r<|a++reprText z) Z c Q) I<|jh B F sd (i,(Res.need_bind n).mono (λd b y w c f A=>?_) λ_ _ q=>q)) λu J(y,c,j,C,z,f,l,m,q)=>?_]
 .cases d with
  |str z=>
   let b:(if(reprText z).length<=00/\⇑(a++reprText z)<=00 then r (a++reprText z) sd else .no).need (zf X.K F H Q) (XW X.K E F H):=b
   split at b
   .rename_i h;rw[(z,jg.mp A,h.1,h.2,B,w,sd,i.step f,b.mono (λd q=>q.ext f) λ_ _ q=>q.ext f)]
   .rw[b.elim]
  |_=>rw[b.elim]
 .subst f;let(L,rfl):=C;rw[wpAny_pyReprObj_str (wpAny_formatField_str (_,_,9,m,g Y _ Z c _ Q (j.tok _) q) (_,_,9,m,g Y _ Z c _ Q ((j.tok _).tok _) q) l) l]
def ZL  (h:QJ X E (a::b::c) f):QE X E (.JoinedStr (a::b::c) d) (f Str.empty):=λY s Z H Q I q=>wpAny_JoinedStr<|h Y s Z H Str.empty Q I q
end
end L2.DL
namespace L2
open PySem
def JO  (a:h.kind=.function:=by rfl)(b:h.isCoroutine=7:=by rfl)(c:h.isGenerator=7:=by rfl)(d:N.Nodup:=by decide+kernel)(e:N.take ⇑P=P:=by rfl)
 (f:∀x∈P,h.names.lookup x=!.local\/h.names.lookup x=!.cell:=by decide+kernel)(g:∀y∈h.names,y.2 ≠ .free:=by decide+kernel):FnScope N P h:=(a,b,c,d,e,f,g)
def yA   (i:5)(a:X.N.Nodup)(b:X.N[i]?=!x:=by rfl)(c:zO X.env.scope x:=by trivial)(d:X.fn x=6\/X.env.scope.names.lookup x=!.local:=by trivial):PG X (.Name x e) (Wm i):=JY a b c d
section
variable {p:Yd->Prop}
def dg(h:∀a,p [a]):∀b:Yd,⇑b=1->p b:=λb e=>by
 let(a,rfl):=List.length_eq_one_iff.mp e;rw[h a]
def uV(h:∀a b,p [a,b]):∀c:Yd,⇑c=2->p c:=λc e=>by
 cases c with
 |nil=>ext
 |cons a c=>rw[dg (p:=λc=>p<|a::c) (λb=>h a b) c<|UL e]
def df(h:∀a b c,p [a,b,c]):∀d:Yd,⇑d=03->p d:=λd e=>by
 cases d with
 |nil=>ext
 |cons a d=>rw[uV (p:=λd=>p<|a::d) (λb c=>h a b c) d<|UL e]
def rj(h:∀a b c d,p [a,b,c,d]):∀f:Yd,⇑f=04->p f:=λf e=>by
 cases f with
 |nil=>rw[Zn e<|by decide]
 |cons a f=>rw[df (p:=λf=>p<|a::f) (λb c d=>h a b c d) f<|UL e]
def dS(h:∀a b c d e,p [a,b,c,d,e]):∀f:Yd,⇑f=05->p f:=λf e=>by
 cases f with
 |nil=>rw[Zn e<|by decide]
 |cons a f=>rw[rj (p:=λf=>p<|a::f) (λb c d e=>h a b c d e) f<|UL e]
end
end L2
namespace L2.DL
section
variable    {fo fa:FE}
def Xz(fo a:FE):FE:=λsd=>(fo sd).bind λd=>match d with
 |.dct b ds=>(a sd).bind λk=>.ofO<|(Q3 k).map λq=>(ql b ds q).getD .non
 |_=>.no
@[simp]def nN(fo a:FE)(sd:SD):Xz fo a sd=(fo sd).bind λd=>(CH d).bind λo=>(a sd).bind λk=>.ofO<|(Q3 k).map λq=>(ql o.1 o.2 q).getD .non:=by
 ext Xz
 cases(fo sd)with
 |ok d=>cases d<;>rfl
 |ex c fs=>rfl
 |no=>rfl
def O1(u:X.A.units+1<cLine)(A:QE X E o fo)(C:QE X E e fa)(G:M1 X o "get" a e b):QE X E (.Call (.Attribute o "get" a) [e] [] b) (Xz fo fa):=PE.weak (MC u A C G) λZ H Q I=>by
 let(B F sd,r,n):=I;rw[jh B F sd (r,(Res.need_bind n).mono (λd i v J H1 c j=>?_) λ_ _ q=>q)];cases d with
 |dct l L=>
  rw[jO]at j;let(p M,rfl,N,O,P):=j;let m:=c.fh _ _ N;rw[(p,9,.inl (_,.inl m),B,J,sd,r.step c,(Res.need_bind i).mono (λk R w s t f S=>?_) λ_ _ q=>q.ext c)];let(-z,g,q):=jk R;let(h,T,g):=Jj.mp g;subst g;let(U,Y):=Z3 h O P;rw[(q9 (l.zip M) h,?_,?_)]
  .rw[XV T S,];rw[yo.k<|f.hh _ _ m]
  .induction hv:ql l L h with
   |none=>
    rw[hv]at q;rw[Y hv,];rw[q _ s t (c.trans f)<|j8.mpr 9]
   |some d=>
    rw[hv]at q;let(-y,hy,iy):=U d hv;rw[hy,];rw[q _ s t (c.trans f)<|IsD.same f.ff _ _ iy]
 |_=>rw[i.elim]
end
end L2.DL
namespace L2.ST
def wv(k:jR)(D:List jR):Bool:=D.any λx=>decide<|x=k
def inK_iff  :wv k D=6↔k∈D:=by
 simp_all[wv]
def stepK(D:List jR)(k:jR):List jR:=if wv k D=6 then D else D++[k]
def dedL(a:List jR):List jR:=a.foldl stepK []
def ZM(D:List jR)(k:jR):⇑(stepK D k)=if wv k D then ⇑D else ⇑D+1:=by
 ext stepK
 induction h:wv k D
 .rw[Ze (),Ze (),Ub];rfl
 .rw[Zd 9,Zd 9]
def O2(D:List jR)(k a:jR):wv a (stepK D k)=(wv a D||decide (a=k)):=by
 ext stepK;cases h:wv k D=6
 .ext
 .rw[Ze h,U2,UF,inK_iff,inK_iff,decide_eq_true_eq,List.mem_append,List.mem_singleton]
theorem Gw:∀(a D:List jR),⇑(a.foldl stepK D)<=⇑D+⇑a
 |[],D=>Zf _
 |k::a,D=>by
  let h:=Gw a<|stepK D k;rw[ZM]at h;rw[List.foldl_cons,Zu]
  split at h<;>lia
def Gx(a:List jR):⇑(dedL a)<=⇑a:=by
 let:=Gw a []
 rwa[ZC,UK]at this
theorem Gy:∀(a D:List jR),(D++a).Nodup->a.foldl stepK D=D++a
 |[],D,_=>(ZA _).symm
 |k::a,D,h=>by
  let b:k∉D:=λz=>by
   rw[List.nodup_append]at h;rw[h.2.2 k z k Zqs 9]
  let e:stepK D k=D++[k]:=Ze λz=>b<|inK_iff.mp z;rw[List.foldl_cons,e,Gy a (D++[k]) (by rw[Uq,];rw[h]),Uq];rfl
def dedL_nodup (h:a.Nodup):dedL a=a:=Gy a [] h
def O3  (h:VM k v=6):v.scannable=6:=by
 obtain⟨i,t,rfl,rfl⟩|⟨x,t,rfl,rfl⟩:=V9 h<;>rfl
abbrev y9(prog:Program)(w:World)(h:Heap)(S:Addr)(D:List jR):4:=h.SetOf (QM prog w) S (λk=>wv k D) ⇑D
def zD       (H:h.SetOf (QM a w) S T n)(e:∀k,T k=wv k D)(b:n=⇑D):y9 a w h S D:=by
 let:T=λk=>wv k D:=funext e;subst this;subst b;rw[H]
section
variable          {St:Nat->Yo}
def y9.keep   (H:y9 a w b S D)(k:∀o,b.get? S=!o->hp'.get? S=!o):y9 a w hp' S D:=by
 let(o c e t,f,r):=H;rw[jX o c e t (k _ f,r)]
def O4 (W:WalksS a w A.in1 I N B G ⇑c P St)(S:Addr)(l:S∉N)
 (m:∀i v k,P i v->c[i]?=!k->VM k v=6)(hn:⇑c<=999):
 ∀(k i:5)(s:Shared),⇑c-i=k->i<=⇑c->St i s->y9 a w s.heap S (dedL<|c.take i)->
  (∀d,Moved (S::B) G s d->y9 a w d.heap S (dedL c)->R (.ok<|.ret .none) d)->
  codeAny (model a w) A (.builtin "set.update.loop" ([.ref S,.ref I],[])) R s:=by
 let n:S∉B:=λh=>l<|W.sub _ h;let f:∀b∈B,b∈S::B:=λb p=>Zqm _ p;intro k
 cases(k)with
 |zero=>
  intro i s O Q g H C;let E:i=⇑c:=()
  subst E;rw[Uy]at H;rw[codeAny_builtin F.entry_set_update_loop ?_];rw[Around.under_plainId F.plain_set_update_loop _,];show wpAny _ A.in1 (pyNext (.ref I)>>=_) _ _ s;rw[Za<|W.done s _ _ g λd r=>?_];show wpAny _ A.in1 (ret Value.none) _ _ d;rw[Zb<|C d (r.mono f)<|H.keep λo e=>r.heap S _ n e]
 |succ k T=>
  intro i s O Q g H C;let j:i<⇑c:=()
  let t:c[i]?=!c[i]:=Zqg j;rw[codeAny_builtin F.entry_set_update_loop ?_];rw[Around.under_plainId F.plain_set_update_loop _,];show wpAny _ A.in1 (pyNext (.ref I)>>=_) _ _ s;rw[Za<|W.item i s _ _ j g λv d U u r=>?_];let J:=m i v _ U t;let X:=H.keep (hp':=d.heap) λo e=>r.heap S _ n e;show wpAny _ A.in1 (holding [v] (setAdd S v)>>=_) _ _ d;rw[Za<|wpAny_holding ?_];ext setAdd;rw[wpAny_holding ?_];rw[Za<|(QM a w).pyHash (k:=c[i]) J ?_];let hl:=Gx<|c.take i;let ht:⇑(c.take i)=i:=by rw[Ue,];lia
  rw[wpAny_setAddHashed_of (knd:=QM a w) (s:={d with toks:=d.toks+1}) J (O3 J) X (by ext scanBound;lia) λY y Z=>?_];let e1:dedL (c.take<|i+1)=stepK (dedL<|c.take i) c[i]:=by
   rw[Uw,t];ext dedL;rw[Vk,];rfl
  let H3:y9 a w Y S (dedL<|c.take<|i+1):=by
   rw[e1,];rw[zD Z (λk'=>(O2 _ _ _).symm) (ZM _ _).symm]
  rw[Zb (plainId_quiet F.plain_set_update_loop _,T (i+1) _ () j (W.frame _ d _ _ u (UV _) λb p o e=>?_) H3 λL z M=>?_)]
  .rw[y.2 b λh:b=S=>l<|by rw[<-h];rw[p],];exact e
  .calc C L (Moved.trans W.gtrans ((r.mono f).then_heap (UV _) λb o p e=>?_) z) M;rw[y.2 b λh:b=S=>p<|by rw[h,];calc Zqs,];calc e
end
def O5   (b:c.get? S=!{cls:=.type "set",dict:=8,data:=.set #[] 0 (.fresh 0 0 d)}):y9 a w c S []:=
 jX _ #[] 0 _ (b,(9,9,9),9,λe f=>by simp at f,λk=>by simp[wv],by grind[scanBound],9,9)
set_option maxRecDepth 100000 in
set_option maxHeartbeats 3200000 in
def O6{l:Addr}{a:Array Value}{p:List jR}{Q:Ya}(hh:A.handled=8)(hl:s.heap.IsList l a)(M:a.size=⇑p)
 (t:∀(i:5)(v:Value)(k:jR),a[i]?=!v->p[i]?=!k->VM k v=6)(hn:⇑p<=999)
 (h:∀(f:Heap)(J:5),y9 prog w f s⁻¹ (dedL p)->(∀b o,b<s⁻¹->↥s b=!o->f.get? b=!o)->Q (.ref s⁻¹) {s with heap:=f,toks:=J}):
 Yt prog w A (call (.type "set") [.ref l]) Q E s:=by
 let cn:=λA:Around=>NN (prog:=prog) (w:=w) (A:=A) (E:=E) (s:=s) (.ref l) (Q₁:=λobj s₁=>obj=.ref s⁻¹/\s₁={s with heap:=s.heap.push {cls:=.type "set",dict:=8,data:=.set #[] 0 (.fresh 0 0<|uz w)}}) (9,9);generalize uz w=u at cn;let(c,tl,hmro):=F.called_set.mro;let N:=F.called_set.made;let hsub:=F.called_set.sub;rw[wpAny_call<|codeAny_of_tree ?_];show wpAny _ _ (callAny (.type "set") _) _ _ _;rw[Zb (Code.quiet_builtin _<|by decide+kernel,codeAny_builtin F.entry_type_call ?_)];rw[Around.under_plain (weight_type_call_type "set" [.ref l] []) 9,];let h1:=F.called_set.notType;let h2:=F.called_set.canCreate;let hct:=F.typeCall_set_1<|.ref l
 repeat(any_goals(first|assumption|wp_step))
 rw[codeAny_mono (cn _) λr s₁ j=>?_];cases r with
 |error e=>rw[j]
 |ok O=>
  cases O with
  |ret obj=>
   let(rfl,rfl):=j;generalize d:({cls:=.type "set",dict:=8,data:=.set #[] 0 (.fresh 0 0 u)}:Obj)=no at*;let hS:(s.heap.push no).get? s⁻¹=!no:=Zr _ (by rw[<-d];rfl);let hT:Shared.TypeIs {s with heap:=s.heap.push no} (.ref s⁻¹) "set":=(_,hS,by rw[<-d]);let hli:=F.called_set.init.lookup;let hbi:=F.called_set.init.bind<|.ref s⁻¹
   repeat(any_goals(first|assumption|wp_step))
   rw[codeAny_mono (codeAny_call_builtin (R:=wants (λr s₂=>r=.none/\∃f J,s₂={s with heap:=f,toks:=J}/\y9 prog w f s⁻¹ (dedL p)/\
    ∀b o,b<s⁻¹->↥s b=!o->f.get? b=!o) E) F.called_set.init.plain F.entry_set_init<|check_set_init_1 hT ?_) λr₂ s₂ hr₂=>?_]
   .let(ol,y,z,nl,B):=hl;let(ocls,m,P,g):=ol;simp only at z B;subst z;subst B;let C:(s.heap.push no).get? l=!{cls:=.type "list",dict:=m,data:=.seq a nl,slots:=g}:=Zq _ y;let hsls:=F.sub_list_set;let hslf:=F.sub_list_frozenset;let hne:(Value.type "list"==Value.type "dict")=7:=by decide
    let G:(s.heap.push no).IsList l a:=(_,C,9,nl,9);subst d;ext Builtin.«set.__init__» noKeywords Builtin.Frozenset.updateFrom;generalize S:pyIter=PI
    wp_walk
    subst S;rw[wpAny_pyIter_list G ?_];rw[Za<|wpAny_runValue ?_];let H:l<s⁻¹:=Zk y;let T:A.in1.in1.in1.handled=8:=by simp[hh]
    generalize d:({cls:=.type "set",dict:=8,data:=.set #[] 0 (.fresh 0 0 u)}:Obj)=no at*;let n:(s.heap.push no).objs.size=s⁻¹+1:=Heap.size_push ..;let I:l≠(s.heap.push no).objs.size:=by rw[n,];rw[Zi<|Nat.lt_succ_of_lt H]
    let U:s⁻¹ ∉[(s.heap.push no).objs.size,l]:=by
     simp only[Ux,UA,or_false,not_or];rw[(by rw[n,];rw[Zi<|U3 _],UN H)]
    let W:=(Walks.list (prog:=prog) (w:=w) T _ l I a).toS;rw[M]at W;rw[O4 W s⁻¹ U (λi v k hv hk=>t i v k hv hk) hn (⇑p-0) 0 _ 9 (Um _)
     ((_,Zr _ 9,9,9),G.push _) (O5<|by rw[d,];rw[Zq _ hS]) λs' L H'=>?_]
    .let(f,g',d',X,Y):=s';let eg:g'=s.gens:=L.gens;let ed:d'=s.drawn:=L.drawn;let eo:Y=s.os:=L.os;subst eg;subst ed;subst eo;show wpAny _ _ _ _ _ _;rw[Zb ?_];show wpAny _ _ (ret Value.none) _ _ _;rw[Zb (9,f,X,9,H',λb o hb e=>?_)];rw[L.heap b o (by simp only[Ux,UA,or_false,not_or];rw[(Zi hb,by rw[n,];rw[Zi<|Nat.lt_succ_of_lt hb])])<|Zq _<|Zq _ e]
   .cases r₂ with
    |error e=>rw[hr₂]
    |ok fl₂=>
     cases fl₂ with
     |ret r=>
      let(rfl,f,J,rfl,Z,hk'):=hr₂
      repeat(any_goals(first|assumption|wp_step))
      rw[h _ _ Z hk']
     |_=>rw[hr₂.elim]
  |_=>rw[j.elim]
def AX(X:Cx)(S:Addr)(n:5):HO:=.ext λh=>∃T,h.SetOf (QM X.prog X.w) S T n
def Gz(X:Cx):Yp->Hp->VK->4:=λc H Q=>∃a b,c=[.ref a]/\Rd H a (.lst<|b.map kV)/\⇑b<=999/\∀S,H S=8->Q (.ref S) (upd H S<|AX X S ⇑(dedL b))
def G0(X:Cx):Yp->Hp->VK->4:=λa H Q=>∃S n,a=[.ref S]/\H S=! AX X S n/\n<=999/\Q (.int n) H
def call_setK(m:X.calm=6):qu X (.type "set") (Gz X):=by
 intro Y s Z H J L Q I n h;let(a p,rfl,y,A,q):=h;let(-u,rfl,B):=Kg n;obtain rfl:=B;let(-C,ri,pl,M):=I.list (.inl y);let N:=⇑ri;rw[O6 (I.ok.hd m) pl.isList () (λi v k f O=>?_) A λR S g E=>?_]
 .let(-U,c,F):=ri.get (i:=i) (x:=kV k) ();rw[List.getElem?_toArray,c]at f;obtain rfl:=Zqi f;rw[W2 (P:=X.prog) (w:=X.w) F]
 .rw[(.ref s⁻¹,upd H s⁻¹<|AX X s⁻¹ ⇑(dedL p),I.laid (λb o e=>E b o (Zk e) e) (Zf _) ?_,9,q _<|I.hok.fresh<|Zf _)];let(o j l t,d,r):=id g;rw[((_,g),(_,d),λh1 h2 z G=>?_)];let(T o j l t,d,r):=z;rw[jE T o j l t (G _ d,r)]
def call_lenK:qu X (.builtin "len") (G0 X):=by
 intro Y s Z H j l Q I b h;let(S n,rfl,c,m,q):=h;let(-u,rfl,d):=Kg b;obtain rfl:u=Value.ref S:=d;let(!(T,o,p,r,t,e,a,f,_,_,v,g,i),_,_):=show yd X.prog X.w H s.heap S (AX X S n)from I.hok S _ c;rw[call_len_set e a f g () (.int n,H,I.tok _,(_,by rw[i,]),q)]
end L2.ST
namespace L2.DL
open PySem PySem.Spec PyProof.Rows L2.ST
def ZN:Yq->Yr
 |[.lst b]=>(K0 Q3 b).bind λa=>if ⇑a<=999 then ! .int ⇑(dedL a) else 8
 |_=>8
theorem G1{K:aa} :∀{c:Yq}{a:List jR}{b:Yp},K0 Q3 c=!a->IsDs K F c b->b=a.map kV
 |[],a,b,h,i=>by
  obtain rfl:=Zqi h;rw[i]
 |d::c,a,b,h,i=>by
  let(x r,rfl,e,f):=i;let(-k,g,h):=Jg.mp h;let(-l,j,rfl):=Jj.mp h;rw[XV g e,G1 j f];rfl
def O7(h:∀{d:TA},PA X g d->PE X e (mD (G0 X)<|EA (mD (Gz X) d) kE))(i:QA X E g fr):QE X E e (jj ZN fr):=PE.weak (h i) λZ H Q j=>by
 let(B F sd,r,n):=j;rw[jh B F sd (r,(Res.need_bind n).mono (λy l A m C c o=>?_) λ_ _ q=>q)];let(z,b,q):=jk l;unfold ZN at b
 split at b
 .let(-f,p,b):=Jg.mp b
  split at b
  .rename_i s;obtain rfl:=Zqi b;let(-v,rfl,h):=QU o;rw[jx]at h;let(a G,rfl,t,u):=h;obtain rfl:=G1 p u;let I:=Gx f;rw[(a,f,9,t.same c.fh,s,λS w=>(S,_,9,JE,(),?_))];rw[q _ m _ (c.trans<|.keep c.fh w _)<|je.mpr 9]
  .rw[J2 b]
 .rw[J2 b]
end L2.DL
namespace L2
section
variable   {Z: St}
def Inv.freeze   (I:Inv X Y Z H s)(h:H d=! .dK a)(g:↥s d=!o):Inv X Y Z (upd H d<|.frz o<|.dK a) s:=by
 rw[I.step (ch:=[]) () (λb o _ _ _ e _=>e) (λb o _ _ _ e _=>(o.slots,e)) (λb o _ _ n=>?_) (λb o _ e=>(o,e)) (λb f e=>?_) (λb o u e=>?_) (λb j e=>(#[],?_)) (λm i=>i) (λb u e=>?_) I.bare]
 .rwa[J6 λz=>by simp_all,]
 .rwa[J6 λz=>by simp_all,]
 .rwa[J6 λz=>by simp_all,]
 .rw[J6 λz=>(),e];simp
 .cases nb:b=d
  .subst nb;rw[JE]at e;obtain rfl:=Zqi e;rw[(g,(I.hok b _ h).stay (λ_ _ _ q=>q) λc q=>by rwa[J6 λz=>by simp_all,] λc f q=>by rwa[J6 λz=>by simp_all,])]
  .rw[J6 nb]at e;rw[(I.hok b u e).stay (λ_ _ _ q=>q) λc q=>by rwa[J6 λz=>by simp_all,] λc f q=>by rwa[J6 λz=>by simp_all,]]
end
def tT(d:Addr)(o:Obj)(a:List (jR×V)):It:=
 (λi H=>H d=!(.frz o<|.dK a)/\i<⇑a,
  λi H v b=>∃T k x,v=.ref T/\H T=8/\b=upd H T (.tup [kV k,x])/\a[i]?=!%[k|x],
  λi H=>H d=!(.frz o<|.dK a)/\⇑a<=i)
def O8(a d:Addr)(n b i:5)(h:Heap):4:=∃ok c,IsItemIter h a d i n b ok c
theorem KV.at :∀{f:List (κ × V)}{g:List (κ × Value)}{i:5}{a:κ × V},KV f g->f[i]?=!a->∃v,g[i]?=!%[a.1|v]/\jz a.2 v:=by
 intro f g i a b;unfold KV at b
 induction b generalizing i with
 |nil=>intro e;simp at e
 |@cons p q _ _ j r l=>
  cases(i)with
  |zero=>
   intro c;simp at c;subst c;rw[(q.2,by rw[j.1,];rfl,j.2)]
  |succ i=>
   intro c;let(-v,n,o):=l (by simpa using c);rw[(v,by simpa using n,o)]
def f6  (h:VM k v=6):jz (kV k) v:=by
 obtain⟨i,t,rfl,rfl⟩|⟨x,t,rfl,rfl⟩:=V9 h
 .rw[(t,9)]
 .rw[(t,9)]
def G2  {Z:St}      (f:∀c a,o.data=.dict c a->a=m)(I:Inv X Y Z H s)(h:H d=!(.frz o<|.dK b)):
 ∃e,KV b e/\s.heap.DictAt (QM X.prog X.w) d e m:=by
 let(!i,_,_,(e,g,p,c,a,j,n,l,r)):=show yd X.prog X.w H s.heap d (.frz o<|.dK b)from I.hok d _ h;rw[i]at j;obtain rfl:=Zqi j;let:=f c a l;subst this;rw[(e,g,o,c,i,n,l,r)]
def O9:entryFor table "dict_itemiterator.__iter__"=!Builtin.«dict_keyiterator.__iter__»:=
 entryFor_alias (id':="dict_keyiterator.__iter__") (by kernel_rfl) (by rfl) (by decide+kernel)<|by kernel_rfl
def OA  {K:aa}   (d b:Addr)(o:Obj)(f:List (jR×V))(S:5)(l:∀es m,o.data=.dict es m->m=S):Turn P w K (.Tuple T kx pos) (tT d o f) [b] b (O8 b d ⇑f S)where
 mem:=by simp
 obj:=λi h st c a=>by
  let(ok,n,e):=st;rw[Jc.mp a,];rw[(_,e,λv q=>by cases q)]
 keep:=λi h h' st y=>by
  let(ok,n,e):=st;rw[xh ok n<|y b () _ e]
 item:=by
  intro X B C F a i Y s Z H E I r st G;subst B C F;let(J,L):=G;let(M,g,j):=G2 l I J;let(ok n,e):=st;let t:⇑f=⇑M:=⇑g;rw[t]at e;let(-v,hv,rv):=KV.at g (Zqg L);rw[wpAny_pyNext_items_item e j hv λN h' p O ht hz y=>?_];rw[(_,9,wpAny_letOwnedTupleGo_items (s:={s with heap:=h'}) O λU b1 u=>?_)];let u:Heap.SameBut b h' U:=u;let lt:b≠s⁻¹:=Zi<|Zk e;let I2:=I.paired (t':=s.toks) (h':=U) (ch:=[b]) (f6 p) rv r (λc a=>by rw[Jc.mp a,];rw[lt]) (u.extBut _ _ (Ne.symm lt) ht)<|λc o a q=>by
   let a:c≠b:=λz=>a (by simp[z]);rw[u.extBut c o a<|y c o a q]
  rw[(.ref s⁻¹,_,I2,9,jh _ _ _ (9,I.hok.fresh<|Zf _,9,Zqg L),xh N v<|by rw[t,];rw[b1],λc a=>?_)];rw[Jc.mp a,];rw[(J6 lt).trans (r b ()).1]
 done:=by
  intro X B C F a i Y s Z H E I r st G;subst B C F;let(J,L):=G;let(M,g,j):=G2 l I J;let(ok n,e):=st;let t:⇑f=⇑M:=⇑g;rw[t]at e;rw[wpAny_pyNext_items_end (I.ok.hd a) e j (Vj ()) λh' eb=>(9,I.turnedL (t':=s.toks) (ch:=[b]) (λc o a q=>?_) λc a=>r c a)];rw[eb c o λz=>a<|by simp[z] q]
 self:=λA i s Q E st h=>by
  let(ok n,e):=st;let R:s.TypeIs (.ref b) "dict_itemiterator":=(_,e,9);rw[wpAny_pyIter_slot R PySem.F.slot_dict_itemiterator_iter<|wpAny_call_entry PySem.F.slot_dict_itemiterator_iter R O9 ?_<|PySem.F.args_dict_itemiterator_iter_1 _];show wpAny _ _ (ret<|.ref b) _ _ s;rw[Zb (_,9,"dict_itemiterator",_,R,PySem.F.slot_dict_itemiterator_next.lookup,h)]
def gb:V->Yp->Hp->VK->4:=λx b H Q=>∃d a,x=.ref d/\b=[]/\H d=! .dK a/\∀p,H p=8->Q (.ref p) (upd H p<|Cu p d)
def OB(R:It->Hp->4):VK:=λx b=>∃p d a,x=.ref p/\b p=! Cu p d/\b d=! .dK a/\∀o,R (tT d o a) (upd b d<|.frz o<|.dK a)
def OC(K:aa)(a:TE):TI:=λZ H R=>kM K "dict" gb a Z H<|OB R
def OD      (J:PE X e L)
 (a:attributeBase e "items" X.env (eval e X.env)=eval e X.env:=by rfl)(f:(i.endLine==j.line)=6:=by rfl):
 PI X (.Tuple B kx tp) (.Call (.Attribute e "items" i) [] [] j) (OC X.K L):=by
 intro Y s Z H R I h;rw[jF (Mx PySem.F.plainAttrs_dict PySem.F.slot_dict_items PySem.F.type_dict_items (by
  intro Y s Z H x C v M Q I N O h;let(d l,rfl,rfl,P,q):=h;obtain rfl:v=Value.ref d:=N;obtain rfl:M=[]:=wd O;let(!z,lo,(S,m,E)):=A6 I.hok P;rw[call_meetsIn PySem.F.slot_dict_items E.typeIs PySem.F.entry_dict_items (PySem.F.args_dict_items_1 _) (meets_dict_items (QM X.prog X.w) d lo) ((S,E),?_)];rw[(.ref s⁻¹,upd H s⁻¹<|Cu s⁻¹ d,I.laid (t':=s.toks) (λb o e=>Zq _ e) (Zf _) ?_,9,q _<|I.hok.fresh<|Zf _)];rw[((_,Zr _ 9,9,9),(_,Zr _ 9),λh1 h2 z T=>by
   let(-o,e,r):=z;rw[(o,T o e,r)])]) J a f Y s Z H _ I h) λu t(x,H2,w,U,p,d,l,ex,hp,n,q)=>?_]
 subst ex;obtain rfl:=U;let(!g,_,_):=w.hok p _ hp;let(!_,_,(C,m,o,es,F,G,d2,d3,dr)):=A6 w.hok n;let y:t.heap.DictAt (QM X.prog X.w) d C F:=(o,es,G,d2,d3,dr);let A:=w.freeze n G;rw[wpAny_pyIter_items g y<|jE t⁻¹ [t⁻¹] _ _ _ (9,A.kept<|λb o e=>Zq _ e,OA d t⁻¹ o l F (),xh _ _<|by rw[⇑m,];rw[Zr _ 9],λc hc=>?_,q o)];rw[Jc.mp hc,];rw[A.fpOk (Zf _)<|A.hok.fresh<|Zf _]
end L2
namespace L2.DL
def f5:jR->D
 |.inl i=>.int i
 |.inr x=>.str x
def X0(a:List jR)(b:Yq):Yq:=List.zipWith (λk x=>D.tup [f5 k,x]) a b
def AY:D->Res Yq
 |.dct a b=>.ok (X0 a b)
 |_=>.no
def sC(f:FE):FA:=λsd=>(f sd).bind AY
@[simp]def tq(f:FE)(sd:SD):sC f sd=(f sd).bind AY:=rfl
def OE{K:aa}      (h:g d=!(.frz o<|.dK<|a.zip c))(z:⇑a=⇑c)(j:IsDs K g e c):wc K g (tT d o<|a.zip c) (X0 a e):=λi A B l m=>by
 let n:=m _ _<|l _ _ h;let C:=⇑j;let E:⇑(a.zip c)=⇑a:=by rw[List.length_zip,];lia
 let F:⇑(X0 a e)=⇑a:=by ext X0;rw[List.length_zipWith,];lia
 rw[(λs=>((n,()),λv G t=>?_),λs=>(n,()))];let(T k x,rfl,u,rfl,f):=t;let p:i<⇑e:=()
 have(H,w,y):=j.get (Zqg p);rw[List.getElem?_zip_eq_some]at f;let(f,b):=f;rw[w]at b;cases b;let r:=Ext.alloc m u<|.tup [kV k,x];rw[(.tup [f5 k,e[i]],_,?_,r,jm.mpr (T,_,9,.of JE,.mk (by
  cases(k)with
  |inl i=>rw[je.mpr 9]
  |inr x=>rw[jg.mpr 9])<|.mk (IsD.same (l.trans r.ff) _ _ y) .nil))]
 ext X0;rw[List.getElem?_zipWith,f,Zqg p]
def OF (J:QN X E e f)(a:attributeBase e "items" X.env (eval e X.env)=eval e X.env:=by rfl)(c:(h.endLine==i.line)=6:=by rfl):
 QI X E (.Tuple w S T) (.Call (.Attribute e "items" h) [] [] i) (sC f):=PI.weak (OD J a c) λZ H R L=>by
 let(B F sd,r,n):=L;rw[jh B F sd (r,(Res.need_bind n).mono (λz m l A U g C G M=>?_) λ_ _ q=>q)];unfold AY at m
 split at m
 .rename_i t Y;let(-v,d,N,O):=M;rw[(.inr<|.inr<|.inl (9,.inl (_,d)),l,t.zip v,9,9,d,λp s=>(p,l,t.zip v,9,JE,?_,λo=>?_))]
  .let j:l≠p:=λz=>by rw[z,s]at d;rw[J2 d]
   rw[(J6 j).trans d]
  .let P:A p=8:=Q1 g.fh s;let Hp:H p=8:=Q1 g.hh s;let j:l≠p:=λz=>by rw[z,s]at d;rw[J2 d]
   rw[m _ (upd A l<|.frz o<|.dK<|t.zip v) _ (g.ff.trans<|Vv G _,λb u q=>?_,λb u q=>?_,λb Q I=>?_)<|OE JE N<|IsDs.same (Vv G _) _ _ O]
   .cases z:b=l
    .subst z;rw[JE]at q ⊢;rw[q]
    .rw[J6 z]at q ⊢;let:b≠p:=λy=>by rw[y,P]at q;rw[J2 q]
     rw[J6 this,];rw[g.fh _ _ q]
   .let z:b≠l:=λy=>by rw[y,C]at q;rw[J2 q]
    let y:b≠p:=λy=>by rw[y,Hp]at q;rw[J2 q]
    rw[J6 z,J6 y];rw[g.hh _ _ q]
   .let z:b≠l:=λy=>I (by rw[y,];rw[C]);rw[J6 z,];rw[g.new b Q I]
 .rw[m.elim]
def uG(i:5)(sd:SD):02 (02 SV)->Res D->Res Out
 |some (~~~.int a),r=>r.bind λd=>match d with
  |.int b=>.ok (.next<|sd.set i<|~~~(.int<|a+b))
  |_=>.no
 |_,_=>.no
def zP(i:5)(f:FE):FS:=λsd=>uG i sd sd[i]?<|f sd
@[simp]def tz(i:5)(f:FE)(sd:SD):zP i f sd=uG i sd sd[i]? (f sd):=rfl
@[simp]def bX(i:5)(sd:SD)(a b:3):uG i sd (!~~~.int a) (.ok<|.int b)=.ok (.next<|sd.set i<|~~~(.int<|a+b)):=rfl
def OG         (o:X.N.Nodup)(s:X.N[i]?=!x)(t:zO X.env.scope x)(u:QE X E e c)
 (w:X.fn x=6\/X.env.scope.names.lookup x=!.local:=by trivial):QS X E m (.AugAssign (.Name x f) .Add e y) (zP i c):=PS.weak (LD o s t u LF w) λT Z H z=>by
 let(B F sd,r,n):=z;unfold zP at n;generalize A:sd[i]?=q at n
 cases(q)with
 |none=>rw[False.elim n]
 |some q=>cases(q)with
  |none=>rw[False.elim n]
  |some q=>cases(q)with
   |own p d=>rw[False.elim n]
   |val d=>cases d with
    |int a=>
     let(-v,C,g):=r.val A;rw[je]at g;subst g;let n:((c sd).bind λd=>match d with
      |.int b=>Res.ok (Out.next<|sd.set i<|~~~(.int<|a+b))
      |_=>.no).need _ _:=n
     rw[(_,C,B,F,sd,r,(Res.need_bind n).mono (λd h v G I j l=>?_) λ_ _ q=>q.ext r.ext)];cases d with
     |int b=>
      rw[je]at l;rw[(_,_,9,l,h _ G I j.ff<|(r.step j).setVal<|je.mpr 9)]
     |_=>rw[False.elim h]
    |_=>rw[False.elim n]
def Yy(a:Yf)(f:FE):FE:=λsd=>(f<|qR a sd).strict.bind λd=>if Kz d then .ok d else .no
@[simp]def nE(a:Yf)(f:FE)(sd:SD):Yy a f sd=(f<|qR a sd).strict.bind λd=>if Kz d then .ok d else .no:=rfl
def OH (b:Yf)(h:QE X E e f):QE X E e (Yy b f):=PE.weak h λZ H Q g=>by
 let(B F sd,r,n):=g;let(-i,s,j):=r.frz b;rw[jh B i _ (j,(Res.need_strict<|Res.need_bind n).mono (λd a v t l m o=>?_) λc fs q=>q)]
 split at a
 .rename_i p;rw[a v F l (.grow r.ext.fh m.hh)<|o.scal p]
 .rw[a.elim]
end L2.DL
namespace L2
open PySem PySem.Spec PyProof.Rows Builtin Builtin.ObjectAttr Builtin.Getset_descriptor
section
variable      {K:aa}
structure ExcCl(K:aa)(C:Addr):4 where
 ga:W.findIn K (.ref C) "__getattribute__"=! ! .builtin "BaseException.__getattribute__"
 hook:W.findIn K (.ref C) "__getattr__"=!8
 cls:W.findIn K (.ref C) "__class__"=! ! .builtin "object.__class__"
 get:W.specialIn K (.builtin "object.__class__") "__get__"=! ! .builtin "getset_descriptor.__get__"
 sets:W.takesIn K (.builtin "object.__class__")=!6
 obj:W.mroIn K C (.type "object")=!6
 base:W.subIn K (.ref C) (.type "BaseException")=!6
 isC:W.hasDictIn K C=6
def OI (c:ExcCl K C)(X:K.In s.heap)(r:↥s x=!o)(u:o.cls=.ref C)(h:Q (! .ref C) {s with toks:=s.toks+1}):Yt b w A (getAttr? (.ref x) "__class__") Q E s:=by
 let(f,g,d,t,os):=s;let n:W.Looks (model b w) f (typeOf<|.ref x) (.ref C):=u ▸(W.Looks.ld r).andThen .now;let v:=W.looks_findIn (M:=model b w) X c.ga;let y:=W.looks_findIn (M:=model b w) X c.hook;let z:=W.looks_findIn (M:=model b w) X c.cls;let B:=W.looks_specialIn (M:=model b w) X c.get;let G:=W.looks_takesIn (M:=model b w) X c.sets;let H:=W.looks_subIn (M:=model b w) X c.base;let S:=W.looks_mroIn (M:=model b w) X c.obj;ext getAttr? getAttrBy? getAttrBy;rw[Za<|wpAny_mkText<|Za<|wpAny_attempt<|wpAny_holding<|Za<|n.at<|Za<|v.at ?_];let I:(onTheHeap (Value.ref C)&&Value.builtin "BaseException.__getattribute__"==Value.builtin "object.__getattribute__")=7:=by
  rw[show(Value.builtin "BaseException.__getattribute__"==Value.builtin "object.__getattribute__")=7 by decide+kernel,];rfl
 dsimp only;rw[I,];simp only[U5,if_false];ext getAttrByItsOwn hookBefore;let J:onTheHeap (Value.ref C)=6:=9;rw[J,];simp only[if_true];rw[Za<|y.at ?_];rw[Za<|wpAny_attempt<|wpAny_holding ?_];ext callGetattribute;simp only[Bool.false_and,U5,if_false];ext boundAndCalled;rw[Za<|wpAny_of_eq (F.excAttr_ValueError.ga.bind<|.ref x) ?_];dsimp only;let L:∀{e:Around}{R:Result->Yo}(i:5),R (.ok<|.ret<|.ref C) (f,g,d,i,os)->codeAny (model b w) e (.call (.builtin "getset_descriptor.__get__") ([.builtin "object.__class__",.ref x,.ref C],[])) R (f,g,d,i,os):=λ{e R}i N=>by
  rw[codeAny_call_builtin W.KF.slot_gs.plain W.KF.entry_gs<|W.KF.slot_gs.check _ _ _ _ _ _ _ _ W.KF.type_class (W.KF.args_gs _ _ _) ?_];ext Builtin.«getset_descriptor.__get__» descrGet;rw[W.dga_obj,];rw[Za<|Zb ?_];ext descrGetter descrCheckInstance descrNameAndClass isInstance;simp only[W.KF.owner_class]
  repeat lk
  rw[(Code.quiet_builtin _<|by decide+kernel,codeAny_builtin W.KF.entry_class ?_)];ext Builtin.«object.__class__» shownTypeOf
  repeat lk
  rw[N]
 rw[wpAny_call<|codeAny_call_builtin F.excAttr_ValueError.ga.plain F.entry_bexc_ga ?_];let O:builtinKind "BaseException.__getattribute__"=!.slot:=by decide+kernel
 let P:splitId "BaseException.__getattribute__"=!%["BaseException"|"__getattribute__"]:=by decide+kernel
 let p:=F.args_bexc_ga (.ref x)<|.str "__class__" t;show wpAny _ _ (checkBuiltinCall "BaseException.__getattribute__" ([.ref x,.str "__class__" t],[])) _ _ _;simp only[checkBuiltinCall,O,P];rw[Za (m:=isInstance (.ref x)<|.type "BaseException")<|W.Looks.at (n.andThen H) ?_];rw[Ze (by decide),];unfold argsOk at p;rw[wpAny_of_eq (a:=Yj) p ?_];show wpAny _ _ (Builtin.«object.__getattribute__» ([.ref x,.str "__class__" t],[])) _ _ _;let T:W.Looks (model b w) f (Builtin.ObjectAttr.find (.ref x) (.ref C) "__class__") (.bind (.builtin "getset_descriptor.__get__")<|.builtin "object.__class__"):=by
  intro e U j l k q;ext Builtin.ObjectAttr.find;rw[Za<|z e _ j l k<|Za (m:=Builtin.ObjectAttr.getOf _)<|B e _ j l k ?_];rw[Za<|Za<|G e _ j l k<|Zb ?_];rw[Za<|wpAny_rule<|Zb q]
 ext Builtin.«object.__getattribute__»
 repeat(first|with_reducible rw[wpAny_call<|L _ ?_]|lk)
 rw[h]
def OJ(c:ExcCl K C):W.KitX K (.ref x) (.ref C) λh=>∃o,h.get? x=!o/\o.cls=.ref C where
 ty:=λM h _=>xg λo=>jD λb d=>d ▸(W.Looks.ld b).andThen .now
 it:=λM h X _=>by
  let(g,a,_):=W.any_some c.isC;unfold W.clsIn at a
  split at a
  .rename_i b;intro l m p r k q;ext isType loadHead;rw[Za<|wpAny_loadPart (k _ _<|X _ _ b)<|Zb q]
  .rw[J2 a]
 ne:=λh i s j n t X f=>by
  let(-g,a,_):=W.any_some c.isC;rw[Bool.eq_false_iff.mpr λq=>?_];let e:C=i:=Value.ref.inj<|Yi.mp q;subst e;unfold W.clsIn at a
  split at a
  .rename_i b;let z:=(X _ _ b).symm.trans f;cases z
  .rw[J2 a]
 ca:=λX(o,b,d)k=>OI c X b d k
structure NoSub(K:aa)(C U:Addr):4 where
 ne:Nat.beq C U=7
 sub:W.subIn K (.ref C) (.ref U)=!7
 ty:W.typeIn K (.ref U)=! .type "type"
 dc:W.hasDictIn K U=6
def NoSub.one  (h:NoSub K C U):W.kitOne K (.ref C) (.ref U)=!7:=by
 let(-b,a,_):=W.any_some h.dc;let e:¬(Value.ref C==Value.ref U)=6:=λz=>by
  let z:C=U:=Value.ref.inj<|Yi.mp z;let:=h.ne;rw[z,Nat.beq_refl]at this;cases this
 ext W.kitOne;rw[Ze e,];show(if _ then _ else _)=_;rw[Zd (by rw[a,h.ty];rfl),];rw[h.sub]
end
end L2
namespace L2.DL
structure Ucl(K:aa)(mg:Yc)(c:Str)(C:Addr):4 where
 ns:W.nsIn K 000 c=! ! .ref C
 mgc:mg c=! .ref C
end L2.DL
namespace L2
end L2
namespace L2.DL
def G3{K:aa} :W.kitOne K (.ref C) (.ref C)=!6:=by
 ext W.kitOne;rw[Zd (Yi.mpr 9),]
end L2.DL
namespace L2
def OK   (C:c.StaysIn s.heap)(F:s.heap.FunFrames c l)(G:s.heap.TracedAtW c e m H S)
 (h:∀d T,c.get? T=8->(∀b,b≠T->d.get? b=↥s b)->(∃o p,↥s T=!o/\o.data=.fields p)->c.StaysIn d->d.FunFrames c l->(∃r,d.TracedAtW c e m H r)->Q Yj {s with heap:=d}):wpAny M A (setFlight (.ref e) f) Q E s:=by
 let(I,p,T,J,L,u,N,v,w,t,y,i,g,O):=G;let B:=(Jm.mp O).1;let j:∀b,b≠T->(s.heap.update T<|Obj.mapFields (·.setIfInBounds 03<|f.elim Value.none λa=>rawInt a)).get? b=↥s b:=λb n=>Heap.get?_update_other _ _ n.symm;let P:∀b o,↥s b=!o->(∀R,o.data ≠ .fields R)->b≠T:=λb o q n z=>by
  subst z;rw[i]at q;cases q;rw[n _ g]
 ext setFlight;rw[Za<|wpAny_field u v w ?_];rw[Zd (),];rw[wpAny_setField i g B<|h _ T t j (J,L,i,g) (λb o q=>(j b λz=>by rw[z,t]at q;cases q).trans<|C b o q) (F.of_keeps λb o q n=>(o,(j b<|P b o q n).trans q,9))<|vm (f.elim Value.none λa=>rawInt a) I p T _ _ ((j e y.symm).trans u,N,v,w,t,y,Heap.get?_update_self _ i<|Obj.isFreed_of_fields<|Obj.data_mapFields g _,Obj.data_mapFields g _,?_)];rw[Array.getElem?_setIfInBounds_self_of_lt B,]
def OL    (i:A.frames=! f::d)(j:f.frame=!L)(u:a.StaysIn s.heap)(l:a.get? e=8)(v:s.heap.FunFrames a (f::d))(m:s.heap.TracedAtW a e p H I)
 (w:∀g,Heap.FlyingW a d e p H g->s.heap.UpToSlots g->Q Yj {s with heap:=g}):wpAny M A (leaving f<|.ref e) Q E s:=by
 cases c:I=rawInt L
 .subst c;ext leaving;rw[Za<|wpAny_noteFrame_againW j m ?_];rw[wpAny_setFlight_noneW u v m λg J N O P=>w g (J,l,N.2.2,O) λb o q n=>(o.slots,P b o q n)]
 .let(oe,vs,T,oT,ts,y,(R,S),B,C,U,X,r,t,F):=m;subst R;let Y:=(Jm.mp F).1;let h:∀b,b≠T->(s.heap.update T<|Obj.mapFields (·.setIfInBounds 03 Value.none)).get? b=↥s b:=λb n=>Heap.get?_update_other _ _ n.symm;let G:∀b o,↥s b=!o->(∀Z,o.data ≠ .fields Z)->b≠T:=λb o q n z=>by
   subst z;rw[r]at q;cases q;rw[n _ t]
  ext leaving noteFrame;simp only[j];rw[Za<|Za<|wpAny_field y B C ?_];rw[Zd (),];rw[Za<|wpAny_field r t F ?_];rw[Ze λz=>c<|Yi.mp z,];rw[Za<|wpAny_setField r t Y ?_];rw[wpAny_newEntryW i (v.of_keeps λb o q n=>(o,(h b<|G b o q n).trans q,9)) j ((h e X.symm).trans y) (λb o q=>(h b λz=>by rw[z,U]at q;cases q).trans<|u b o q) l B (Jm.mp C).1 S λg=>yh λx1 x2 x3 x4=>?_];rw[w g (x1,l,x2.2.2,x3) λb o q n=>x4 b o ((h b<|G b o q n).trans q) n]
structure FlyAny(l:List Env)(h₀:Heap)(H:Hp)(x C:Addr)(B h:Heap):4 where
 st:B.StaysIn h
 no:B.get? x=8
 fr:h.FunFrames B l
 tr:∃t fl,h.TracedAtW B x (.ref C) (.ref t) fl
 trk:∀b o,h.get? b=!o->H b≠8\/(∃u,h₀.get? b=!u)/\b∉frs l->B.get? b=!o
structure ThrownA(X:Cx)(E:XK):4 where
 on:∀(Y:Yb)(Z:St)(H:Hp)(s:Shared)(x C:Addr)(B:Heap)(d:02 Addr),Inv X Y Z H s->FlyAny X.stack X.s₀.heap H x C B s.heap->DT s.heap x d->E (.ref C) d H->X.xe (.ref x) s
def OM  {K:aa}            :ThrownA (qk (yq P w) P w K y j N l i f F A a s H E) E:=by
 rw[⟨λY Z G n x C B d I g o p=>?_⟩];let(t m,r):=g.tr;rw[Zc (WD (OL (Q:=λ_ v=>∃h,Heap.FlyingW B a x (.ref C) (.ref t) h/\n.heap.UpToSlots h/\v={n with heap:=h}) I.ok.frames 9 g.st g.no g.fr r λh c up=>(h,c,up,9))<|Ge (E:=λ_ _=>True) I.ok.frames g.fr 9 o) ?_ λ_ _ z=>z.1];rintro _ _ ⟨⟨h,c,up,rfl⟩,dt'⟩;rw[AO I (λb u e=>(u,e)) c up g.trk dt' p]
theorem G4{h a B c:Heap}(d:∀b,B.get? b=8->c.get? b=8):∀{l:List Env},(∀b∈frs l,a.get? b=h.get? b)->h.FunFrames B l->a.FunFrames c l
 |[],_,_=>trivial
 |env::rest,k,(f,(L,o,e,g3,g4,g5),r)=>by
  let g:L∈frs (env::rest):=by
   ext frs;rw[UG,e];rw[Zqs]
  rw[(f,(L,o,e,d L g3,(k L g).trans g4,g5),G4 d (λb i=>k b ?_) r)]
  simp_all[frs]
def ON         (J:X.stack=X.env::X.outer)(hfr:X.env.frame=!X.env.locals)(hex:X.ex=[])(T:ThrownA X E)(at_:Xm X C s H ex):Thrown (Qj X p N cl C s H ex) E:=by
 let(L Z0,I0,f0,hC):=at_;rw[⟨λY Z H' s' h₀ x D B d I h0 fl dt hE=>?_⟩];let((t,fly),trk):=fl;let fly':Heap.FlyingW B (X.env::X.outer) x (.ref D) (.ref t) s'.heap:=by rw[<-J];rw[fly]
 let note:noteFrame (.ref x) (compEnvC p cl C X.env)=noteFrame (.ref x) X.env:=9;show Ys X (noteFrame (.ref x)<|compEnvC p cl C X.env) (λ_ s''=>YO X C (.ref x) s'') (YO X C) s';rw[note,];rw[Gf (I0.ok.frames.trans<|by rw[J,]) hfr fly' dt λh1 held up1 dt1=>?_];let(-m,hm,_):=id I.loc;let hm1:h1.Ns C m:=up1.ns hm;rw[(m,hm1,λr f cenv _=>?_)];let(!hc1,hc2,hc3,hc4):=held;let(oC es ep,hoC,hdC,_):=id hm1;let nC:∀b o ws,h1.get? b=!o->o.data=.fields ws->b≠C:=by grind
 let i:∀b o,↥s b=!o->b≠C:=λb o q=>Zi<|Zg (Zk q) hC;let frC:∀b∈frs X.stack,b≠C:=λb a=>by
  let(_,M,j,_):=I.ok.funs.mem a;rw[i b M j]
 let(g,hB'):∃g,W.hideAll B [C]=g:=(_,9);let inB:∀b o,g.get? b=!o->B.get? b=!o:=λb o q=>by rw[<-hB']at q;rw[W.of_hideAll _ q]
 let toB:∀b o,B.get? b=!o->b≠C->g.get? b=!o:=λb o q n=>by rw[<-hB'];rw[W.hideAll_get _ q<|by simpa using n]
 let O:∀b,B.get? b=8->g.get? b=8:=λb q=>by
  induction z:g.get? b with
  |none=>rfl
  |some o=>rw[inB b o z]at q;cases q
 let nBC:∀b o,g.get? b=!o->b≠C:=λb o q z=>by
  let P:g.get? C=8:=by rw[<-hB'];rw[W.hideAll_none [C] ()]
  rw[z,P]at q;cases q
 let st2:g.StaysIn r:=λb o q=>(f.2 b<|nBC b o q).trans<|hc1 b o<|inB b o q;let fr2:r.FunFrames g X.stack:=G4 O (λb a=>f.2 b<|frC b a) (by rw[J,];rw[hc3]);let(oe,vs,T0,oT,ts,g1,g2,g3,g4,g5,g6,g7,g8,g9):=hc4;let tr2:r.TracedAtW g x (.ref D) (.ref t) (rawInt X.env.locals):=jE oe vs T0 oT ts ((f.2 x<|nC _ _ _ g1 g3).trans g1,g2,g3,g4,O T0 g5,g6,(f.2 T0<|nC _ _ _ g7 g8).trans g7,g8,g9);ext PySem.passOn;rw[Za<|wpAny_field (s:={s' with heap:=r}) ((f.2 x<|nC _ _ _ g1 g3).trans g1) g3 g4 ?_];rw[Ze (),];let dt2:DT r x d:=by
  let(oe vs T oT ts,a1,a2,a3,a4,a5,a6,a7,a8):=dt1;rw[jE oe vs T oT ts ((f.2 x<|nC _ _ _ a1 a3).trans a1,a2,a3,a4,a5,(f.2 T<|nC _ _ _ a6 a7).trans a6,a7,a8)]
 rw[Za<|Zc (WD (OK (s:={s' with heap:=r}) (Q:=λ_ s2=>∃w T',g.get? T'=8/\(∀b,b≠T'->w.get? b=r.get? b)/\(∃o vs,r.get? T'=!o/\o.data=.fields vs)/\g.StaysIn w/\w.FunFrames g X.stack/\(∃R,w.TracedAtW g x (.ref D) (.ref t) R)/\s2={s' with heap:=w}) st2 fr2 tr2 λw T' t1 t2 t3 A S U=>xh w T' (t1,t2,t3,A,S,U,9))<|ZH (E:=λ_ _=>True) (s:={s' with heap:=r}) dt2) ?_ λ_ _ z=>z.1];rintro _ _ ⟨⟨w,T',t1,t2,t3,A,S,U,rfl⟩,dt3⟩;rw[wpAny_throw ?_];let K1:∀b o,B.get? b=!o->b≠C->w.get? b=!o:=λb o q n=>A b o<|toB b o q n;let nex:∀b u,X.s₀.heap.get? b=!u->b∉ex:=λb u q a=>by
  rcases(f0 b a).2.2.2.1 with z|z
  .rw[hex]at z;cases z
  .rw[Zn (Zk q)<|Nat.not_lt.mpr z]
 let G:∀b o,↥s b=!o->b∈frs X.stack->b∉ex->∃sl,w.get? b=!{o with slots:=sl}:=λb o q a l=>by
  let(_,M,j,hd):=I.ok.funs.mem a;let j:↥s b=!M:=j;rw[q]at j;obtain rfl:=Zqi j;let(sl,e1):=I.base.slot b o q (I.ok.frf b a) a l;let(sl',e2):=up1 b _ e1 hd;let e3:r.get? b=!{o with slots:=sl'}:=(f.2 b<|frC b a).trans e2;rw[(sl',(t2 b λz=>?_).trans e3)];let(oz wz,P,z2):=t3;rw[<-z]at P;let P:r.get? b=!oz:=P;rw[e3]at P;cases P;rw[hd _ z2]
 rw[T.on L Z0 H' _ x D g d (I0.call' (s':={s' with heap:=w}) (ch:=ex) I.os (λb o e n a l=>?_,λb o e n a l=>G b o e a l,λb o e n l=>I.base.free b o e n l,λb o e l=>?_,I.base.tups,I.base.frzs,I.base.tbls) (λb u e=>?_) I.bare λb a=>((f0 b a).2.2.2.1,(f0 b a).2.1,(f0 b a).2.2.2.2.1,(f0 b a).2.2.2.2.2)) (A,O x hc2,S,?_,λb o e c=>?_) dt3 hE]
 .rw[K1 b o (trk b o (I.base.keep b o e n a l)<|.inr (h0 b o e l,a))<|i b o e]
 .cases a:b∈frs X.stack
  .let(sl,q):=G b o e a l;rw[(_,q)]
  .let(M,e'):=I.base.there b o e l;rw[(M,K1 b M (trk b M e'<|.inr (h0 b o e l,a))<|i b o e)]
 .rw[(I.hok b u e).stay (λc v hc q=>K1 c v (trk c v q<|.inl ?_) ?_) (λ_ q=>q) λ_ _ q=>q]
  .rcases hc with z|z
   .rw[z,e];simp
   .rw[z,];simp
  .intro z;let fC:H' C=8:=I.free;obtain y|y:=hc
   .rw[<-y,z,fC]at e;rw[J2 e]
   .rw[z,fC]at y;rw[J2 y]
 .let(R,q):=U;rw[xh t R q]
 .let key:∃F,B.get? b=!F/\b≠C:=by
   obtain c|⟨⟨u,hu⟩,a⟩:=c
   .induction q:H' b with
    |none=>rw[Zn q c]
    |some u=>
     let(F,h2'):=(I.hok b u q).has;rw[(F,trk b F h2'<|.inl c,λz=>by rw[z]at q;rw[show H' C=8 from I.free]at q;rw[J2 q])]
   .let(o1,e1):=I0.base.there b u hu (by rw[hex,];simp);let(F,e2):=I.base.there b o1 e1 (nex b u hu);rw[(F,trk b F e2<|.inr (h0 b o1 e1<|nex b u hu,a),i b o1 e1)]
  let(-F,k1,k2):=key;let:=K1 b F k1 k2;let e:=e;rw[e]at this;cases this;rw[toB b o k1 k2]
end L2
namespace L2.DL
def OO        (N)(cap)(i:X.calm=6)(c:VA a X.env N X.N cap=6)(j:QI X E g b l)
 (m:∀d C s H ex,QG (Qj X a N d C s H ex) g t)(n:∀d C s H ex,Xm X C s H ex->QE (Qj X a N d C s H ex) E e f)(o:∀x,foldedSetIterable b X.env x=pure x:=by intro _;rfl):
 QN X E (.ListComp e [(g,b,[],0)] a p) (Q2 cap l t f):=PE.weak (Fe N cap i c j m n o) λ_ _ _ h=>C2 h
abbrev HP:=List<|Addr×D
def jc:HP->Addr->Yr
 |[],_=>8
 |p::r,a=>if a=p.1 then !p.2 else jc r a
def JC:HP->Addr->D->HP
 |[],_,_=>[]
 |p::r,a,d=>if a=p.1 then%[p.1|d]::r else p::JC r a d
def OP(a):jc [] a=8:=rfl
theorem JK(p)(r:HP)(a):jc (p::r) a=if a=p.1 then !p.2 else jc r a:=rfl
theorem KE:∀{c:HP}{a:Addr}{d:D}b,jc c a≠8->jc (JC c a d) b=if b=a then !d else jc c b
 |[],a,d,b,h=>Zn 9 h
 |p::r,a,d,b,h=>by
  ext JC;cases z:a=p.1
  .simp_all[JK]
  .rw[Ze z,JK,JK];rw[JK,Ze z]at h;rw[KE b h,]
   grind
structure RT(K:aa)(B B':Bs)(F H:Hp)(sd:SD)(hp:HP)(Z:St):4 where
 rs:RS K B' F H sd Z
 f0:B'.F0=B.F0
 pa:B'.pa=B.pa
 out:∀a,jc hp a=8->B'.H0 a=B.H0 a
 obj:∀a d,jc hp a=!d->B.F0 a=8/\B.H0 a=8/\zi K F B'.H0 a d
section
variable {K:aa}  {F F' H H':Hp}  {hp:HP}
def RT.sub(t:RT K B b F H sd hp Z):ju B.H0 b.H0:=λa o e=>by
 induction q:jc hp a with
 |none=>rwa[t.out a q,]
 |some d=>rw[(t.obj a d q).2.1]at e;rw[J2 e]
def RT.ext0(t:RT K B b F H sd hp Z) (e:Ext b.F0 b.H0 c f):Ext B.F0 B.H0 c f:=
 (by rw[<-t.f0];rw[e.ff],e.fh,t.sub.trans e.hh,λa i g=>e.new a (by rwa[t.f0,]) λz=>g<|Q1 t.sub z)
def RT.go(t:RT K B c F H sd hp Z)(s:ju F F')(r:RS K c F' H' b Z'):RT K B c F' H' b hp Z':=
 (r,t.f0,t.pa,t.out,λa d h=>sm (t.obj a d h) λe f g=>(e,f,g.ext s λ_ q=>q))
def RT.free(t:RT K B f F H sd hp Z)(h:jc hp a=!d):F a=8:=by
 let(!b,g,c):=t.obj a d h;let(o,e):=c.has;rw[t.rs.ext.new a (by rw[t.f0,];rw[b])<|by rw[e,];simp]
def RT.lies(t:RT K B b F H sd hp Z)(h:jc hp a=!d):zi K F H a d:=(t.obj a d h).2.2.ext (.refl _) λo q=>t.rs.ext.hh _ _ q
def RT.no_own(t:RT K B b F H sd hp Z)(h:jc hp a=!d) (c:b.H0 l=8):l≠a:=λz=>by
 let(o,e):=(t.obj a d h).2.2.has
 ext
def RT.start(r:RS K B F H sd Z):RT K B B F H sd [] Z:=(r,9,9,λ_ _=>9,λa d h=>by cases h)
def RT.xw   (t:RT K B b F H sd hp Z)(h:XW K E B.F0 B.H0 c fs):XW K E b.F0 b.H0 c fs:=λf a g i e q=>h f a g i (t.ext0 e) q
def RT.chg(t:RT K B f F H sd hp Z)  (g:jc hp a=!d)(h:zi K F (upd H a o) a r):RT K B (f.F0,upd f.H0 a o,f.pa) F (upd H a o) sd (JC hp a r) Z:=by
 let s:=t.free g;have(v,E,U):=t.obj a d g;let j:jc hp a≠8:=by ext
 rw[(((t.rs.ext.ff,AA o t.rs.ext.fh s,λb u e=>?_,λb G I=>?_),t.rs.len,t.rs.val,λ{i p e}q=>?_,t.rs.apart),t.f0,t.pa,λb c=>?_,λb e c=>?_)]
 .let e:upd f.H0 a o b=!u:=e;cases z:b=a
  .simp_all[JE]
  .rw[J6 z]at e ⊢;rw[t.rs.ext.hh _ _ e]
 .cases z:b=a
  .rwa[z,]
  .rw[t.rs.ext.new b G λy=>I<|by show upd f.H0 a o b=8;rwa[J6 z,]]
 .let(-l,J,n,L,M,O):=t.rs.own q;let ne:=t.no_own g n;rw[(l,J,(J6 ne).trans n,L,M.ext (.refl _)<|λu Q=>by rwa[J6 ne,],λz=>(O z).mono λu Q=>by rwa[J6 ne,])]
 .rw[KE b j]at c;cases z:b=a
  .ext
  .rw[Ze z]at c;show upd f.H0 a o b=B.H0 b;rw[J6 z,];rw[t.out b c]
 .rw[KE b j]at c;cases z:b=a
  .rw[Zd z]at c;obtain rfl:=Zqi c;subst z;rw[(v,E,h.ext (.refl _) λu q=>by simp_all[JE])]
  .rw[Ze z]at c;have(R,S,T):=t.obj b e c;rw[(R,S,T.ext (.refl _) λu q=>by show upd f.H0 a o b=!u;rwa[J6 z,])]
def yk(F b:Hp)(hp:HP):Hp:=λa=>match jc hp a with
 |some _=>b a
 |none=>F a
end
section
variable {K:aa}
def OQ{α:Type}{l:List α} {a:α}(h:l[i]?=!a):l.set i a=l:=by
 apply List.ext_getElem?;intro j;cases z:i=j
 .subst z;rw[Ut (Ja.mp h).1,h]
 .rw[Zx z,]
def RS.reval  (r:RS K B F H sd Z)(a:sd[i]?=!~~~d)(h:∀v,IsD K F d v->IsD K F b v):RS K B F H (sd.set i<|~~~b) Z:=by
 let(v,c,e):=r.val a;let:=r.setVal (i:=i)<|h v e
 rwa[OQ c]at this
end
inductive Out2 where
 |next(sd:SD)(hp:HP)|ret(d:D)|brk(sd:SD)(hp:HP)|cont(sd:SD)(hp:HP)
abbrev vc:=SD->HP->Res Out2
def rm(a:HP):Out->Out2
 |.next sd=>.next sd a
 |.ret d=>.ret d
 |.brk sd=>.brk sd a
 |.cont sd=>.cont sd a
section
variable      {g:FS}{g1 g2:vc}
def ci(g:FS):vc:=λsd a=>(g sd).bind λo=>.ok<|rm a o
def kW(g1 g2:vc):vc:=λsd c=>(g1 sd c).bind λo=>match o with
 |.next a b=>g2 a b
 |o=>.ok o
def bS(a:Tg)(b:vc)(x:D):vc:=λsd c=>(JS a x sd).bind λs=>b s c
end
@[simp]def kA(a:HP)(sd:SD):rm a (.next sd)=.next sd a:=rfl
@[simp]def sV(g:FS)(sd:SD)(a:HP):ci g sd a=(g sd).bind λo=>.ok<|rm a o:=rfl
def kR(g:vc):Out2->Res Out2
 |.next sd a=>g sd a
 |o=>.ok o
@[simp]def cK(g:vc)(sd:SD)(a:HP):kR g (.next sd a)=g sd a:=rfl
@[simp]def b8(a b:vc)(sd:SD)(c:HP):kW a b sd c=(a sd c).bind (kR b):=by
 rfl
@[simp]def bE(a:Tg)(b:vc)(x:D)(sd:SD)(c:HP):bS a b x sd c=(JS a x sd).bind λs=>b s c:=rfl
@[simp]def nJ(sd:SD):ZD sd=.ok (.dct [] []):=rfl
def uQ(K:aa)(F H:Hp)(b:HP):4:=∀a d,jc b a=!d->F a=8/\zi K F H a d
def RT.lent{K:aa}     (t:RT K B b F H sd a Z):uQ K F H a:=λ_ _ h=>(t.free h,t.lies h)
theorem kq:∀{hp:HP}{a:Addr},jc hp a=8↔a∉hp.map (·.1)
 |[],a=>by simp[OP]
 |p::r,a=>by
  rw[JK,Zl,Ux,not_or];cases z:a=p.1
  .rw[Zd z,];rw[(λh=>(nomatch h),λh=>Zn z h.1)]
  .rw[Ze z,kq (hp:=r)];rw[(λh=>(z,h),λh=>h.2)]
def qY(H:Hp)(b:HP):Hp:=λa=>match jc b a with
 |none=>H a
 |some _=>8
def Vz   (h:jc b a=8):qY H b a=H a:=by ext qY;rw[h,]
def AZ    (h:jc b a=!d):qY H b a=8:=by ext qY;rw[h,]
section
variable {K:aa}
def RT.hidden(t:RT K B c F H sd b Z):Ext B.F0 B.H0 F (qY H b):=by
 let e:=t.ext0 t.rs.ext;rw[(e.ff,λa o q=>?_,λa o q=>?_,e.new)]
 .cases z:jc b a with
  |none=>rw[Vz z,];rw[e.fh _ _ q]
  |some d=>rw[t.free z]at q;rw[J2 q]
 .cases z:jc b a with
  |none=>rw[Vz z,];rw[e.hh _ _ q]
  |some d=>rw[(t.obj a d z).2.1]at q;rw[J2 q]
end
def u1:D->D->Yr:=λd e=>match d with
 |.dct _ _=>8
 |.dcf _ _=>8
 |d=>jf d e
structure Ev where
 P:Program
 w:World
 K:aa
 mg:Yc
 base:Heap
 C:5->Addr
 t:5->Tok
abbrev Ca(e:Ev):=wq e.P e.w e.K e.mg e.base
abbrev wT(e:Ev):=wU e.P e.w e.K e.mg e.base
def km(K:aa)(T:5->Stmt):List (Str×5)->4
 |[]=>True
 |p::r=>vQ K p.1 (T p.2)/\km K T r
def Nn(K:aa):Yg->4
 |[]=>True
 |x::r=>W.nsIn K 000 x=!8/\Nn K r
def dfs_cons{K:aa}    (h:vQ K x (T i))(q:km K T r):km K T (%[x|i]::r):=(h,q)
def nn_cons{K:aa}  (h:W.nsIn K 000 x=!8)(q:Nn K r):Nn K (x::r):=(h,q)
theorem CV{K:aa} :∀{l:List (Str×5)}{j:5}{p:Str×5},km K T l->l[j]?=!p->vQ K p.1 (T p.2)
 |[],j,p,_,h=>by simp at h
 |q::r,0,p,d,h=>by
  obtain rfl:=by simpa using h
  rw[d.1]
 |q::r,j+1,p,d,h=>CV d.2 (by simpa using h)
theorem G5{K:aa}  (X:K.In h)(G:h.Ns 000 a):∀{l:Yg},Nn K l->∀x∈l,a x=8
 |[],_,x,q=>by simp at q
 |y::r,d,x,q=>by
  obtain z|z:=Ux.mp q
  .rw[z,];rw[W.mg_none_of X G d.1]
  .rw[G5 X G d.2 x z]
abbrev dE(mg:Yc)(bl:Yg):4:=∀x∈bl,mg x=8
def J5   (m:dE a bl)(h:x∈bl:=by decide):a x=8:=m x h
structure Al(e:Ev)(T:5->Stmt)(tbl:List (Str×5))(bl:Yg):4 where
 h:∃h,e.K.In h/\h.Ns 000 e.mg
 d:km e.K T tbl
 m:dE e.mg bl
section
variable {e:Ev}{T:Nat->Stmt}{tbl:List (Str×Nat)}{bl:Yg}{x:Str}{k:Nat}{ps:Yg}{sp:Sp}
abbrev G6(x:Str)(st:Stmt)(ps:Yg):4:=∀(kV doc pm:Value)(an:02 Addr)(cdv ct:Value)(us:Yd),⇑us=⇑ps->bindArgs (W.fnOf x x (Xl st) (Kn st) (Qe st) .none kV doc pm an cdv ct) (us,[])=pure (ps.zip us)
def xz(a:Al e T tbl bl)(j i:5)(ok:∀{f:Addr}{b:FuncData},Fun e.K x x (T i) f b->FnOk e.P e.w e.K e.mg e.base yt k f b ps sp)(h:tbl[j]?=!%[x|i]:=by rfl)
 (c:G6 x (T i) ps:=by intro _ _ _ _ _ _;first|rw[uV λ_ _=>9]|rw[df λ_ _ _=>9]|rw[dg λ_=>9]|rw[rj λ_ _ _ _=>9]|rw[dS λ_ _ _ _ _=>9]|rw[d λ_ _ _ _ _ _=>9]):Ca e x k ps sp:=by
 let(-_,X,G):=a.h;rw[(CV a.d h).callee X G ok c]
def yN(a:Al e T tbl bl)(j i:5)(ok:∀{f:Addr}{b:FuncData},Fun e.K x x (T i) f b->FnOk e.P e.w e.K e.mg e.base (yq e.P e.w) k f b ps sp)(h:tbl[j]?=!%[x|i]:=by rfl)
 (c:autoParam (G6 x (T i) ps) xz._auto_2):wT e x k ps sp:=by
 let(-_,X,G):=a.h;rw[(CV a.d h).calleeX X G ok c]
end
def j6{X:Cx}(h:X.N.Nodup:=by dsimp only[Qj,qk,Cx.nox];decide+kernel):X.N.Nodup:=h
def qv  (i:5)  (b:X.N[i]?=!x:=by rfl)(c:autoParam (ma X.env.scope x) pv._auto_2)(e:(x==("__debug__":Str))=7:=by decide)(a:(x==("__classdict__":Str))=7:=by decide):QE X E (.Name x f) (ja i):=PE.weak (pv i b c e a) λZ H Q g=>by
 let(B F sd,r,n):=g;unfold ja at n
 split at n
 .rename_i d q;let(-v,h,j):=r.val q;rw[(v,h,n v F H (.refl r.ext.fh) j)]
 .rw[n.elim]
inductive Wr(α:Type)where
 |ok(a:α)|ex(c:Str)(fs:Yq)|no|new(hp:HP)(k:Addr->Wr α)
def Wr.bind{α β:Type}:Wr α->(α->Wr β)->Wr β
 |.ok a,g=>g a
 |.ex c fs,_=>.ex c fs
 |.no,_=>.no
 |.new b k,g=>.new b λa=>(k a).bind g
def Wr.need{α:Type}:Wr α->(α->4)->(Str->Yq->4)->4
 |.ok a,p,_=>p a
 |.ex c fs,_,q=>q c fs
 |.no,_,_=>False
 |.new b k,p,q=>∀a,jc b a=8->(k a).need p q
def Wr.of{α:Type}:Res α->Wr α
 |.ok a=>.ok a
 |.ex c fs=>.ex c fs
 |.no=>.no
@[simp]def Wr.bind_ok (a:α)(g:α->Wr β):(Wr.ok a).bind g=g a:=rfl
@[simp]def Wr.bind_ex (c:Str)(fs:Yq)(g:α->Wr β):(Wr.ex c fs:Wr α).bind g=.ex c fs:=rfl
@[simp]def vU (b:HP)(k:Addr->Wr α)(g:α->Wr β):(Wr.new b k).bind g=.new b λa=>(k a).bind g:=rfl
@[simp]def uI (a:α)(p:α->4)(q:Str->Yq->4):(Wr.ok a).need p q=p a:=rfl
@[simp]def vT (b:HP)(k:Addr->Wr α)(p:α->4)(q:Str->Yq->4):(Wr.new b k).need p q=∀a,jc b a=8->(k a).need p q:=rfl
@[simp]def bY (a:α):Wr.of (Res.ok a)=.ok a:=rfl
@[simp]def bZ (c:Str)(fs:Yq):Wr.of (Res.ex c fs:Res α)=.ex c fs:=rfl
theorem Wr.need_bind   {g:α->Wr β}:∀{r:Wr α},(r.bind g).need p q↔r.need (λa=>(g a).need p q) q
 |.ok _=>.rfl
 |.ex _ _=>.rfl
 |.no=>.rfl
 |.new _ k=>forall_congr' λa=>imp_congr .rfl<|Wr.need_bind
theorem Wr.need.mono {p b:α->4} (e:∀a,p a->b a)(f:∀c fs,q c fs->g c fs):∀{r:Wr α},r.need p q->r.need b g
 |.ok _,h=>e _ h
 |.ex _ _,h=>f _ _ h
 |.no,h=>h
 |.new _ k,h=>λa z=>Wr.need.mono e f<|h a z
def jQ    :(Wr.of r).need p q↔r.need p q:=by cases r<;>rw[.rfl]
def jK   {g:α->Wr β}{r:Wr α}(h:(r.bind g).need p q) (k:∀a,(g a).need p q->b a):r.need b q:=(Wr.need_bind.mp h).mono k λ_ _ z=>z
def ze   {g:α->Wr β} (h:((Wr.of r).bind g).need p q) (k:∀a,(g a).need p q->b a)(e:∀c fs,q c fs->f c fs):r.need b f:=(jQ.mp<|Wr.need_bind.mp h).mono k e
def dr(e:HP):5->D->D
 |0,d=>d
 |n+1,.adr a=>match jc e a with
  |some d=>dr e n d
  |none=>.adr a
 |n+1,.lst b=>.lst (b.map<|dr e n)
 |n+1,.tup b=>.tup (b.map<|dr e n)
 |n+1,.dct f b=>.dct f (b.map<|dr e n)
 |n+1,.ins c fs b=>.ins c fs (b.map<|dr e n)
 |_+1,d=>d
def drI(n:5)(a:HP):Yf->SD->SD
 |[],sd=>sd
 |i::b,sd=>drI n a b (match sd[i]? with
  |some (~~~d)=>sd.set i (~~~dr a n d)
  |_=>sd)
section
variable {K:aa}{B B':Bs}{F H F' H':Hp}{sd:SD}{hp hp':HP}{Z: St}
theorem IsDs.mapOf (h:∀d v,IsD K F d v->IsD K F (g d) v):∀{a:Yq}{b:Yp},IsDs K F a b->IsDs K F (a.map g) b
 |[],_,i=>i
 |d::a,b,i=>by
  let(x r,c,e,f):=ji.mp i;rw[ji.mpr (x,r,c,h d x e,IsDs.mapOf h f)]
theorem IsD.dr(i:∀a d,jc hp a=!d->IsD K F d (.ref a)):∀(n:5)(d:D)(v:V),IsD K F d v->IsD K F (dr hp n d) v
 |0,_,_,h=>h
 |n+1,.adr a,v,h=>by
  obtain rfl:=jC.mp h;ext L2.DL.dr
  split
  .rename_i d q;rw[IsD.dr i n d _<|i a d q]
  .rw[h]
 |n+1,.lst j,v,h=>by
  let(a b,e,f,g):=jx.mp h;rw[jx.mpr (a,b,e,f,IsDs.mapOf (IsD.dr i n) g)]
 |n+1,.tup j,v,h=>by
  let(a b,e,f,g):=jm.mp h;rw[jm.mpr (a,b,e,f,IsDs.mapOf (IsD.dr i n) g)]
 |n+1,.dct r j,v,h=>by
  let(a b,e,f,l,g):=jO.mp h;rw[jO.mpr (a,b,e,f,l,IsDs.mapOf (IsD.dr i n) g)]
 |n+1,.ins c fs j,v,h=>by
  let(a C o b,e,p,f,l,g):=jN.mp h;rw[jN.mpr<|jX a C o b (e,p,f,l,IsDs.mapOf (IsD.dr i n) g)]
 |_+1,.non,_,h=>h
 |_+1,.bl _,_,h=>h
 |_+1,.int _,_,h=>h
 |_+1,.str _,_,h=>h
 |_+1,.ty _,_,h=>h
 |_+1,.scr _,_,h=>h
 |_+1,.exc _,_,h=>h
 |_+1,.exr _ _,_,h=>h
 |_+1,.ucl _,_,h=>h
 |_+1,.dcf _ _,_,h=>h
 |_+1,.pin _ _,_,h=>h
theorem RS.drI(c:∀a d,jc hp a=!d->IsD K F d (.ref a))(n:5):∀(b:Yf){sd:SD},RS K B F H sd Z->RS K B F H (drI n hp b sd) Z
 |[],sd,r=>r
 |i::b,sd,r=>by
  ext L2.DL.drI
  split
  .rename_i d h;rw[RS.drI c n b<|r.reval h λv q=>IsD.dr c n d v q]
  .rw[RS.drI c n b r]
def QK:5->D->Bool
 |n+1,.tup a=>a.all (QK n)
 |_,d=>Kz d
theorem xx (h:∀d v,g d=6->IsD K F d v->IsD K F' d v):∀{a:Yq}{b:Yp},a.all g=6->IsDs K F a b->IsDs K F' a b
 |[],_,_,i=>i
 |d::a,b,s,i=>by
  let(x r,c,e,f):=ji.mp i;rw[Uv,Uc]at s;rw[ji.mpr (x,r,c,h d x s.1 e,xx h s.2 f)]
theorem yJ(c:∀a b,F a=! .tup b->F' a=! .tup b):∀(n:5)(d:D)(v:V),QK n d=6->IsD K F d v->IsD K F' d v
 |0,d,v,s,h=>h.scal (by cases d<;>rw[s])
 |n+1,d,v,s,h=>by
  cases d with
  |tup i=>
   let(a b,e,f,g):=jm.mp h;rw[jm.mpr (a,b,e,.of<|c a b f,xx (yJ c n) s g)]
  |_=>rw[h.scal s]
def zi.noTup   (h:zi K F H a d)(e:H a=Option.some o)(f:Yp):o ≠ .tup f:=λz=>by
 cases d with
 |lst b=>let(-_,q,_):=h;ext
 |dct g b=>let(-_,q,_):=h;ext
 |ins c fs b=>let(_ _ _,_,q,_):=h;ext
 |_=>rw[h]
def RT.frzA(t:RT K B B' F H sd hp Z):ju F (yk F B'.H0 hp)/\RS K B (yk F B'.H0 hp) H sd Z/\∀a d,jc hp a=!d->IsD K (yk F B'.H0 hp) d (.ref a):=by
 let y:∀b d,jc hp b=!d->yk F B'.H0 hp b=B'.H0 b:=λb d e=>by ext yk;rw[e,]
 let j:∀b,jc hp b=8->yk F B'.H0 hp b=F b:=λb e=>by ext yk;rw[e,]
 let f:ju F (yk F B'.H0 hp):=λb u e=>by
  induction q:jc hp b with
  |none=>ext
  |some d=>rw[t.free q]at e;rw[J2 e]
 rw[(f,((?_,λb u e=>?_,t.sub.trans t.rs.ext.hh,λb M g=>?_),t.rs.len,λq=>yg (t.rs.val q) λv=>jD λg E=>(v,g,IsD.same f _ _ E),λ{i p e}q=>?_,t.rs.apart),λb e n=>?_)]
 .rw[<-t.f0];rw[t.rs.ext.ff.trans f]
 .induction q:jc hp b with
  |none=>rw[j b q]at e;rw[t.rs.ext.fh _ _ e]
  |some d=>rw[y b d q]at e;rw[t.rs.ext.hh _ _ e]
 .induction q:jc hp b with
  |none=>rw[j b q,];rw[t.rs.ext.new b (by rwa[t.f0,])<|by rwa[t.out b q,]]
  |some d=>rw[Zn (t.obj b d q).2.1 g]
 .let(-l,G,r,O,I,J):=t.rs.own q;let Q:jc hp l=8:=by
   induction z:jc hp l with
   |none=>rfl
   |some R=>rw[Zn 9<|t.no_own z r]
  rw[(l,G,Q1 t.sub r,(),I.ext f λ_ q=>q,λz=>by rw[<-t.pa];rw[J z])]
 .let(!S,T,s):=t.obj b e n;let(o,L):=s.has;rw[IsD.same (λc u q=>?_) _ _<|s.frz L<|t.free n];cases z:c=b
  .simp_all[JE]
  .rw[J6 z]at q;rw[f _ _ q]
def RT.thaw(t:RT K B B' F H sd hp Z) (e:Ext (yk F B'.H0 hp) H b g):RT K B B' (qY b hp) g sd hp Z/\ju F (qY b hp)/\∀a c,b a=! .tup c->qY b hp a=! .tup c:=by
 let(!l,p,i):=t.frzA;let f:ju F (qY b hp):=λa o q=>by
  induction z:jc hp a with
  |none=>rw[Vz z,];rw[e.ff _ _<|l _ _ q]
  |some d=>rw[t.free z]at q;rw[J2 q]
 let ex:Ext F H (qY b hp) g:=(f,λa o q=>by
  cases z:jc hp a with
  |none=>rw[Vz z]at q;rw[e.fh _ _ q]
  |some d=>rw[AZ z]at q;rw[J2 q],e.hh,λa r n=>by
  cases z:jc hp a with
  |none=>rw[Vz z,];rw[e.new a (by simp_all[yk]) n]
  |some d=>rw[AZ z])
 rw[(t.go f<|t.rs.step ex,f,λa c q=>?_)]
 induction z:jc hp a with
 |none=>rwa[Vz z,]
 |some d=>
  have(_,_,j):=t.obj a d z;have(o,i):=j.has;let s:=e.ff a o (by simp_all[yk]);rw[Zn ()<|j.noTup i c]
def RT.newO(t:RT K B B' F H sd hp Z)   (f:H a=8)(h:zi K F (upd H a o) a d):jc hp a=8/\RT K B (B'.F0,upd B'.H0 a o,B'.pa) F (upd H a o) sd (%[a|d]::hp) Z:=by
 let g:jc hp a=8:=by
  induction z:jc hp a with
  |none=>rfl
  |some S=>
   let(u,r):=(t.lies z).has
   ext
 let j:=Q1 t.rs.ext.fh f;let T:=Q1 t.rs.ext.hh f;let s:B.H0 a=8:=by rwa[<-t.out a g]
 rw[(g,((t.rs.ext.ff,AA o t.rs.ext.fh j,λb u e=>?_,λb v E=>?_),t.rs.len,t.rs.val,λ{i p e}q=>?_,t.rs.apart),t.f0,t.pa,λb c=>?_,λb e c=>?_)]
 .let e:upd B'.H0 a o b=!u:=e;cases z:b=a
  .simp_all[JE]
  .rw[J6 z]at e ⊢;rw[t.rs.ext.hh _ _ e]
 .cases z:b=a
  .rwa[z,]
  .rw[t.rs.ext.new b v λy=>E<|by show upd B'.H0 a o b=8;rwa[J6 z,]]
 .let(-l,G,I,J,n,L):=t.rs.own q;let ne:l≠a:=λz=>by
   let(u,r):=n.has
   ext
  rw[(l,G,(J6 ne).trans I,J,n.ext (.refl _)<|λu M=>by rwa[J6 ne,],λz=>(L z).mono λu M=>by rwa[J6 ne,])]
 .rw[JK]at c;cases z:b=a
  .ext
  .rw[Ze z]at c;show upd B'.H0 a o b=B.H0 b;rw[J6 z,];rw[t.out b c]
 .rw[JK]at c;cases z:b=a
  .rw[Zd z]at c;obtain rfl:=Zqi c;subst z;rw[(by rw[<-t.f0];rw[Q1 t.rs.ext.ff j],s,h.ext (.refl _) λu q=>by simp_all[JE])]
  .rw[Ze z]at c;let(!O,Q,R):=t.obj b e c;rw[(O,Q,R.ext (.refl _) λu q=>by show upd B'.H0 a o b=!u;rwa[J6 z,])]
structure ExtV(K:aa)(F H:Hp)(hp:HP)(F' H':Hp)(hp':HP):4 where
 ff:ju F F'
 fh:ju F' H'
 hh:∀a o,jc hp a=8->H a=!o->H' a=!o
 new:∀a,F a=8->H a≠8->F' a=8
 len:uQ K F' H' hp'
 dom:∀a,jc hp' a=8->jc hp a=8
 frs:∀a,jc hp a=8->jc hp' a≠8->H a=8
def RT.callV(t:RT K B B' F H sd hp Z)(w:ExtV K F H hp F' H' hp'):∃E,RT K B E F' H' sd hp' Z:=by
 let S:∀a,(match jc hp' a with
  |none=>B'.H0 a
  |some _=>H' a)=if jc hp' a=8 then B'.H0 a else H' a:=λa=>by grind
 rw[((B'.F0,λa=>match jc hp' a with
  |none=>B'.H0 a
  |some _=>H' a,B'.pa),((t.rs.ext.ff.trans w.ff,w.fh,λa o e=>?_,λa G b=>?_),t.rs.len,λq=>let(v,I,h2):=t.rs.val q;(v,I,IsD.same w.ff _ _ h2),λ{i p e}q=>?_,t.rs.apart),t.f0,t.pa,λa c=>?_,λa d c=>?_)]
 .let e:(match jc hp' a with
   |none=>B'.H0 a
   |some _=>H' a)=!o:=e
  cases z:jc hp' a with
  |none=>rw[z]at e;rw[w.hh a o (w.dom a z)<|t.rs.ext.hh _ _ e]
  |some d=>ext
 .let b:(match jc hp' a with
   |none=>B'.H0 a
   |some _=>H' a)≠8:=b
  induction z:jc hp' a with
  |none=>
   rw[z]at b;rw[w.new a (t.rs.ext.new a G b) λy=>b<|Q1 t.rs.ext.hh y]
  |some d=>rw[(w.len a d z).1]
 .have(l,J,L,M,j,O):=t.rs.own q;let g:jc hp l=8:=by
   induction z:jc hp l with
   |none=>rfl
   |some Q=>rw[Zn 9<|t.no_own z L]
  have(o,n):=j.has;let R:jc hp' l=8:=by
   induction z:jc hp' l with
   |none=>rfl
   |some Q=>
    let:=w.frs l g (by rw[z,];simp);rw[n]at this;rw[J2 this.symm]
  rw[(l,J,?_,w.new l M<|by rw[n,];simp,j.ext w.ff λu q=>w.hh _ _ g q,λz=>(O z).mono λu q=>w.hh _ _ g q)]
  ext
 .show(match jc hp' a with
   |none=>B'.H0 a
   |some _=>H' a)=B.H0 a
  rw[c,];rw[t.out a<|w.dom a c]
 .let f:B.F0 a=8/\B.H0 a=8:=by
   induction z:jc hp a with
   |none=>
    let r:=w.frs a z (by rw[c,];simp);rw[(by rw[<-t.f0];rw[Q1 t.rs.ext.ff<|Q1 t.rs.ext.fh r],by rw[<-t.out a z];rw[Q1 t.rs.ext.hh r])]
   |some s=>rw[((t.obj a s z).1,(t.obj a s z).2.1)]
  rw[(f.1,f.2,(w.len a d c).2.ext (.refl _) λo q=>?_)]
  ext
end
abbrev FV:=SD->HP->Wr (D×HP)
abbrev zg:=SD->HP->Wr (Yq×HP)
abbrev vb:=SD->HP->Wr (Bool×HP)
def tL(K:aa)(B:Bs)(F:Hp)(sd:SD)(Z:St)(Q:VK)(p:D×HP):4:=∀v c a b,ju F a->RT K B c a b sd p.2 Z->IsD K a p.1 v->Q v b
def rH(K:aa)(E:XK)(f:FV):TE:=λZ H Q=>∃B b F sd a,RT K B b F H sd a Z/\(f sd a).need (tL K B F sd Z Q) (XW K E B.F0 B.H0)
abbrev QV(X:Cx)(E:XK)(e:Expr)(f:FV):4:=PE X e<|rH X.K E f
def rG(K:aa)(E:XK)(f:zg):TA:=λZ H Q=>∃B e F sd b,RT K B e F H sd b Z/\(f sd b).need (λp=>∀c g a d,ju F a->RT K B g a d sd p.2 Z->IsDs K a p.1 c->Q c d) (XW K E B.F0 B.H0)
abbrev vW(X:Cx)(E:XK)(es:List Expr)(f:zg):4:=PA X es<|rG X.K E f
def kJ(K:aa)(E:XK)(f:vb):TT:=λZ H Q=>∃B d F sd a,RT K B d F H sd a Z/\(f sd a).need (λp=>∀e b c,ju F b->RT K B e b c sd p.2 Z->Q p.1 c) (XW K E B.F0 B.H0)
abbrev kf(X:Cx)(E:XK)(e:Expr)(f:vb):4:=PT X e<|kJ X.K E f
section
variable    {a b e o i:Expr}  {fe fa fb fo fi:FE}   {fr:zg}
def vL(f:FE):FV:=λsd c=>(Wr.of<|f sd).bind λd=>.ok %[d|c]
def J3(h:QE X E e fe):QV X E e (vL fe):=PE.weak h λZ H Q=>yy λB f F sd p=>jD λt n=>jh f F sd (t.rs,ze n (λd g v j l c m=>g v f j l c.ff (t.go c.ff<|t.rs.step c) m) λ_ _ q=>q.ext<|t.ext0 t.rs.ext)
def yM(f:FT):vb:=λsd c=>(Wr.of<|f sd).bind λd=>.ok %[d|c]
def V0(h:QT X E e g):kf X E e (yM g):=PT.weak h λZ H Q=>yy λB f F sd p=>jD λt n=>jh f F sd (t.rs,ze n (λd j l m c=>j f l m c.ff<|t.go c.ff<|t.rs.step c) λ_ _ q=>q.ext<|t.ext0 t.rs.ext)
def qG(k:5)(g:Yf)(f:FE):FV:=λsd c=>(Wr.of (f<|drI k c g sd).strict).bind λd=>if QK 08 d then .ok %[d|c]else .no
def Qx(k:5)(g:Yf)(h:QE X E e fe):QV X E e (qG k g fe):=PE.weak h λZ H Q j=>by
 let(B l F sd C,t,n):=j;let(!G,m,p):=t.frzA;rw[jh B _ _ (m.drI p k g,(Res.need_strict<|jQ.mp<|Wr.need_bind.mp n).mono (λd f v I r s u=>?_) λc fs q=>q)]
 split at f
 .rename_i w;let(!y,z,A):=t.thaw s;rw[f v l _ r z y<|yJ A 08 d v w u]
 .rw[f.elim]
def xG(k:5)(g:Yf)(f:FT):vb:=λsd c=>(Wr.of (f<|drI k c g sd).strict).bind λd=>.ok %[d|c]
def Wt(k:5)(f:Yf)(h:QT X E e g):kf X E e (xG k f g):=PT.weak h λZ H Q j=>by
 let(B l F sd v,t,n):=j;rw[jh B _ _ (t.frzA.2.1.drI t.frzA.2.2 k f,(Res.need_strict<|jQ.mp<|Wr.need_bind.mp n).mono (λd m w p r=>?_) λc fs q=>q)];let(!s,u,y):=t.thaw r;rw[m l _ p u s]
def xm(o:D)(q:D×HP):Wr (D×HP):=match o with
 |.adr a=>match jc q.2 a with
  |some (.lst c)=>(Wr.of<|.ofO<|jf (.lst c) q.1).bind λz=>.ok %[z|q.2]
  |_=>.no
 |_=>.no
def yw(fo fi:FV):FV:=λsd c=>(fo sd c).bind λp=>(fi sd p.2).bind<|xm p.1
def K6(j:QV X E o l)(m:QV X E i r)(s:A5 i):QV X E (.Subscript o i u) (yw l r):=PE.weak (Ci db j m s) λZ H Q A=>by
 let(B C F sd G,t,n):=A;rw[jE B C F sd G (t,jK n λp I v J L H1 M N f=>jE B J L sd p.2 (N,jK I λq c w O P R S g T=>?_))];unfold xm at c
 split at c
 .rename_i a d;rw[d]at f;obtain rfl:=jC.mp f
  split at c
  .rename_i es U;have(Y,g1,g2):=g.lies U;have(z,h,k):=jk (jQ.mp<|Wr.need_bind.mp c);let(y,hp2):=q;cases y with
   |int k'=>
    have(x,hx,ix):=C5 g2 h;rw[jX a Y k' x (9,je.mp T,qX.of g1,hx,k _ O P R (M.trans S) g ix)]
   |_=>rw[J2 h]
  .rw[c.elim]
 .rw[c.elim]
def ZO(c f:Str)(p:D×HP):Wr (D×HP):=match p.1 with
 |.adr a=>match jc p.2 a with
  |some d=>(Wr.of<|.ofO<|jA c f d).bind λz=>.ok %[z|p.2]
  |_=>.no
 |_=>.no
def vd(c f:Str)(fo:FV):FV:=λsd d=>(fo sd d).bind<|ZO c f
def G7   (k:ClsD X.K X.mg c C fs)(y:f∈fs)(A:QV X E e G)(I:attributeBase e f X.env (eval e X.env)=eval e X.env:=by rfl):QV X E (.Attribute e f J) (vd c f G):=PE.weak (E8 A I) λZ H Q L=>by
 let(B M F sd N,t,n):=L;rw[jE B M F sd N (t,jK n λp g v O P R S m r=>?_)];unfold ZO at g
 split at g
 .rename_i a j;rw[j]at r;obtain rfl:=jC.mp r
  split at g
  .rename_i d T;let U:=m.lies T;let(-z,s,q):=jk (jQ.mp<|Wr.need_bind.mp g);cases d with
   |ins u Y ds=>
    let h:(if u=c then zX f Y ds else 8)=!z:=s;cases l:u=c
    .rw[Zd l]at h;subst l;let(C' dx xs,w,hH,hl,hi):=U;rw[k.ns]at w;cases w;let(-x,h1,h2):=CP hi hl h;rw[jE a C dx _ x (9,hH,k.cls,k.no f y,h1,q _ O P R S m h2)]
    .rw[Ze l]at h;rw[J2 h]
   |_=>rw[J2 s]
  .rw[g.elim]
 .rw[g.elim]
def j0:zg:=λ_ c=>.ok %[[]|c]
def J0(f:FV)(g:zg):zg:=λsd c=>(f sd c).bind λp=>(g sd p.2).bind λq=>.ok %[p.1::q.1|q.2]
def Qg:vW X E [] j0:=PA.weak Xi λZ H Q=>yy λB c F sd d=>jD λt n=>n [] c F H (.refl _) t .nil
def JB(f:QV X E e g)(h:vW X E c fr)(j:01 (e::c) X.env=%[7|eval e X.env]::01 c X.env:=by rfl):vW X E (e::c) (J0 g fr):=PA.weak (Xj f h j) λZ H Q=>yy λB l F sd m=>jD λt n=>jE B l F sd m (t,jK n λp r v s u N w y z=>jE B s u sd p.2 (y,jK r λq A C G I J d L M=>A (v::C) G I J (w.trans d) L<|.mk (IsD.same d _ _ z) M))
def jG(fr:zg):FV:=λsd c=>(fr sd c).bind λp=>if ⇑p.1<=1000 then .new p.2 λa=>.ok %[.adr a|%[a|.lst p.1]::p.2]else .no
def Ki(h:vW X E g fr):QV X E (.List g j) (jG fr):=PE.weak (EC h) λZ H Q l=>by
 let(B m F sd r,t,n):=l;rw[jE B m F sd r (t,jK n λp c s C u G v w f=>?_)]
 split at c
 .let I:=⇑f;rw[(small (),λq y=>?_)];let(z,A):=w.newO (d:=.lst p.1) y (s,JE,f);rw[c q z _ _ u _ v A<|jC.mpr 9]
 .rw[c.elim]
def zj(K:aa)(h:Yq->HP->Wr (D×HP)):Sp:=λj H Q _=>∃F d c,ju F H/\IsDs K F d j/\uQ K F H c/\(h d c).need (λp=>∀v f g,ExtV K F H c f g p.2->IsD K f p.1 v->Q v g) (XW K E0 F<|qY H c)
def Qr(c:Yq->HP->Wr (D×HP))(fr:zg):FV:=λsd d=>(fr sd d).bind λp=>c p.1 p.2
def K7     (c:wq X.prog X.w X.K X.mg X.base name k S (zj X.K l))(m:Room k X.A)(r:Gl X name)(s:vW X E0 (e::d) fr)
 (g:(name==("__debug__":Str))=7:=by decide)(u:01 (e::d) X.env=%[7|eval e X.env]::01 d X.env:=by rfl)(h:(backTo j<|01 d X.env).any (·.1)=7:=by rfl):
 QV X E0 (.Call (.Name name p) (e::d) [] j) (Qr l fr):=PE.weak (XN c m r s g u h) λZ H Q y=>by
 let(B z F sd A,t,n):=y;rw[jE B z F sd A (t,jK n λp C E T G I J f L=>?_)];show zj X.K l (E++[]) I Q E0;rw[ZA,];rw[jh G p.1 p.2 (f.rs.ext.fh,L,f.lent,C.mono (λq M v N O w i=>?_) λ_ _ q=>q.ext f.hidden)];let(P,R):=f.callV w;rw[M v P N O (J.trans w.ff) R i]
end
inductive Out3 where
 |next(sd:SD)(hp:HP)|ret(d:D)(hp:HP)|brk(sd:SD)(hp:HP)|cont(sd:SD)(hp:HP)
def uU(K:aa)(B:Bs)(F:Hp)(T:Ends):Out3->4
 |.next sd c=>∀Z e a b,ju F a->RT K B e a b sd c Z->T.nx Z b
 |.brk sd c=>∀Z e a b,ju F a->RT K B e a b sd c Z->T.bk Z b
 |.cont sd c=>∀Z e a b,ju F a->RT K B e a b sd c Z->T.ct Z b
 |.ret d c=>∀v Z sd e a b,ju F a->RT K B e a b sd c Z->IsD K a d v->T.rt v b
def uU.mono{K:aa}    (h:uU K B F T o)(e:ju F g):uU K B g T o:=by
 cases(o)with
 |next sd f=>rw[λZ a b c s r=>h Z a b c (e.trans s) r]
 |brk sd f=>rw[λZ a b c s r=>h Z a b c (e.trans s) r]
 |cont sd f=>rw[λZ a b c s r=>h Z a b c (e.trans s) r]
 |ret d f=>rw[λv Z sd a b c s r i=>h v Z sd a b c (e.trans s) r i]
abbrev qb:=SD->HP->Wr Out3
def di(K:aa)(E:XK)(g:qb):TS:=λT Z H=>∃B b F sd a,RT K B b F H sd a Z/\(g sd a).need (uU K B F T) (XW K E B.F0 B.H0)
abbrev VS(X:Cx)(E:XK)(st:Stmt)(g:qb):4:=PS X st<|di X.K E g
abbrev wZ(X:Cx)(E:XK)(st:List Stmt)(g:qb):4:=xR X st<|di X.K E g
def rk(a:HP):Out->Wr Out3
 |.next sd=>.ok (.next sd a)
 |.ret _=>.no
 |.brk sd=>.ok (.brk sd a)
 |.cont sd=>.ok (.cont sd a)
section
variable    {st:Stmt}  {g:FS}{g1 g2:qb}  {o i e:Expr}
def zL(g:FS):qb:=λsd a=>(Wr.of<|g sd).bind<|rk a
def Kj(h:QS X E m st g):VS X E st (zL g):=PS.weak h λT Z H=>yy λB j F sd p=>jD λt n=>jh j F sd (t.rs,ze n (λo l=>by
 cases(o)with
 |next a=>rw[λb c f s r=>l b j c f s<|t.go s r]
 |brk a=>rw[λb c f s r=>l b j c f s<|t.go s r]
 |cont a=>rw[λb c f s r=>l b j c f s<|t.go s r]
 |ret d=>rw[l.elim]) λ_ _ q=>t.xw q)
def QD:qb:=λsd a=>.ok<|.next sd a
def zK(g2:qb):Out3->Wr Out3
 |.next a b=>g2 a b
 |o=>.ok o
def jr(g1 g2:qb):qb:=λsd a=>(g1 sd a).bind<|zK g2
def KO:wZ X E [] QD:=xR.weak Cc λT Z H=>yy λB a F sd b=>jD λt n=>n Z a F H (.refl _) t
def JW(h:VS X E st g1):wZ X E [st] g1:=Ax h
def JD(h:VS X E st g1)(j:wZ X E f g2):wZ X E (st::f) (jr g1 g2):=xR.weak (Cd h j) λT Z H l=>by
 let(B m F sd p,t,n):=l;rw[jE B m F sd p (t,jK n λo c=>?_)]
 cases(o)with
 |next b a=>rw[λw r u y s v=>jE B r u b a (v,c.mono (λo q=>q.mono s) λ_ _ q=>q)]
 |ret d a=>rw[c]
 |brk b a=>rw[c]
 |cont b a=>rw[c]
def qT(f:FV):qb:=λsd a=>(f sd a).bind λp=>.ok<|.ret p.1 p.2
def V1(h:QV X E e a):VS X E (.Return (!e) b) (qT a):=PS.weak (Ay h) λT Z H=>yy λB c F sd d=>jD λt n=>jE B c F sd d (t,jK n λp f v j l m r s u=>f v Z sd j l m r s u)
def Kk(f:FV):qb:=λsd a=>(f sd a).bind λp=>.ok<|.next sd p.2
def WJ(h:QV X E e b)(c:swapsWith e 8 a.line X.env=pure 7:=by rfl):VS X E (.Expr e a) (Kk b):=PS.weak (YK h c) λT Z H=>yy λB d F sd f=>jD λt n=>jE B d F sd f (t,jK n λp j v l m r s u w=>j Z l m r s u)
def jV(i:5)(f:FV):qb:=λsd a=>(f sd a).bind λp=>.ok<|.next (sd.set i<|~~~p.1) p.2
def QL{i:5}  (c:X.N.Nodup)(d:X.N[i]?=!x)(f:zO X.env.scope x)(h:QV X E e j)(l:swapsWith e (! .Name x a) m.line X.env=pure 7:=by rfl)(r:X.fn x=6\/X.env.scope.names.lookup x=!.local:=by trivial):
 VS X E (.Assign [.Name x a] e m) (jV i j):=PS.weak (Ce c d f h l r) λT Z H=>yy λB s F sd u=>jD λt n=>jE B s F sd u (t,jK n λp w v y z A C b G=>w _ y z A C<|b.go (.refl _)<|b.rs.setVal G)
def Qk(c:vb)(g1 g2:qb):qb:=λsd a=>(c sd a).bind λp=>if p.1 then g1 sd p.2 else g2 sd p.2
def QY   (r:kf X E c s)(u:wZ X E a g1)(v:wZ X E b g2):VS X E (.If c a b w) (Qk s g1 g2):=PS.weak (Ep r u v) λT Z H y=>by
 let(B z F sd A,t,n):=y;rw[jE B z F sd A (t,jK n λp f h j C l m=>?_)];let(b,d):=p
 cases(b)with
 |true=>rw[jE B h j sd d (m,(f).mono (λ_ q=>q.mono l) λ_ _ q=>q)]
 |false=>rw[jE B h j sd d (m,(f).mono (λ_ q=>q.mono l) λ_ _ q=>q)]
def VF(sd:SD)(a:Addr)(q:D×HP):Wr Out3:=match jc q.2 a with
 |some (.lst b)=>if ⇑b<00 then .ok (.next sd<|JC q.2 a<|.lst<|b++[q.1])else .no
 |_=>.no
def WK(b:FV)(sd:SD)(p:D×HP):Wr Out3:=match p.1 with
 |.adr a=>match jc p.2 a with
  |some (.lst _)=>(b sd p.2).bind (VF sd a)
  |_=>.no
 |_=>.no
def qz(a b:FV):qb:=λsd c=>(a sd c).bind<|WK b sd
def VG (I:QV X E o J)(L:QV X E e M)
 (h:∀{u:TE}{t:TA},PE X o u->PA X [e] t->PE X (.Call (.Attribute o "append" b) [e] [] c) (uX X.K "list" Cj u t))
 (N:swapsWith (.Call (.Attribute o "append" b) [e] [] c) 8 j.line X.env=pure 7:=by rfl)
 (l:01 [e] X.env=%[7|eval e X.env]::01 [] X.env:=by rfl):VS X E (.Expr (.Call (.Attribute o "append" b) [e] [] c) j) (qz J M):=
 PS.weak (YK (h I<|Xj L Xi l) N) λT Z H O=>by
  let(B P F sd h,t,n):=O;rw[jE B P F sd h (t,jK n λp d v Q R H1 S y z=>?_)];unfold WK at d
  split at d
  .rename_i a m;rw[m]at z;obtain rfl:=jC.mp z
   split at d
   .rename_i U r;have(s,Y,k2):=y.lies r;rw[(.inl (9,s,qX.of Y),B,Q,R,sd,p.2,y,jK d λq f w B2 F2 H2 s2 A i2=>?_)];unfold VF at f
    split at f
    .rename_i es C
     split at f
     .have(G,g1,g2):=A.lies C;let hl:=⇑g2;rw[jh a G w (9,9,g1,(),f Z _ F2 _ (S.trans s2)<|A.chg C (G++[w],JE,g2.snoc i2))]
     .rw[f.elim]
    .rw[f.elim]
   .rw[d.elim]
  .rw[d.elim]
def V2(sd:SD)(d:D)(a:Addr)(q:D×HP):Wr Out3:=match jc q.2 a with
 |some (.lst b)=>match q.1 with
  |.int k=>match zm ⇑b k with
   |some j=>.ok (.next sd<|JC q.2 a<|.lst<|b.set j d)
   |none=>.no
  |_=>.no
 |_=>.no
def Ba(b:FV)(sd:SD)(d:D)(p:D×HP):Wr Out3:=match p.1 with
 |.adr a=>(b sd p.2).bind (V2 sd d a)
 |_=>.no
def ye(a b c:FV):qb:=λsd d=>(c sd d).bind λp=>(a sd p.2).bind<|Ba b sd p.1
def Wu(U:QV X E o vo)(hi:QV X E i vi)(hv:QV X E e ve)(z:∀v,assign (.Subscript o i b) X.env v=(do
 let d<-holding [v] (eval o X.env)
 let f<-holding [v,d] (eval i X.env)
 standAt b
 holding [v,d,f] (setItem d f v)
 release [v,d,f] []):=by intro _;rfl)(hs:swapsWithSole [.Subscript o i b] e A.line X.env=pure 7:=by rfl)(hw:swappedStores [.Subscript o i b] e X.env=pure 8:=by rfl)
 (h1:(assignEach [.Subscript o i b] X.env).map (·.2)=[assign (.Subscript o i b) X.env]:=by rfl):VS X E (.Assign [.Subscript o i b] e A) (ye vo vi ve):=PS.weak (Es hv (λY s Z H v u Q I r h=>Za<|wpAny_holding<|jF (U Y s Z H _ I h) λd C=>jy λx M=>j5 λI1 r1 q1=>Za<|wpAny_holding<|jF (hi Y C Z M _ I1 q1) λf l=>jy λy N=>j5 λI2 r2 q2=>Za<|wpAny_standAt<|Za<|wpAny_holding<|jF (Mt Y l Z N x y v d f u _ I2 r1 r2 r q2) λ_ G=>xg λO=>jD λI3 q3=>wpAny_release (Z,O,I3,q3)) hs hw h1) λT Z H zh=>by
 let(B B' F sd hp,t,n):=zh;rw[jE B B' F sd hp (t,jK n λp n1 v B1 F1 M C t1 i1=>jE B B1 F1 sd p.2 (t1,jK n1 λp2 m v2 B2 F2 N l t2 P=>?_))];unfold Ba at m
 split at m
 .rename_i a J;rw[J]at P;obtain rfl:=jC.mp P;rw[jE B B2 F2 sd p2.2 (t2,jK m λq c w B3 F3 O G R S=>?_)];unfold V2 at c
  split at c
  .rename_i es z
   split at c
   .rename_i k L;rw[L]at S
    split at c
    .rename_i j hk;let(-xs,g1,g2):=R.lies z;let hl:=⇑g2;rw[jX a xs k j (9,je.mp S,g1,by rw[hl,];rw[hk],?_)];rw[c Z _ F3 _ ((C.trans l).trans G)<|R.chg z (_,JE,g2.set j<|IsD.same (l.trans G) _ _ i1)]
    .rw[c.elim]
   .rw[c.elim]
  .rw[c.elim]
 .rw[m.elim]
def y4(b:D->qb):Yq->qb
 |[],sd,f=>.ok (.next sd f)
 |x::h,sd,f=>(b x sd f).bind λo=>match o with
  |.next c a=>y4 b h c a
  |.cont c a=>y4 b h c a
  |.brk c a=>.ok (.next c a)
  |.ret d a=>.ok (.ret d a)
def KY(a:Tg)(b:qb)(x:D):qb:=λsd c=>(Wr.of<|JS a x sd).bind λs=>b s c
def zy(a:FA)(c:Tg)(b:qb):qb:=λsd d=>(Wr.of<|a sd).bind λf=>y4 (KY c b) f sd d
def G8    (A:PassesOwn (model X.prog X.w) X.A X.env X.xe)(hc:X.calm=6)(hi:QI X E tg m it)(hg:QG X tg t)(hb:wZ X E G g1)
 (Q:∀x,foldedSetIterable m X.env x=pure x:=by intro _;rfl):VS X E (.For tg m G [] pos) (zy it t g1):=PS.weak (Et A hc hi hg hb Q) λT Z H=>yy λB B' F sd A=>jD λr n=>jh B' F sd (r.rs,ze n (λc n1 J R H1 S wk=>by
  rw[(λi k Z H=>k=⇑c-i/\i<=⇑c/\∃N C sd A,ju R C/\RT X.K B N C H sd A Z/\(y4 (KY t g1) (c.drop i) sd A).need (uU X.K B C T) (XW X.K E B.F0 B.H0),
   (⇑c,9,Um _,B',R,sd,A,.refl _,r.go S.ff<|r.rs.step S,n1.mono (λ_ q=>q.mono S.ff) λ_ _ q=>q),?_)]
  rintro i k Z2 H2 ⟨rfl,hi,N,C,sd2,U,Y,O,I⟩;let(!w1,w2):=wk i C H2 Y O.rs.ext.fh;cases f:i<⇑c
  .have(go,yl):=w1 f;rw[.inr (go,λZ' H'=>∃B3 s h j,ju R s/\RT X.K B B3 s H' h j Z'/\(y4 (KY t g1) (c.drop<|i+1) h j).need (uU X.K B s T) (XW X.K E B.F0 B.H0),
    λZ' H'(B3,s,h,j,q1,q2,q3)=>(⇑c-(i+1),(),9,f,B3,s,h,j,q1,q2,q3),λx H3 y=>?_)]
   let(d s,hd,p,i3):=yl x H3 y;rw[UH f]at I;let hd':c[i]=d:=by rw[Zqg f]at hd;rw[Zqi hd]
   rw[hd']at I;let r3:=O.go p.ff<|O.rs.step p;rw[YU r3.rs i3 (jQ.mp<|Wr.need_bind.mp<|Wr.need_bind.mp I) λsd' Z' n4 _ r4=>jE B N s sd' U (r3.go (.refl _) r4,n4.mono (λo P=>?_) λ_ _ q=>q)]
   cases(o)with
   |next a b=>rw[λL u w M l z=>(u,w,a,b,(Y.trans p.ff).trans l,z,P.mono (λ_ q=>q.mono<|p.ff.trans l) λ_ _ q=>q)]
   |cont a b=>rw[λL u w M l z=>(u,w,a,b,(Y.trans p.ff).trans l,z,P.mono (λ_ q=>q.mono<|p.ff.trans l) λ_ _ q=>q)]
   |brk a b=>rw[λL u w M l z=>P L u w M (p.ff.trans l) z]
   |ret d b=>rw[λv L a u w M l z i5=>P v L a u w M (p.ff.trans l) z i5]
  .let he:i=⇑c:=()
   rw[.inl (w2 (),?_)];subst he;rw[UQ]at I;rw[I Z2 N C H2 (.refl _) O]) λ_ _ q=>q.ext<|r.ext0 r.rs.ext)
end
def qi:Out3->Wr (D×HP)
 |.ret d a=>.ok %[d|a]
 |.next _ a=>.ok %[.non|a]
 |_=>.no
def qK(n c:5)(g:qb)(a:Yq)(b:HP):Wr (D×HP):=if ⇑a=c then((g (JN n a) b).bind qi).bind λp=>if b.all λz=>(jc p.2 z.1).isSome then .ok p else .no else .no
section
variable   {K:aa}    {st:Stmt}
theorem G9:∀{b:HP}{a:Addr}{d:D},jc b a=!d->∃z∈b,z.1=a
 |[],a,d,h=>by cases h
 |p::r,a,d,h=>by
  rw[JK]at h;cases z:a=p.1
  .rw[(p,Zqs,z.symm)]
  .rw[Ze z]at h;let(-y,c,e):=G9 h;rw[(y,Zqm _ c,e)]
def y7 (F:Fun K x B st f fd)(S:FnScope N U (Qe st))
 (hb:∀(r:Value)(A:Around)(c:List Env)(s:Shared)(H:Hp)(E:XK),Room k (A.deeper<|envOfC B (Qe st) s⁻¹ f r)->wZ (qk yt P w K mg I N B (Qe st) f r A c s H E).nox E0 (Kn st) g):
 FnOk P w K mg I yt (k+1) f fd U (zj K<|qK ⇑N ⇑U g):=by
 rw[F.ok S (λX H Q E=>xf λF Y j=>yh λ_ i _ n=>?_) λr A c s H X Q E hr=>xf λF Y j=>yh λhs i Z n=>(_,hb r A c s H E hr,?_)]
 .unfold qK at n
  split at n
  .rw[⇑i,];assumption
  .rw[n.elim]
 .unfold qK at n
  split at n
  .let t:RT K (F,qY H j,λ_=>8) (F,H,λ_=>8) F H (JN ⇑N Y) j (L2.start N X):=(RS.start hs i,9,9,λa C=>(Vz C).symm,λa d C=>((Z a d C).1,AZ C,(Z a d C).2));let J:∀{d:D}{b:HP}{v:V}{M:St}{h:SD}{O:Bs}{l u:Hp},(Wr.need (if j.all λz=>(jc b z.1).isSome then(.ok %[d|b]:Wr (D×HP))else .no) (λp=>∀v l u,ExtV K F H j l u p.2->IsD K l p.1 v->Q v u)<|XW K E0 F<|qY H j)->
    ju F l->RT K (F,qY H j,λ_=>8) O l u h b M->IsD K l d v->Q v u:=λ{d b v M h O l u}G L m R=>by
    split at G
    .let T:∀a,jc b a=8->jc j a=8:=λa C=>by
      induction z:jc j a with
      |none=>rfl
      |some d0=>
       grind[G9]
     let e:=m.ext0 m.rs.ext;rw[G v l u (L,m.rs.ext.fh,λa o C q=>e.hh a o<|(Vz C).trans q,λa h0 h1=>?_,m.lent,T,λa z y=>?_) R]
     .induction z:jc j a with
      |none=>rw[e.new a h0 λy=>h1<|(Vz z).symm.trans y]
      |some d=>
       induction y:jc b a with
       |none=>ext
       |some d'=>rw[m.free y]
     .induction y':jc b a with
      |none=>rw[Zn y' y]
      |some d'=>
       let:=(m.obj a d' y').2.1
       rwa[<-Vz (H:=H) z]
    .rw[G.elim]
   rw[jE _ _ F _ j (t,jK (Wr.need_bind.mp n|>λq=>Wr.need_bind.mpr q|>λq=>Wr.need_bind.mp q) λo G=>?_)]
   cases(o)with
   |next h b=>rw[λM O l u L m=>J G L m<|j8.mpr 9]
   |ret d b=>rw[λv M h O l u L m R=>J G L m R]
   |brk h b=>rw[G.elim]
   |cont h b=>rw[G.elim]
  .rw[n.elim]
def hU   (F:Fun K x l st f O)(S:FnScope N M (Qe st))
 (hw:∀h d,B h=.ok d->⇑h=⇑M/\((g (JN ⇑N h) []).bind qi).need (λp=>dr p.2 kk p.1=d) λ_ _=>False)(hx:∀h,∀c fs,B h ≠ .ex c fs)
 (R:∀(j:Value)(A:Around)(a:List Env)(s:Shared)(H:Hp)(E:XK),Room k (A.deeper<|envOfC l (Qe st) s⁻¹ f j)->wZ (qk yt P w K T r N l (Qe st) f j A a s H E).nox E0 (Kn st) g):
 FnOk P w K T r yt (k+1) f O M (xZ K B):=by
 rw[F.ok S (λU H Q E=>jy λF h=>j5 λ_ i n=>?_) λj A a s H U Q E X=>jy λF h=>j5 λY i n=>(_,R j A a s H E X,?_)]
 .induction q:B h with
  |ok d=>rw[⇑i,];rw[(hw h d q).1]
  |ex c fs=>ext
  |no=>rw[q]at n;rw[n.elim]
 .induction q:B h with
  |ex c fs=>ext
  |no=>rw[q]at n;rw[n.elim]
  |ok d=>
   rw[q]at n;let t:∀{C:D}{b:HP}{v:V}{G:St}{e:SD}{I:Bs}{u y:Hp},dr b kk C=d->RT K (F,H,λ_=>8) I u y e b G->IsD K u C v->Q v y:=λ{C b v G e I u y}Z m L=>by
    let:=IsD.dr m.frzA.2.2 kk C v<|IsD.same m.frzA.1 _ _ L;rw[Z]at this;rw[n v _ _ m.frzA.2.1.ext this]
   rw[jE _ _ F _ [] (RT.start<|RS.start Y i,(Wr.need_bind.mp (hw h d q).2).mono (λo J=>?_) λ_ _ z=>z.elim)]
   cases(o)with
   |next e b=>rw[λG I u y s1 m=>t J m<|j8.mpr 9]
   |ret d b=>rw[λv G e I u y s1 m L=>t J m L]
   |brk e b=>rw[J.elim]
   |cont e b=>rw[J.elim]
end
end L2.DL
namespace L2
def uR(lo c:3)(n:5):It:=(λi _=>i<n,λi H x a=>a=H/\x=.int (lo+i*c),λi _=>n<=i)
def OR  {K:PySem.W.Frag} (a:Addr)(lo c:3)(n:5):Turn P w K R (uR lo c n) [a] a λi h=>IsRangeIter h a (lo+(i:5)*c) ((n:3)-(i:5)) c where
 mem:=by simp
 obj:=λi h st b d=>by
  let e:b=a:=by simpa using d
  subst e;rw[(_,st,λv z=>by
   let J:Data.fields _=Data.cell v:=z;cases J)]
 keep:=λi h g st k=>k a () _ st
 item:=by
  intro X l m p r i Y s Z H E I j st u;subst l m p;let(!y,A,L,B,C,F):=j a ();let W:=Walks.range (prog:=X.prog) (w:=X.w) (I.ok.hd r) a lo c n;rw[W.item i s _ _ u st λv g G M f N=>?_];let(t,rfl):=M;let O:Inv X Y Z H {s with heap:=g,toks:=G}:=I.turned (λb o d e=>N b o (by simpa using d) e) y A B C F;rw[(_,9,YL (s:={s with heap:=g,toks:=G}) (n:="range_iterator") f 9 9 (by decide) (.int<|lo+i*c,H,O,(t,9),(9,9),f,λb d=>(j b d).1))]
 done:=by
  intro X l m p r i Y s Z H E I j st u;subst l m p;let(!y,A,L,B,C,F):=j a ();rw[wpAny_pyNext_range_end (I.ok.hd r) st (by let:n<=i:=u;lia) λg Q=>(9,I.turned (t':=s.toks) (λb o d e=>Q b o d e) y A B C F)]
 self:=λ_ _ _ _ _ st h=>wpAny_pyIter_rangeiter st h
def f9(a:TA):TI:=λZ H R=>a Z H λb c=>∃i j:3,b=[.int i,.int j,.int 2]/\(-1000000000<=i/\i<=1000000000/\-1000000000<=j/\j<=1000000000)/\R (uR i 2 ((j-i+1)/2).toNat) c
def OS   (z:Gl X "range")(A:X.mg "range"=8)(B:PA X [a,b,c] C)(E:01 [a,b,c] X.env=[%[7|eval a X.env],%[7|eval b X.env],%[7|eval c X.env]]:=by rfl)(f:01 [b,c] X.env=[%[7|eval b X.env],%[7|eval c X.env]]:=by rfl):
 PI X O (.Call (.Name "range" p) [a,b,c] [] l) (f9 C):=by
 intro Y s Z H R I h;rw[Call_ (Xh I z A boot_range<|PyProof.Rows.callWith_type1 (jF (B l Y s Z H _ I h) λP d=>jy λQ w=>j5 λF G y=>?_) (by rw[E,f])<|by rw[f,];rfl)];let(i,j,e,(y,S,T,U),q):=y;subst e;cases G with
 |cons r g=>
  cases g with
  |cons J g=>
   cases g with
   |cons m g=>
    cases g;let(t,rfl):=r;let(u,rfl):=J;let(v,rfl):=m;rw[call_range_3 (by decide) ?_ (.inl<|PyProof.noPylong_of_log2<|by decide)];rw[wpAny_pyIter_range (IsRange.new ..) (by
     ext Builtin.Range.small Builtin.Range.rangeSize;simp only[Builtin.Range.rangeFitsLong,Uc,UF,decide_eq_true_eq,Yi,show(2:3)>0 by decide,if_true]
     split<;>lia) ?_]
    let n:Inv X Y Z w {d with heap:=d.heap.push {cls:=.type "range",data:=.fields #[.int i t,.int j u,.int 2 v]},toks:=d.toks}:=F.kept λb o e=>Zq _ e;rw[jE (d.heap.push {cls:=.type "range",data:=.fields #[.int i t,.int j u,.int 2 v]}).objs.size [(d.heap.push {cls:=.type "range",data:=.fields #[.int i t,.int j u,.int 2 v]}).objs.size] _ _ w (9,
     n.kept (t':=d.toks) λb o e=>Zq _ e,OR _ i 2 ((j-i+1)/2).toNat,?_,λb L=>?_,q)]
    .let M:i+((0:5):3)*2=i:=by simp
     let N:((((j-i+1)/2).toNat:5):3)-((0:5):3)=Builtin.Range.rangeSize i j 2:=by
      ext Builtin.Range.rangeSize;rw[Zd (by decide),]
      split<;>lia
     show IsRangeIter _ _ (i+((0:5):3)*2) (((((j-i+1)/2).toNat:5):3)-((0:5):3)) 2;rw[M,N];rw[Zr _ 9]
    .let e:b=(d.heap.push {cls:=.type "range",data:=.fields #[.int i t,.int j u,.int 2 v]}).objs.size:=by simpa using L
     subst e;rw[n.fpOk (Zf _)<|n.hok.fresh<|Zf _]
end L2
namespace L2.DL
def VH(lo c:3)(n:5):Yq:=(List.range n).map λk:5=>.int<|lo+k*c
def OT{K:aa} (lo c:3)(n:5):wc K g (uR lo c n) (VH lo c n):=λi b h j d=>by
 let e:⇑(VH lo c n)=n:=by ext VH;rw[Zql,ZB]
 rw[e,];rw[(λa=>(a,λx l f=>?_),λa=>a)];let(rfl,rfl):=f;rw[(.int<|lo+i*c,b,?_,.refl d,je.mpr 9)];ext VH;rw[Zv,U6 a];rfl
def fB(fr:FA):FA:=λsd=>(fr sd).bind λa=>match a with
 |[.int i,.int j,.int 2]=>if Vx i&&Vx j then .ok (VH i 2 ((j-i+1)/2).toNat)else .no
 |_=>.no
def OU (o:Gl X "range")(s:X.mg "range"=8)(t:QA X E [a,b,c] fr)(u:01 [a,b,c] X.env=[%[7|eval a X.env],%[7|eval b X.env],%[7|eval c X.env]]:=by rfl)(e:01 [b,c] X.env=[%[7|eval b X.env],%[7|eval c X.env]]:=by rfl):QI X E M (.Call (.Name "range" p) [a,b,c] [] v) (fB fr):=PI.weak (OS o s t u e) λZ H R w=>by
 let(B F sd,r,n):=w;rw[jh B F sd (r,(Res.need_bind n).mono (λN d O A C G I=>?_) λ_ _ q=>q)]
 split at d
 .split at d
  .rename_i i j f;let(x P,rfl,h,J):=ji.mp I;let(y z,rfl,L,g):=Xu J;rw[je.mp h,je.mp L,je.mp g];rw[Uc]at f;let l:-1000000000<=i/\i<=1000000000:=by let:=f.1;unfold Vx at this;rw[Uc,UM,UM]at this;lia
   let m:-1000000000<=j/\j<=1000000000:=by let:=f.2;unfold Vx at this;rw[Uc,UM,UM]at this;lia
   rw[(i,j,9,(l.1,l.2,m.1,m.2),d _ A C G<|OT i 2 _)]
  .rw[d.elim]
 .rw[d.elim]
def V3(c:FT)(b:FS):5->FS
 |0,_=>.no
 |n+1,sd=>(c sd).bind λt=>if t then(b sd).bind λo=>match o with
  |.next a=>V3 c b n a
  |.cont a=>V3 c b n a
  |.brk a=>.ok (.next a)
  |.ret d=>.ok (.ret d)else .ok (.next sd)
def OV    (k:5)(N:PassesOwn (model X.prog X.w) X.A X.env X.xe)(O:QT X E c y)(P:wf X E m h g):QS X E m (.While c h [] Q) (V3 y g k):=PS.weak (LH N O P) λT Z H R=>by
 let(B F sd,r,n):=R;rw[(λj Z H=>∃i a,ju F i/\RS X.K B i H a Z/\(V3 y g j a).need (wn X.K m B i T) (XW X.K E B.F0 B.H0),(k,F,sd,.refl _,r,n),?_)];intro j S Y;rw[jy λi a=>j5 λG u I=>?_]
 cases(j)with
 |zero=>rw[I.elim]
 |succ j=>
  rw[jh B i a (u,(Res.need_bind I).mono (λt v J U e=>?_) λ_ _ q=>q.ext u.ext)]
  cases(t)with
  |true=>
   rw[Zd 9]at v;rw[Zd 9,];rw[(λL M=>∃z l,ju F z/\RS X.K B z M l L/\(V3 y g j l).need (wn X.K m B z T) (XW X.K E B.F0 B.H0),λL M q=>(j,U3 _,q),B,J,a,u.step e,(Res.need_bind v).mono (λo w=>?_) λ_ _ q=>q)]
   cases(o)with
   |next b=>rw[λA p C f s=>(p,b,(G.trans e.ff).trans f,s,w.mono (λ_ q=>q.mono<|e.ff.trans f) λ_ _ q=>q)]
   |cont b=>rw[λA p C f s=>(p,b,(G.trans e.ff).trans f,s,w.mono (λ_ q=>q.mono<|e.ff.trans f) λ_ _ q=>q)]
   |brk b=>rw[λA p C f s=>w A p C (e.ff.trans f) s]
   |ret d=>rw[w]
  |false=>
   rw[Ze Zj]at v;rw[Ze Zj,];rw[v S J U e.ff<|u.step e]
def rW(K:aa)(g:Str->D->Yr):V->Yp->Hp->VK->4:=λx b H Q=>∃F a e z v,ju F H/\x=.str a/\b=[v]/\IsD K F e v/\g a e=!z/\zf K F H Q z
def gc(K:aa)(g:Str->D->Yr):V->Yp->Hp->VK->4:=λx b H Q=>∃F a e z v,ju F H/\x=.str a/\b=[v]/\IsD K F e v/\g a e=!z/\yT K F H Q z
def qD(g:Str->D->Yr)(a b:FE):FE:=λsd=>(a sd).bind λd=>match d with
 |.str x=>(b sd).bind λe=>.ofO<|g x e
 |_=>.no
def Bb{name id:String}    (l:QE X E o m)(p:QE X E e s)
 (u:∀{h:TE}{t:TA},PE X o h->PA X [e] t->PE X (.Call (.Attribute o name a) [e] [] b) (uX X.K "str" (rW X.K g) h t))(c:01 [e] X.env=%[7|eval e X.env]::01 [] X.env:=by rfl):
 QE X E (.Call (.Attribute o name a) [e] [] b) (qD g m s):=PE.weak (u l<|Xj p Xi c) λZ H Q A=>by
 let(B F sd,r,n):=A;rw[jh B F sd (r,(Res.need_bind n).mono (λd i v C N f G=>?_) λ_ _ q=>q)];cases d with
 |str x=>
  obtain rfl:=jg.mp G;rw[(9,B,C,sd,r.step f,(Res.need_bind i).mono (λy I w J O j L=>?_) λ_ _ q=>q.ext f)];let(-z,M,q):=jk I;rw[jE J x y z w (j.fh,9,9,L,M,q.ext<|f.trans j)]
 |_=>rw[i.elim]
def Bc{name id:String}    (l:QE X E o m)(p:QE X E e s)
 (u:∀{h:TE}{t:TA},PE X o h->PA X [e] t->PE X (.Call (.Attribute o name a) [e] [] b) (uX X.K "str" (gc X.K g) h t))(c:01 [e] X.env=%[7|eval e X.env]::01 [] X.env:=by rfl):
 QN X E (.Call (.Attribute o name a) [e] [] b) (qD g m s):=PE.weak (u l<|Xj p Xi c) λZ H Q A=>by
 let(B F sd,r,n):=A;rw[jh B F sd (r,(Res.need_bind n).mono (λd i v C N f G=>?_) λ_ _ q=>q)];cases d with
 |str x=>
  obtain rfl:=jg.mp G;rw[(9,B,C,sd,r.step f,(Res.need_bind i).mono (λy I w J O j L=>?_) λ_ _ q=>q.ext f)];let(-z,M,q):=jk I;rw[jE J x y z w (j.fh,9,9,L,M,q.ext<|f.trans j)]
 |_=>rw[i.elim]
def WL:Yq->02 Yg
 |[]=>![]
 |.str x::r=>(WL r).map (x::·)
 |_=>8
theorem GA:∀(a:Yg),WL (a.map D.str)=!a
 |[]=>9
 |w::a=>by
  show(WL<|a.map D.str).map (w::·)=_;rw[GA a,];rfl
theorem GB{K:aa} :∀{b:Yq}{a:Yg}{c:Yp}{e:Yd},WL b=!a->IsDs K F b c->j4 c e->∃l:List (Str×Tok),e=strValues l/\l.map (·.1)=a
 |[],a,c,e,h,i,r=>by
  obtain rfl:=Zqi h;rw[IsDs.nil_iff]at i;subst i;cases r;rw[([],9,9)]
 |d::b,a,c,e,h,i,r=>by
  let(x p,rfl,f,g):=ji.mp i;cases d with
  |str w=>
   let(-j,m,rfl):=Jj.mp (show(WL b).map (w::·)=!a from h);obtain rfl:=jg.mp f;cases r with
   |cons n o=>
    let(t,rfl):=n;let(-l,rfl,rfl):=GB m g o;rw[(%[w|t]::l,9,9)]
  |_=>rw[J2 h]
def WM(x:Str):D->Yr
 |.lst b=>(WL b).bind λa=>if JoinOk x a then !(.str<|Txt.join x a)else 8
 |_=>8
def CW:ms X "str.join" (rW X.K WM):=by
 intro Y s Z H x C v E Q I g i h;let(F a e z w,d,rfl,rfl,j,f,q):=h;let(t,rfl):=g;let(-u,rfl,m):=Kg i;cases e with
 |lst n=>
  let(-b,o,c):=Jg.mp (show(WL n).bind (λb=>if JoinOk a b then !(.str<|Txt.join a b)else 8)=!z from f)
  split at c
  .rename_i r;obtain rfl:=Zqi c;let(p G,rfl,y,A):=jx.mp j;obtain rfl:u=Value.ref p:=m;let(-B,ri,pl,J):=I.list (y.same d).sq;let(-l,rfl,rfl):=GB o A ri;rw[SC.join pl.isList 9 r λL k=>(.str _,H,I.tok _,(_,9),q _ F H (.refl d)<|jg.mpr 9)]
  .rw[J2 c]
 |_=>rw[J2 f]
def Bd(x:Str):D->Yr
 |.str y=>!(.bl<|Txt.startswith x y)
 |_=>8
def OW:ms X "str.startswith" (rW X.K Bd):=by
 intro Y s Z H x l v m Q I c d h;let(F a e z w,f,rfl,rfl,g,b,q):=h;let(t,rfl):=c;let(-u,rfl,i):=Kg d;cases e with
 |str y=>
  obtain rfl:=Zqi b;obtain rfl:=jg.mp g;let(j,rfl):=i;rw[call_gives PySem.F.slot_str_startswith (typeIs_str _ _ _) PySem.F.entry_str_startswith (PySem.F.args_str_startswith_2 _ _) (gives_str_startswith a y t j) (.bl _,H,I,9,q _ F H (.refl f)<|jp.mpr 9)]
 |_=>rw[J2 b]
def VZ(x:Str):D->Yr
 |.str y=>if(⇑y==0)=7/\⇑x+2<=00 then !(.lst<|(Txt.split x y).map .str)else 8
 |_=>8
theorem GC:∀l:List (Str×Tok),j4 ((l.map (·.1)).map V.str) (strValues l)
 |[]=>.nil
 |p::l=>.cons (p.2,9) (GC l)
theorem GD{K:aa} :∀a:Yg,IsDs K F (a.map D.str) (a.map V.str)
 |[]=>.nil
 |w::a=>.mk (jg.mpr 9) (GD a)
def Be:ms X "str.split" (gc X.K VZ):=by
 intro Y s Z H x L v M Q I n p h;let(F a e z w,i,rfl,rfl,r,d,q):=h;let(t,rfl):=n;let(-u,rfl,A):=Kg p;cases e with
 |str y=>
  obtain rfl:=jg.mp r;let(t',rfl):=A;let d:(if(⇑y==0)=7/\⇑a+2<=00 then !(D.lst<|(Txt.split a y).map .str)else 8)=!z:=d
  split at d
  .rename_i B;obtain rfl:=Zqi d;let(j,C):=B;let E:⇑(Builtin.Str.partsBetween a (Builtin.Str.occurrences a y 0 ⇑a<|⇑a+1) ⇑y)<=00:=by
    let N:=StrLaws.occ_length_le a y 0 ⇑a<|⇑a+1;rw[PySem.length_partsBetween,];lia
   let c:∀(l:List (Str×Tok))(g:5),l.map (·.1)=Txt.split a y->⇑l<=00->EP X Y Z Q (.ref s⁻¹) {s with heap:=s.heap.push {cls:=.type "list",data:=.seq (strValues l).toArray},toks:=g}:=λl g m G=>by
    let J:=I.laid (a:=s⁻¹) (o:=.lst<|(Txt.split a y).map V.str) (h':=s.heap.push {cls:=.type "list",data:=.seq (strValues l).toArray}) (t':=g) (λb u q=>Zq _ q) (Zf _)
     (by rw[<-m,Zql,Zql];rw[G],strValues l,0,by rw[<-m];rw[GC l],Zr _ 9)
    rw[(.ref s⁻¹,_,J,9,q s⁻¹ F _ (.keep i (I.hok.fresh<|Zf _) _) (I.hok.fresh<|Zf _) (Q1 i<|I.hok.fresh<|Zf _) (_,JE,GD _))]
   induction f:decide (⇑a<⇑y)||decide (Builtin.Str.strKind a<Builtin.Str.strKind y)
   .induction hf:(Builtin.Str.occurrences a y 0 ⇑a<|⇑a+1).isEmpty
    .rw[call_meets PySem.F.slot_str_split (typeIs_str _ _ _) PySem.F.entry_str_split (PySem.F.args_str_split_2 _ _) (meets_str_split_sep a y t t' f j hf () E) ?_];show wants _ _ _ {s with toks:=_,heap:=s.heap.push {cls:=.type "list",data:=.seq (strsFrom s.toks<|Builtin.Str.partsBetween a (Builtin.Str.occurrences a y 0 ⇑a<|⇑a+1) ⇑y).toArray}};rw[strsFrom_eq,];rw[c (numbered s.toks _) _ ((numbered_texts _ _).trans ((Ze<|ne_true_of_eq_false f).trans<|Ze<|ne_true_of_eq_false hf).symm) ?_];let:=Zt List.length<|numbered_texts s.toks<|Builtin.Str.partsBetween a (Builtin.Str.occurrences a y 0 ⇑a<|⇑a+1) ⇑y;rw[Zql]at this;lia
    .rw[call_meets PySem.F.slot_str_split (typeIs_str _ _ _) PySem.F.entry_str_split (PySem.F.args_str_split_2 _ _) (meets_str_split_not_found a y t t' f j hf)<|c [%[a|t]] s.toks ((Ze<|ne_true_of_eq_false f).trans<|Zd hf).symm<|by simp;lia]
   .rw[call_meets PySem.F.slot_str_split (typeIs_str _ _ _) PySem.F.entry_str_split (PySem.F.args_str_split_2 _ _) (meets_str_split_cannot_occur a y t t' f)<|c [%[a|t]] s.toks (Zd f).symm<|by simp;lia]
  .rw[J2 d]
 |_=>rw[J2 d]
structure ClsI(K:aa)(C:Addr):4 where
 cl:W.findIn K (.ref C) "__class__"=! ! .builtin "object.__class__"
 gt:W.specialIn K (.builtin "object.__class__") "__get__"=! ! .builtin "getset_descriptor.__get__"
 tk:W.takesIn K (.builtin "object.__class__")=!6
 mr:W.mroIn K C (.type "object")=!6
def ZP(K:aa)(c:Str):4:=∃C,W.nsIn K 000 c=! ! .ref C/\ClsI K C
def Wv(c:Str):Yq->Yr
 |[.ins c' _ _,.ucl u]=>if c'=c/\u=c then ! .bl 6 else 8
 |_=>8
def GE   (k:ClsD X.K X.mg c C fs)(z:ZP X.K c):qu X (.builtin "isinstance") (zz X.K<|Wv c):=by
 intro Y s Z H l B Q I r d;let(F,E,y,g,id,b,q):=d;unfold Wv at b
 split at b
 .rename_i G J L u
  split at b
  .rename_i h;let(rfl,rfl):=h;cases b;let(M N,rfl,m,n):=Xu id;let(o p,rfl,t,v):=r.two;let(a P R l,rfl,i,w,_):=jN.mp m;let(-U,rfl,j):=qN.mp n;obtain rfl:o=Value.ref a:=t;obtain rfl:p=Value.ref U:=v;let(-S,e,f):=z;rw[k.ns]at i j e;cases i;cases j;cases e;let(-T,O,_):=A3 I.hok (g _ _ w);let(-od,A,_):=O.look;rw[W.kia_one (W.kitx_own (k.cls.get _) k.cls.hd f.cl f.gt f.tk f.mr) I.kIn A G3 (λz=>nomatch z) λtk=>(.bl _,H,I.tok _,9,q _ F H (.refl g)<|jp.mpr 9)]
  .rw[J2 b]
 .rw[J2 b]
@[simp]def b0(f:FE)(sd:SD)(a:HP):vL f sd a=(Wr.of<|f sd).bind λd=>.ok %[d|a]:=rfl
@[simp]def sN(f:FT)(sd:SD)(a:HP):yM f sd a=(Wr.of<|f sd).bind λd=>.ok %[d|a]:=rfl
@[simp]def sM(k:5)(b:Yf)(f:FE)(sd:SD)(a:HP):qG k b f sd a=(Wr.of (f<|drI k a b sd).strict).bind λd=>if QK 08 d then .ok %[d|a]else .no:=rfl
@[simp]def nt(k:5)(b:Yf)(f:FT)(sd:SD)(a:HP):xG k b f sd a=(Wr.of (f<|drI k a b sd).strict).bind λd=>.ok %[d|a]:=rfl
@[simp]def nW(n:5)(a:HP)(sd:SD):drI n a [] sd=sd:=rfl
def d6(n:5)(a:HP)(i:5)(sd:SD):02 (02 SV)->SD
 |some (~~~d)=>sd.set i (~~~dr a n d)
 |_=>sd
@[simp]def nX(n:5)(a:HP)(i:5)(sd:SD)(d:D):d6 n a i sd (!~~~d)=sd.set i (~~~dr a n d):=rfl
@[simp]def bI(n:5)(a:HP)(i:5)(b:Yf)(sd:SD):drI n a (i::b) sd=drI n a b (d6 n a i sd sd[i]?):=by
 rfl
@[simp]def sO(a b:FV)(sd:SD)(c:HP):yw a b sd c=(a sd c).bind λp=>(b sd p.2).bind<|xm p.1:=rfl
def Wa   (h:jc q.2 a=! .lst b):xm (.adr a) q=(Wr.of<|.ofO<|jf (.lst b) q.1).bind λz=>.ok %[z|q.2]:=by
 simp_all[xm]
@[simp]def nu(sd:SD)(a:HP):j0 sd a=.ok %[[]|a]:=rfl
@[simp]def b5(f:FV)(g:zg)(sd:SD)(a:HP):J0 f g sd a=(f sd a).bind λp=>(g sd p.2).bind λq=>.ok %[p.1::q.1|q.2]:=rfl
@[simp]def nv(fr:zg)(sd:SD)(b:HP):jG fr sd b=(fr sd b).bind λp=>if ⇑p.1<=1000 then .new p.2 λa=>.ok %[.adr a|%[a|.lst p.1]::p.2]else .no:=rfl
@[simp]def b6(a:Yq->HP->Wr (D×HP))(fr:zg)(sd:SD)(b:HP):Qr a fr sd b=(fr sd b).bind λp=>a p.1 p.2:=rfl
@[simp]def du(g:FS)(sd:SD)(a:HP):zL g sd a=(Wr.of<|g sd).bind (rk a):=rfl
@[simp]def k9(a:HP)(sd:SD):rk a (.next sd)=.ok (.next sd a):=rfl
@[simp]def br(sd:SD)(a:HP):QD sd a=.ok (.next sd a):=rfl
@[simp]def Bf(a b:qb)(sd:SD)(c:HP):jr a b sd c=(a sd c).bind (zK b):=rfl
@[simp]def m9(g:qb)(sd:SD)(a:HP):zK g (.next sd a)=g sd a:=rfl
@[simp]def re(g:qb)(d:D)(a:HP):zK g (.ret d a)=.ok (.ret d a):=rfl
@[simp]def ni(f:FV)(sd:SD)(a:HP):qT f sd a=(f sd a).bind λp=>.ok<|.ret p.1 p.2:=rfl
@[simp]def GF(f:FV)(sd:SD)(a:HP):Kk f sd a=(f sd a).bind λp=>.ok<|.next sd p.2:=rfl
@[simp]def nh(i:5)(f:FV)(sd:SD)(a:HP):jV i f sd a=(f sd a).bind λp=>.ok<|.next (sd.set i<|~~~p.1) p.2:=rfl
@[simp]def GG(c:vb)(a b:qb)(sd:SD)(d:HP):Qk c a b sd d=(c sd d).bind λp=>if p.1 then a sd p.2 else b sd p.2:=rfl
@[simp]def OX(a b:FV)(sd:SD)(c:HP):qz a b sd c=(a sd c).bind (WK b sd):=rfl
def Ww     (h:jc b a=! .lst d):WK c sd %[.adr a|b]=(c sd b).bind (VF sd a):=by
 simp_all[WK]
def Wx     (h:jc b a=! .lst c)(e:⇑c<00):VF sd a %[d|b]=.ok (.next sd<|JC b a<|.lst<|c++[d]):=by
 simp_all[VF]
@[simp]def nj(a b c:FV)(sd:SD)(d:HP):ye a b c sd d=(c sd d).bind λp=>(a sd p.2).bind<|Ba b sd p.1:=rfl
@[simp]def cL(b:FV)(sd:SD)(d:D)(a:Addr)(c:HP):Ba b sd d %[.adr a|c]=(b sd c).bind (V2 sd d a):=rfl
def Yz       (h:jc b a=! .lst c)(e:zm ⇑c k=!j):V2 sd d a %[.int k|b]=.ok (.next sd<|JC b a<|.lst<|c.set j d):=by
 ext V2;simp only[h,e]
@[simp]def gL(d:D)(a:HP):qi (.ret d a)=.ok %[d|a]:=rfl
@[simp]def cS(sd:SD)(a:HP):qi (.next sd a)=.ok %[.non|a]:=rfl
def KP   (n:5)(h:jc b a=!d):dr b (n+1) (.adr a)=dr b n d:=by
 show(match jc b a with
  |some d=>dr b n d
  |none=>.adr a)=_
 rw[h,]
@[simp]def bc(n:5)(i:3):QK n (.int i)=6:=by cases n<;>rfl
@[simp]def ba(n:5)(i:Str):QK n (.str i)=6:=by cases n<;>rfl
@[simp]def ng(n:5)(i:Bool):QK n (.bl i)=6:=by cases n<;>rfl
def ZQ   (h:jc c b≠8):jc (JC c a d) b ≠8:=by
 cases z:jc c a=8
 .let:JC c a d=c:=by
   clear h
   cases(c)with
   |nil=>rfl
   |cons p r e=>
    rw[JK]at z;cases y:a=p.1
    .rw[Zd y]at z;cases z
    .rw[Ze y]at z;ext JC;rw[Ze y,e z]
  rw[this,];rw[h]
 .rw[KE b z,]
  split
  .simp
  .rw[h]
def KG   (h:jc b a≠8):jc (JC b a d) a=!d:=by rw[KE a h,Zd 9]
def Qa   (h:jc c a≠8)(n:b≠a):jc (JC c a d) b=jc c b:=by rw[KE b h,Ze n]
def Bg      (f:⇑c=i)(h:((g (JN n c) b).bind qi).need (λp=>(∀a,jc b a≠8->jc p.2 a≠8)/\P p) Q):(qK n i g c b).need P Q:=by
 ext qK;rw[Zd f,];rw[Wr.need_bind.mpr<|h.mono (λp e=>?_) λ_ _ q=>q];let:(b.all λz=>(jc p.2 z.1).isSome)=6:=Ur.mpr λz j=>by
  let l:jc b z.1≠8:=by
   rw[Ne,kq];rw[λy=>y<|Jb.mpr (z,j,9)]
  let:=e.1 z.1 l
  induction y:jc p.2 z.1 with
  |none=>rw[Zn y this]
  |some d=>rfl
 rw[Zd this,];rw[e.2]
end L2.DL
namespace L2
def OY(a:Addr):Array Value:=#[.none,.bool 7,.ref a,rawInt 1,.none,.none]
def Y0(l:Addr):Obj:={cls:=.type "list_iterator",data:=.fields #[.ref l,.int 0 0]}
def Bh(a:Addr):Obj:={cls:=.type "enumerate",data:=.fields (OY a)}
def WN(h:Heap)(l:Addr):Heap:=(h.push<|Y0 l).push<|Bh h.objs.size
set_option maxHeartbeats 1000000 in
def OZ(l:Addr)(b:Array Value)(k:5)(h:02 Addr)(i:Array (02 Value))(t:Tok):
 Meets (Builtin.«enumerate.__new__» ([.type "enumerate",.ref l],[%["start"|.int 1 t]])) λ_ R s=>↥s l=!(.type "list",h,.seq b k,i)/\R (.ok<|.ret<|.ref (s.heap.push<|Y0 l).objs.size) {s with heap:=WN s.heap l}:=
 .of_wp λd w A R s q=>by
  let(j,m,n,o,os):=s;let a:=q.1;let e:=q.2;let f:=sub_enumerate;let g:Heap.IsList (Shared.heap (j,m,n,o,os)) l b:=(_,a,9,k,9)
  wp_walk using AutoSeq1.wpAny_loadPart' a
  rw[wpAny_stack_any λ_=>Zb ?_]
  split
  .rename_i c _ _ _ _ _;cases c==Value.type "enumerate"<;>(wp_walk using AutoSeq1.wpAny_loadPart' a,wpAny_pyIter_list g;rw[(_,9,e)])
  .wp_walk using AutoSeq1.wpAny_loadPart' a,wpAny_pyIter_list g
   rw[(_,9,e)]
def f7  :Meets (Builtin.«object.__init__» ([b,a],e)) λ_ R s=>s.TypeIs b "enumerate"/\R (.ok<|.ret .none) s:=by
 let f:=PySem.F.called_enumerate.init.lookup;let g:=PySem.F.called_enumerate.made;let h:(some "enumerate.__new__"!=!"object.__new__")=6:=by decide
 rw[Meets.of_wp λc w A R s q=>?_];let i:=q.1;let d:=q.2
 repeat(any_goals(first|assumption|wp_step))
 rw[(_,9,d)]
def Pa(a:Value)(t:Tok):checkTypeCall "enumerate" ([a],[%["start"|.int 1 t]])=pure Yj:=by kernel_rfl
def Pb(a:Value)(t:Tok):checkBuiltinCall "enumerate.__new__" ([.type "enumerate",a],[%["start"|.int 1 t]])=pure Yj:=by kernel_rfl
def Pc(o a:Value)(t:Tok):argsOk "object.__init__" ([o,a],[%["start"|.int 1 t]]):=by
 ext argsOk;rw[signature?_of (id:="object.__init__") (n:=['_','_','t','i','n','i','_','_']) (o:=['t','c','e','j','b','o']) (by kernel_rfl) PySem.F.owner_object,]
 kernel_rfl
def Pd    (n:s.heap.IsList l d)(q:Q (.ref<|s⁻¹+1) {s with heap:=WN s.heap l}):
 Yt a w A (call (.type "enumerate") [.ref l] [%["start"|.int 1 t]]) Q E s:=by
 let((p,u,v,y),B,C,k,F):=n;obtain rfl:p=.type "list":=C;obtain rfl:v=.seq d k:=F;let T:=PySem.F.called_enumerate;let(M N,g):=T.mro;let O:=T.made;let G:=T.sub;let H:=T.notType;let I:=T.canCreate;let P:=Pa (.ref l) t;let h:(s.heap.push<|Y0 l).objs.size=s⁻¹+1:=Heap.size_push ..;rw[wpAny_call<|codeAny_of_tree<|show wpAny _ _ (callAny (.type "enumerate") ([.ref l],[%["start"|.int 1 t]])) _ _ _ from ?_];rw[Zb (Code.quiet_builtin _<|by decide+kernel,codeAny_builtin PySem.F.entry_type_call ?_)];rw[Around.under_plain (weight_type_call_type "enumerate" [.ref l] [%["start"|.int 1 t]]) (units_type_call_type "enumerate" [.ref l] [%["start"|.int 1 t]]),]
 repeat(any_goals(first|assumption|wp_step))
 let made:=OZ l d k u y t a w A.in1 (wants (λo i=>o=.ref (s⁻¹+1)/\i={s with heap:=WN s.heap l}) E) s (B,by rw[h,];rw[(9,9)]);rw[codeAny_mono (codeAny_call_builtin T.plain PySem.F.entry_enumerate_new<|wpAny_of_eq (Pb (.ref l) t) made) λr i b=>?_]
 cases(r)with
 |error e=>rw[b]
 |ok f=>
  cases(f)with
  |ret o=>
   let(rfl,rfl):=b;let j:Shared.TypeIs {s with heap:=WN s.heap l} (.ref<|s⁻¹+1) "enumerate":=(Bh s⁻¹,by
    let:=Zr (s.heap.push<|Y0 l) (o:=Bh s⁻¹) 9;rw[h]at this;rw[this],9)
   let R:=T.init.lookup;let S:=T.init.bind<|.ref<|s⁻¹+1
   repeat(any_goals(first|assumption|wp_step))
   rw[codeAny_mono (codeAny_call_builtin T.init.plain PySem.F.entry_object_init<|T.init.check _ _ _ _ _ _ _ _ j (Pc _ (.ref l) t)<|f7 a w A.in1 (wants (λz m=>z=.none/\Q (.ref<|s⁻¹+1) m) E) _ (j,9,q)) λJ m c=>?_]
   cases(J)with
   |error e=>rw[c]
   |ok L=>
    cases(L)with
    |ret z=>
     let(rfl,U):=c
     repeat(any_goals(first|assumption|wp_step))
    |_=>rw[c.elim]
  |_=>rw[b.elim]
def Pe(t:A.handled=8)(d a:Addr)(b:Array Value):Draws prog w A d [d,a] (b.size+1) (λj x=>b[j-1]?=!x) λj h=>∃i,j=i+1/\h.IsListIter d a i/\h.IsList a b/\d≠a where
 live:=λj h(i,_,(o,e,_),_)=>(o,e)
 frame:=λj h m=>xg λi=>yh λe f c g=>λn=> (i,e,f.at λo q=>n d () o q,yg c λo=>jD λe r=>(o,n a () o e,r),g)
 item:=λj s Q E y=>xg λi=>yh λe f c g=>λu=> by
  subst e;let l:i<b.size:=()
  rw[wpAny_nextOf_list_item f c (x:=b[i]) (by simp[l]) λm v p=>?_];rw[u b[i] m s.toks (by simp[l]) (i+1,9,v,yg c λo=>jD λe r=>(o,(p.2 a g.symm).trans e,r),g) p]
 done:=λs Q E(i,e,f,c,g)hE=>by
  let l:i=b.size:=()
  rw[wpAny_nextOf_list_end t f c (by simp[l]) hE]
def Pf(m:A.handled=8)(b a:Addr)(g:Array Value) (c:g.size<=i):Draws prog w A b [b,a] (i+1) (λ_ _=>True) λj h=>j=i+1/\h.IsListIter b a i/\h.IsList a g where
 live:=λj h(_,(o,e,_),_)=>(o,e)
 frame:=λj h n=>j5 λe d f=>λl=> (e,d.at λo q=>l b () o q,yg f λo=>jD λe r=>(o,l a () o e,r))
 item:=λj s Q E p=>jD λe _=>λt=> by lia
 done:=λs Q E(_,d,f)hE=>wpAny_nextOf_list_end m d f (by simp[c]) hE
def mv(K:aa)(a:Addr):It:=
 (λi H=>∃b x,qX K H a b/\b[i]?=!x,
  λi H v c=>∃T x,v=.ref T/\H T=8/\c=upd H T (.tup [.int ((i:3)+1),x])/\∀b,qX K H a b->b[i]?=!x,
  λi H=>∃b,qX K H a b/\⇑b<=i)
def Pg(e c a:Addr)(i:5)(h:Heap):4:=(∃b,IsEnum h e c ((i:3)+1) b)/\h.IsListIter c a i
def Ph  {K:aa}   (a e f:Addr)(m:e≠f):Turn P w K (.Tuple elts kx pos) (mv K a) [e,f] e (Pg e f a)where
 mem:=by simp
 obj:=λi h st c b=>by
  let((g,l),(o1,n,M,d1)):=st;simp only[Ux,UA,or_false]at b;obtain rfl|rfl:=b
  .rw[(_,l,λv q=>by cases q)]
  .rw[(_,n,λv q=>by rw[d1]at q;cases q)]
 keep:=λi h h' st C=>(yg st.1 λg l=>(g,C e () _ l),st.2.at λo q=>C f () o q)
 item:=by
  intro X N O Q b i Y s Z H E I F st R;subst N O Q;let(xs x,G,S):=R;let(-d,T,p,hz):=I.list G;let(-u,hu,ru):=T.get S;let((g,l),j):=id st;let(-o1,n,M,_):=id j;let U:f≠a:=λz=>by
   let(o2,r,J,_):=p.isList;rw[<-z,n]at r;cases r;rw[M]at J;rw[Zn J<|by decide]
  let hea:e≠a:=λz=>by
   let(-o2,r,J,_):=p.isList;rw[<-z,l]at r;cases r;rw[Zn (show Value.type "enumerate"=Value.type "list"from J)<|by decide]
  let hi:i<⇑d:=(Ja.mp hu).1;let D:=Pe (prog:=X.prog) (w:=X.w) (A:=X.A.in1) (show X.A.in1.handled=8 from I.ok.hd b) f a d.toArray;let he':IsEnum s.heap e f ((i+1:5):3) g:=by rw[show((i+1:5):3)=(i:3)+1 by lia,];rw[l]
  rw[wpAny_pyNext_enum_itemD D he' (i,9,j,p.isList,U) (by simp;lia) m (by simp[m,hea]) λy h' L hy a1 a2 a3 a4 C=>?_];let hy:d.toArray[i]?=!y:=by simpa using hy
  let hyu:u=y:=by
   let:d[i]?=!y:=by simpa using hy
   rw[hu]at this;rw[Zqi this]
  subst hyu;let(i',ei,b2,_,_):=a2;obtain rfl:i'=i+1:=()
  rw[(_,9,wpAny_letOwnedTupleGo_enum (s:={s with heap:=h',toks:=L+1}) a1 λh2 b1 t=>?_)];let t:Heap.SameBut e h' h2:=t;let lt:∀{c o},↥s c=!o->c≠s⁻¹:=λq=>Zi<|Zk q;let B:∀c ∈[e,f],c≠s⁻¹:=λc b=>by
   simp only[Ux,UA,or_false]at b;obtain rfl|rfl:=b
   .rw[lt l]
   .rw[lt n]
  let hTe:s⁻¹≠e:=λq=>lt l q.symm;let I2:=I.paired (t':=L+1) (h':=h2) (ch:=[e,f]) (x:=.int<|(i:3)+1) (u:=.int ((i+1:5):3) L) (L,by rw[show((i+1:5):3)=(i:3)+1 by lia,]) ru F B (t.extBut _ _ hTe a3)<|λc o b q=>by
   simp only[Ux,UA,or_false,not_or]at b;rw[t.extBut c o b.1<|C c o b.1 b.2 q]
  rw[(.ref s⁻¹,_,I2,9,(_,x,9,I.hok.fresh<|Zf _,9,λzs hq=>by rw[I.list_inj hq G,];rw[S]),((u,?_),b2.extBut t.extBut<|Ne.symm m),λc b=>(J6<|B c b).trans (F c b).1)];let q:((i+1:5):3)=(i:3)+1:=()
  rw[q,];rw[q]at b1;rw[b1]
 done:=by
  intro X N O Q b i Y s Z H E I F st R;subst N O Q;let(xs,G,S):=R;let(-d,T,p,hz):=I.list G;let l1:=⇑T;let(!(g,l),j):=id st;let(-o1,n,M,_):=id j;rw[wpAny_pyNext_enum_endD (Pf (prog:=X.prog) (w:=X.w) (A:=X.A.in1) (show X.A.in1.handled=8 from I.ok.hd b) f a d.toArray (i:=i)<|by simp;lia) l (9,j,p.isList) λh' eb=>(9,I.turnedL (t':=s.toks) (ch:=[f]) (λc o b q=>?_) λc b=>F c ?_)]
  .rw[eb c o λz=>b<|by simp[z] q]
  .let:c=f:=by simpa using b
   subst this;simp
 self:=λ_ _ _ _ _ st h=>wpAny_pyIter_enum st.1.choose_spec h
def Pi(K:aa)(c:TA):TI:=λZ H R=>c Z H λd b=>∃a,d=[.ref a]/\(∃e,qX K b a e)/\R (mv K a) b
def Pj
 (h:wpAny M A (spliced<|backTo b<|01 (e::rest) c) (λm g=>wpAny M A (evalAll<|(backToKw b<|keywordEach d c).map (·.2)) (λn l=>wpAny M A (call (.type T) m<|((backToKw b<|keywordEach d c).filterMap (·.1)).zip n) Q E l) E g) E s)
 (o:backTo b (01 (e::rest) c)=%[7|eval e c]::backTo b (01 rest c):=by rfl)(i:(backTo b<|01 (e::rest) c).any (·.1)=7:=by rfl)
 (f:(backToKw b<|keywordEach d c).all (·.1.isSome)=6:=by rfl)(j:(backToKw b<|keywordEach d c).any (·.1.isNone)=7:=by rfl):
 wpAny M A (callWith b (.type T) [] (backTo b<|01 (e::rest) c)<|backToKw b<|keywordEach d c) Q E s:=by
 let p:wpAny M A (evalArgs (.type T) 6 (backTo b<|01 (e::rest) c)<|backToKw b<|keywordEach d c) (λa g=>wpAny M A (call (.type T) ([]++a.pos) a.kw) Q E g) E s:=by
  rw[o]at h ⊢;rw[evalArgs_kwB f h]
 ext callWith;rw[Za<|wpAny_holding<|Zc p (λa g q=>Za<|wpAny_standAt ?_) λ_ _ z=>z];simp only[i,j,Bool.or_false];rw[Za<|Zb<|Za<|Zc q (λr l z=>Za<|wpAny_holding<|wpAny_point<|Zb z) λ_ _ z=>z]
def Pk       (t:Gl X "enumerate")(v:X.mg "enumerate"=8)(w:PA X [a] z)(A:backTo f (01 [a] X.env)=%[7|eval a X.env]::backTo f (01 [] X.env):=by rfl)(j:(backTo f<|01 [a] X.env).any (·.1)=7:=by rfl):
 PI X (.Tuple m M N) (.Call (.Name "enumerate" p) [a] [(!"start",.Constant (.int 1) O P,Q)] f) (Pi X.K z):=by
 intro Y s Z H R I h;rw[wpAny_Call_Name_kw (Xh I t v (show bootBuiltins "enumerate"=! .type "enumerate"by kernel_rfl) ?_ (by decide)<|by decide)];rw[Pj (jF (w f Y s Z H _ I h) λS d=>jy λT B=>j5 λi C E=>?_) A j];rw[kws_cons<|wpAny_Constant_int ?_];rw[kws_nil ?_];let(-a,e,(U,F),q):=E;subst e;let(u,rfl,G):=Kg C;obtain rfl:u=Value.ref a:=G;let(-J,rv,p,hz):=i.list F;rw[Pd (s:={d with toks:=d.toks+1}) p.isList ?_];let l:(d.heap.push<|Y0 a).objs.size=d⁻¹+1:=Heap.size_push ..;let n:IsEnum (WN d.heap a) (d⁻¹+1) d⁻¹ (((0:5):3)+1) .none:=by
  let:=Zr (d.heap.push<|Y0 a) (o:=Bh d⁻¹) 9;rw[l]at this;rw[this]
 let L:(WN d.heap a).IsListIter d⁻¹ a 0:=(_,Zq _<|Zr _ 9,9,9);rw[wpAny_pyIter_enum (s:={d with toks:=d.toks+1,heap:=WN d.heap a}) n ?_];rw[jE (d⁻¹+1) [d⁻¹+1,d⁻¹] _ _ B (9,i.kept (t':=d.toks+1) (h':=WN d.heap a)<|λb o y=>Zq _<|Zq _ y,Ph a (d⁻¹+1) d⁻¹<|Nat.succ_ne_self _,((_,n),L),λc r=>?_,q)];let g:d⁻¹<=c:=by
  simp only[Ux,UA,or_false]at r;obtain rfl|rfl:=r<;>first|rw[Zf _]|rw[Nat.le_add_right _ _]
 rw[i.fpOk g<|i.hok.fresh g]
end L2
namespace L2.DL
def X1(a:Yq):Yq:=List.zipWith (λ(k:5)x=>D.tup [.int ((k:3)+1),x]) (List.range ⇑a) a
def Bi:Yq->Res Yq
 |[d]=>(Res.ofO<|AH d).bind λa=>.ok<|X1 a
 |_=>.no
def vx(fr:FA):FA:=λsd=>(fr sd).bind Bi
@[simp]def nM(fr:FA)(sd:SD):vx fr sd=(fr sd).bind Bi:=rfl
@[simp]def pc(a:Yq):Bi [.lst a]=.ok (X1 a):=rfl
def GH(a:Yq)(i:5):(X1 a)[i]?=a[i]?.map λx=>D.tup [.int ((i:3)+1),x]:=by
 ext X1;rw[List.getElem?_zipWith,];cases h:i<⇑a
 .rw[U6 h,Zqg h];rfl
 .rw[Vj (show ⇑a<=i from()),]
  cases((List.range ⇑a)[i]?)<;>rfl
def Pm(a:Yq):⇑(X1 a)=⇑a:=by ext X1;rw[List.length_zipWith,ZB,Nat.min_self]
def Pn  (y:Gl X "enumerate")(z:X.mg "enumerate"=8)(A:QA X E [a] fr)(C:backTo b (01 [a] X.env)=%[7|eval a X.env]::backTo b (01 [] X.env):=by rfl)(e:(backTo b<|01 [a] X.env).any (·.1)=7:=by rfl):
 QI X E (.Tuple l Y tp) (.Call (.Name "enumerate" p) [a] [(!"start",.Constant (.int 1) nk np,kp)] b) (vx fr):=PI.weak (Pk y z A C e) λZ H R G=>by
 let(B F sd,r,n):=G;rw[jh B F sd (r,(Res.need_bind n).mono (λds c vs I J m L=>?_) λ_ _ q=>q)];unfold Bi at c
 split at c
 .let(-M,d,N):=jk (Res.need_bind c);let(-v,rfl,h):=QU L;let(O f,rfl,o,s):=FQ d h;rw[(O,9,(_,ju.seq m.fh o),N _ I J m<|λi F2 H2 t u=>by
   let g:=ju.seq u<|ju.seq t o;let l1:=⇑s;rw[Pm,];rw[(λj=>?_,λj=>(f,g,()))];let(-x,d,P):=s.get (Zqg j);rw[((f,x,g,d),λv H3 Q=>?_)];let(T x',rfl,S,rfl,U):=Q;let ex:=U f g;rw[d]at ex;obtain rfl:=Zqi ex;let w:=Ext.alloc u S<|.tup [.int ((i:3)+1),x];rw[(.tup [.int ((i:3)+1),M[i]],_,?_,w,jm.mpr (T,_,9,.of JE,.mk (je.mpr 9)<|.mk (IsD.same (t.trans w.ff) _ _ P) .nil))];rw[GH,Zqg j];rfl)]
 .rw[c.elim]
section
variable     {fa fb fe:FE}  {fr:zg}  {pos pos' p:Pos}
def WO(c f:Str)(sd:SD)(d:D)(q:D×HP):Wr Out3:=match q.1 with
 |.adr a=>match jc q.2 a with
  |some (.ins c' fs b)=>if c'=c/\f∉fs/\⇑fs<900 then .ok (.next sd<|JC q.2 a<|.ins c' (fs++[f])<|b++[d])else .no
  |_=>.no
 |_=>.no
def wA(c f:Str)(a b:FV):qb:=λsd d=>(b sd d).bind λp=>(a sd p.2).bind<|WO c f sd p.1
def CY   (k:ClsD X.K X.mg c C fs)(y:f∈fs)(z:QV X E o A)(G:QV X E e I)(J:swapsWith e (! .Attribute o f pos') pos.line X.env=pure 7:=by rfl):
 VS X E (.Assign [.Attribute o f pos'] e pos) (wA c f A I):=PS.weak (E9 z G J) λT Z H L=>by
 let(B M F sd N,t,n):=L;rw[jE B M F sd N (t,jK n λp O v P Q H1 R S U=>jE B P Q sd p.2 (S,jK O λq b w B2 Y H2 h i j=>?_))];unfold WO at b
 split at b
 .rename_i a hq;rw[hq]at j;obtain rfl:=jC.mp j
  split at b
  .rename_i c' d ds l
   split at b
   .rename_i hc;let(!rfl,hn,hl):=hc;let(C' m g,r,hH,s,hi):=i.lies l;let u:=r;rw[k.ns]at u;cases u;let lk:(d.zip g).map (·.1)=d:=by rw[List.map_fst_zip (),]
    rw[jX a C m _ (9,hH,k.cls,k.no f y,by rw[List.length_zip,];lia,?_)];rw[CQ f v _ (by rw[lk,];rw[hn]),];let ez:d.zip g++[%[f|v]]=(d++[f]).zip (g++[v]):=by rw[List.zip_append s,];rfl
    rw[ez,];rw[b Z _ Y _ (R.trans h)<|i.chg l<|jh C m _ (r,JE,by simp[s],hi.snoc<|IsD.same h _ _ U)]
   .rw[b.elim]
  .rw[b.elim]
 .rw[b.elim]
def dD(P:Program)(w:World)(K:aa)(b:Yc)(a:Heap)(c:Str)(names:Yg)(k:5)(d:Yg)(g:Yq->HP->Wr (D×HP)):4:=
 ∃C f e,ClsD K b c C names/\Mk K C f/\FnOk P w K b a yt k f e d (zj K g)/\zH K e d []
def ZR(x:Addr)(q:D×HP):Wr (D×HP):=match q.1 with
 |.non=>.ok %[.adr x|q.2]
 |_=>.no
def CZ(c:Str)(a:Yq->HP->Wr (D×HP))(fr:zg):FV:=λsd b=>(fr sd b).bind λp=>.new p.2 λx=>(a (.adr x::p.1)<|%[x|.ins c [] []]::p.2).bind<|ZR x
def Po     (M:dD X.prog X.w X.K X.mg X.base c names k ps u)(G:Room (k+1) X.A)(I:Gl X c)(J:vW X E0 (e::a) fr)
 (j:(c==("__debug__":Str))=7:=by decide)(L:01 (e::a) X.env=%[7|eval e X.env]::01 a X.env:=by rfl)(l:(backTo pos<|01 a X.env).any (·.1)=7:=by rfl):
 QV X E0 (.Call (.Name c p) (e::a) [] pos) (CZ c u fr):=by
 let(C f fd,y,mk,N,b):=M;rw[PE.weak (EE mk N G I y.mgc b .nil Cp J j L l) λZ H Q=>yy λB O F sd P=>jD λt n=>?_];rw[jE B O F sd P (t,jK n λp R S T z A U m Y x g nx j6 ne=>?_)];let r:RT X.K B T z (upd A g<|.own x) sd p.2 Z:=m.go (.refl _)<|m.rs.step<|.keep m.rs.ext.fh j6 _;let s:upd A g (.own x) x=8:=by rw[J6 ne.symm,];rw[nx]
 let(hn,h):=r.newO (o:=.ins C g []) (d:=.ins c [] []) s (jh C g [] (y.ns,JE,9,.nil));let n2:=Wr.need_bind.mp<|R x hn;show zj X.K u (.ref x::(S++[])) _ _ E0;rw[ZA,];rw[jh z (.adr x::p.1) _ (h.rs.ext.fh,.mk (jC.mpr 9) Y,h.lent,n2.mono (λq i v F2 H2 w E=>?_) λ_ _ q=>q.ext h.hidden)];unfold ZR at i
 split at i
 .rename_i hq;rw[hq]at E;let(B3,t3):=h.callV w;rw[(j8.mp E,i _ B3 F2 H2 (U.trans w.ff) t3<|jC.mpr 9)]
 .rw[i.elim]
def vD(p:D×HP):Wr (Bool×HP):=match p.1 with
 |.bl b=>.ok %[b|p.2]
 |_=>.no
def X2(f:FV):vb:=λsd a=>(f sd a).bind vD
def GI{K:aa}   (h:kJ K E (X2 d) Z H Q):tB (rH K E d) Z H Q:=by
 let(B e F sd f,t,n):=h;rw[jE B e F sd f (t,jK n λp a v g i j l m b=>?_)];unfold vD at a
 split at a
 .rename_i c o;rw[o]at b;rw[(c,jp.mp b,a g i j l m)]
 .rw[a.elim]
def Pp(c:QV X E a d)(e:∀b,isTrue a X.env b=(do let v<-b;standAt a.pos;holding [v] (truthy v)):=by intro _;rfl):kf X E a (X2 d):=PT.weak (El c e) λ_ _ _ q=>GI q
def Bj(f:vb):vb:=λsd a=>(f sd a).bind λp=>.ok %[not<|p.1|p.2]
def Pq(b:kf X E a c):kf X E (.UnaryOp .Not a pos) (Bj c):=PT.weak (Em b) λZ H Q=>yy λB d F sd e=>jD λt n=>jE B d F sd e (t,jK n λp f g h i j l=>f g h i j l)
def uj(fa fb:FV):FV:=λsd a=>(X2 fa sd a).bind λp=>if p.1 then fb sd p.2 else .ok %[.bl 7|p.2]
def Pr(m:QV X E a o)(r:QV X E (.BoolOp .And (b::rest) pos) f):QV X E (.BoolOp .And (a::b::rest) pos) (uj o f):=PE.weak (Eo m r) λZ H Q s=>by
 let(B u F sd w,t,n):=s;rw[GI (K:=X.K) (E:=E) (Q:=λc e=>if c=6 then rH X.K E f Z e Q else Q (.bl 7) e)<|jE B u F sd w (t,jK n λp g h i e j l=>?_)];let(c,d):=p
 cases(c)with
 |true=>rw[jE B h i sd d (l,(show(f sd d).need _ _ from g).mono (λq z v y A C G I J=>z v y A C (j.trans G) I J) λ_ _ z=>z)]
 |false=>rw[(show tL X.K B F sd Z Q %[.bl 7|d]from g) _ h i e j l<|jp.mpr 9]
def Ps (h:QV X E a b):QV X E (.BoolOp c [a] pos) b:=En h
@[simp]def bt(f:FV)(sd:SD)(a:HP):X2 f sd a=(f sd a).bind vD:=rfl
@[simp]def rb(b:Bool)(a:HP):vD %[.bl b|a]=.ok %[b|a]:=rfl
@[simp]def bu(f:vb)(sd:SD)(a:HP):Bj f sd a=(f sd a).bind λp=>.ok %[not<|p.1|p.2]:=rfl
@[simp]def nz(fa fb:FV)(sd:SD)(a:HP):uj fa fb sd a=(X2 fa sd a).bind λp=>if p.1 then fb sd p.2 else .ok %[.bl 7|p.2]:=rfl
@[simp]def nn(c f:Str)(a b:FV)(sd:SD)(d:HP):wA c f a b sd d=(b sd d).bind λp=>(a sd p.2).bind<|WO c f sd p.1:=rfl
@[simp]def bw(c:Str)(a:Yq->HP->Wr (D×HP))(fr:zg)(sd:SD)(b:HP):CZ c a fr sd b=(fr sd b).bind λp=>.new p.2 λx=>(a (.adr x::p.1)<|%[x|.ins c [] []]::p.2).bind<|ZR x:=rfl
@[simp]def Pt(x:Addr)(a:HP):ZR x %[.non|a]=.ok %[.adr x|a]:=rfl
@[simp]def ny(c f:Str)(a:FV)(sd:SD)(b:HP):vd c f a sd b=(a sd b).bind (ZO c f):=rfl
def GJ    (h:jc b a=!d)(e:jA c f d=!z):ZO c f %[.adr a|b]=.ok %[z|b]:=by
 ext ZO;simp only[h,e];rfl
def Da       (h:jc b a=! .ins c fs e)(g:f∉fs)(i:⇑fs<900):WO c f sd d %[.adr a|b]=.ok (.next sd<|JC b a<|.ins c (fs++[f])<|e++[d]):=by
 ext WO;simp[h,g,i]
end
end L2.DL
namespace L2
def GK:V->Yp->Hp->VK->4:=λx c H Q=>∃a b k v,x=.ref a/\c=[kV k,v]/\H a=! .dK b/\⇑b<00/\(∀w,q9 b k=!w->Q w H)/\(q9 b k=8->Q v (upd H a<|.dK<|xJ b k v))
def Pu:dB X "dict.setdefault" GK:=by
 intro Y s Z H x L v M Q I m n h;let(a b k y,rfl,rfl,g,N,o,p):=h;obtain rfl:v=Value.ref a:=m;let(O r,rfl,t,i):=n.two;let(!z,j,(u,c,l)):=A6 I.hok g;rw[call_meetsIn PySem.F.slot_dict_setdefault l.typeIs PySem.F.entry_dict_setdefault (PySem.F.args_dict_setdefault_3 _ _ _) (kt_meets_setdefault (QM X.prog X.w) a (W2 t) j r) (u,l,by rw[<-⇑c];rw[z],λw A=>?_,λB C d E=>?_)]
 .let:=c.val k;rw[A]at this
  induction e:q9 b k with
  |none=>rw[e]at this;rw[this.elim]
  |some f=>
   rw[e]at this;rw[(f,H,I.tok _,this,o f e)]
 .let:=c.val k;rw[B]at this;let e:q9 b k=8:=by
   induction e:q9 b k with
   |none=>rfl
   |some f=>rw[e]at this;rw[this.elim]
  let F:∃q,C.get? a=!q:=uv d λq _ _=>jD λG _=>(q,G);let J:⇑(xJ b k y)<=00:=by let:=Cn b k y;lia
  rw[(y,_,Co I (by rw[g,];rw[True.intro]) E F<|EY J j (c.put k i) d,i,p e)]
end L2
namespace L2.DL
def Bk(j:5)(sd:SD)(a:List jR)(b:Yq)(v:D):02 jR->Res Out
 |some q=>if ⇑a<00 then match ql a b q with
  |some _=>.ok (.next sd)
  |none=>.ok (.next<|sd.set j<|!(.own 7<|.dct (W8 a q)<|Xt a b q v))else .no
 |none=>.no
def ZS(j:5)(a b:FE):FS:=λsd=>match sd[j]? with
 |some (some<|.own false<|.dct c ds)=>(a sd).bind λk=>(b sd).bind λv=>Bk j sd c ds v<|Q3 k
 |_=>.no
def Pv  (ho:PE X o (zl j))(h1:QE X E b i)(h2:QE X E f p)
 (hp:∀{O:TE}{t:TA},PE X o O->PA X [b,f] t->PE X (.Call (.Attribute o "setdefault" g) [b,f] [] h) (uX X.K "dict" GK O t))
 (hs:swapsWith (.Call (.Attribute o "setdefault" g) [b,f] [] h) 8 I.line X.env=pure 7:=by rfl)
 (J:01 [b,f] X.env=%[7|eval b X.env]::01 [f] X.env:=by rfl)(s:01 [f] X.env=%[7|eval f X.env]::01 [] X.env:=by rfl):
 QS X E m (.Expr (.Call (.Attribute o "setdefault" g) [b,f] [] h) I) (ZS j i p):=PS.weak (YK (hp ho<|Jv h1 (Jv h2 Jx s) J) hs) λT Z H zh=>by
 let(B F sd,r,n):=zh;unfold ZS at n
 split at n
 .rename_i L M P;let(-l,Q,g2,g3,(A,R,S,g6),_):=r.own P;rw[(.ref l,Q,.inr<|.inr<|.inl (9,.inl (_,R)),B,F,sd,r,?_)];let n':(Ju i (Ju p jb) sd).need (λC=>∀k v,C=[k,v]->(Bk j sd L M v<|Q3 k).need (wn X.K m B F T) (XW X.K E B.F0 B.H0)) (XW X.K E B.F0 B.H0):=by
   show((i sd).bind λx=>((p sd).bind λy=>(Res.ok []).bind λu=>.ok<|y::u).bind λA=>.ok<|x::A).need _ _
   induction hk:i sd with
   |ok k=>
    rw[hk]at n
    induction hv:p sd with
    |ok v=>
     rw[hv]at n;intro k' v' U;cases U;rw[n]
    |ex c fs=>rw[hv]at n;rw[n]
    |no=>rw[hv]at n;rw[n.elim]
   |ex c fs=>rw[hk]at n;rw[n]
   |no=>rw[hk]at n;rw[n.elim]
  rw[n'.monoE (λC a n1 vs N H1 b i1=>?_) λ_ _ q=>q.ext r.ext];let(k,v,rfl):∃k v,C=[k,v]:=by
   let a:((i sd).bind λx=>((p sd).bind λy=>(Res.ok []).bind λu=>.ok<|y::u).bind λA=>.ok<|x::A)=.ok C:=a
   induction hk:i sd with
   |ok k=>
    rw[hk]at a
    induction hv:p sd with
    |ok v=>rw[hv]at a;cases a;rw[(k,v,9)]
    |ex c fs=>rw[hv]at a;cases a
    |no=>rw[hv]at a;cases a
   |ex c fs=>rw[hk]at a;cases a
   |no=>rw[hk]at a;cases a
  let e:=n1 k v 9;let(v1 v2,rfl,j1,j2):=Xu i1;unfold Bk at e
  split at e
  .rename_i q hq
   split at e
   .rename_i U;let Y:=r.step b;let hH:=b.hh _ _ R;let z:=IsDs.same b.ff _ _ g6;let(w1,w2):=Z3 (K:=X.K) (H:=N) q S z;rw[jX l _ q v2 (9,by rw[XV hq j1,],hH,by rw[List.length_zip,];lia,λw G=>?_,λG=>?_)]
    .induction hd:ql L M q with
     |none=>rw[w2 hd]at G;rw[J2 G]
     |some d=>
      rw[hd]at e;rw[e Z N H1 b.ff Y]
    .induction hd:ql L M q with
     |some d=>
      let(-x,hx,_):=w1 d hd;rw[G]at hx;rw[J2 hx]
     |none=>
      rw[hd]at e;let(-u,y1,y2,y3):=Fs (K:=X.K) (q:=q) S z j2;rw[e Z N _ b.ff<|Y.chg P Q (u,by rw[JE,y1],y2,y3)]
   .rw[e.elim]
  .rw[e.elim]
 .rw[n.elim]
def ZT:Yq->Yr
 |[.str x]=>if ⇑x<=640 then(intText? x).map .int else 8
 |_=>8
def Pw:qu X (.type "int") (zz X.K ZT):=by
 intro Y s Z H h i Q I r b;let(F,j,z,c,id,a,q):=b;unfold ZT at a
 split at a
 .rename_i x
  split at a
  .rename_i d;let(-n,e,rfl):=Jj.mp a;let(-v,rfl,f):=QU id;obtain rfl:=jg.mp f;let(-u,rfl,g):=Kg r;let(t,rfl):=g;rw[W.KIN.call_text e d (.int n,H,I.tok _,(_,9),q _ F H (.refl c)<|je.mpr 9)]
  .rw[J2 a]
 .rw[J2 a]
def v4:D->D->Yr
 |.lst a,.lst []=>!(.bl<|not a.isEmpty)
 |_,_=>8
def fg(S:X.A.units+64<cLine):yH X (compareOp .NotEq) v4:=by
 intro Y s Z H x y v u Q I A B n;let(F,d,e,z,h,id,C,i,q):=n;unfold v4 at i
 split at i
 .rename_i m;obtain rfl:=Zqi i;let(p T,rfl,E,G):=jx.mp id;let(J L,rfl,o,r):=jx.mp C;obtain rfl:v=Value.ref p:=A;obtain rfl:u=Value.ref J:=B;let(-b,ri,pl,U):=I.list (E.same h).sq;let(-f,t,g,M):=I.list (o.same h).sq;let N:=⇑G;let O:=⇑r;let l3:=⇑ri;let l4:=⇑t;rw[ZC]at O;let P:f.toArray.size=0:=by rw[Zm,];lia
  cases c:m=[]
  .subst c;rw[ZC]at N;let w:b.toArray.size=0:=by rw[Zm,];lia
   rw[PySem.SeqAt.RcNeAt.lists (e:=λ_=>6) pl.isList g.isList () () (λj j1 _=>()) X.prog X.w _ _<|by rw[w,];rw[(.bl _,H,I,9,q _ F H (.refl h)<|zo _ F)]]
  .let n0:⇑m≠0:=λz=>c<|Jk.mp z;let w:b.toArray.size≠0:=by rw[Zm,];lia
   let R:not m.isEmpty=6:=by cases(m)with
    |nil=>rw[Zn 9 c]
    |cons a l=>rfl
   rw[R]at q;rw[PySem.SeqAt.RcNeAt.lists_lengths pl.isList g.isList (by rw[P,];simpa using w) () X.prog X.w _ _ (.bl _,H,I,9,q _ F H (.refl h)<|zo _ F)]
 .rw[J2 i]
section
variable        {pos p:Pos}
def uy(p:D×HP):02 Yq:=match p.1 with
 |.lst b=>!b
 |.tup b=>!b
 |.adr a=>match jc p.2 a with
  |some (.lst b)=>!b
  |_=>8
 |_=>8
def ZU(p:D×HP):Wr (D×HP):=match uy p with
 |some b=>.new p.2 λa=>.ok %[.adr a|%[a|.lst b]::p.2]
 |none=>.no
def Bl(f:FV):FV:=λsd a=>(f sd a).bind ZU
def Px (C:QV X E a G)(I:Gl X x)(J:X.mg x=8)(L:bootBuiltins x=! .type "list")(M:x ≠"__name__":=by decide)(r:(x==("__debug__":Str))=7:=by decide)
 (u:01 [a] X.env=%[7|eval a X.env]::01 [] X.env:=by rfl)(s:(backTo pos<|01 [] X.env).any (·.1)=7:=by rfl):QV X E (.Call (.Name x p) [a] [] pos) (Bl G):=
 PE.weak (A4 ET I J L (Xj C Xi u) M r u s) λZ H Q N=>by
  let(B O F sd P,t,n):=N;rw[jE B O F sd P (t,jK n λq m v B1 w y R o g=>?_)];unfold ZU at m
  split at m
  .rename_i z c;let f:∀{e:Yp},IsDs X.K w z e->∀l,y l=8->Q (.ref l) (upd y l<|.lst e):=λ{e}S l T=>by
    let(h,i):=o.newO (d:=.lst z) T (e,JE,S);rw[m l h _ _ w _ R i<|jC.mpr 9]
   unfold uy at c
   split at c
   .rename_i A j;obtain rfl:=Zqi c;rw[j]at g;let(b,e,rfl,h,i):=jx.mp g;rw[(b,e,9,.inl (h.same o.rs.ext.fh).sq,f i)]
   .rename_i A j;obtain rfl:=Zqi c;rw[j]at g;let(b,e,rfl,h,i):=jm.mp g;rw[(b,e,9,.inr (h.same o.rs.ext.fh).sq,f i)]
   .rename_i b j;rw[j]at g;obtain rfl:=jC.mp g
    split at c
    .rename_i A U;obtain rfl:=Zqi c;let(e,Y,g2):=o.lies U;rw[(b,e,9,.inl<|qX.of Y,f g2)]
    .cases c
   .cases c
  .rw[m.elim]
@[simp]def bz(f:FV)(sd:SD)(a:HP):Bl f sd a=(f sd a).bind ZU:=rfl
end
end L2.DL
namespace L2
abbrev wY:Yd:=[.type "ValueError",.type "Exception",.type "BaseException",.type "object"]
abbrev yB(C t:Addr)(od:02 Addr):Obj:={cls:=.ref C,dict:=od,data:=.fields #[.ref t,.none,.none,.none,.bool 7,.none]}
def XO(C x t:Addr)(a:02 Addr):HO:=.ext λh=>h.get? x=! yB C t a
def XO.ok      (e:h.get? x=! yB C t a):yd P w H h x (XO C x t a):=(e,(_,e),λ_ _ q k=>k _ q)
structure ExcI(K:aa)(mg:Yc)(c:Str)(C fI:Addr)(f:Str):4 where
 ns:W.nsIn K 000 c=! ! .ref C
 mgc:mg c=! .ref C
 ob:∃A dd cd k0 k1 k2 k3 k5,K.lookup C=!(.type "type",dd,.cls cd,#[k0,k1,k2,k3,! .builtin "ValueError.__new__",k5])/\cd.mro=.ref C::.ref A::wY/\cd.hasDel=7/\cd.hasDict=6/\W.excIn K A wY "ValueError.__new__"=6
 init:W.findIn K (.ref C) "__init__"=! ! .ref fI
 fn:W.isFn K (.ref fI)=6
 no:w5 K C f
 sa:W.findIn K (.ref C) "__setattr__"=! ! .builtin "object.__setattr__"
def Db(K:aa)(c a f:Str)(st:Stmt)(C b:Addr):4:=(∀{h:Heap}{d:Yc},K.In h->h.Ns 000 d->ExcI K d c C b f)/\∃e,Fun K "__init__" a st b e
def excI_mk{K:aa} {st:Stmt}     (j:W.nsIn K 000 c=! ! .ref C)(l:K.lookup C=!(.type "type",p,.cls b,#[r,t,u,v,! .builtin "ValueError.__new__",w]))
 (m:b.mro=.ref C::.ref A::wY)(d:b.hasDel=7)(h:b.hasDict=6)(e:W.excIn K A wY "ValueError.__new__"=6)(i:W.findIn K (.ref C) "__init__"=! ! .ref g)(n:W.isFn K (.ref g)=6)(o:w5 K C f)(s:W.findIn K (.ref C) "__setattr__"=! ! .builtin "object.__setattr__")(F:Fun K "__init__" a st g y):Db K c a f st C g:=
 (λX G=>(j,W.mg_of X G j,zR A p b r t u v (w,l,m,d,h,e),i,n,o,s),y,F)
def ExcI.obj{K:aa}    {P:4}(x:ExcI K mg c C fI f)(O:K.In h)
 (k:∀g N nm n bs o sub p e r s u v y z cd,h.get? C=! excClassObj nm n C N bs g 6 o sub p e r s u v y z "ValueError.__new__"->W.clsIn K C=!cd->cd.mro=.ref C::g->cd.hasDict=6->OwnTail h wY g->(∀a,refuseLoop a "__setattr__" cd.mro=pure Yj)->P):P:=by
 let(A,r,cd,s,u,v,y,z,Q,B,b,R,X):=x.ob;rw[CN O X λg N nm n bs i o sub p e Y l0 l1 l2 l3 l5 mN E Z F T=>?_];let T2:OwnTail h wY (.ref A::wY):=.own (cd:=(nm,bs,.ref A::g,N,n,i,o,sub,p,e,7)) E Z F .base;let hC:=O _ _ Q;let cl:W.clsIn K C=!cd:=by ext W.clsIn;rw[Q,]
 let rf:∀a,refuseLoop a "__setattr__" cd.mro=pure Yj:=λa=>by rw[B,refuseLoop_ref,refuseLoop_ref];rw[PySem.F.store_ValueError.passes a]
 let(G,H,S,I,J,hd',L,j,M,l,U):=cd;dsimp only at B b R;subst B b R;rw[k (.ref A::wY) I G J H L j M l r s u v y z _ hC cl 9 9 T2 rf]
section
variable   {Z: St}
def Py        (g:h.Ns1 d a)(e:a "row"=!u)(r:jz (.int n) u):yd P w H h d (DL.RowO d n):=by
 let b:=g;let(i j l,f,c):=g;rw[((a,u,b,e,r),(_,f),λm o(a,u,(i,j,l,f,c),r)k=>(a,u,jh i j l (k _ f,c),r))]
def Pz     (I:Inv X Y Z H s)(e:H a=! XO C a t 8)(x:ExcI X.K X.mg c C fI "row")(ru:jz (.int n) u)
 (h:∀d f,H d=8->Inv X Y Z (upd (upd H a<|XO C a t<|!d) d<|DL.RowO d n) f->Q Yj f):wpAny (model X.prog X.w) A (setAttr (.ref a) "row" u) Q E s:=by
 let ha:↥s a=! yB C t 8:=(I.hok a _ e).1;let J:W.InstAt s.heap a (yB C t 8) C 8:=(ha,9,9,True.intro);rw[x.obj I.kIn λbm N nm qn bs sn sub ab col dd k0 k1 k2 k3 k5 cd hC L B hd T rf=>?_];rw[W.set_plain I.kIn J x.sa ?_];let j:=PySem.F.store_object;let(f,hs'):∃f:Shared,f={s with toks:=s.toks+1}:=(_,9);let F:X.K.In f.heap:=by rw[hs',];rw[I.kIn]
 let G:W.InstAt f.heap a (yB C t 8) C 8:=by rw[hs',];rw[J]
 let ne:cd.mro.isEmpty=7:=by rw[B,];rfl
 let sb:W.Looks (model X.prog X.w) f.heap (isInstance (.ref a)<|.type "object") 6:=G.type.andThen<|W.looks_mroIn F<|by
  ext W.mroIn;rw[L,Option.bind_some,Ze (by rw[ne,];decide),B,List.contains_cons,T.hasType (X:="object") (b:=6) (by decide),U8]
 let M:W.Looks (model X.prog X.w) f.heap (mroOf<|.ref C) cd.mro:=(W.looks_clsIn F L).andThen .now;rw[<-hs'];rw[codeAny_call_builtin j.slot.plain j.entry<|@W.check_slot (model X.prog X.w) _ _ f "object.__setattr__" "object" "__setattr__" (.ref a) [.str "row" s.toks,u] [] _ j.kind j.split sb (j.args (.ref a) (.str "row" s.toks) u) ?_];rw[W.osa_eq,refuse_eq];rw[Za<|Za<|G.type.here<|Za<|M.here ?_];rw[rf,];rw[Zb<|Za<|G.type.here<|Za<|(W.looks_findIn F x.no).here<|Za<|W.Looks.now.here ?_];let g:↥f a=! yB C t 8:=G.at_;rw[Za<|Zb<|Za<|Za<|wpAny_loadPart g<|Za<|(W.looks_clsIn F L).here ?_];rw[hd,];let hx₁:(f.heap.push {cls:=.type "dict",data:=.dict #[]}).get? a=! yB C t 8:=Zq _ g;let i:a≠f⁻¹:=Zi<|Zk g;rw[Za<|wpAny_alloc' ?_];rw[Za<|wpAny_update' hx₁ ?_];rw[Zb<|Za<|Zb<|Za ?_];let O:((f.heap.push {cls:=.type "dict",data:=.dict #[]}).update a λo=>{o with dict:=!f⁻¹}).get? f⁻¹=!{cls:=.type "dict",data:=.dict #[]}:=
  (Heap.get?_update_ne _ _ _ _ i.symm).trans<|Heap.get?_push_at 9 9
 let P:((f.heap.push {cls:=.type "dict",data:=.dict #[]}).update a λo=>{o with dict:=!f⁻¹}).Ns f⁻¹ λ_=>8:=
  (_,#[],_,O,9,λe he=>Zn he (),λ_=>9)
 rw[wpAny_nsSet1 (Heap.Ns1.of_empty P) λh' l hs=>?_];let(oD esD epD,R,S,U):=l.count (Within.cons "row" u Within.nil);rw[Za<|wpAny_lookBehind R (by rw[S,];rw[pastItsLine_dict<|Zh U<|by rw[Zu,ZC,sizeLine_eq];lia]) ?_];let r:h'.get? a=!(yB C t<|!f⁻¹):=(hs.2 a i).trans<|Heap.get?_update_self _ hx₁ 9;let w:H f⁻¹=8:=by subst hs';rw[I.hok.fresh<|Zf _]
 rw[Zb<|h f⁻¹ _ w ?_];subst hs';let lt:∀{b:Addr}{o:Obj},↥s b=!o->b≠s⁻¹:=λq=>Zi<|Zk q;rw[Inv.track (φ:=λh=>∃mA u,h.Ns1 s⁻¹ mA/\mA "row"=!u/\jz (.int n) u) (I.write (x:=a) (e:=a) (by rw[e,];rw[True.intro]) (.inl 9) (λb q hb z=>(hs.2 b<|Zi<|Zk z).trans<|(Heap.get?_update_ne _ _ _ _ hb).trans<|Zq _ z) (_,r)<|XO.ok r) ((J6 i.symm).trans w) (Heap.get?_none_of_le I.sz) (λz=>?_) (λy c q z=>?_) (λp hp z=>lt (I.pin p hp).1 z)<|Py l (Zd 9) ru]
 .let(-m,(_,_,_,B,_),_):=id I.loc;rw[lt B z.symm]
 .let(v o,ho,_):=I.cell y c q;rw[lt ho z]
end
def GL(C:Addr)(c e:TE):TS:=λD Z H=>e Z H λy f=>c Z f λx b=>∃a t n,y=.int n/\x=.ref a/\b a=! XO C a t 8/\∀d,b d=8->D.nx Z (upd (upd b a<|XO C a t<|!d) d<|DL.RowO d n)
def GM      (x:ExcI X.K X.mg c C O "row")(g:PE X o i)(j:PE X b l)(m:swapsWith b (! .Attribute o "row" e) f.line X.env=pure 7):PS X (.Assign [.Attribute o "row" e] b f) (GL C i l):=by
 intro Y s Z H D I h;rw[plainObj_wpAny_Assign_Attribute (jF (j Y s Z H _ I h) λu p=>jy λy r=>j5 λv w q=>jF (g Y p Z r _ v q) λA P(z,Q,B,E,a,t,n,F,G,J,L)=>?_) m];subst G F;obtain rfl:A=Value.ref a:=E;rw[Pz B J x w λd R M N=>(Z,_,N,L d M)]
def vE(C:Addr):Sp:=λa H Q _=>∃x n t,a=[.ref x,.int n]/\H x=! XO C x t 8/\∀d,H d=8->Q .non (upd (upd H x<|XO C x t<|!d) d<|DL.RowO d n)
def GN  {K:aa}   {st:Stmt}    (F:Fun K x f st h i)(S:FnScope [a,b] [a,b] (Qe st))
 (j:∀(d:Value)(A:Around)(c:List Env)(s:Shared)(H:Hp)(E:XK),xR (qk yt P w K l g [a,b] f (Qe st) h d A c s H E).nox (Kn st) (GL C (zl 0)<|zl 1)):
 FnOk P w K l g yt 1 h i [a,b] (vE C):=by
 rw[F.ok S (λm H Q E=>xf λx u t=>jD λe _=>by rw[e,];rfl) λd A c s H m Q E o=>xf λx u t=>j5 λe n q=>(_,j d A c s H E,?_)];subst e;rw[(.int u,9,.ref x,9,x,t,u,9,9,n,q)]
section
variable {prog:Program}{w:World}{A:Around}{E:Ya}{h:Heap}{g:Array GenState}{d:Drawn}{t:Nat}{os:OsState}{K:aa}
variable {nm q:Str}{C N fI:Addr}{bs bm:Yd}{hdct:Bool}{sn:Yg}{sub:Yd}{ab:Bool}{col:02 Bool}{dd:02 Addr}{k0 k1 k2 k3 k5:02 Value}
def P0(X:K.In h)(n:W.findIn K (.ref C) "__init__"=! ! .ref fI)(p:W.isFn K (.ref fI)=6)(T:OwnTail h wY bm){rest:Yd}{Q:Fin->Yo}
 (c:h.get? C=! excClassObj nm q C N bs bm hdct sn sub ab col dd k0 k1 k2 k3 k5 "ValueError.__new__")
 (s:∀l e,h.objs.size<=e->Heap.MadeExcOf h l e (.ref C) rest->Yt prog w A (call (.ref fI)<|.ref e::rest) (λr m=>r=.none/\Q (.done<|.ret<|.ref e) m) E (l,g,d,t,os))(hrest:⇑rest<=00):
 Yt prog w A (Builtin.«type.__call__» (.ref C::rest,[])) Q E (h,g,d,t,os):=by
 let f:=PySem.F.excBase_ValueError;show wpAny _ _ _ _ _ _
 repeat(first|with_reducible rw[wpAny_loadPart_at c ?_]|with_reducible rw[wpAny_madeBy_exc c ?_]|wp_step)
 rw[codeAny_call_builtin_code (Code.quiet_builtin _ f.quiet)<|wpAny_check_new_subU f (by decide+kernel) T c ?_];rw[codeAny_exc_new_subU f (by decide+kernel) f T c ?_ hrest];show wpAny _ _ _ _ _ _;let i:∀b o,h.get? b=!o->((h.push {cls:=.type "tuple",data:=.seq rest.toArray}).push {cls:=.ref C,data:=.fields #[.ref h.objs.size,.none,.none,.none,.bool 7,.none]}).get? b=!o:=λb o e=>Zq _<|Zq _ e;let hC₁:=i _ _ c;let X₁:=X.keeps i;let a:((h.push {cls:=.type "tuple",data:=.seq rest.toArray}).push
  {cls:=.ref C,data:=.fields #[.ref h.objs.size,.none,.none,.none,.bool 7,.none]}).get? (h.objs.size+1)=!{cls:=.ref C,data:=.fields #[.ref h.objs.size,.none,.none,.none,.bool 7,.none]}:=by heap_get
 let j:(Value.ref C::bm).contains (.ref C)=6:=by simp
 ext isInstance
 repeat(first|with_reducible rw[wpAny_loadPart_at a ?_]|(with_reducible rw[wpAny_isSubtype_exc hC₁ ?_];rw[j,])|wp_step)
 show wpAny _ _ (typeLookup (.ref C) _) _ _ _;rw[(W.looks_findIn X₁ n).at ?_];rw[wpAny_holding<|Za<|(W.bind_fn X₁ _<|Yi.mp p).at ?_];rw[Za<|Zc (s _ (h.objs.size+1) (UV _) (i,Heap.get?_none_of_le<|UV _,h.objs.size,a,Heap.get?_none_of_le<|Zf _,?_)) (λr m u=>?_) λ_ _ x=>x]
 .rw[Zq _<|Heap.get?_push_at 9 9]
 .let(rfl,v):=u
  wp_walk
  rw[v]
def P1(X:K.In h)(c:W.findIn K (.ref C) "__init__"=! ! .ref fI)(f:W.isFn K (.ref fI)=6)(T:OwnTail h wY bm){rest:Yd}{Q:Ya}
 (a:h.get? C=! excClassObj nm q C N bs bm hdct sn sub ab col dd k0 k1 k2 k3 k5 "ValueError.__new__")
 (i:∀b e,h.objs.size<=e->Heap.MadeExcOf h b e (.ref C) rest->wpAny (model prog w) (A.under<|.builtin "type.__call__" (.ref C::rest,[])) (call (.ref fI)<|.ref e::rest) (λr j=>r=.none/\Q (.ref e) j) E (b,g,d,t,os))(hrest:⇑rest<=00):
 Yt prog w A (call (.ref C) rest) Q E (h,g,d,t,os):=by
 let n:=tc_lookup;let o:=tc_bind<|.ref C;let p:((h,g,d,t,os):Shared).TypeIs (.ref C) "type":=(_,a,9);rw[wpAny_call<|codeAny_of_tree ?_];show wpAny _ _ (callAny (.ref C) _) _ _ _
 repeat(any_goals(first|assumption|with_reducible rw[wpAny_loadPart_at a ?_]|wp_step))
 rw[(9,?_)];rw[codeAny_call_builtin_at (Code.quiet_builtin _<|by decide+kernel) entry_typeCall<|wpAny_check_type_call_sub a<|P0 (hrest:=hrest) X c f T a λb e l m=>i b e l m]
def GO      (a:bm.contains (.type "BaseException")=6)(i:A.handled=8)
 (h:wpAny M A x (λv s₁=>∃e t c,v=.ref e/\↥s₁ C=! excClassObj nm q C N bs bm hdct sn sub ab col dd k0 k1 k2 k3 k5 newId/\↥s₁ e=! yB C t c/\E (.ref e) s₁) E s):
 wpAny M A (raiseStmt j (!x) 8) Q E s:=by
 let b:(Value.ref C::bm).contains (.type "BaseException")=6:=by rw[List.contains_cons,a,U8]
 ext raiseStmt;rw[Za<|Zc h (λv s₁ h₁=>?_) λ_ _ x=>x];let(e t c,rfl,f,l,m):=h₁;let(n,g,d,o,os):=s₁
 repeat(first|with_reducible rw[wpAny_loadPart_at l ?_]|with_reducible rw[wpAny_loadPart_at f ?_]|(with_reducible rw[wpAny_isSubtype_exc f ?_];rw[b,])|wp_step)
 rw[wpAny_raiseNew_none i m]
def P3       (b:bm.contains (.type "BaseException")=6)(o:A.handled=8)(c:(backTo i<|01 j l).any (·.1)=7)
 (h:Yt prog w A (eval (.Name x r) l) (λf s₁=>f=.ref C/\Yt prog w A (evalArgs (.ref C) 6 (backTo i<|01 j l) [])
  (λa s₂=>a.kw=[]/\↥s₂ C=! excClassObj nm q C N bs bm hdct sn sub ab col dd k0 k1 k2 k3 k5 newId/\Yt prog w A (call (.ref C) a.pos) (λv s₃=>∃e t u,v=.ref e/\↥s₃ C=! excClassObj nm q C N bs bm hdct sn sub ab col dd k0 k1 k2 k3 k5 newId/\↥s₃ e=! yB C t u/\E (.ref e) s₃) E s₂) E s₁) E s):
 Yt prog w A (exec (.Raise (! .Call (.Name x r) j [] i) 8 y) l) Q E s:=by
 rw[arm_exec_Raise,]
 first
  |rw[Za<|wpAny_standAt<|GO (C:=C) (nm:=nm) (q:=q) (N:=N) (bs:=bs) (bm:=bm) (hdct:=hdct) (sn:=sn) (sub:=sub) (ab:=ab) (col:=col) (dd:=dd) (k0:=k0) (k1:=k1) (k2:=k2) (k3:=k3) (k5:=k5) (newId:=newId) b o<|Za<|Zc (wpAny_Call_ofName<|Zc h (λf s₁ h₁=>?_) λ_ _ x=>x) (λv s₃ h₃=>Za<|wpAny_standAt<|Zb h₃) λ_ _ x=>x]
  |(simp only[evalOpt,Option.map];rw[Za<|wpAny_standAt<|GO (C:=C) (nm:=nm) (q:=q) (N:=N) (bs:=bs) (bm:=bm) (hdct:=hdct) (sn:=sn) (sub:=sub) (ab:=ab) (col:=col) (dd:=dd) (k0:=k0) (k1:=k1) (k2:=k2) (k3:=k3) (k5:=k5) (newId:=newId) b o<|Za<|Zc (wpAny_Call_ofName<|Zc h (λf s₁ h₁=>?_) λ_ _ x=>x) (λv s₃ h₃=>Za<|wpAny_standAt<|Zb h₃) λ_ _ x=>x])
 let(rfl,h₁):=h₁;ext callWith;rw[Za<|wpAny_holding<|Zc h₁ (λa s₂ h₂=>Za<|wpAny_standAt ?_) λ_ _ x=>x];let(p,m):=a;let(n,z,h₂):=h₂;obtain rfl:m=[]:=n;let(B,g,d,F,os):=s₂;simp only[c];rw[Za<|wpAny_keeperOf_exc z ?_];rw[Za<|Zc h₂ (λv s₃ h₃=>Za<|wpAny_holding<|wpAny_point<|Zb h₃) λ_ _ x=>x]
end
structure RaisesI(X:Cx)(E:XK):4 where
 new:∀(Y:Yb)(Z:St)(H:Hp)(s:Shared)(x C t:Addr)(oe:Obj)(vs:Array Value),Inv X Y Z H s->H x=8->X.s₀.heap.get? x=8->↥s x=!oe->oe.cls=.ref C->oe.data=.fields vs->vs[0]?=! .ref t->vs[1]?=!.none->E (.ref C) oe.dict H->X.xe (.ref x) s
section
variable   {K:aa}
def GP:RaisesI (qk (yq P w) P w K mg B N i d f m A g s H E) E:=by
 rw[⟨λY Z H' s' x C t L vs I M r n O F R G S=>?_⟩];let st:=I.stack;let v:∀l∈ envOfC i d s⁻¹ f m::g,∀a,l.frame=!a->a∈x::frs (envOfC i d s⁻¹ f m::g):=λl n a T=>Zqm _<|Jn.mpr (l,n,T);let nb:(W.hideAll s'.heap<|x::frs (envOfC i d s⁻¹ f m::g)).get? x=8:=W.hideAll_none _ Zqs;let J:=W.funFrames_hide st v;rw[Zc (WD (wpAny_leaving_firstW (a0:=.ref t) (Q:=λ_ U=>∃j,Heap.LeftW (W.hideAll s'.heap<|x::frs (envOfC i d s⁻¹ f m::g)) (envOfC i d s⁻¹ f m::g) x L.cls (.ref t) s'.heap j/\U={s' with heap:=j}) I.ok.frames J 9 n (λb o e=>W.of_hideAll _ e) nb F G R λj p=>(j,p,9))<|Gd (E:=λ_ _=>True) I.ok.frames J 9 n F G) ?_ λ_ _ z=>z.1];rintro _ _ ⟨⟨j,p,rfl⟩,dt⟩;rw[O]at p;let(!X,(_,_,l2),l3,l4):=p;rw[AO (s':=s') (h₀:=W.hideAll s'.heap [x]) I (λb u e=>?_) (X,nb,l2,l3) l4 (λb o e c=>?_) dt S]
 .let(u',y):=I.base.there b u e (by show b∉([]:Yh);simp);rw[(u',W.hideAll_get _ y λz=>by
   let e:↥s b=!u:=e;let r:↥s x=8:=r;rw[Jc.mp z,r]at e;cases e)]
 .rw[W.hideAll_get _ e λz=>?_];obtain z|z:=Ux.mp z
  .rcases c with c|⟨⟨u,hu⟩,_⟩
   .rw[c<|by rw[z,];rw[M]]
   .rw[z,W.hideAll_none _ (Jc.mpr 9)]at hu;cases hu
  .rcases c with c|c
   .rw[c<|I.stkFree b z]
   .rw[c.2 z]
end
def P4      (R:RaisesI X E)(x:ExcI X.K X.mg c C fI "row")(F:FnOk X.prog X.w X.K X.mg X.base yt k fI fd U (vE C))(b:zH X.K fd U [])(hr:Room (k+1) X.A)(hc:X.calm=6)(hg:Gl X c)(ha:PA X [e] t)(J:(c==("__debug__":Str))=7:=by decide)
 (he:01 [e] X.env=%[7|eval e X.env]::01 [] X.env:=by rfl):PS X (.Raise (! .Call (.Name c np) [e] [] A) 8 pos) λ_ Z H=>t Z H λvs H1=>∃n,vs=[.int n]/\∀p,H1 p=8->E (.ref C) (!p) (upd H1 p<|DL.RowO p n):=by
 intro Y s Z H D I h;rw[x.obj (h:=X.base) I.mod.kin λbm N nm q bs sn sub ab col dd k0 k1 k2 k3 k5 cd j cl L hdt T0 rf=>?_];rw[P3 (C:=C) (nm:=nm) (q:=q) (N:=N) (bs:=bs) (bm:=bm) (hdct:=6) (sn:=sn) (sub:=sub) (ab:=ab) (col:=col) (dd:=dd) (k0:=k0) (k1:=k1) (k2:=k2) (k3:=k3) (k5:=k5) (newId:="ValueError.__new__") (T0.hasType PySem.F.excBase_ValueError.hasBase) (I.ok.hd hc) (by rw[he,];rfl)<|W1 I hg x.mgc (9,?_) J];let hA:=ha A Y s Z H _ I h;rw[he]at hA ⊢;rw[Calls.evalArgs_plain<|Zc hA (λi s2(vs,l,m,r2,n,hl,hE)=>?_) λ_ _ y=>y];rw[(9,m.bk _ _ j,?_)];subst hl;let lu:=⇑r2;let M:=m.bk _ _ j;let T2:=T0.keeps m.bk;let K2:=m.kIn;let sz:=m.sz;show wpAny _ _ (call (.ref C) i) _ _ s2;let(h2,g2,d2,t2,o2):=s2;rw[P1 K2 x.init x.fn T2 M (λh' e w L=>?_) (small<|by rw[<-lu];show 1<=1000;lia)];let(-t,O,_,_):=L.there;let P:=m.laid (a:=e) (o:=XO C e t 8) (t':=t2) L.keeps w<|XO.ok O;let hn:l e=8:=m.hok.fresh w;let r3:j4 [V.ref e,V.int n] (Value.ref e::i):=.cons 9 r2;let sp:vE C [.ref e,.int n] (upd l e<|XO C e t 8) (λv H'=>v=.non/\∃d,upd l e (XO C e t 8) d=8/\H'=upd (upd (upd l e<|XO C e t 8) e<|XO C e t<|!d) d (DL.RowO d n)) E0:=jh e n t (9,JE,λd J=>(9,d,J,9));let Q:⇑(Value.ref e::i++[])=⇑U:=by
  rw[ZA,<-⇑r3];rw[F.len _ _ _ _ sp]
 let bb:=b _ (Value.ref e::i) P.kIn Q;rw[ZA]at bb;rw[wpAny_call<|codeAny_mono (F.run _ X.stack _ _ (Value.ref e::i,[]) (Value.ref e::i) _ _ E0 (hr.make C i []) (P.env0.make C i []) bb r3 sp) λr s' f=>?_]
 cases(r)with
 |error e=>rw[False.elim f]
 |ok fl=>
  cases(fl)with
  |next=>rw[False.elim f]
  |brk=>rw[False.elim f]
  |cont=>rw[False.elim f]
  |ret u=>
   let(v H',G,rv,ev,(d,g,S)):=P.after f;subst ev S;let B:d≠e:=λz=>by rw[z,JE]at g;cases g
   let up:upd (upd (upd l e<|XO C e t 8) e<|XO C e t<|!d) d (DL.RowO d n) e=!(XO C e t<|!d):=(J6 B.symm).trans JE;rw[(rv,e,t,!d,9,G.bk _ _ j,(G.hok e _ up).1,?_)];let I5:=G.forget (it:=e) (φ:=λh=>h.get? e=!(yB C t<|!d)) up;let S:kZ (upd (upd (upd l e<|XO C e t 8) e<|XO C e t<|!d) d<|DL.RowO d n) e=upd l d (DL.RowO d n):=by
    funext z
    cases q:z=e
    .rw[q,FY,J6 B.symm,hn]
    .cases T:z=d
     .rw[T,WC B,JE,JE]
     .rw[WC q,J6 T,J6 q,J6 q,J6 T]
   rw[S]at I5;rw[J6 B]at g;rw[R.new Y Z _ s' e C t _ _ I5 ((J6 B.symm).trans hn) (Heap.get?_none_of_le<|Zh sz w) (G.hok e _ up).1 9 9 9 9<|hE d g]
end L2
namespace L2.DL
def XI(P:Program)(w:World)(K:aa)(b:Yc)(a:Heap)(c:Str):4:=∃C d e f,ExcI K b c C d "row"/\FnOk P w K b a yt 1 d e f (vE C)/\zH K e f []
def Wb(c:Str)(a:FE):FS:=λsd=>(a sd).bind λd=>match d with
 |.int n=>.ex c [.int n]
 |_=>.no
@[simp]def cT(c:Str)(a:FE)(sd:SD):Wb c a sd=(a sd).bind λd=>match d with
 |.int n=>.ex c [.int n]
 |_=>.no:=rfl
def Bm(c:Str)(names:Yg)(a:Yq->Res Yq)(b:FA):FE:=λsd=>(b sd).bind λd=>(a d).strict.bind λe=>.ok<|.ins c names e
@[simp]def bA(c:Str)(names:Yg)(a:Yq->Res Yq)(b:FA)(sd:SD):Bm c names a b sd=(b sd).bind λd=>(a d).strict.bind λe=>.ok<|.ins c names e:=rfl
def GQ    (R:RaisesI X E)(ex:XI X.prog X.w X.K X.mg X.base c)(j:Room 2 X.A)(l:X.calm=6)(o:Gl X c)(s:QE X E e f)(t:(c==("__debug__":Str))=7:=by decide)
 (a:01 [e] X.env=%[7|eval e X.env]::01 [] X.env:=by rfl):QS X E m (.Raise (! .Call (.Name c Q) [e] [] g) 8 u) (Wb c f):=by
 let(C S U Y,x,w,b):=ex;rw[PS.weak (P4 R x w b j l o (Jv s Jx a) t a) λT Z H y=>by
  let(B F sd,r,n):=y;let z:(Ju f jb sd).need (λh=>∃n,h=[.int n]/\XW X.K E B.F0 B.H0 c [.int n]) (XW X.K E F H):=by
   unfold Wb at n;ext Ju jb
   induction hf:f sd with
   |ok d=>
    rw[hf]at n;cases d with
    |int k=>rw[(k,9,n)]
    |_=>rw[n.elim]
   |ex A fs=>rw[hf]at n;rw[XW.ext (n:XW X.K E B.F0 B.H0 A fs) r.ext]
   |no=>rw[hf]at n;rw[n]
  rw[jh B F sd (r,z.mono (λh G vs F1 H1 i I=>?_) λ_ _ q=>q)];let(k,rfl,J):=G;let(v L,rfl,M,N):=ji.mp I;obtain rfl:=IsDs.nil_iff.mp N;obtain rfl:=je.mp M;rw[(k,9,λp O=>?_)];let P:=Ext.alloc i.fh O<|RowO p k;rw[J (.ref C) (!p) _ _ ((r.ext.trans i).trans P) (C,9,x.ns,.inr (p,k,9,9,JE))]]
def GR         (M:tN X.prog X.w X.K X.mg X.base c names k ps I)(J:Room (k+1) X.A)(L:Gl X c)(N:QA X E (e::l) O)
 (t:(c==("__debug__":Str))=7:=by decide)(P:01 (e::l) X.env=%[7|eval e X.env]::01 l X.env:=by rfl)(u:(backTo v<|01 l X.env).any (·.1)=7:=by rfl):
 QN X E (.Call (.Name c p) (e::l) [] v) (Bm c names I O):=by
 let(C f fd,w,mk,F,b):=M;rw[PE.weak (EE mk F J L w.mgc b .nil Cp N t P u) λZ H Q=>xf λB F sd=>jD λr n=>?_];rw[jh B F sd (r,(Res.need_bind n).mono (λR S T j m h U x d i j6 ne=>?_) λ_ _ q=>q)];let Y:=Res.need_strict (q':=XW X.K E0 j<|yR (upd (upd m d<|.own x) x<|.ins C d []) x)<|Res.need_bind S;let y:j x=8:=by
  induction q:j x with
  |none=>rfl
  |some o=>rw[h.fh _ _ q]at i;cases i
 let z:H x=8:=by
  induction q:H x with
  |none=>rfl
  |some o=>rw[h.hh _ _ q]at i;cases i
 let A:∀{G:Hp},ju G m->ju G (yR (upd (upd m d<|.own x) x<|.ins C d []) x):=λ{G}s a o q=>by
  let g:=s _ _ q;rw[Oa (KL g i),J6 (KL g i),J6 (KL g j6)];rw[g]
 let s2:ju j (upd (upd m d<|.own x) x<|.ins C d []):=λa o q=>by
  let g:=h.fh _ _ q;rw[J6 (KL g i),J6 (KL g j6)];rw[g]
 let ed:Ext F H j (yR (upd (upd m d<|.own x) x<|.ins C d []) x):=(h.ff,A h.fh,A h.hh,h.new);rw[ZA,];rw[vm j R x C d T (s2,9,U,y,w.ns,JE,Y.mono (λl n3 F2 H2 xs e2 f2 h2 l2 i2=>(9,?_)) λ_ _ q=>q)];rw[n3 x F2 H2 (ed.trans e2) z f2<|jh C d xs (w.ns,h2,l2,i2)]
def Wr.strict{α:Type}:Wr α->Wr α
 |.ok a=>.ok a
 |.ex _ _=>.no
 |.no=>.no
 |.new b k=>.new b λa=>(k a).strict
theorem Wr.need_strict   :∀{r:Wr α},r.strict.need p q->r.need p q'
 |.ok _,h=>h
 |.ex _ _,h=>h.elim
 |.no,h=>h.elim
 |.new _ k,h=>λa z=>Wr.need_strict (r:=k a)<|h a z
theorem xu   :∀{r:Wr α},(r.need p λ_ _=>False)->r.strict.need p q
 |.ok _,h=>h
 |.ex _ _,h=>h.elim
 |.no,h=>h.elim
 |.new _ k,h=>λa z=>xu (r:=k a)<|h a z
def Bn(a:Yq->HP->Wr (D×HP))(fr:zg):FV:=λsd b=>(fr sd b).bind λp=>(a p.1 p.2).strict
@[simp]def cF(a:Yq->HP->Wr (D×HP))(fr:zg)(sd:SD)(b:HP):Bn a fr sd b=(fr sd b).bind λp=>(a p.1 p.2).strict:=rfl
def P5     (c:wq X.prog X.w X.K X.mg X.base name k P (zj X.K h))(j:Room k X.A)(l:Gl X name)(m:vW X E (e::a) fr)
 (b:(name==("__debug__":Str))=7:=by decide)(o:01 (e::a) X.env=%[7|eval e X.env]::01 a X.env:=by rfl)(d:(backTo f<|01 a X.env).any (·.1)=7:=by rfl):
 QV X E (.Call (.Name name p) (e::a) [] f) (Bn h fr):=PE.weak (XN c j l m b o d) λZ H Q r=>by
 let(B s F sd u,t,n):=r;rw[jE B s F sd u (t,jK n λp y z R A C G g I=>?_)];show zj X.K h (z++[]) C Q E0;rw[ZA,];rw[jh A p.1 p.2 (g.rs.ext.fh,I,g.lent,(Wr.need_strict y).mono (λq J v L M w i=>?_) λ_ _ q=>q)];let(N,O):=g.callV w;rw[J v N L M (G.trans w.ff) O i]
section
variable   {K:aa}    {st:Stmt}
def P6   (F:Fun K x m st f X)(S:FnScope N O (Qe st))
 (hw:∀e d,I e=.ok d->⇑e=⇑O/\((g (JN ⇑N e) []).bind qi).need (λp=>dr p.2 kk p.1=d) λ_ _=>False)(hx:∀e c fs,I e=.ex c fs->⇑e=⇑O/\((g (JN ⇑N e) []).bind qi).need (λ_=>False) λU r=>U=c/\r=fs)
 (Y:∀(j:Value)(A:Around)(h:List Env)(s:Shared)(H:Hp)(E:XK),Room k (A.deeper<|envOfC m (Qe st) s⁻¹ f j)->wZ (qk (yq P w) P w K Z u N m (Qe st) f j A h s H E) E (Kn st) g):
 FnOk P w K Z u (yq P w) (k+1) f X O (xY K I):=by
 rw[F.okX S (λvs H Q E=>jy λF e=>j5 λ_ i n=>?_) λj A h s H vs Q E hr=>jy λF e=>j5 λhs i n=>(_,Y j A h s H E hr,?_)]
 .induction q:I e with
  |ok d=>rw[⇑i,];rw[(hw e d q).1]
  |ex c fs=>rw[⇑i,];rw[(hx e c fs q).1]
  |no=>rw[q]at n;rw[n.elim]
 .let t:=RT.start<|RS.start (N:=N) hs i
  induction q:I e with
  |no=>rw[q]at n;rw[n.elim]
  |ex c fs=>
   rw[q]at n;let n:XW K E F H c fs:=n;rw[(_,_,F,_,[],t,(Wr.need_bind.mp (hx e c fs q).2).mono (λo l=>?_) λU r z=>by rw[z.1,z.2];rw[n])];cases o with
   |next b a=>rw[(show False from l).elim]
   |ret d a=>rw[(show False from l).elim]
   |brk b a=>rw[l.elim]
   |cont b a=>rw[l.elim]
  |ok d=>
   rw[q]at n;let n:zf K F H Q d:=n;let y:∀{J:D}{a:HP}{v:V}{L:St}{b:SD}{M:Bs}{B C:Hp},dr a kk J=d->RT K (F,H,λ_=>8) M B C b a L->IsD K B J v->Q v C:=λ{J a v L b M B C}hd G R=>by
    let(!T,r1,ho):=G.frzA;let:=IsD.dr ho kk J v<|IsD.same T _ _ R;rw[hd]at this;rw[n v _ _ r1.ext this]
   rw[(_,_,F,_,[],t,(Wr.need_bind.mp (hw e d q).2).mono (λo l=>?_) λ_ _ z=>z.elim)];cases o with
   |next b a=>rw[λL M B C T G=>y l G<|j8.mpr 9]
   |ret d a=>rw[λv L b M B C T G R=>y l G R]
   |brk b a=>rw[l.elim]
   |cont b a=>rw[l.elim]
end
end L2.DL
namespace L2
open PySem PySem.Spec PyProof.Rows Builtin Builtin.ObjectAttr Builtin.Getset_descriptor
section
variable      {K:aa}
def P7    (c:ExcCl K C)(X:K.In s.heap)(J:W.InstAt s.heap x G C j)(l:W.findObj K C j name=! .value v)(n:W.handedIn v=6)
 (h:Q v {s with toks:=s.toks+1}):Yt e w A (getAttr (.ref x) name b) Q E s:=by
 let(H,g,d,t,os):=s;let f:=J.type (M:=model e w);let o:=W.looks_findIn (M:=model e w) X c.ga;let p:=W.looks_findIn (M:=model e w) X c.hook;let r:=W.looks_subIn (M:=model e w) X c.base;let I:=W.looks_find (M:=model e w) X J l;ext getAttr getAttrBy;rw[Za<|wpAny_mkText<|wpAny_holding<|Za<|f.at<|Za<|o.at ?_];let u:(onTheHeap (Value.ref C)&&Value.builtin "BaseException.__getattribute__"==Value.builtin "object.__getattribute__")=7:=by
  rw[show(Value.builtin "BaseException.__getattribute__"==Value.builtin "object.__getattribute__")=7 by decide+kernel,];rfl
 dsimp only;rw[u,];simp only[U5,if_false];ext getAttrByItsOwn hookBefore;let y:onTheHeap (Value.ref C)=6:=9;rw[y,];simp only[if_true];rw[Za<|p.at ?_];rw[Za<|wpAny_attempt<|wpAny_holding ?_];ext callGetattribute;rw[show onTheHeap (Value.builtin "BaseException.__getattribute__")=7 from 9,Bool.and_false];simp only[U5,if_false];ext boundAndCalled;rw[Za<|wpAny_of_eq (F.excAttr_ValueError.ga.bind<|.ref x) ?_];dsimp only;rw[wpAny_call<|codeAny_call_builtin F.excAttr_ValueError.ga.plain F.entry_bexc_ga ?_];let z:builtinKind "BaseException.__getattribute__"=!.slot:=by decide+kernel
 let B:splitId "BaseException.__getattribute__"=!%["BaseException"|"__getattribute__"]:=by decide+kernel
 let i:=F.args_bexc_ga (.ref x)<|.str name t;show wpAny _ _ (checkBuiltinCall "BaseException.__getattribute__" ([.ref x,.str name t],[])) _ _ _;simp only[checkBuiltinCall,z,B];rw[Za (m:=isInstance (.ref x)<|.type "BaseException")<|W.Looks.at (f.andThen r) ?_];rw[Ze (by decide),];unfold argsOk at i;rw[wpAny_of_eq (a:=Yj) i ?_];show wpAny _ _ (Builtin.«object.__getattribute__» ([.ref x,.str name t],[])) _ _ _;ext Builtin.«object.__getattribute__»
 repeat lk
 show wpAny _ _ (handedOut v) _ _ _;rw[W.handedOut_of n,];rw[Zb h]
end
end L2
namespace L2.DL
def P8{K:aa}  (h:W.nsIn K 000 c=! ! .ref C)(a:W.nsIn K 000 c=! ! .ref U):W.kitOne K (.ref C) (.ref U)=!(decide<|c=c):=by
 rw[h]at a;cases a;rw[G3,];simp
def zc:D->02 Str
 |.exc c=>!c
 |.exr c _=>!c
 |_=>8
def Q7(a b:Yg):Yq->Yr
 |[d,.ucl u]=>(zc d).bind λc=>@ite _ (c∈a/\u∈b) (Classical.propDecidable _) (!(.bl<|decide<|c=u)) 8
 |[d,.ty T]=>(zc d).bind λc=>@ite _ (T="ValueError"/\c∈a) (Classical.propDecidable _) (! .bl 6) 8
 |_=>8
def P9   (h:zc d=!c)(a:c∈b)(e:u∈f):Q7 b f [d,.ucl u]=!(.bl<|decide<|c=u):=by
 show(zc d).bind _=_;rw[h,];rw[@if_pos _ (Classical.propDecidable _) (a,e) _ _ _]
def GS   (h:zc d=!c)(a:c∈b):Q7 b e [d,.ty "ValueError"]=! .bl 6:=by
 show(zc d).bind _=_;rw[h,];rw[@if_pos _ (Classical.propDecidable _) (9,a) _ _ _]
def PF   (a:Q7 g i f=!z):∃d c,zc d=!c/\c∈g/\((∃u,u∈i/\f=[d,.ucl u]/\z=.bl (decide<|c=u))\/f=[d,.ty "ValueError"]/\z=.bl 6):=by
 unfold Q7 at a
 split at a
 .let(-c,b,h):=Jg.mp a;let((j,e),rfl):=XP h;rw[(_,c,b,j,.inl (_,e,9,9))]
 .let(-c,b,h):=Jg.mp a;let((rfl,e),rfl):=XP h;rw[(_,c,b,e,.inr (9,9))]
 .cases a
def v3(a:Yg):D->Yr
 |.exr c n=>@ite _ (c∈a) (Classical.propDecidable _) (! .int n) 8
 |_=>8
def GT {Z:St}     (I:Inv X Y Z H s)(l:ju F H)(h:zc d=!c)(i:IsD X.K F d v):∃a C o,v=.ref a/\W.nsIn X.K 000 c=! ! .ref C/\↥s a=!o/\o.cls=.ref C:=by
 cases d with
 |exc b=>
  cases h;let(a C,rfl,e,f):=qy.mp i;let((o,g,j),_):=I.hok a _ (l _ _ f);rw[jh a C o (9,e,g,j)]
 |exr b n=>
  cases h;let(a C p,rfl,e,f,_):=qh.mp i;let(!(o,g,j,_),_):=I.hok a _ (l _ _ f);rw[jh a C o (9,e,g,j)]
 |_=>cases h
def Wc (B:∀c∈i,∀C,W.nsIn X.K 000 c=! ! .ref C->ExcCl X.K C)
 (E:∀c∈i,∀C,W.nsIn X.K 000 c=! ! .ref C->∀u∈G,∀U,W.nsIn X.K 000 u=! ! .ref U->W.kitOne X.K (.ref C) (.ref U)=!(decide<|c=u))
 (J:∀c∈i,∀C,W.nsIn X.K 000 c=! ! .ref C->W.subIn X.K (.ref C) (.type "ValueError")=!6):qu X (.builtin "isinstance") (zz X.K<|Q7 i G):=by
 intro Y s Z H S T Q I r f;let(F,ds,z,g,id,L,q):=f;obtain⟨d,c,A,j,⟨u,N,rfl,rfl⟩|⟨rfl,rfl⟩⟩:=PF L
 .let(O,P,rfl,l,m):=Xu id;let(n,p,rfl,t,v):=r.two;let(a C o,rfl,h,w,b):=GT I g A l;let(-U,rfl,R):=qN.mp m;obtain rfl:n=Value.ref a:=t;obtain rfl:p=Value.ref U:=v;rw[W.kia_one (OJ<|B c j C h) I.kIn (o,w,b) (E c j C h u N U R) (λz=>nomatch z) λtk=>(.bl _,H,I.tok _,9,q _ F H (.refl g)<|jp.mpr 9)]
 .let(O,P,rfl,l,m):=Xu id;let(n,p,rfl,t,v):=r.two;let(a C o,rfl,h,w,b):=GT I g A l;obtain rfl:=xa.mp m;obtain rfl:n=Value.ref a:=t;obtain rfl:p=Value.type "ValueError":=v;let y:∀M,W.Looks M s.heap (typeOf<|.ref a) (.ref C):=λM=>b ▸(W.Looks.ld (M:=M) w).andThen .now;rw[Ol (by intro e;cases e) (y _) (W.looks_subIn I.kIn<|J c j C h) 9 (.bl 6,H,I,9,q _ F H (.refl g)<|jp.mpr 9)]
def gp (k:∀c∈cs,∀C,W.nsIn X.K 000 c=! ! .ref C->ExcCl X.K C/\w5 X.K C "row")(S:QE X E e M)(T:attributeBase e "row" X.env (eval e X.env)=eval e X.env:=by rfl):QE X E (.Attribute e "row" U) (jJ (v3 cs) M):=by
 intro Y s Z H Q I g;let(B,F,sd,r,n):=g;let h:tD X.K E M Z H λv f=>∃b d z,ju b f/\IsD X.K b d v/\v3 cs d=!z/\∀j,IsD X.K b z j->Q j f:=jh B F sd (r,(Res.need_bind n).mono (λd n1 v b f N w=>by
  let(-z,l,q):=jk n1;rw[jh b d z (N.fh,w,l,λj i=>q j b f N i)]) λ_ _ q=>q)
 rw[E7 T<|jF (S Y s Z H _ I h) λu s1(x,f,t,rx,b,d,z,O,w,l,q)=>?_];cases d with
 |exr c m=>
  let(hc,rfl):=XP (c:=c∈cs) l;let(a C p,rfl,hC,hF,hp):=qh.mp w;obtain rfl:u=Value.ref a:=rx;let(!(o,ho,y,A,G),_):=t.hok a _ (O _ _ hF);let(!(mA,u,hN,hu,P),_):=t.hok p _ (O _ _ hp);let(-od,L,hl):=E3 hN;let(R,c2):=k c hc C hC;let J:W.InstAt s1.heap a o C !od:=(ho,y,G,by rw[A,];rw[L]);rw[P7 R t.kIn J (W.findObj_own R.isC c2 9<|by rw[hl,hu]) (E6 P) (.int m,f,t.tok _,P,q _<|je.mpr 9)]
 |_=>cases l
def wK:D->D->Yr
 |.tup [d,.int i],.tup [e,.int j]=>(VV d).bind λa=>(VV e).bind λb=>!(.bl<|a==b&&i==j)
 |_,_=>8
def PH(a b:List Bool)(i j:3):wK (.tup [.lst (a.map .bl),.int i]) (.tup [.lst (b.map .bl),.int j])=!(.bl<|a==b&&i==j):=by
 show(VV _).bind _=_;rw[CJ,];show(VV _).bind _=_;rw[CJ,];rfl
abbrev gu(a:List Bool)(i:3):PyData:=.tuple [.list (a.map PyData.bool),.int i]
def GU  {K:aa}       (ok:xy P w H h)(n:ju F H)(p:VV d=!a)(q:IsD K F (.tup [d,.int i]) v)(r:jz v u):∃b,Reads h u (gu a i) b:=by
 let q:=IsD.same n _ _ q;rw[jm]at q;let(l,s,rfl,z,f):=q;obtain rfl:u=Value.ref l:=r;let(_,A,B,o,e,c,O,C):=show yd P w H h l (.tup s)from ok l _ z;rw[ji]at f;let(x,Q,rfl,E,g):=f;rw[ji]at g;let(y,G,rfl,j,m):=g;rw[IsDs.nil_iff]at m;subst m;cases B with
 |cons I J=>
  cases J with
  |cons L M=>
   cases M;let(b,N):=Oo ok (.refl _) p E I;rw[je]at j;subst j;let(t,rfl):=show ∃t,_=Value.int i t from L;rw[(_,.tuple e c C<|by simpa using ReadsAll.cons N (.cons (.int i t) .nil))]
def GV(a:List Bool)(i:3):(gu a i).canLay0=6/\(gu a i).depth<=03:=by
 let(b,c):=Op a;rw[(?_,?_)]
 .show((PyData.list<|a.map PyData.bool).canLay0&&(6&&6))=6;rw[b,];rfl
 .show max (PyData.list<|a.map PyData.bool).depth (max 0 0)+1<=03;lia
def fm(B:X.A.units+64<cLine):yH X (compareOp .Eq) wK:=by
 intro Y s Z H x y v u Q I h l f;let(F,d,e,z,g,id,m,c,q):=f;unfold wK at c
 split at c
 .rename_i d i e j;let(-a,n,c):=Jg.mp c;let(-b,o,c):=Jg.mp c;obtain rfl:=Zqi c;let(C,p):=GU I.hok g n id h;let(bs,r):=GU I.hok g o m l;let(t,E):=GV a i;let(w,G):=GV b j;rw[PySem.SeqAt.compareEq_reads p r t w () ?_];let A:PyData.eqv (gu a i) (gu b j)=(a==b&&i==j):=by
   show(PyData.eqvAll (a.map PyData.bool) (b.map PyData.bool)&&(i==j&&6))=_;rw[Gq,Bool.and_true]
  rw[A,];rw[(.bl _,H,I,9,q _ F H (.refl g)<|zo _ F)]
 .rw[J2 c]
def RT.takeIn{K:aa}        (t:RT K B g F H sd b Z)(i:RT K B g (qY e b) f sd b Z)(s:ju F (qY e b))(j:Ext (yk F g.H0 b) H e f)(J:H l=8)(L:e l=8)(v:f l=! .lst n)(y:IsDs K (qY e b) E n):
 jc b l=8/\∃G,RT K B G (qY e b) f sd (%[l|.lst E]::b) Z:=by
 let p:jc b l=8:=by
  induction z:jc b l with
  |none=>rfl
  |some M=>
   let(u,O):=(t.lies z).has
   ext
 rw[(p,t.callV (s,i.rs.ext.fh,λa o _ q=>j.hh a o q,λa I r=>by
  induction z:jc b a with
  |none=>rw[Vz z,];rw[j.new a (by simp_all[yk]) r]
  |some d=>rw[AZ z],λa d c=>by
  rw[JK]at c;cases z:a=l
  .rw[Zd z]at c;obtain rfl:=Zqi c;rw[z,];rw[(by rwa[Vz p,],n,v,y)]
  .rw[Ze z]at c;rw[i.lent a d c],λa c=>by
  grind[JK],λa I r=>by
  simp_all[JK]))]
def zT(b:HP):D->Wr (D×HP)
 |.lst c=>if c.all (QK 08)then .new b λa=>.ok %[.adr a|%[a|.lst c]::b]else .no
 |_=>.no
def yW(k:5)(b:Yf)(f:FE):FV:=λsd a=>(Wr.of (f<|drI k a b sd).strict).bind<|zT a
def GX(k:5)(i:Yf)(h:QN X E e o):QV X E e (yW k i o):=PE.weak h λZ H Q p=>by
 let(B R F sd f,t,n):=p;let(!S,r,s):=t.frzA;rw[jh B _ _ (r.drI s k i,(Res.need_strict<|jQ.mp<|Wr.need_bind.mp n).mono (λd b l u v j w y z=>?_) λc fs q=>q)];cases d with
 |lst g=>
  let b:(if g.all (QK 08)then Wr.new f λa=>.ok %[.adr a|%[a|.lst g]::f]else .no:Wr (D×HP)).need (tL X.K B F sd Z Q) (XW X.K E B.F0 B.H0):=b
  split at b
  .rename_i A;let(!C,m,G):=t.thaw j;let(-I,J,L):=z;let M:IsDs X.K (qY u f) g I:=xx (yJ G 08) A L;let(N,O,P):=t.takeIn C m j w y J M;rw[b l N _ O _ v m P<|jC.mpr 9]
  .rw[b.elim]
 |_=>rw[b.elim]
end L2.DL
namespace HT
open PySem PySem.Spec PyProof.Rows L2
def getItem_tuple_whole   {lo c:02 3} (b:IsTup s.heap t a)(g:s.heap.IsSliceOf i m n .none)(pl:IsPart m lo)(o:IsPart n c)
 (j:sIx a.size 0 lo=0/\sIx a.size a.size c=a.size)(h:Q (.ref t) s):Yt l w A (getItem (.ref t)<|.ref i) Q E s:=by
 let(-os,d,e,p):=id g;let f:s.TypeIs (.ref i) "slice":=(os,d,e);ext getItem
 try with_reducible rw[wpAny_holding ?_]
 first|rw[Za<|Zb ?_]|skip
 rw[Za<|wpAny_sequenceKey b.typeIs (by decide) ?_];rw[Za<|wpAny_callSpecial?_slot (name:=Str.ofString "__getitem__") b.typeIs PyProof.Rows.slot_tuple_getitem
 <|wpAny_call_entry PyProof.Rows.slot_tuple_getitem b.typeIs entry_tuple_getitem ?_<|args_tuple_getitem _ _]
 show wpAny _ _ (Builtin.Tuple.tupleItemsOf (.ref t)>>=_) _ _ s;rw[Za<|tupleItemsOf_ b ?_];rw[Za<|wpAny_typeOf f ?_];rw[Zd (by decide),];rw[Za<|EO g pl o ?_];let r:(((sIx a.size 0 lo:5):3)==0&&(1:3)==1&&sIx a.size a.size c-sIx a.size 0 lo==a.size)=6:=by
  rw[j.1,j.2];simp
 show wpAny _ _ (if(((sIx a.size 0 lo:5):3)==0&&(1:3)==1&&sIx a.size a.size c-sIx a.size 0 lo==a.size)=6 then _ else _) _ _ s;rw[Zd r,];ext Builtin.Tuple.tupleIsExact;rw[Za<|Za<|wpAny_typeOf b.typeIs<|Zb ?_];rw[Zd (by decide),];rw[Za<|wpAny_rule<|Zb (_,9,Zb h)]
end HT
namespace L2
def rX(K:aa):V->02 3->02 3->Hp->VK->4:=λx lo c H Q=>∃a b,x=.ref a/\yn K H a b/\(HT.sIx ⇑b 0 lo=0/\HT.sIx ⇑b ⇑b c=⇑b)/\Q (.ref a) H
def PJ :uK X (rX X.K):=by
 intro Y s Z H x v m n lo o p Q I e f pl g h;let(a i,rfl,j,l,q):=h;cases e;let(-c,r,d,t):=I.tuple j;let b:c.toArray.size=⇑i:=by rw[Zm,];rw[r.length.symm]
 rw[("tuple",_,PyProof.Rows.slot_tuple_getitem.lookup,d.typeIs,HT.getItem_tuple_whole d f pl g (by rw[b,];rw[l]) (.ref a,H,I,9,q))]
end L2
namespace L2.DL
section
variable    {fe:FE}  {lo hi:02 Expr}
def wJ:D->02 3->02 3->Yr
 |.tup a,lo,hi=>!(.tup<|yi a lo hi)
 |_,_,_=>8
def wL(fe:FE)(a b:FO):FE:=λsd=>(fe sd).bind λd=>(a sd).bind λl=>(b sd).bind λh=>.ofO<|wJ d l h
@[simp]def sR(fe:FE)(a b:FO)(sd:SD):wL fe a b sd=(fe sd).bind λd=>(a sd).bind λl=>(b sd).bind λh=>.ofO<|wJ d l h:=rfl
def Dc (I:QE X E e fe)(J:QO X E lo L)(M:QO X E hi N):QE X E (.Subscript e (.Slice lo hi 8 p2) O) (wL fe L N):=PE.weak (Mq (dN.or PJ) I J M) λZ H Q P=>by
 let(B F sd,r,n):=P;rw[jh B F sd (r,(Res.need_bind n).mono (λd R v S H1 g t=>?_) λ_ _ q=>q)];rw[jh B S sd (r.step g,(Res.need_bind R).mono (λl T U H2 j=>?_) λ_ _ q=>q.ext g)];rw[jh B U sd ((r.step g).step j,(Res.need_bind T).mono (λh Y F3 H3 u=>?_) λ_ _ q=>q.ext<|g.trans j)];let(z,y,q):=jk Y;let b:=j.trans u;let A:=g.trans b;cases d with
 |tup i=>
  obtain rfl:=Zqi (show some (D.tup<|yi i l h)=!z from y);rw[jm]at t;let(a f,rfl,m,o):=t;let c:=⇑o;cases w:HT.sIx ⇑f 0 l=0/\HT.sIx ⇑f ⇑f h=⇑f
  .rw[.inr (a,f,9,((m.same b.ff).same b.fh).sq,w,?_)];let ec:yi i l h=i:=by
    ext yi;rw[<-c,w.1,w.2,List.drop_zero,Nat.sub_zero,c,Uy]
   rw[ec]at q;rw[q _ _ _ A<|IsD.same b.ff _ _<|jm.mpr (a,f,9,m,o)]
  .rw[.inl (a,f,9,((m.same b.ff).same b.fh).sq,w,λp hp=>?_)];let C:=Ext.alloc u.fh hp<|.tup<|zY f l h;rw[q _ _ _ (A.trans C)<|jm.mpr (p,_,9,.of JE,?_)];let s:∀G,IsDs X.K G i f->IsDs X.K G (yi i l h) (zY f l h):=λG h4=>by
    ext yi zY;rw[c,];rw[IsDs.take _<|IsDs.drop _ h4]
   rw[s _<|IsDs.same (b.trans C).ff _ _ o]
 |_=>rw[J2 y]
end
section
variable      {fr:zg}
def vZ(fr:zg):FV:=λsd a=>(fr sd a).bind λp=>if ⇑p.1<=1000 then .ok %[.tup p.1|p.2]else .no
def PK (h:vW X E f fr):QV X E (.Tuple f r g) (vZ fr):=PE.weak (EB h) λZ H Q i=>by
 let(B j F sd l,t,n):=i;rw[jE B j F sd l (t,jK n λp b d s u v m c e=>?_)]
 split at b
 .rename_i w;let y:=⇑e;rw[(small (),λq o=>?_)];let a:=Ext.alloc c.rs.ext.fh o<|.tup d;rw[b _ _ _ _ (m.trans a.ff) (c.go a.ff<|c.rs.step a)<|jm.mpr (q,d,9,.of JE,IsDs.same a.ff _ _ e)]
 .rw[b.elim]
@[simp]def nr(fr:zg)(sd:SD)(a:HP):vZ fr sd a=(fr sd a).bind λp=>if ⇑p.1<=1000 then .ok %[.tup p.1|p.2]else .no:=rfl
def ug(a b:FV):FV:=λsd c=>(a sd c).bind λp=>(b sd p.2).bind λq=>(Wr.of<|.ofO<|u1 p.1 q.1).bind λz=>.ok %[z|q.2]
@[simp]def nw(a b:FV)(sd:SD)(c:HP):ug a b sd c=(a sd c).bind λp=>(b sd p.2).bind λq=>(Wr.of<|.ofO<|u1 p.1 q.1).bind λz=>.ok %[z|q.2]:=rfl
def PM(d:QV X E o e)(f:QV X E i g)(h:A5 i):QV X E (.Subscript o i j) (ug e g):=PE.weak (Ci Fv d f h) λZ H Q l=>by
 let(B m F sd r,t,n):=l;rw[jE B m F sd r (t,jK n λp s v u y T A C G=>jE B u y sd p.2 (C,jK s λq I w J L U c a M=>?_))];let(-z,N,k):=jk (jQ.mp<|Wr.need_bind.mp I);rw[jX L p.1 q.1 z (a.rs.ext.fh,IsD.same c _ _ G,M,N,λO P R b S=>k O J P R ((A.trans c).trans b.ff) (a.go b.ff<|a.rs.step b) S)]
def wB(f:FV)(b:Tg):qb:=λsd c=>(f sd c).bind λp=>(Wr.of<|JS b p.1 sd).bind λa=>.ok<|.next a p.2
@[simp]def nq(f:FV)(b:Tg)(sd:SD)(c:HP):wB f b sd c=(f sd c).bind λp=>(Wr.of<|JS b p.1 sd).bind λa=>.ok<|.next a p.2:=rfl
def Dd  (d:QV X E e f)(g:QG X a t)(h:swapsWithSole [a] e b.line X.env=pure 7:=by rfl)(i:swappedStores [a] e X.env=pure 8:=by rfl)
 (j:(assignEach [a] X.env).map (·.2)=[assign a X.env]:=by rfl):VS X E (.Assign [a] e b) (wB f t):=PS.weak (Es d g h i j) λT Z H l=>by
 let(B m F sd o,r,n):=l;rw[jE B m F sd o (r,jK n λp s v u w y z c A=>?_)];rw[YU c.rs A (jQ.mp<|Wr.need_bind.mp s) λC G q _ I=>q G u w y z<|c.go (.refl _) I]
end
end L2.DL
set_option maxHeartbeats 4000000
namespace My
open PySem L2 L2.DL
@[simp high]def lf{α:Type}(b a:α)(l):(b::a::l)[1]?=!a:=rfl
@[simp high]def pS{α:Type}(a b v:α)(l):(a::b::l).set 1 v=a::v::l:=rfl
@[simp high]def lc{α:Type}(b c a:α)(l):(b::c::a::l)[2]?=!a:=rfl
@[simp high]def pR{α:Type}(a b c v:α)(l):(a::b::c::l).set 2 v=a::b::v::l:=rfl
@[simp high]def pZ{α:Type}(b c d a:α)(l):(b::c::d::a::l)[03]?=!a:=rfl
@[simp high]def pQ{α:Type}(a b c d v:α)(l):(a::b::c::d::l).set 03 v=a::b::c::v::l:=rfl
@[simp high]def pY{α:Type}(b c d e a:α)(l):(b::c::d::e::a::l)[04]?=!a:=rfl
@[simp high]def pP{α:Type}(a b c d e v:α)(l):(a::b::c::d::e::l).set 04 v=a::b::c::d::v::l:=rfl
@[simp high]def pX{α:Type}(b c d e f a:α)(l):(b::c::d::e::f::a::l)[05]?=!a:=rfl
@[simp high]def pO{α:Type}(a b c d e f v:α)(l):(a::b::c::d::e::f::l).set 05 v=a::b::c::d::e::v::l:=rfl
@[simp high]def pW{α:Type}(b c d e f g a:α)(l):(b::c::d::e::f::g::a::l)[06]?=!a:=rfl
@[simp high]def pN{α:Type}(a b c d e f g v:α)(l):(a::b::c::d::e::f::g::l).set 06 v=a::b::c::d::e::f::v::l:=rfl
@[simp high]def pV{α:Type}(b c d e f g h a:α)(l):(b::c::d::e::f::g::h::a::l)[07]?=!a:=rfl
@[simp high]def pM{α:Type}(a b c d e f g h v:α)(l):(a::b::c::d::e::f::g::h::l).set 07 v=a::b::c::d::e::f::g::v::l:=rfl
@[simp high]def pU{α:Type}(b c d e f g h i a:α)(l):(b::c::d::e::f::g::h::i::a::l)[08]?=!a:=rfl
@[simp high]def pL{α:Type}(a b c d e f g h i v:α)(l):(a::b::c::d::e::f::g::h::i::l).set 08 v=a::b::c::d::e::f::g::h::v::l:=rfl
@[simp high]def pT{α:Type}(b c d e f g h i j a:α)(l):(b::c::d::e::f::g::h::i::j::a::l)[09]?=!a:=rfl
@[simp high]def pK{α:Type}(a b c d e f g h i j v:α)(l):(a::b::c::d::e::f::g::h::i::j::l).set 09 v=a::b::c::d::e::f::g::h::i::v::l:=rfl
def Qm(a:Ye)(k:3):3:=a.getD k.toNat 0
def xi(a:Ye)(t:3):3:=a.getD t.toNat 0
def GY:plN 12 (.lst [])=6:=rfl
def GZ{α:Type}(f:α->D)(l:List α):sameD (.lst<|l.map f) (.lst [])=l.isEmpty:=by
 cases(l)with
 |nil=>rw[VR _]
 |cons x r=>rw[wV.mpr λh=>by injection h with h;cases h]
def V4  {k:5}(h:k<⇑l):qo l (k:3)=l[k]?:=by
 simp_all[qo,zm]
def Ke{α:Type}{f:α->D}{l:List α}{i:5} (h:(l.map f)[i]?=!x):∃p,l[i]?=!p/\x=f p:=by
 rw[Zv]at h
 induction q:l[i]? with
 |none=>rw[q]at h;cases h
 |some p=>rw[q]at h;rw[(p,9,(Zqi h).symm)]
structure RowOk(n:3)(r:Js):4 where
 ne:r ≠[]
 once:zA r
 mem:∀p∈r,0<=p.1/\p.1<n
 len:⇑r<=12
def uA(f:Jt):D:=.lst<|f.map jU
def De{α:Type}(l:List α)(x y:α):(l++[x]).set ⇑l y=l++[y]:=()
@[simp]def fO(f):Wp [uA f]=! uA f:=rfl
@[simp]def k6(f):WA (uA f)=! f.map jU:=rfl
@[simp]def kz(r):WA (jU r)=! r.map qw:=rfl
@[simp]def mR(f):jq [uA f]=! .int ⇑f:=by show some (D.int ⇑(f.map jU))=_;rw[Zql,]
@[simp]def p0(f):qx [uA f,.ty "list"]=! .bl 6:=rfl
@[simp]def p6(f):qx [jU f,.ty "tuple"]=! .bl 6:=rfl
@[simp]def pD(p):qx [qw p,.ty "tuple"]=! .bl 6:=rfl
@[simp]def mQ(p):jq [qw p]=! .int 2:=rfl
@[simp]def mV(p):jf (qw p) (.int 0)=! .int p.1:=rfl
@[simp]def mU(p):jf (qw p) (.int 1)=! .int p.2:=rfl
def gA(n)(r):plN (n+03) (jU r)=6:=by
 show(r.map qw).all (plN<|n+2)=6;rw[US,Ur];rw[λp _=>9]
structure FormOk(n:3)(f:Jt):4 where
 ne:f ≠[]
 rows:∀r∈f,RowOk n r
 len:⇑f<=100
def uL(r:Js):4:=(r.map (·.1)).Pairwise (·<·)
def Bo(j n:5):min (j:3) (n:3)=((min j n:5):3):=by
 obtain h|h:=Nat.le_total j n
 .rw[U9 h,Int.min_eq_left (Int.ofNat_le.mpr h)]
 .rw[Vl h,Int.min_eq_right (Int.ofNat_le.mpr h)]
def Df (l:List α) (a:0<=k):Q6 l 8 (!k) 8=l.take k.toNat:=by
 let e:sliceBounds 8 (!k) 8 ⇑l=%[((0:5):3),((min k.toNat ⇑l:5):3)|1]:=by
  let(j,rfl):=UT a;ext sliceBounds;simp only;rw[Ze (Int.not_lt.mpr a),Bo];rw[9]
 ext Q6;rw[e,sliceRange_one];let b:(λx:5=>l[x]?)=λx:5=>l.toArray[x]?:=by simp
 rw[b,pick_run l.toArray 0<|min k.toNat ⇑l-0];simp
def Ha (l:List α) (a:0<=k):Q6 l (!k) 8 8=l.drop k.toNat:=by
 let e:sliceBounds (!k) 8 8 ⇑l=%[((min k.toNat ⇑l:5):3),(⇑l:3)|1]:=by
  let(j,rfl):=UT a;ext sliceBounds;simp only;rw[Ze (Int.not_lt.mpr a),Bo];rw[9]
 ext Q6;rw[e,sliceRange_one];let b:(λx:5=>l[x]?)=λx:5=>l.toArray[x]?:=by simp
 rw[b,pick_run l.toArray (min k.toNat ⇑l)<|⇑l-min k.toNat ⇑l];cases c:k.toNat<=⇑l
 .rw[U9 c,UJ ()]
 .rw[Vl (),Vm (Zf _),Vm ()];rw[List.take_nil]
structure ThingsOk(ts:Ye):4 where
 ne:ts ≠[]
 len:⇑ts<=04
 rng:∀t∈ts,0<=t/\t<12
 up:ts.Pairwise (·<·)
def PN (h:uL r):zA r:=by
 unfold uL at h;unfold zA List.Nodup;rw[h.imp λh e=>()]
structure Over(f:Jt)(hs:Ye):4 where
 ne:f ≠[]
 rne:∀r∈f,r ≠[]
 once:∀r∈f,zA r
 bnd:∀r∈f,∀p∈r,0<=p.1/\p.1<(⇑hs:3)
structure RoundOk(n:3)(fs:List Jt):4 where
 len:(⇑fs:3)=n
 low:1<=n
 most:n<=12
 forms:∀f∈fs,FormOk n f
def vH  (R:RoundOk n fs) (h:⇑c=⇑fs):∀f∈fs,Over f c:=λf b=>((R.forms f b).ne,λr a=>((R.forms f b).rows r a).ne,λr a=>((R.forms f b).rows r a).once,λr a p e=>by
 let:=((R.forms f b).rows r a).mem p e;let:=R.len;lia)
def cj(fs:List Jt):D:=.lst<|fs.map uA
@[simp]def k4(fs):WA (cj fs)=! fs.map uA:=rfl
open L2.ST
structure PairsOk(ts:Ye)(r:Js):4 where
 ne:r ≠[]
 len:⇑r<=04
 mem:∀p∈r,p.1∈ts
 up:r.Pairwise λp q=>p.1<q.1
def PP (h:r.Pairwise λp q=>p.1<q.1):zA r:=by
 unfold zA List.Nodup;rw[List.pairwise_map,];rw[h.imp λh e=>()]
def PairsOk.row  (T:ThingsOk a)(P:PairsOk a r):RowOk 12 r:=(P.ne,PP P.up,λp b=>T.rng _<|P.mem p b,Zh P.len ())
structure JRow(r:Js):4 where
 ne:r ≠[]
 rise:uL r
 bnd:∀p∈r,0<=p.1/\p.1<12
def JRow.once (h:JRow r):zA r:=PN h.rise
def JRow.len (h:JRow r):⇑r<=12:=by
 let up:(r.map (·.1)).Pairwise (·<·):=h.rise;let c:∀(l:Ye)(a:3),l.Pairwise (·<·)->(∀x∈l,a<=x/\x<12)->(⇑l:3)<=max 0 (12-a):=by
  intro l
  cases(l)with
  |nil=>intro a _ _;simp;lia
  |cons x l g=>
   intro a b e;rw[List.pairwise_cons]at b;let j:=e x Zqs;let:=g (x+1) b.2 λy f=>(by let:=b.1 y f;lia,(e y<|Zqm _ f).2);rw[Zu,];lia
 let:=c _ 0 up λx i=>by
  let(-p,b,rfl):=Jb.mp i;rw[h.bnd p b]
 rw[Zql]at this;lia
def asc(x:Str):4:=x.cps.all (·<128)=6
def w6 :asc x↔∀c∈x.cps.toList,c<128:=by
 ext asc;rw[<-Vn,Ur];simp
def K8(a b:Str):⇑(a++b)=⇑a+⇑b:=Array.size_append
def Q0(a b:Str):(a++b).cps.toList=a.cps.toList++b.cps.toList:=Array.toList_append
def Hb (e:asc a)(f:asc b):asc (a++b):=w6.mpr λc d=>by
 rw[Q0]at d;obtain h|h:=Jd.mp d
 .rw[w6.mp e c h]
 .rw[w6.mp f c h]
structure TxtOk(n:5)(x:Str):4 where
 len:⇑x<=n
 asc:asc x
def TxtOk.app  (c:TxtOk m a)(e:TxtOk n b):TxtOk (m+n) (a++b):=(by rw[K8,];let:=c.len;let:=e.len;lia,Hb c.asc e.asc)
def TxtOk.mono  (b:TxtOk m a)(h:m<=n):TxtOk n a:=(Zh b.len h,b.asc)
def PQ (h:c<128):TxtOk 1 ⟨#[c]⟩:=(Zf _,w6.mpr λd a=>())
def Qy  (h:(decide (⇑x<=n)&&x.cps.all (·<128))=6):TxtOk n x:=by
 rw[Uc]at h;rw[(of_decide_eq_true h.1,h.2)]
def Bp  (c:TxtOk m a)(d:TxtOk n b)(h:m+n<=1000):jv (.str a) (.str b)=!(.str<|a++b):=Zd<|small<|by let:=c.len;let:=d.len;lia
def Bq  (b:TxtOk n a)(h:n<=1000):jq [.str a]=! .int ⇑a:=Zd<|small<|by let:=b.len;lia
def Hc   (b:TxtOk n a)(h:n<=1000)(d:0<=k)(g:k<(⇑a:3)):∃c,jf (.str a) (.int k)=! .str ⟨#[c]⟩/\a.cps.toList[k.toNat]?=!c/\c<128:=by
 let f:k.toNat<⇑a.cps.toList:=by
  rw[Up,];let:⇑a=a.cps.size:=9;lia
 rw[(a.cps.toList[k.toNat],?_,(),w6.mp b.asc _<|UR f)];show(if ⇑a<=00 then(qo a.cps.toList k).map λc=>D.str ⟨#[c]⟩ else 8)=_;rw[Zd (small<|by let:=b.len;lia),];let e:qo a.cps.toList k=!a.cps.toList[k.toNat]:=by
  ext qo zm;rw[Zd d,Zd (by rwa[Up,])];rw[()]
 rw[e,];rfl
def PR:∀k:Fin 26,("abcdefghijklmnopqrstuvwxyz":Str).cps.toList[k.val]?=! 97+k.val:=by decide+kernel
def low(x:Str):4:=∀c∈x.cps.toList,97<=c/\c<123
@[simp]def rR(n:5)(g:FS)(a b c d e:D):jS n 05 g [a,b,c,d,e]=(g<|~~~a::~~~b::~~~c::~~~d::~~~e::List.replicate (n-05) 8).bind xK:=rfl
structure Pl where
 name:Str
 givens:Yg
 rows:List (Str×Str×Js)
def jn(r:Str×Str×Js):D:=.tup [.str r.1,.str r.2.1,jU r.2.2]
def Dg(p:Pl):D:=.tup [.str p.name,.lst (p.givens.map .str),.lst (p.rows.map jn)]
def JJ(p:Pl):D:=.ins "Plan" ["name","givens","rows"] [.str p.name,.lst (p.givens.map .str),.lst (p.rows.map jn)]
def JL(a:List Pl):D:=.ins "Book" ["plans"] [.lst (a.map JJ)]
def g0(p:Str×3):D:=.tup [.str p.1,.int p.2]
structure ItOk(ahead:3)(its:Js):4 where
 rng:∀p∈its,0<=p.1/\p.1<ahead
 far:∀p∈its,-1000000000000000000000000000000<p.2/\p.2<1000000000000000000000000000000
@[simp]def fT(r):jf (jn r) (.int 0)=! .str r.1:=rfl
@[simp]def fS(r):jf (jn r) (.int 1)=! .str r.2.1:=rfl
@[simp]def fR(r):jf (jn r) (.int 2)=! jU r.2.2:=rfl
@[simp]def pq(p):jf (Dg p) (.int 0)=! .str p.name:=rfl
@[simp]def pp(p):jf (Dg p) (.int 1)=!(.lst<|p.givens.map .str):=rfl
@[simp]def cN(p):jf (Dg p) (.int 2)=!(.lst<|p.rows.map jn):=rfl
@[simp]def fV(p):jf (g0 p) (.int 0)=! .str p.1:=rfl
@[simp]def fU(p):jf (g0 p) (.int 1)=! .int p.2:=rfl
@[simp]def cH(a):jA "Book" "plans" (JL a)=!(.lst<|a.map JJ):=rfl
@[simp]def hZ(p):jA "Plan" "name" (JJ p)=! .str p.name:=rfl
@[simp]def cY(p):jA "Plan" "givens" (JJ p)=!(.lst<|p.givens.map .str):=rfl
@[simp]def hY(p):jA "Plan" "rows" (JJ p)=!(.lst<|p.rows.map jn):=rfl
def QZ(a:List Pl):List (Str×3):=a.map λp=>%[p.name|(⇑p.givens:3)]
def mx(a:List (Str×3))(b:Str)(n:5):4:=b="all"\/b="first"\/%[b|(n:3)]∈a
def KH  (h:asc x):plN (n+1) (.str x)=6:=by
 show PyData.strOk x=6;ext PyData.strOk;rw[<-Vn,Ur];rw[λc a=>Zp<|UO (w6.mp h c a) ()]
def PU{α:Type}{f:α->D}{l:List α}(h:plN 12 (.lst<|l.map f)=6):xL (.lst<|l.map f) (.lst [])=!(.bl<|not l.isEmpty):=by
 rw[Z1 h GY,GZ]
def Hd{α:Type}{f:α->D}{l:List α}(h:plN 12 (.lst<|l.map f)=6):qI (.lst<|l.map f) (.lst [])=! .bl l.isEmpty:=by
 rw[YZ h GY,GZ]
def Wd{x y:Str}(h:x.cps.toList=y.cps.toList):x=y:=by
 cases x
 ext
def dk(l:Yf):Bool:=l[0]?==!120||l[0]?==!121||l[0]?==!113||l[2]?==!113
structure WB(ps:List Pl):4 where
 l1:1<=⇑ps
 l2:⇑ps<=20
 nd:(ps.map (·.name)).Nodup
 ok:∀p∈ps,TxtOk 12 p.name/\1<=⇑p.name/\p.name ≠"all"/\p.name ≠"first"
 how:∀(i:5)(p:Pl),ps[i]?=!p->∀r∈p.rows,r.2.1="all"\/r.2.1="first"\/r.2.1∈(ps.take i).map (·.name)
 sz:∀p∈ps,⇑p.rows<=40/\⇑p.givens<=12
@[simp]def nA(a)(f)(sd):ZI a f sd=(f<|qR a sd).bare.bind λd=>if CU d then .ok d else .no:=rfl
@[simp]def nK(c)(names)(a)(b)(sd):bL c names a b sd=(b sd).bind λd=>(a d).bind λe=>.ok<|.ins c names e:=rfl
@[simp]def c9(i j k)(r)(sd):JS (.tup [i,j,k]) (jn r) sd=.ok (((sd.set i<|~~~.str r.1).set j<|~~~.str r.2.1).set k<|~~~jU r.2.2):=rfl
@[simp]def cE(x):Q3 (.str x)=! .inr x:=rfl
def dT(t:List (Str×3)):D:=.dct (t.map λp=>.inr p.1)<|t.map λp=>.int p.2
def qH(t:List (Str×3))(x:Str):02 3:=(t.find? λp=>decide<|p.1=x).map (·.2)
def tZ :(Uu a:jR)=.inr b ↔a=b:=()
theorem Y1:∀(t:List (Str×3))(x:Str),ql (t.map λp=>.inr p.1) (t.map λp=>.int p.2) (.inr x)=(qH t x).map .int
 |[],_=>9
 |p::t,x=>by
  rw[Zl,Zl];ext ql qH;rw[UX,];cases h:p.1=x
  .rw[Zd (tZ.mpr h),Zp h];rfl
  .rw[Ze λz=>h<|tZ.mp z,Zo h];rw[Y1 t x]
@[simp]def fW(t)(x):jf (dT t) (.str x)=(qH t x).map .int:=Y1 t x
@[simp]def He(a)(t)(x):x8 a (.str x) (dT t)=!(.bl<|if a then not<|(qH t x).isSome else(qH t x).isSome):=by
 show some (D.bl<|if a then not<|(ql (t.map λp=>.inr p.1) (t.map λp=>.int p.2)<|.inr x).isSome else(ql (t.map λp=>.inr p.1) (t.map λp=>.int p.2)<|.inr x).isSome)=_;rw[Y1,Vg]
def PV(t:List (Str×3))(x:Str):zV (.inr x) (t.map λp=>.inr p.1)=t.any λp=>decide<|p.1=x:=by
 grind[zV,List.any_map]
def Br  (h:x∉t.map (·.1))(v:3):D.dct (W8 (t.map λp=>.inr p.1)<|.inr x) (Xt (t.map λp=>.inr p.1) (t.map λp=>.int p.2) (.inr x)<|.int v)=dT (t++[%[x|v]]):=by
 simp_all[W8,Xt,dT,PV]
def kn  :qH t x=8↔x∉t.map (·.1):=by
 ext qH;rw[Option.map_eq_none_iff,List.find?_eq_none];constructor
 .intro h z;let(-p,a,e):=Jb.mp z;rw[h p a<|Zp e]
 .intro h p a z;rw[h<|Jb.mpr (p,a,of_decide_eq_true z)]
def Hf  (h:x∉a.map (·.1)):qH (a++b) x=qH b x:=by
 ext qH;rw[List.find?_append,Option.map_eq_none_iff.mp (kn.mpr h)];rfl
def Dh(x:Str)(v:3)(b:List (Str×3)):qH (%[x|v]::b) x=!v:=by
 simp_all[qH]
def xl(a:Str):Bool:=not<|decide (a="all")||decide (a="first")
def yC(t:List (Str×3))(p:Pl):3:=⇑p.rows+((p.rows.filter λr=>xl r.2.1).map λr=>(qH t r.2.1).getD 0).sum
def vY(t:List (Str×3))(p:Pl):List (Str×3):=t++[%[p.name|yC t p]]
def qS(a:List Pl):List (Str×3):=a.foldl vY []
def Bt(a)(p):qS (a++[p])=qS a++[%[p.name|yC (qS a) p]]:=by
 ext qS;rw[Vk,];rfl
theorem Di:∀(l:List Pl)(t:List (Str×3)),∃u,l.foldl vY t=t++u
 |[],t=>([],())
 |p::l,t=>by
  let(u,e):=Di l (vY t p)
  simp_all[vY]
theorem Hg:∀(l:List Pl)t,(l.foldl vY t).map (·.1)=t.map (·.1)++l.map (·.name)
 |[],t=>by simp
 |p::l,t=>by
  rw[List.foldl_cons,Hg l];ext vY;simp
def Y2(l:List Pl):(qS l).map (·.1)=l.map (·.name):=by
 ext qS;rw[Hg,];rfl
def WB.fresh (W:WB a)  (c:a[i]?=!p):p.name∉(qS<|a.take i).map (·.1):=by
 rw[Y2,];intro z;let b:i<⇑a:=(Ja.mp c).1;let(-y,g,e):=Jb.mp z;let(j,l,f):=U7 g;rw[Ue]at l;let n:=Va.mp (Jo.mp W.nd) j i () b ();rw[List.getElem_take]at f;apply n;rw[f,e,(Ja.mp c).2]
def WB.at (W:WB a)  (b:a[i]?=!p):qH (qS a) p.name=! yC (qS<|a.take i) p:=by
 let e:qS a=(a.drop<|i+1).foldl vY (qS (a.take i)++[%[p.name|yC (qS<|a.take i) p]]):=by
  rw[<-Bt];ext qS;rw[<-Vk];let c:a.take (i+1)=a.take i++[p]:=by rw[Uw,b];rfl
  rw[<-c,List.take_append_drop]
 let(u,f):=Di (a.drop<|i+1) (qS (a.take i)++[%[p.name|yC (qS<|a.take i) p]]);rw[e,f,Uq,Hf (W.fresh b)];rw[Dh _ _ _]
def WB.part (W:WB b)  (c:b[i]?=!p) (f:r∈p.rows):(qH (qS<|b.take i) r.2.1).isSome=xl r.2.1:=by
 let out:∀w:Str,(∀y∈b,y.name≠w)->qH (qS<|b.take i) w=8:=λw g=>kn.mpr<|by
  rw[Y2,];intro z;let(y,a,e):=Jb.mp z;rw[g y (UB a) e]
 obtain z|z|z:=W.how i p c r f
 .rw[z,out "all" λy a=>(W.ok y a).2.2.1]
  decide+kernel
 .rw[z,out "first" λy a=>(W.ok y a).2.2.2]
  decide+kernel
 .let j:(qH (qS<|b.take i) r.2.1).isSome=6:=by
   induction h:qH (qS<|b.take i) r.2.1 with
   |some v=>rfl
   |none=>rw[Zn (by rw[Y2,];rw[z])<|kn.mp h]
  rw[j,];let(-y,a,e):=Jb.mp z;let ok:=W.ok y<|UB a;ext xl;rw[<-e,Zo ok.2.2.1,Zo ok.2.2.2];rfl
def WB.hasc (W:WB a){i:5} (b:a[i]?=!p) (c:r∈p.rows):asc r.2.1:=by
 obtain z|z|z:=W.how i p b r c
 .rw[z,];rw[(Qy (n:=03)<|by decide+kernel).asc]
 .rw[z,];rw[(Qy (n:=05)<|by decide+kernel).asc]
 .have(y,f,e):=Jb.mp z;rw[<-e];rw[(W.ok y ()).1.asc]
def PY{α:Type}(f:α->3)(l:List α):CU (.lst<|l.map λr=>D.int<|f r)=6:=by
 show(l.map λr=>D.int<|f r).all CT=6;rw[Ur,];intro x a;let(-y,_,rfl):=Jb.mp a;rfl
def PZ{α:Type}(f)(l:List α):zW [.lst (l.map λr=>D.int<|f r)]=! .int (l.map f).sum:=by
 rw[<-NI,Zw];rfl
def Ra (W:WB a)(i):⇑(qS<|a.take i)<=20:=by
 let e:⇑(qS<|a.take i)=((qS<|a.take i).map (·.1)).length:=by simp
 rw[e,Y2,Zql,Ue];let:=W.l2;lia
def zM(c:5):Bool:=decide (97<=c)&&decide (c<123)
def zN(c:5):Bool:=decide (48<=c)&&decide (c<58)
def kept:Yg:=["plan","given","all","first","part"]
def Kx(x:Str):Bool:=decide (1<=⇑x)&&(decide (⇑x<=12)&&((kept.all λw=>not<|decide<|w=x)&&(zM (x.cps.toList.headD 0)&&x.cps.toList.all λc=>zM c||zN c)))
def jP(x:Str):4:=TxtOk 12 x/\Kx x=6
def jP.ne (h:jP x):1<=⇑x/\x ≠"all"/\x ≠"first":=by
 let h:=h.2;unfold Kx at h;rw[Uc,Uc,Uc,decide_eq_true_eq]at h;let k:=Ur.mp h.2.2.1;let a:=k "all" (by decide+kernel);let b:=k "first" (by decide+kernel);rw[(h.1,λz=>by rw[z]at a;simp at a,λz=>by rw[z]at b;simp at b)]
structure PL(ahead:List Pl)(p:Pl):4 where
 nm:jP p.name
 fresh:∀q∈ahead,q.name≠p.name
 tn:∀x∈p.givens++p.rows.map (·.1),jP x
 td:(p.givens++p.rows.map (·.1)).Nodup
 g1:1<=⇑p.givens
 g2:⇑p.givens<=12
 r1:1<=⇑p.rows
 r2:⇑p.rows<=40
 its:∀(k:5)(r:Str×Str×Js),p.rows[k]?=!r->ItOk ((⇑p.givens:3)+k) r.2.2/\1<=⇑r.2.2/\⇑r.2.2<=40
 how:∀r∈p.rows,mx (QZ ahead) r.2.1 ⇑r.2.2
 wt:yC (qS ahead) p<=2000
def LB(a:List Pl):4:=∀(i:5)(p:Pl),a[i]?=!p->PL (a.take i) p
def LB.snoc  (h:LB b)(f:PL b p):LB (b++[p]):=λk x a=>by
 cases z:k<⇑b
 .rw[Ui z]at a;rw[Vo (),];rw[h k x a]
 .rw[Us ()]at a;let c:k-⇑b=0:=by
   induction e:k-⇑b with
   |zero=>rfl
   |succ j=>rw[e]at a;simp at a
  rw[c]at a;cases a;let:k=⇑b:=()
  rwa[this,List.take_left' 9]
def LB.mem (h:LB a) (b:p∈a):∃i,PL (a.take i) p:=by
 let(i,c):=Ug b;rw[(i,h i p c)]
def LB.wb (h:LB a)(e:1<=⇑a)(f:⇑a<=20):WB a:=by
 rw[(e,f,?_,λp b=>?_,λi p c r g=>?_,λp b=>?_)]
 .rw[Vs,List.pairwise_map,Va];intro i j c s l;rw[(h j a[j] ()).fresh a[i]<|Ua (i:=i) ()]
 .let(i,P):=h.mem b;rw[(P.nm.1,P.nm.ne.1,P.nm.ne.2.1,P.nm.ne.2.2)]
 .rcases(h i p c).how r g with z|z|z
  .rw[.inl z]
  .rw[.inr<|.inl z]
  .let(-y,n,o):=Jb.mp z;rw[.inr<|.inr<|Jb.mpr (y,n,Zt Prod.fst o)]
 .let(i,P):=h.mem b;rw[(P.r2,P.g2)]
theorem Dj{a:List Pl}:∀n,∀q∈qS (a.take n),∃i p,a[i]?=!p/\q=%[p.name|yC (qS<|a.take i) p]
 |0,q,h=>by cases h
 |n+1,q,h=>by
  induction b:a[n]? with
  |none=>
   let l:=Jr.mp b;rw[UJ ()]at h;let e:=UJ l;rw[Dj n q ()]
  |some p=>
   let c:a.take (n+1)=a.take n++[p]:=by rw[Uw,b];rfl
   rw[c,Bt]at h;obtain z|z:=Jd.mp h
   .rw[Dj n q z]
   .rw[(n,p,b,Jc.mp z)]
def LB.wts (h:LB a):∀q∈qS a,q.2<=2000:=λq c=>by
 let(i p,b,e):=Dj ⇑a q (by rwa[Uy,]);rw[e,];rw[(h i p b).wt]
def bnd:5->3
 |0=>0
 |n+1=>06+06*bnd n
def Hh  (h:y≠x)(v:3):qH (t++[%[y|v]]) x=qH t x:=by
 simp_all[qH]
def xC(i:5):5:=if i<26 then 97+i else 22+i
def xj:5->5->List 5
 |0,_=>[]
 |f+1,n=>if n=0 then[]else xC (n%36)::xj f (n/36)
def X3(m:5):Yf:=xC (m%26)::xj 59 (m/26)
def wX(l:Yf):Str:=⟨l.toArray⟩
def Q8(m:5):Str:=wX<|X3 m
def mG(a:Yf):⇑(wX a)=⇑a:=by
 show a.toArray.size=_;simp
def wo:Str:="abcdefghijklmnopqrstuvwxyz0123456789"
def Rb:wo.cps.toList=(List.range 36).map xC:=by decide+kernel
def Rc:⇑wo<=00:=small<|show ⇑wo<=1000 by decide+kernel
def Hi (b:0<=k)(d:k<36):jf (.str wo) (.int k)=! .str ⟨#[xC k.toNat]⟩:=by
 show(if ⇑wo<=00 then(qo wo.cps.toList k).map λc=>D.str ⟨#[c]⟩ else 8)=_;rw[Zd Rc,Rb];let e:qo ((List.range 36).map xC) k=! xC k.toNat:=by
  let a:k=((k.toNat:5):3):=()
  rw[a,V4 (by simp;lia),Zv,U6 ()];rfl
 rw[e,];rfl
def Hj (a:i<36):xC i<128:=by
 ext xC
 split<;>lia
def ZV:Yf->5
 |[]=>0
 |c::r=>(if 97<=c then c-97 else c-22)+36*ZV r
def rg:Yf->5
 |[]=>0
 |c::r=>(if 97<=c then c-97 else c-22)+26*ZV r
def Hk (a:i<36):(if 97<=xC i then xC i-97 else xC i-22)=i:=by
 ext xC;cases h:i<26
 .rw[Zd h,Zd ()];lia
 .rw[Ze h,Ze ()];lia
theorem Hl:∀(f n:5),n<36^f->ZV (xj f n)=n
 |0,n,h=>by
  let:n=0:=by simpa using h
  rw[this,];rfl
 |f+1,n,h=>by
  ext xj;cases z:n=0
  .rw[Zd z,z];rfl
  .rw[Ze z,];show(if 97<=xC (n%36)then xC (n%36)-97 else xC (n%36)-22)+36*ZV (xj f<|n/36)=n;rw[Hk (),Hl f (n/36) ()];lia
theorem Hm:∀(f g n:5),n<36^g->⇑(xj f n)<=g
 |0,g,n,h=>Um _
 |f+1,g,n,h=>by
  ext xj;cases z:n=0
  .ext
  .cases(g)with
   |zero=>simp at h;lia
   |succ g=>
    let:=Hm f g (n/36)<|Vp ()
    ext
theorem Dk:∀(f n c:5),c∈xj f n->∃i,i<36/\c=xC i
 |0,n,c,h=>by cases h
 |f+1,n,c,h=>by
  unfold xj at h;cases z:n=0
  .ext
  .rw[Ze z]at h;obtain rfl|h:=Ux.mp h
   .rw[(n%36,Nat.mod_lt _ (),9)]
   .rw[Dk f (n/36) c h]
def Hn:36^11<=36^59:=by decide+kernel
def Re (b:m<26*36^11)(c:n<26*36^11)(h:Q8 m=Q8 n):m=n:=by
 let e:X3 m=X3 n:=have:=Zt (λs:Str=>s.cps.toList) h;this;let a:∀k,k<26*36^11->rg (X3 k)=k:=λk d=>by
  show(if 97<=xC (k%26)then xC (k%26)-97 else xC (k%26)-22)+26*ZV (xj 59<|k/26)=k;rw[Hk (),Hl 59 (k/26) (Zg (Vp d) Hn)];lia
 rw[<-a m b,<-a n c,e]
def Dl(m:5):asc (Q8 m):=w6.mpr λc hc=>by
 let hc:c∈X3 m:=hc;obtain rfl|hc:=Ux.mp hc
 .rw[Hj ()]
 .let(-i,a,rfl):=Dk _ _ _ hc;rw[Hj a]
def zw:Yg:=["plan","given","all","first","part"]
def zC(x:Str):4:=∃m,m<26*36^11/\x=Q8 m/\x∉zw
def zC.ok (h:zC x):TxtOk 12 x:=by
 let(-m,a,rfl,_):=h;rw[(by
  let:=Hm 59 11 (m/26)<|Vp a;show(xj 59<|m/26).length+1<=12;lia,Dl m)]
theorem Ho{α:Type}[DecidableEq α]:∀{l m:List α},l.Nodup->(∀x∈l,x∈m)->⇑l<=⇑m
 |[],_,_,_=>Um _
 |a::l,m,hn,h=>by
  have(b,c):=Je.mp hn;let:=Ho (m:=m.erase a) c λx d=>(List.mem_erase_of_ne λz=>b<|by rwa[<-z]).mpr<|h x<|Zqm _ d
  grind
def Rf {c:Yg}(h:n+⇑c+06<26*36^11):∃k,k<⇑c+06/\Q8 (n+k)∉c/\Q8 (n+k)∉zw:=by
 rw[Vt λj=>?_];let d:∀x∈(List.range<|⇑c+06).map λk=>Q8<|n+k,x∈c++zw:=λx l=>by
  let(k,g,rfl):=Jb.mp l;rw[List.mem_range]at g;rw[Vt λi=>j (k,g,λz=>i<|Uo _ z,λz=>i<|Uf _ z)]
 let f:((List.range<|⇑c+06).map λk=>Q8<|n+k).Nodup:=by
  rw[Jo.mpr<|(List.nodup_range).imp_of_mem λ{a b}m o p e=>?_];rw[List.mem_range]at m o;let:=Re () () e;lia
 let:=Ho f d;rw[Zql,ZB,Ub]at this;let e:⇑zw=05:=9;lia
def Hq {a:Yg}(h:∀x∈a,asc x):(a.map D.str).all (plN<|n+1)=6:=Ur.mpr λd b=>by
 let(-x,c,rfl):=Jb.mp b;rw[KH<|h x c]
def Hr(x:Str)(a:Yg):(a.map D.str).any (λe=>sameD e<|.str x)=decide (x∈a):=by
 cases h:x∈a
 .rw[Zp h,];rw[List.any_eq_true.mpr (.str x,Jb.mpr (x,h,9),VR _)]
 grind[ko]
def Hs  {a:Yg}(b:asc x)(h:∀y∈a,asc y):x8 neg (.str x) (.lst<|a.map D.str)=!(.bl<|if neg then not<|decide<|x∈a else decide (x∈a)):=by
 let c:plN 12 (.str x)=6:=KH b;let d:(a.map D.str).all (plN 12)=6:=Hq h;show(if plN 12 (.str x)&&(a.map D.str).all (plN 12)then !(D.bl<|if neg then not<|(a.map D.str).any<|λe=>sameD e<|.str x else(a.map D.str).any λe=>sameD e<|.str x)else 8)=_;rw[c,d,Hr];rfl
def Ht  {xs:Yg}(a:asc x)(h:∀y∈xs,asc y):x8 neg (.str x) (.tup<|xs.map D.str)=!(.bl<|if neg then not<|decide<|x∈xs else decide (x∈xs)):=by
 let b:plN 12 (.str x)=6:=KH a;let c:(xs.map D.str).all (plN 12)=6:=Hq h;show(if plN 12 (.str x)&&(xs.map D.str).all (plN 12)then !(D.bl<|if neg then not<|(xs.map D.str).any<|λe=>sameD e<|.str x else(xs.map D.str).any λe=>sameD e<|.str x)else 8)=_;rw[b,c,Hr];rfl
def Rg:∀y∈zw,asc y:=by
 intro y a;let:y="plan"\/y="given"\/y="all"\/y="first"\/y="part":=by simpa[zw]using a
 obtain rfl|rfl|rfl|rfl|rfl:=this<;>ext asc<;>decide+kernel
def Rh(a:Yf)(c:5):wX a++⟨#[c]⟩=wX (a++[c]):=Wd<|by rw[Q0,];rfl
def ZW(a:Tg)(b:FS)(c:Yq):Out->Res Out
 |.next sd=>qa a b c sd
 |.cont sd=>qa a b c sd
 |.brk sd=>.ok (.next sd)
 |.ret d=>.ok (.ret d)
def Bu(a:Tg)(b:FS)(x:D)(c:Yq)(sd:SD):qa a b (x::c) sd=((JS a x sd).bind b).bind (ZW a b c):=by
 show((JS a x sd).bind b).bind _=_;rw[Zt _<|funext λo=>by cases(o)<;>rfl]
@[simp]def cX(a:Tg)(b:FS)(c:Yq)(sd:SD):ZW a b c (.next sd)=qa a b c sd:=rfl
@[simp]def cQ(a:Tg)(b:FS)(c:Yq)(d:D):ZW a b c (.ret d)=.ok (.ret d):=rfl
def de(c:FT)(b:FS)(n:5):Out->Res Out
 |.next sd=>V3 c b n sd
 |.cont sd=>V3 c b n sd
 |.brk sd=>.ok (.next sd)
 |.ret d=>.ok (.ret d)
def Hu(c:FT)(b:FS)(n:5)(sd:SD):V3 c b (n+1) sd=(c sd).bind λt=>if t then(b sd).bind (de c b n)else .ok (.next sd):=by
 rfl
@[simp]def kv(c:FT)(b:FS)(n:5)(sd:SD):de c b n (.next sd)=V3 c b n sd:=rfl
@[simp]def bT(a b c:D)(sd:SD):JS (.tup [0,1,2]) (.tup [a,b,c]) sd=.ok (((sd.set 0<|~~~a).set 1<|~~~b).set 2<|~~~c):=rfl
def jZ(n:3):Str:=Str.ofString<|toString n
def zx(x:Str)(w:3):Str:=if w=0 then x else if 0<w then x++"+"++jZ w else x++jZ w
def jM(a:Yg)(k:3):Str:=a.getD k.toNat Str.empty
def wI(b:Yg)(a:Js):Str:=Txt.join ", "<|a.map λp=>zx (jM b p.1) p.2
def yf(a:Str):Str:=if a="all"\/a="first"then a else"part "++a
def yD(xs:Yg)(r:Str×Str×Js):Str:=" "++r.1++" "++yf r.2.1++" "++wI xs r.2.2
def Ri (a:-1000000000000000000000000000000<n)(b:n<1000000000000000000000000000000):n.natAbs.log2<100:=by
 cases z:n.natAbs=0
 .rw[z,];decide
 .rw[Nat.log2_lt z,];lia
def We(a b c:Str):a++b++c=a++(b++c):=Wd<|by simp only[Q0,Uq]
def ZX(m:5):(jZ (m:3)).cps.toList=(Nat.toDigits 10 m).map Char.toNat:=by
 let:=PyProof.Rows.text_ofNat m;ext jZ;rw[show((m:5):3)=Int.ofNat m from 9,this]
def Bv(m:5):jZ (-((m+1:5):3))=("-":Str)++jZ ((m+1:5):3):=by
 let e:toString (-((m+1:5):3))="-"++Nat.repr (m+1):=9;let a:toString ((m+1:5):3)=Nat.repr (m+1):=9;ext jZ;rw[Wd ?_]
 simp_all[Q0,PySem.Str.ofString_eq_toList]
def Dm (f:-1000000000000000000000000000000<n)(g:n<1000000000000000000000000000000):TxtOk 31 (jZ n):=(by
 ext jZ;rw[PySem.ofString_length,];let p:(10:5)^30=1000000000000000000000000000000:=by decide+kernel
 rw[int_text_length_le10 ()<|by rw[p,];lia],by
 let a:∀m:5,asc (jZ (m:3)):=λm=>w6.mpr λc d=>by
  rw[ZX]at d;let(-e,b,rfl):=Jb.mp d;let:=Nat.isDigit_of_mem_toDigits (by decide) (by decide) b;let i:e.toNat<=57:=by
   unfold Char.isDigit at this;simp at this;rw[this.2]
  lia
 cases h:0<=n
 .let(m,rfl):=UT h;rw[a m]
 .let(m,rfl):∃m:5,n=-((m+1:5):3):=((-n-1).toNat,());rw[Bv,];rw[Hb (by ext asc;decide+kernel)<|a<|m+1])
def Hv  (a:TxtOk 12 x)(b:-1000000000000000000000000000000<w)(c:w<1000000000000000000000000000000):TxtOk 44 (zx x w):=by
 ext zx
 split
 .rw[a.mono ()]
 .split
  .rw[((a.app (n:=1)<|Qy<|by decide+kernel).app<|Dm b c).mono ()]
  .rw[(a.app<|Dm b c).mono ()]
def WP(a x y:Str)(r:Yg):Txt.join a (x::y::r)=x++a++Txt.join a (y::r):=by
 ext Txt.join;rw[StrLaws.glued_eq_join,StrLaws.glued_eq_join];rfl
def WQ(a x:Str):Txt.join a [x]=x:=by
 ext Txt.join;rw[StrLaws.glued_eq_join,];rfl
def Rj(a:Str):Txt.join a []=Str.empty:=by
 ext Txt.join;rw[StrLaws.glued_eq_join,];rfl
theorem ZY  (c:TxtOk m a):∀{b:Yg}{k:5},(∀x∈b,TxtOk n x)->⇑b<=k->TxtOk (k*(n+m)) (Txt.join a b)
 |[],k,_,_=>by rw[Rj,];rw[(Um _,by ext asc;decide+kernel)]
 |[x],k,h,hl=>by
  rw[(h x Zqs).mono ?_];let:1*(n+m)<=k*(n+m):=Nat.mul_le_mul_right _ (by simpa using hl);lia
 |x::y::r,k,h,hl=>by
  rw[WP,]
  cases(k)with
  |zero=>simp at hl
  |succ k=>
   let:=ZY c (λz d=>h z<|Zqm _ d) (by simpa using hl);rw[(((h x Zqs).app c).app this).mono ?_]
   grind
def Dn   (d:⇑a<=m)(h:∀x∈b,⇑x<=n)(c:⇑b<=k)(e:k*n+k*m<=16777216):JoinOk a b=6:=by
 ext JoinOk;rw[Vh,];rw[StrLaws.joinFits h ?_];let f:⇑b*n<=k*n:=Nat.mul_le_mul_right _ c;let g:=Nat.mul_le_mul c d;lia
def Dp  (h:JoinOk sep a=6):WM sep (.lst<|a.map .str)=!(.str<|Txt.join sep a):=by
 show(WL<|a.map D.str).bind _=_;rw[GA,];rw[Zd h]
def Wf  (c:TxtOk m a)(d:TxtOk n b)(h:m+n<=1000000):jv (.str a) (.str b)=!(.str<|a++b):=Zd<|Zh (show ⇑a+⇑b<=1000000 by let:=c.len;let:=d.len;lia)<|by decide+kernel
structure PlT(p:Pl):4 where
 nm:TxtOk 12 p.name
 gs:∀g∈p.givens,TxtOk 12 g
 gl:⇑p.givens<=12
 rl:⇑p.rows<=32
 rs:∀r∈p.rows,TxtOk 12 r.1/\TxtOk 12 r.2.1/\⇑r.2.2<=44/\∀i∈r.2.2,0<=i.1/\i.1<((⇑p.givens+⇑p.rows:5):3)/\-1000000000000000000000000000000<i.2/\i.2<1000000000000000000000000000000
def dW(p:Pl):Yg:=p.givens++p.rows.map (·.1)
def PlT.th (h:PlT p):∀x∈dW p,TxtOk 12 x:=λx a=>by
 obtain z|z:=Jd.mp a
 .rw[h.gs x z]
 .let(-r,b,rfl):=Jb.mp z;rw[(h.rs r b).1]
def Hw  (c:0<=k)(d:k<(⇑a:3)):jf (.lst<|a.map .str) (.int k)=!(.str<|jM a k)/\jM a k∈a:=by
 let(j,rfl):∃j:5,k=j:=(k.toNat,());let b:j<⇑a:=()
 let e:jM a (j:3)=a[j]:=by
  ext jM;rw[Uk,Ul,Zqg b];rfl
 rw[e,];rw[(?_,UR _)];show qo (a.map D.str) (j:3)=_;rw[V4 (by rwa[Zql,]),Zv,Zqg b];rfl
def Dq (h:TxtOk 12 x):TxtOk 17 (yf x):=by
 ext yf
 split
 .rw[h.mono ()]
 .rw[((Qy (n:=05) (x:="part ")<|by decide+kernel).app h).mono ()]
def Hx  (f:∀x∈c,TxtOk 12 x)(s:⇑b<=44)(h:∀i∈b,0<=i.1/\i.1<(⇑c:3)/\-1000000000000000000000000000000<i.2/\i.2<1000000000000000000000000000000):
 (∀y∈b.map λp=>zx (jM c p.1) p.2,TxtOk 44 y)/\TxtOk 2024 (wI c b)/\JoinOk ", " (b.map λp=>zx (jM c p.1) p.2)=6:=by
 let a:∀y∈b.map λp=>zx (jM c p.1) p.2,TxtOk 44 y:=λy d=>by
  let(-p,g,rfl):=Jb.mp d;let(!j,l,o,r):=h p g;rw[Hv (f _ (Hw j l).2) o r]
 let e:TxtOk 2 (", ":Str):=Qy (by decide+kernel);rw[(a,(ZY e a (k:=44) ()).mono (),Dn (m:=2) (n:=44) (k:=44) e.len (λy d=>(a y d).len) () ())]
def zk:TxtOk 1 (" ":Str):=Qy<|by decide+kernel
def JH(q:Pl):D:=.lst [.str q.name,.lst (q.givens.map .str),.lst (q.rows.map jn)]
@[simp]def pe(q:Pl):jf (JH q) (.int 0)=! .str q.name:=rfl
@[simp]def cV(q:Pl):jf (JH q) (.int 1)=!(.lst<|q.givens.map .str):=rfl
@[simp]def pj(q:Pl):jf (JH q) (.int 2)=!(.lst<|q.rows.map jn):=rfl
def wu(ld:Ye):D:=.lst<|ld.map .int
def qq(a:List Pl):D:=.lst<|a.map JH
structure AtP(hp:HP)(a:Addr×Addr×Addr)(q:Pl):4 where
 pl:jc hp a.1=! .lst [.str q.name,.adr a.2.1,.adr a.2.2]
 gv:jc hp a.2.1=!(.lst<|q.givens.map .str)
 rw_:jc hp a.2.2=!(.lst<|q.rows.map jn)
def jI(b:List (Addr×Addr×Addr)):Yh:=b.flatMap λa=>[a.1,a.2.1,a.2.2]
def jY(c:HP):List (Addr×Addr×Addr)->List Pl->4
 |[],b=>b=[]
 |a::d,b=>∃q r,b=q::r/\AtP c a q/\jY c d r
structure StB(hp:HP)(p l:Addr)(as:List (Addr×Addr×Addr))(a:Addr×Addr×Addr)(ps:List Pl)(q:Pl)(ld:Ye):4 where
 hp_:jc hp p=!(.lst<|(as++[a]).map λb=>.adr b.1)
 hl:jc hp l=!(.lst<|ld.map .int)
 all:jY hp as ps
 at_:AtP hp a q
 nd:(p::l::jI (as++[a])).Nodup
theorem jY.len :∀{c:List (Addr×Addr×Addr)}{b:List Pl},jY e c b->⇑b=⇑c
 |[],b,h=>by rw[h,];rfl
 |a::c,b,h=>by
  let(q,r,rfl,_,h):=h;rw[Zu,Zu,h.len]
theorem jY.snoc   (f:AtP g a q):∀{e:List (Addr×Addr×Addr)}{c:List Pl},jY g e c->jY g (e++[a]) (c++[q])
 |[],c,h=>by rw[h,];rw[(q,[],9,f,9)]
 |b::e,c,h=>by
  let(i,r,rfl,j,h):=h;rw[(i,r++[q],9,j,h.snoc f)]
theorem WR(a bs:List (Addr×Addr×Addr)):jI (a++bs)=jI a++jI bs:=List.flatMap_append
def AtP.mono   (h:AtP f a q)(e:∀b ∈[a.1,a.2.1,a.2.2],jc c b=jc f b):AtP c a q:=
 ((e _ ()).trans h.pl,(e _ ()).trans h.gv,(e _ ()).trans h.rw_)
theorem jY.mono :∀{g:List (Addr×Addr×Addr)}{i:List Pl},jY l g i->(∀b∈jI g,jc j b=jc l b)->jY j g i
 |[],i,h,_=>h
 |a::g,i,h,e=>by
  let(q,r,rfl,n,h):=h;rw[(q,r,9,n.mono λb f=>e b ?_,h.mono λb f=>e b ?_)]
  .rw[Ji.mpr (a,Zqs,f)]
  .let(-c,o,f):=Ji.mp f;rw[Ji.mpr (c,Zqm _ o,f)]
def AtP.has   (h:AtP b a q):∀c ∈[a.1,a.2.1,a.2.2],jc b c≠8:=λc e=>by
 let:c=a.1\/c=a.2.1\/c=a.2.2:=by simpa using e
 obtain rfl|rfl|rfl:=this
 .rw[h.pl,];simp
 .rw[h.gv,];simp
 .rw[h.rw_,];simp
theorem jY.has :∀{b:List (Addr×Addr×Addr)}{e:List Pl},jY f b e->∀c∈jI b,jc f c≠8
 |[],_,_,c,hc=>by cases hc
 |a::b,e,h,c,hc=>by
  let(q,r,rfl,g,h):=h;obtain z|z:=Jd.mp hc
  .rw[g.has c z]
  .rw[h.has c z]
def Y3(a:HP)(n:5)(x:Str):dr a n (.str x)=.str x:=by cases n<;>rfl
def Ds(a:HP)(n:5)(x:3):dr a n (.int x)=.int x:=by cases n<;>rfl
def bH(a:HP)(n:5)(x:3×3):dr a n (qw x)=qw x:=by
 cases(n)with
 |zero=>rfl
 |succ n=>
  show D.tup [dr a n (.int x.1),dr a n (.int x.2)]=_;rw[Ds,Ds];rfl
def Bw{α:Type}{f:α->D} (h:∀x,g (f x)=f x)(l:List α):(l.map f).map g=l.map f:=by
 rw[Zw,];rw[Vq λx _=>h x]
def bG(a:HP)(n:5)(r:Js):dr a n (jU r)=jU r:=by
 cases n with
 |zero=>rfl
 |succ n=>
  show D.tup ((r.map qw).map<|dr a n)=_;rw[Bw (bH a n),];rfl
def Rk(a:HP)(n:5)(r:Str×Str×Js):dr a n (jn r)=jn r:=by
 cases(n)with
 |zero=>rfl
 |succ n=>
  show D.tup [dr a n (.str r.1),dr a n (.str r.2.1),dr a n (jU r.2.2)]=_;rw[Y3,Y3,bG];rfl
def Dt(a:HP)(n:5)(r:Yg):dr a n (.lst<|r.map .str)=.lst (r.map .str):=by
 cases n with
 |zero=>rfl
 |succ n=>
  show D.lst ((r.map D.str).map<|dr a n)=_;rw[Bw (Y3 a n),]
def Rl(a:HP)(n:5)(r:Ye):dr a n (.lst<|r.map .int)=.lst (r.map .int):=by
 cases n with
 |zero=>rfl
 |succ n=>
  show D.lst ((r.map D.int).map<|dr a n)=_;rw[Bw (Ds a n),]
def Rm(a:HP)(n:5)(r:List (Str×Str×Js)):dr a n (.lst<|r.map jn)=.lst (r.map jn):=by
 cases n with
 |zero=>rfl
 |succ n=>
  show D.lst ((r.map jn).map<|dr a n)=_;rw[Bw (Rk a n),]
theorem AtP.dr{b:HP}{a:Addr×Addr×Addr}{q:Pl}(h:AtP b a q)(n:5):dr b (n+03) (.adr a.1)=JH q:=by
 rw[KP _ h.pl,];show D.lst [L2.DL.dr b (n+1) (.str q.name),L2.DL.dr b (n+1) (.adr a.2.1),L2.DL.dr b (n+1) (.adr a.2.2)]=_;rw[Y3,KP _ h.gv,KP _ h.rw_,Dt,Rm];rfl
theorem jY.dr{f:HP}(n:5):∀{e:List (Addr×Addr×Addr)}{c:List Pl},jY f e c->(e.map λb=>D.adr b.1).map (dr f<|n+03)=c.map JH
 |[],c,h=>by rw[h,];rfl
 |a::e,c,h=>by
  let(q,r,rfl,g,h):=h;rw[Zl,Zl,g.dr,h.dr n];rfl
def Wg (l:List α)(x:α):qo (l++[x]) (-1)=!x:=by
 ext qo zm;rw[Ze (),Zd (by rw[Ub,Uj];lia),Ub,Uj,show((-1:3)+((⇑l+1:5):3)).toNat=⇑l by lia];simp
def Du{α:Type}(l:List α)(x:α):zm ⇑(l++[x]) (-1)=!⇑l:=by
 grind[zm,List.length_append,List.length_singleton]
section
variable       {ld:Ye}
def StB.dp(h:StB c p l e a f q ld):dr c 05 (.adr p)=qq (f++[q]):=by
 rw[KP _ h.hp_,];show D.lst (((e++[a]).map λb=>D.adr b.1).map<|dr c 03)=_;rw[jY.dr 0 (h.all.snoc h.at_),];rfl
def StB.dl(h:StB b p l c a e q ld):dr b 05 (.adr l)=wu ld:=by rw[KP _ h.hl,Rl];rfl
def StB.da(h:StB b p l c a e q ld):dr b 05 (.adr a.1)=JH q:=h.at_.dr 2
theorem StB.len(h:StB e p l b a c q ld):⇑b=⇑c:=h.all.len.symm
def StB.ne(h:StB B p l e a E q ld):p≠l/\p≠a.1/\p≠a.2.1/\p≠a.2.2/\l≠a.1/\l≠a.2.1/\l≠a.2.2/\a.1≠a.2.1/\a.1≠a.2.2/\a.2.1≠a.2.2/\∀b∈jI e,b≠p/\b≠l/\b≠a.1/\b≠a.2.1/\b≠a.2.2:=by
 let c:=h.nd;rw[WR]at c;let o:a.1∈jI e++jI [a]:=Uf _ (by simp[jI]);let r:a.2.1∈jI e++jI [a]:=Uf _ (by simp[jI]);let u:a.2.2∈jI e++jI [a]:=Uf _ (by simp[jI]);let(f,c):=Je.mp c;let(g,c):=Je.mp c;let(!F,i,j):=Jf.mp c;let i:[a.1,a.2.1,a.2.2].Nodup:=by simpa[jI]using i
 let(s,v):=Je.mp i;let(y,_):=Je.mp v;rw[(λz=>f<|by rw[z,];rw[Zqs],λz=>f<|by rw[z,];rw[Zqm _ o],λz=>f<|by rw[z,];rw[Zqm _ r],(),
  λz=>g<|by rw[z,];rw[o],λz=>g<|by rw[z,];rw[r],λz=>g<|by rw[z,];rw[u],λz=>s<|by rw[z,];simp,λz=>s<|by rw[z,];simp,λz=>y<|by rw[z,];simp,λb n=>?_)]
 rw[((),(),j b n _<|by simp[jI],j b n _<|by simp[jI],j b n _<|by simp[jI])]
def StB.upd(h:StB f p l g a i q ld)   (e:∀b,b≠a.2.1->b≠a.2.2->b≠l->jc hp' b=jc f b)
 (j:jc hp' a.2.1=!(.lst<|n.map .str))(o:jc hp' a.2.2=!(.lst<|r.map jn))(s:jc hp' l=!(.lst<|c.map .int)):StB hp' p l g a i (q.name,n,r) c:=by
 let(u,H,v,y,z,I,J,B,E,F,G):=h.ne;rw[((e p v y u).trans h.hp_,s,h.all.mono λb L=>?_,((e _ B E z.symm).trans h.at_.pl,j,o),h.nd)]
 ext
def StB.load(h:StB f p l g a i q ld)(c:Ye):StB (JC f l<|wu c) p l g a i q c:=by
 let e:jc f l≠8:=by rw[h.hl,];simp
 let:=h.upd (hp':=JC f l<|wu c) (λb _ _ z=>Qa e z) ((Qa e h.ne.2.2.2.2.2.1.symm).trans h.at_.gv) ((Qa e h.ne.2.2.2.2.2.2.1.symm).trans h.at_.rw_)<|KG e;rw[this]
def StB.given(h:StB e p l g a i q ld)(f:Yg):StB (JC e a.2.1<|.lst<|f.map .str) p l g a i (q.name,f,q.rows) ld:=by
 let c:jc e a.2.1≠8:=by rw[h.at_.gv,];simp
 rw[h.upd (λb z _ _=>Qa c z) (KG c) ((Qa c h.ne.2.2.2.2.2.2.2.2.2.1.symm).trans h.at_.rw_)<|(Qa c h.ne.2.2.2.2.2.1).trans h.hl]
def StB.rows(h:StB e p l g a i q ld)(f:List (Str×Str×Js)):StB (JC e a.2.2<|.lst<|f.map jn) p l g a i (q.name,q.givens,f) ld:=by
 let c:jc e a.2.2≠8:=by rw[h.at_.rw_,];simp
 rw[h.upd (λb _ z _=>Qa c z) ((Qa c h.ne.2.2.2.2.2.2.2.2.2.1).trans h.at_.gv) (KG c)<|(Qa c h.ne.2.2.2.2.2.2.1).trans h.hl]
def Dv(n:5)(r:Js):QK (n+2) (jU r)=6:=by
 show(r.map qw).all (QK<|n+1)=6;rw[US,Ur];rw[λx _=>by
  show[D.int x.1,D.int x.2].all (QK n)=6;simp]
def ZZ(n:5)(r:Str×Str×Js):QK (n+03) (jn r)=6:=by
 show[D.str r.1,D.str r.2.1,jU r.2.2].all (QK<|n+2)=6;simp[Dv]
end
def WS     (h:⇑f=i)(e:(g (JN n f) c).bind qi=.ok %[d|b])(k:∀a,jc c a≠8->jc b a≠8):qK n i g f c=.ok %[d|b]:=by
 ext qK;rw[Zd h,e];show(if _ then _ else _)=_;rw[Zd,];rw[Ur.mpr λz j=>?_];let l:jc c z.1≠8:=by
  rw[Ne,kq];rw[λw=>w<|Jb.mpr (z,j,9)]
 let:=k _ l
 induction w:jc b z.1 with
 |none=>rw[Zn w this]
 |some d=>rfl
theorem Hy   (P:5->SD->HP->4):∀{ds:Yq}{sd:SD}{hp:HP}(j:5),P j sd hp->(∀(i:5)(x:D)(sd:SD)(hp:HP),ds[i]?=!x->P (j+i) sd hp->(KY tg b x sd hp).need (λo=>∃a c,o=.next a c/\P (j+i+1) a c) Q)->
 (y4 (KY tg b) ds sd hp).need (λo=>∃a c,o=.next a c/\P (j+⇑ds) a c) Q
 |[],sd,hp,j,h0,_=>(sd,hp,9,h0)
 |x::f,sd,hp,j,h0,g=>by
  rw[Wr.need_bind.mpr<|(g 0 x sd hp 9 h0).mono (λo h=>?_) λ_ _ y=>y];let(a c,rfl,l):=h;let:=Hy P (j+1) l λi y d e m n=>by
   let:=g (i+1) y d e m<|by rwa[show j+(i+1)=j+1+i by lia,]
   rwa[show j+(i+1)+1=j+1+i+1 by lia]at this
  rwa[show j+1+⇑f=j+⇑(x::f) by rw[Zu,];lia]at this
def xV(P:4)(c:Str):Res D:=@ite _ P (Classical.propDecidable P) (.ok .non)<|.ex c []
def WT (h:P)(c:Str):xV P c=.ok .non:=@if_pos _ (Classical.propDecidable P) h _ _ _
def KZ (h:¬P)(c:Str):xV P c=.ex c []:=@if_neg _ (Classical.propDecidable P) h _ _ _
structure Sn(p:Pl):4 where
 nm:TxtOk 20 p.name
 gv:∀x∈p.givens,TxtOk 20 x
 rn:∀r∈p.rows,TxtOk 20 r.1
 rh:∀r∈p.rows,TxtOk 20 r.2.1
 sz:⇑p.givens+⇑p.rows<=920
structure SnB(ps:List Pl):4 where
 pl:∀p∈ps,Sn p
 len:⇑ps<=920
def xT(p:Pl):Yg:=p.givens++p.rows.map (·.1)
def vn(a:Yg):4:=(∀x∈a,Kx x=6)/\a.Nodup
def zB(a:List Pl):4:=vn (a.map (·.name))/\∀p∈a,vn (xT p)
def dq(a:3)(b:Js):4:=(1<=⇑b/\⇑b<=40)/\ItOk a b
def kj(p:Pl):4:=∀(k:5)(r:Str×Str×Js),p.rows[k]?=!r->dq ((⇑p.givens:3)+k) r.2.2
def tH(p:Pl):4:=(1<=⇑p.givens/\⇑p.givens<=12)/\(1<=⇑p.rows/\⇑p.rows<=40)/\kj p
def kg(a:List Pl):4:=(1<=⇑a/\⇑a<=20)/\∀p∈a,tH p
def wW(t:List (Str×3))(r:Str×Str×Js):4:=xl r.2.1=6->qH t r.2.1=!(⇑r.2.2:3)
def mj(a:List Pl):4:=∀(i:5)(p:Pl),a[i]?=!p->∀r∈p.rows,wW (QZ<|a.take i) r
def Rn (S:Sn p):⇑(xT p)<=920:=by
 ext xT;rw[Ub,Zql];rw[S.sz]
def Ro (S:Sn p):∀x∈xT p,TxtOk 20 x:=λx a=>by
 obtain z|z:=Jd.mp a
 .rw[S.gv x z]
 .let(-r,b,rfl):=Jb.mp z;rw[S.rn r b]
theorem ZM:∀(d c:List jR),⇑(d.foldl L2.ST.stepK c)<=⇑c+⇑d/\(⇑(d.foldl L2.ST.stepK c)=⇑c+⇑d->d.Nodup/\∀k∈d,k∉c)
 |[],c=>(Zf _,λ_=>(List.nodup_nil,λ_ h=>nomatch h))
 |k::d,c=>by
  let(a,b):=ZM d (L2.ST.stepK c k);cases h:k∈c
  .let e:L2.ST.stepK c k=c:=Zd<|L2.ST.inK_iff.mpr h
   grind
  .let e:L2.ST.stepK c k=c++[k]:=Ze λz=>h<|L2.ST.inK_iff.mp z
   grind
def Rp{xs:Yg}(b:⇑xs<=999):∃n:5,ZN [.lst (xs.map .str)]=! .int n/\(n=⇑xs↔xs.Nodup):=by
 let e:K0 Q3 (xs.map .str)=! xs.map Uu:=YW (f:=Q3) (λ_=>9) xs;let a:xs.Nodup↔(xs.map (Uu:Str->jR)).Nodup:=by
  rw[Vs,Vs,List.pairwise_map];rw[()]
 rw[(⇑(L2.ST.dedL<|xs.map Uu),?_,λz=>?_,λz=>?_)]
 .show(K0 Q3<|xs.map .str).bind _=_
  ext
 .rw[a.mpr ((ZM (xs.map Uu) []).2 ?_).1]
  rwa[ZC,UK,Zql]
 .rw[L2.ST.dedL_nodup (a.mp z),Zql]
def Dw:Yq->Res Yq:=wE 2 2<|Ju (jj Wp<|Ju (ja 1) jb) jb
def Aa:qb:=jr (wA "Draft" "name" (vL<|ja 0)<|vL<|ja 1)<|jr (wA "Draft" "givens" (vL<|ja 0)<|jG j0)<|jr (wA "Draft" "rows" (vL<|ja 0)<|jG j0) QD
def Bx:Yq->HP->Wr (D×HP):=qK 2 2 Aa
def Dx:Yq->Res Yq:=wE 04 04<|Ju (ja 1)<|Ju (jj Wp<|Ju (ja 2) jb)<|Ju (jj Wp<|Ju (ja 03) jb) jb
def Bz:qb:=jr (jV 2<|yw (vL<|ja 0)<|qG 05 [0]<|jd j9 (ja 1)<|jj jq<|Ju (ja 0) jb)<|jr (jV 03<|qG 05 [2]<|jd j9 (jd JZ (ja 1)<|dC<|.int 31)<|jj jq<|Ju (jd jf (ja 2)<|dC<|.int 2) jb)<|qT<|vZ<|J0 (vL<|ja 2)<|J0 (vL<|ja 03)<|J0 (qG 05 [2]<|jd j9 (jd JZ (ja 1)<|dC<|.int 961)<|jj jq<|Ju (jd jf (jd jf (jd jf (ja 2)<|dC<|.int 2)<|ja 03)<|dC<|.int 2) jb) j0
def Y4:Yq->HP->Wr (D×HP):=qK 04 2 Bz
def Y5:qb:=jr (wB (Qr Y4<|J0 (vL<|ja 0)<|J0 (vL<|jd JZ (ja 2)<|dC<|.int 03) j0)<|.tup [03,04,05])<|jr (jV 06<|qG 05 [03]<|jd jf (jd jf (ja 03)<|dC<|.int 2)<|ja 04)<|Qk (yM<|Qz (Jz<|jd qI (jd j9 (ja 2)<|dC<|.int 03)<|dC<|.int 0)<|Jz<|jd (x8 6) (jd jf (ja 06)<|dC<|.int 1)<|jH<|Ju (dC<|.str "all")<|Ju (dC<|.str "first") jb) (ye (yw (vL<|ja 03)<|vL<|dC<|.int 2) (vL<|ja 04)<|vL<|jH<|Ju (jd jf (ja 06)<|dC<|.int 0)<|Ju (jd jf (ja 06)<|dC<|.int 1)<|Ju (jd KU (jd jf (ja 06)<|dC<|.int 2)<|wL (jd jf (ja 06)<|dC<|.int 2) QX<|Kw<|dC<|.int 1) jb)<|ye (yw (vL<|ja 03)<|vL<|dC<|.int 2) (vL<|ja 04)<|qG 05 [03]<|jH<|Ju (jd jf (ja 06)<|dC<|.int 0)<|Ju (jd jf (qm<|Ju (jd jf (ja 03)<|dC<|.int 0)<|Ju (jd jf (ja 1)<|dC<|.int 32) jb)<|jd j9 (ja 2)<|dC<|.int 2)<|Ju (jd jf (ja 06)<|dC<|.int 2) jb
def B0:Yq->HP->Wr (D×HP):=qK 07 03 Y5
def B4:qb:=jr (wB (Qr Y4<|J0 (vL<|ja 0)<|J0 (vL<|ja 1) j0)<|.tup [03,04,05])<|jr (jV 06<|qG 05 [03]<|jd jf (jd jf (ja 03)<|dC<|.int 2)<|ja 04)<|jr (zL<|j3 07<|jd KU (jd KU (wL (jd jf (ja 06)<|dC<|.int 2) QX<|Kw<|ja 05)<|jH<|Ju (jH<|Ju (ja 2)<|Ju (jd jf (jd jf (jd jf (ja 06)<|dC<|.int 2)<|ja 05)<|dC<|.int 1) jb) jb)<|wL (jd jf (ja 06)<|dC<|.int 2) (Kw<|jd jv (ja 05)<|dC<|.int 1) QX)<|ye (yw (vL<|ja 03)<|vL<|dC<|.int 2) (vL<|ja 04)<|vL<|jH<|Ju (jd jf (ja 06)<|dC<|.int 0)<|Ju (jd jf (ja 06)<|dC<|.int 1)<|Ju (ja 07) jb
def B5:Yq->HP->Wr (D×HP):=qK 08 03 B4
def WU:qb:=jr (zL<|j3 03<|jd j9 (ja 2)<|dC<|.int 04)<|jr (zL<|j3 2<|jd JZ (ja 2)<|dC<|.int 04)<|Qk (yM<|Jz<|jd qI (ja 03)<|dC<|.int 0) (jr (wB (Qr Y4<|J0 (vL<|ja 0)<|J0 (vL<|ja 2) j0)<|.tup [04,05,06])<|jr (jV 07<|qG 05 [04]<|jd jv (jj jq<|Ju (jd jf (ja 04)<|dC<|.int 1) jb)<|ja 05)<|Kk<|Qr B5<|J0 (vL<|ja 0)<|J0 (vL<|ja 2)<|J0 (qG 05 [04]<|jd jv (ja 07)<|jd j9 (jd JZ (ja 2)<|dC<|.int 07)<|jd yP (jd jv (jj jq<|Ju (jd jf (ja 04)<|dC<|.int 1) jb)<|jj jq<|Ju (jd jf (ja 04)<|dC<|.int 2) jb)<|ja 07) j0)<|Qk (yM<|Jz<|jd qI (ja 03)<|dC<|.int 1) (qz (vL<|ja 0)<|jG<|J0 (vL<|jd jf (ja 1)<|dC<|.int 33)<|J0 (jG<|J0 (vL<|jd jf (ja 1)<|jd j9 (ja 2)<|dC<|.int 33) j0)<|J0 (jG j0) j0)<|Qk (yM<|Jz<|jd qI (ja 03)<|dC<|.int 2) (qz (vL<|ja 0)<|jG<|J0 (vL<|jd jf (ja 1)<|dC<|.int 33)<|J0 (yW 05 []<|wM (ja 1) QX (Kw<|dC<|.int 13) QX)<|J0 (jG<|J0 (vL<|jH<|Ju (jd jf (ja 1)<|dC<|.int 13)<|Ju (dC<|.str "all")<|Ju (jH<|Ju (jH<|Ju (jd j9 (ja 2)<|dC<|.int 13)<|Ju (dC<|.int 0) jb) jb) jb) j0) j0)<|qz (vL<|ja 0)<|jG<|J0 (vL<|jd jf (ja 1)<|dC<|.int 33)<|J0 (jG j0)<|J0 (jG<|J0 (vL<|jH<|Ju (jd jf (ja 1)<|jd j9 (ja 2)<|dC<|.int 33)<|Ju (dC<|.str "first")<|Ju (jH<|Ju (jH<|Ju (dC<|.int 0)<|Ju (dC<|.int 0) jb) jb) jb) j0) j0
def Wh:Yq->HP->Wr (D×HP):=qK 08 03 WU
def X4:FS:=js (qj (Jz<|jd ww (ja 1)<|jj jq<|Ju (ja 0) jb) (jL<|jd jf (ja 0)<|ja 1) JF)<|jL<|dC<|.int 0
def QH:Yq->Res D:=jS 2 2 X4
def Ab(a:Ye)(k:5):QH [.scr a,.int k]=.ok (.int<|Qm a k):=by
 ext Qm;cases h:k<⇑a
 .let e:qo a (k:3)=!a[k]:=by rw[V4 h,];simp
  simp_all[QH,X4]
 .simp[QH,X4,h]
def V5:qb:=jr (jV 2<|yw (vL<|ja 0)<|qG 05 [0]<|jd j9 (ja 1)<|jj jq<|Ju (ja 0) jb)<|Qk (xG 05 [0]<|Qz (Jz<|jd qI (jd j9 (jd JZ (ja 1)<|dC<|.int 31)<|dC<|.int 03)<|dC<|.int 0)<|Jz<|jd wx (jj jq<|Ju (ja 0) jb)<|dC<|.int 1) (ye (yw (vL<|ja 0)<|vL<|jJ qF<|dC<|.int 1) (vL<|dC<|.int 0)<|qG 05 [0]<|jd jf (jd jf (ja 0)<|jd j9 (jd JZ (ja 1)<|dC<|.int 93)<|jd yP (jj jq<|Ju (ja 0) jb)<|dC<|.int 1)<|dC<|.int 0)<|Qk (xG 05 [2]<|Qz (Jz<|jd qI (jd j9 (jd JZ (ja 1)<|dC<|.int 31)<|dC<|.int 2)<|dC<|.int 0)<|Jz<|jd wx (jj jq<|Ju (jd jf (ja 2)<|dC<|.int 1) jb)<|dC<|.int 1) (ye (yw (vL<|ja 2)<|vL<|dC<|.int 1) (vL<|jJ qF<|dC<|.int 1)<|qG 05 [2]<|jd jf (jd jf (ja 2)<|dC<|.int 1)<|jd j9 (jd JZ (ja 1)<|dC<|.int 62)<|jd yP (jj jq<|Ju (jd jf (ja 2)<|dC<|.int 1) jb)<|dC<|.int 1)<|jr (jV 03<|qG 05 [2]<|jd j9 (jd JZ (ja 1)<|dC<|.int 62)<|jj jq<|Ju (jd jf (ja 2)<|dC<|.int 2) jb)<|jr (jV 04<|yW 05 [2]<|jd Yw (jd jf (ja 2)<|dC<|.int 1)<|Q2 [8] (iS<|wM (jd jf (ja 2)<|dC<|.int 2) QX (Kw<|ja 03) QX) (.one 0)<|jd jf (ja 0)<|dC<|.int 0)<|ye (yw (vL<|ja 2)<|vL<|dC<|.int 2) (vL<|ja 03)<|qG 05 [2,04]<|jH<|Ju (jd jf (ja 04)<|jd j9 (jd JZ (ja 1)<|dC<|.int 07)<|jj jq<|Ju (ja 04) jb)<|Ju (jd jf (jd jf (jd jf (ja 2)<|dC<|.int 2)<|ja 03)<|dC<|.int 1)<|Ju (jd jf (jd jf (jd jf (ja 2)<|dC<|.int 2)<|ja 03)<|dC<|.int 2) jb
def X5:Yq->HP->Wr (D×HP):=qK 05 2 V5
def B6:FS:=js (j3 2<|dC<|.str "abcdefghijklmnopqrstuvwxyz0123456789")<|js (j3 03<|qm<|Ju (dC<|.str "plan")<|Ju (dC<|.str "given")<|Ju (dC<|.str "all")<|Ju (dC<|.str "first")<|Ju (dC<|.str "part") jb)<|js (qf (vw<|Ju (jd jv (jj jq<|Ju (ja 1) jb)<|dC<|.int 06) jb) (.one 04)<|js (j3 05<|jd jf (ja 2)<|jd j9 (jd jv (ja 0)<|ja 04)<|dC<|.int 26)<|js (j3 06<|jd JZ (jd jv (ja 0)<|ja 04)<|dC<|.int 26)<|js (V3 (Jz<|jd wx (ja 06)<|dC<|.int 0) (js (j3 05<|jd jv (ja 05)<|jd jf (ja 2)<|jd j9 (ja 06)<|dC<|.int 36)<|j3 06<|jd JZ (ja 06)<|dC<|.int 36) 60)<|qj (Qz (Jz<|jd (x8 6) (ja 05)<|ja 1)<|Jz<|jd (x8 6) (ja 05)<|ja 03) (jL<|ja 05) JF)<|jL<|dC<|.str ""
def WV:Yq->Res D:=jS 07 2 B6
def wC:FT:=Jz<|jd wx (ja 06)<|dC<|.int 0
def nmB:FS:=js (j3 05<|jd jv (ja 05)<|jd jf (ja 2)<|jd j9 (ja 06)<|dC<|.int 36)<|j3 06<|jd JZ (ja 06)<|dC<|.int 36
theorem Hz :∀(f n:5)(a:Yf),n<36^f->⇑a+f<=100->V3 wC nmB (f+1) [x0,x1,~~~.str wo,x3,x4,~~~(.str<|wX a),~~~.int n]=
 .ok (.next [x0,x1,~~~.str wo,x3,x4,~~~(.str<|wX<|a++xj f n),~~~.int 0])
 |f,n,a,hn,ha=>by
  cases z:n=0
  .subst z;let e:xj f 0=[]:=by cases f<;>simp[xj]
   rw[e,ZA];rw[Hu,];simp[wC]
  .cases f with
   |zero=>lia
   |succ f=>
    let b:=Hi (k:=(n:3)%36) () ();rw[show((n:3)%36).toNat=n%36 by lia]at b;let c:jv (.str<|wX a) (.str ⟨#[xC (n%36)]⟩)=!(.str<|wX<|a++[xC (n%36)]):=by
     rw[<-Rh];rw[Zd<|small ?_];show ⇑a+1<=1000;lia
    let d:=Hz (x0:=x0) (x1:=x1) (x3:=x3) (x4:=x4) f (n/36) (a++[xC (n%36)]) (by rw[()]) (by rw[Ub,Uj];lia);let g:xj (f+1) n=xC (n%36)::xj f (n/36):=by
     show(if n=0 then _ else _)=_;rw[Ze z,]
    simp_all[Hu,wC,nmB]
def nB:FS:=js (j3 05<|jd jf (ja 2)<|jd j9 (jd jv (ja 0)<|ja 04)<|dC<|.int 26)<|js (j3 06<|jd JZ (jd jv (ja 0)<|ja 04)<|dC<|.int 26)<|js (V3 wC nmB 60)<|qj (Qz (Jz<|jd (x8 6) (ja 05)<|ja 1)<|Jz<|jd (x8 6) (ja 05)<|ja 03) (jL<|ja 05) JF
def Rq{n k:5}{b:Yg} (e:n+k<26*36^11)(f:∀u∈b,asc u):∃g h,nB [~~~.int n,~~~(.lst<|b.map .str),~~~.str wo,~~~(.lst<|zw.map .str),~~~.int k,x5,x6]=
 if Q8 (n+k)∉b/\Q8 (n+k)∉zw then .ok (.ret<|.str<|Q8<|n+k)else .ok (.next [~~~.int n,~~~(.lst<|b.map .str),~~~.str wo,~~~(.lst<|zw.map .str),~~~.int k,g,h]):=by
 let c:=Hi (k:=((n:3)+k)%26) () ();rw[show(((n:3)+k)%26).toNat=(n+k)%26 by lia]at c;let d:=Hz (x0:= ~~~.int n) (x1:= ~~~(.lst<|b.map .str)) (x3:= ~~~(.lst<|zw.map .str)) (x4:= ~~~.int k) 59 ((n+k)/26) [xC ((n+k)%26)] (Zg (Vp e) Hn) ();let i:wX ([xC ((n+k)%26)]++xj 59 ((n+k)/26))=Q8 (n+k):=9;let j:(⟨#[xC ((n+k)%26)]⟩:Str)=wX [xC ((n+k)%26)]:=9;rw[j]at c;rw[i,show(((n+k)/26:5):3)=((n:3)+k)/26 by lia]at d;let l:=Hs (neg:=6) (Dl<|n+k) Rg;rw[xh (~~~(.str<|Q8<|n+k)) (~~~.int 0) ?_];ext nB;simp[c,d,Hs (Dl<|n+k) f];cases a:Q8 (n+k)∈b
 .simp[a]
 ext
theorem HA {b:Yg}(d:∀u∈b,asc u):∀(a:Yf)(f x5 x6:02 SV),(∀k∈a,n+k<26*36^11)->(∃k∈a,Q8 (n+k)∉b/\Q8 (n+k)∉zw)->
 ∃k∈a,(Q8 (n+k)∉b/\Q8 (n+k)∉zw)/\qa (.one 04) nB (a.map λk:5=>D.int k) [~~~.int n,~~~(.lst<|b.map .str),~~~.str wo,~~~(.lst<|zw.map .str),f,x5,x6]=.ok (.ret<|.str<|Q8<|n+k)
 |[],_,_,_,_,h=>by ext
 |k::a,f,x5,x6,hb,h=>by
  let(i l,e):=Rq (x5:=x5) (x6:=x6) (hb k Zqs) d;cases c:Q8 (n+k)∉b/\Q8 (n+k)∉zw
  .simp_all[Bu]
  .let(-j,hj,m,p):=HA d a (~~~.int k) i l (λz o=>hb z<|Zqm _ o) (by
    let(-j,hj,g):=h;obtain rfl|hj:=Ux.mp hj
    .rw[Zn g c]
    .rw[(j,hj,g)])
   rw[(j,Zqm _ hj,m,?_)]
   simp_all[Bu]
def HB {a:Yg}(d:n+⇑a+06<26*36^11)(r:⇑a<=100)(f:∀u∈a,asc u):∃w,WV [.int n,.lst (a.map .str)]=.ok (.str w)/\zC w/\w∉a:=by
 let(-g,h,i):=Rf d;let(-k,b,(j,l),e):=HA f (List.range<|⇑a+06) 8 8 8 λk b=>by rw[List.mem_range]at b;lia (g,Jl.mpr h,i);rw[List.mem_range]at b;rw[(Q8<|n+k,?_,(n+k,(),9,l),j)];let m:Wq [.int ((⇑a:3)+06)]=.ok ((List.range<|⇑a+06).map λk:5=>D.int k):=by
  rw[XZ () (),];show Res.ok ((List.range ((⇑a:3)+06).toNat).map λk:5=>D.int<|0+k)=_
  grind
 ext WV B6;let o:D.lst [D.str "plan",D.str "given",D.str "all",D.str "first",D.str "part"]=.lst (zw.map .str):=9;let p:D.str "abcdefghijklmnopqrstuvwxyz0123456789"=.str wo:=9;let c:=e;unfold nB wC nmB at c;simp[m,o,p,c]
def Ac:FS:=js (j3 2<|jd j9 (J9 QH<|Ju (ja 0)<|Ju (dC<|.int 0) jb)<|jd xA (dC<|.int 26)<|jd xq (dC<|.int 36)<|dC<|.int 10)<|js (j3 03<|jd jf (qm<|Ju (dC<|.int 1)<|Ju (dC<|.int 26)<|Ju (dC<|.int 936)<|Ju (dC<|.int 33696)<|Ju (dC<|.int 1213056) jb)<|jd j9 (J9 QH<|Ju (ja 0)<|Ju (dC<|.int 1) jb)<|dC<|.int 05)<|js (xH 04<|qm jb)<|js (qf (vw<|Ju (ja 1) jb) (.one 05)<|Ko 04<|zd [04]<|J9 WV<|Ju (jd jv (ja 2)<|jd xA (ja 05)<|ja 03)<|Ju (ja 04) jb)<|Wn 04
def V6:Yq->Res D:=xI 06 2 Ac
def Ad(a:Ye)(k:5):QH [.lst (a.map .int),.int k]=.ok (.int<|Qm a k):=by
 ext Qm;rw[Uk,];let d:⇑(a.map D.int)=⇑a:=by simp
 cases h:k<⇑a
 .let e:jf (.lst<|a.map .int) (.int (k:3))=! .int a[k]:=by
   show qo (a.map D.int) (k:3)=_;rw[V4 (by rwa[Zql,]),Zv,Zqg h];rfl
  simp_all[QH,X4]
 .let b:a.getD k 0=0:=by ext
  rw[b,];generalize a.map D.int=l at*;let c:¬k<⇑l:=()
  simp[QH,X4,c]
def bj{f:Ye}{many:5}(C:many<=40):∃d:Yg,V6 [.lst (f.map .int),.int many]=.ok (.lst<|d.map .str)/\⇑d=many/\d.Nodup/\∀w∈d,zC w:=by
 let E:QH [.lst (f.map .int),.int 0]=.ok (.int<|Qm f 0):=Ad f 0;let F:QH [.lst (f.map .int),.int 1]=.ok (.int<|Qm f 1):=Ad f 1;let p:xq (.int 36) (.int 10)=! .int 3656158440062976:=9;let G:xA (.int 26) (.int 3656158440062976)=! .int 95060119441637376:=9;let H:(95060119441637376:5)*36=26*36^11:=by decide+kernel
 let(b,hb,I,J):∃b:5,Qm f 0%95060119441637376=(b:3)/\0<=b/\b<95060119441637376:=((Qm f 0%95060119441637376).toNat,(),(),());let(q,hq,q0,q5):∃q:3,Qm f 1%05=q/\0<=q/\q<05:=(_,9,(),());let(st,hst,r):∃st:5,qo [D.int 1,D.int 26,D.int 936,D.int 33696,D.int 1213056] q=! .int st/\st<=1213056:=by
  let:q=0\/q=1\/q=2\/q=03\/q=04:=()
  obtain rfl|rfl|rfl|rfl|rfl:=this
  .rw[(1,9,())]
  .rw[(26,9,())]
  .rw[(936,9,())]
  .rw[(33696,9,())]
  .rw[(1213056,9,())]
 let L:Wq [.int many]=.ok (Qw 0 many):=by rw[XZ () (),Uk]
 let(-sd,e,(d,j,s,h,l,g)):=K4 (tg:=.one 05) (b:=Ko 04<|zd [04]<|J9 WV<|Ju (jd jv (ja 2)<|jd xA (ja 05)<|ja 03)<|Ju (ja 04) jb) (ds:=Qw 0 many)
  (P:=λi sd=>∃(d:Yg)(j:02 SV),sd=[~~~(.lst<|f.map .int),~~~.int many,~~~.int b,~~~.int st,!(.own 7<|.lst<|d.map .str),j]/\⇑d=i/\d.Nodup/\∀w∈d,zC w) ([],8,9,9,.nil,λw g=>by cases g) (by
   rintro i x sd m ⟨d,j,rfl,h,l,g⟩;let(rfl,M):=CI m;let t:i*st<=40*1213056:=Nat.mul_le_mul () r;have(w,e,N,v):=HB (n:=b+i*st) () () λu y=>(g u y).ok.asc;let o:xA (.int (i:3)) (.int st)=! .int ((i*st:5):3):=by
    rw[CF (CG () ()),];simp
   let A:⇑d<00:=Qi ();rw[([~~~(.lst<|f.map .int),~~~.int many,~~~.int b,~~~.int st,!(.own 7<|.lst<|(d++[w]).map .str),~~~(.int<|0+(i:3))],?_,d++[w],_,9,by simp[h],?_,λx m=>?_)]
   .simp[Int.natCast_mul]at e o;simp[o,e,A]
   .rw[Jf.mpr (l,List.pairwise_singleton _ _,λa O c B z=>v<|by rw[Jc.mp B]at z;rwa[<-z])]
   .rcases Jd.mp m with z|z
    .rw[g x z]
    .rwa[Jc.mp z,])
 rw[AJ]at h;rw[(d,?_,h,l,g)]
 simp_all[V6,Ac]
def Y6:FS:=js (j3 1<|jd j9 (jd JZ (ja 0)<|dC<|.int 03)<|jd xq (dC<|.int 10)<|dC<|.int 30)<|js (qj (Jz<|jd qI (jd j9 (ja 0)<|dC<|.int 03)<|dC<|.int 0) (jL<|dC<|.int 0) JF)<|js (qj (Jz<|jd qI (jd j9 (ja 0)<|dC<|.int 03)<|dC<|.int 1) (jL<|ja 1) JF)<|jL<|jd yP (dC<|.int 0)<|ja 1
def Y7:Yq->Res D:=jS 2 1 Y6
def zS(c:3):3:=if c%03=0 then 0 else if c%03=1 then c/03%1000000000000000000000000000000 else 0-c/03%1000000000000000000000000000000
def bi(c:3):Y7 [.int c]=.ok (.int<|zS c):=by
 let p:xq (.int 10) (.int 30)=! .int 1000000000000000000000000000000:=9;ext zS;cases a:c%03=0
 .simp[Y7,Y6,a,p]
 .cases b:c%03=1
  .simp[Y7,Y6,b,p]
  simp_all[Y7,Y6]
def Dy(c:3):-1000000000000000000000000000000<zS c/\zS c<1000000000000000000000000000000:=by
 ext zS
 split
 .omega
 .split<;>lia
def B7:FS:=jL<|jH<|Ju (jd j9 (ja 0)<|ja 1)<|Ju (J9 Y7<|Ju (jd JZ (ja 0)<|ja 1) jb) jb
def WW:Yq->Res D:=jS 2 2 B7
def Kl(c a:3):3×3:=%[c%a|zS (c/a)]
def Dz (b:0<a)(e:a<1000000):WW [.int c,.int a]=.ok (qw<|Kl c a):=by
 let d:JZ (.int c) (.int a)=!(.int<|c/a):=N7 b ();simp[WW,B7,b,d,bi<|c/a];rfl
def WY:qb:=jr (jV 05<|yw (vL<|ja 0)<|vL<|jJ qF<|dC<|.int 1)<|jr (jV 06<|qG 05 [05]<|jd jv (jj jq<|Ju (jd jf (ja 05)<|dC<|.int 1) jb)<|jj jq<|Ju (jd jf (ja 05)<|dC<|.int 2) jb)<|jr (jV 07<|qG 05 [0]<|jd jf (ja 2)<|jd j9 (jd jv (jj jq<|Ju (ja 0) jb)<|ja 06)<|jj jq<|Ju (ja 2) jb)<|jr (ye (vL<|ja 1) (vL<|jJ qF<|dC<|.int 1)<|qG 05 [1]<|jd jv (jd jf (ja 1)<|jJ qF<|dC<|.int 1)<|dC<|.int 1)<|jr (Qk (xG 05 [0]<|Qz (Jz<|jd qI (jd j9 (ja 03)<|dC<|.int 04)<|dC<|.int 03)<|Jz<|jd wx (jj jq<|Ju (ja 0) jb)<|dC<|.int 1) (jr (jV 08<|qG 05 [0]<|jd j9 (jd JZ (ja 03)<|dC<|.int 04)<|jd yP (jj jq<|Ju (ja 0) jb)<|dC<|.int 1)<|Qk (xG 05 [1]<|Jz<|jd xM (jd jv (jd jf (ja 1)<|jJ qF<|dC<|.int 1)<|jd jf (ja 1)<|ja 08)<|dC<|.int 1900) (jr (ye (vL<|ja 1) (vL<|jJ qF<|dC<|.int 1)<|qG 05 [1]<|jd jv (jd jf (ja 1)<|jJ qF<|dC<|.int 1)<|jd jf (ja 1)<|ja 08)<|jr (jV 09<|qG 05 [0]<|jj jq<|Ju (jd jf (jd jf (ja 0)<|ja 08)<|dC<|.int 1) jb)<|qT<|qG 05 [0]<|jH<|Ju (ja 07)<|Ju (jd jf (jd jf (ja 0)<|ja 08)<|dC<|.int 0)<|Ju (jj Z8<|Ju (Q2 [8,!04,!06] (vw<|Ju (ja 09) jb) (.one 0)<|J9 WW<|Ju (jd jv (ja 1)<|jd xA (jd xA (dC<|.int 31)<|ja 0)<|ja 0)<|Ju (ja 2) jb) jb) jb) QD) QD)<|qT<|vL<|jH<|Ju (ja 07)<|Ju (jd jf (qm<|Ju (dC<|.str "all")<|Ju (dC<|.str "first") jb)<|jd j9 (ja 03)<|dC<|.int 2)<|Ju (jH<|Ju (J9 WW<|Ju (ja 04)<|Ju (ja 06) jb) jb) jb
def Y8:Yq->HP->Wr (D×HP):=qK 10 05 WY
def JU(q:Pl):3:=(⇑q.givens:3)+(⇑q.rows:3)
def jt(a:Yg)(k:3):Str:=a.getD (k%(⇑a:3)).toNat Str.empty
def qr(a:List Pl)(k:3):Pl:=a.getD k.toNat (Str.empty,[],[])
def z5(a:3):Str:=if a%2=0 then"all"else"first"
def qp(d:Yg)(b:List Pl)(q:Pl)(ld:Ye)(x a c:3):(Str×Str×Js)×3:=
 if a%04=03/\b ≠[]/\x+1+xi ld (a/04%(⇑b:3))<=1900 then
  %[%[jt d ((⇑b:3)+1+JU q),(qr b<|a/04%(⇑b:3)).name|(List.range (qr b<|a/04%(⇑b:3)).givens.length).map λj:5=>Kl (c+31*j*j)<|JU q]|x+1+xi ld (a/04%(⇑b:3))]
 else%[%[jt d ((⇑b:3)+1+JU q),z5 a|[Kl c (JU q)]]|x+1]
def D0 (a:0<⇑ws)(k:3):jf (.lst<|ws.map .str) (.int<|k%(⇑ws:3))=!(.str<|jt ws k):=by
 let b:0<=k%(⇑ws:3):=UC _ ();let c:k%(⇑ws:3)<(⇑ws:3):=UE _ ();have(j,hj):∃j:5,k%(⇑ws:3)=j:=((k%(⇑ws:3)).toNat,());show qo (ws.map D.str) (k%(⇑ws:3))=_;ext jt;rw[hj,V4 (by rw[Zql,];lia),Uk,Zv,Ul,Zqg ()];rfl
def Rr  (b:0<=k)(c:k<(⇑a:3))(q:Pl):qo ((a++[q]).map JH) k=!(JH<|qr a k):=by
 let(j,rfl):∃j:5,k=j:=(k.toNat,());ext qr;rw[V4 (),Uk,Zv,Ui (),Ul,Zqg ()];rfl
def Rs{ld:Ye} (a:0<=k)(b:k<(⇑ld:3))(x:3):qo ((ld++[x]).map D.int) k=!(.int<|xi ld k):=by
 let(j,rfl):∃j:5,k=j:=(k.toNat,());ext xi;rw[V4 (by rw[Zql,Ub];lia),Uk,Zv,Ui (),Ul,Zqg ()];rfl
def bh      {ld:Ye}  (h:StB m p l as a e q (ld++[x]))(hl:⇑ld=⇑e)(y:0<⇑n)(hq:0<JU q)(hq2:JU q<1000)(d f:3)
 (hs:∀r∈e,⇑r.givens<=1000):∃u,(WY [~~~.adr p,~~~.adr l,~~~(.lst<|n.map .str),~~~.int d,~~~.int f,8,8,8,8,8] m).bind qi=.ok %[jn (qp n e q ld x d f).1|u]/\
 (∀b,b≠l->jc u b=jc m b)/\StB u p l as a e q (ld++[(qp n e q ld x d f).2]):=by
 let C:=h.dp;let E:=h.da;let F:=h.dl;let G:xm (.adr p) %[.int (-1)|m]=.ok %[.adr a.1|m]:=by
  rw[Wa (q:=%[D.int (-1)|m]) h.hp_,]
  simp_all[Ud,List.map_singleton,Wg]
 let H:=D0 y<|(⇑e:3)+1+JU q;let I:jq [D.lst (n.map D.str)]=! .int (⇑n:3):=by simp
 let J:jq [qq (e++[q])]=!(.int<|(⇑e:3)+1):=by show some (D.int (⇑((e++[q]).map JH):3))=_;simp
 let L:jq [D.lst (q.givens.map D.str)]=! .int (⇑q.givens:3):=by simp
 let i:jq [D.lst (q.rows.map jn)]=! .int (⇑q.rows:3):=by simp
 let M:(⇑q.givens:3)+(⇑q.rows:3)=JU q:=9;let N:jf (wu<|ld++[x]) (.int<|-1)=! .int x:=by
  show qo ((ld++[x]).map D.int) (-1)=_;rw[Ud,List.map_singleton,Wg]
 let A:∀sd,V2 sd (.int<|x+1) l %[.int (-1)|m]=.ok (.next sd<|JC m l<|wu<|ld++[x+1]):=λsd=>by
  rw[Yz h.hl (j:=⇑ld) (by rw[Zql,];rw[Du ld x]),Ud,List.map_singleton,<-@List.length_map _ _ ld D.int,De];ext wu;simp
 let o:=h.load<|ld++[x+1];let hn:jc m l≠8:=by rw[h.hl,];simp
 let(g,hp1e):∃g,g=JC m l (wu<|ld++[x+1]):=(_,9);rw[<-hp1e]at o;simp only[<-hp1e]at A;let O:∀b,b≠l->jc g b=jc m b:=λb P=>by rw[hp1e,];rw[Qa hn P]
 let Q:=o.dp;let f3:=o.dl;let T:=Dz (c:=f) hq ();let v:jf (.lst [D.str "all",D.str "first"]) (.int<|d%2)=!(.str<|z5 d):=by
  ext z5;let:d%2=0\/d%2=1:=()
  obtain z|z:=this<;>rw[z,]<;>rfl
 let small:¬(d%04=03/\e ≠[]/\x+1+xi ld (d/04%(⇑e:3))<=1900)->qp n e q ld x d f=%[%[jt n ((⇑e:3)+1+JU q),z5 d|[Kl f (JU q)]]|x+1]:=λz=>Ze z;cases w:d%04=03
 .cases R:e=[]
  .let i:=small λz=>z.2.1 R;rw[(g,?_,O,by rw[i,];rw[o])];rw[i,];let B:¬(1:3)<(⇑e:3)+1:=by rw[R,];decide
   simp[WY,G,C,E,F,H,I,J,L,i,M,y,N,A,Q,w,B,T,v];rfl
  .let B:0<(⇑e:3):=by let:=Jh.mpr R;lia
   let(t,ht):∃t,d/04%(⇑e:3)=t:=(_,9);let t0:0<=t:=by rw[<-ht];rw[UC _ ()]
   let t1:t<(⇑e:3):=by rw[<-ht];rw[UE _ B]
   let y1:jf (wu<|ld++[x+1]) (.int<|-1)=!(.int<|x+1):=by
    show qo ((ld++[x+1]).map D.int) (-1)=_;rw[Ud,List.map_singleton,Wg]
   let y2:jf (wu<|ld++[x+1]) (.int t)=!(.int<|xi ld t):=Rs t0 ()<|x+1;rw[ht]at small;cases S:x+1+xi ld t<=1900
   .let i:qp n e q ld x d f=%[%[jt n ((⇑e:3)+1+JU q),(qr e t).name|(List.range (qr e t).givens.length).map λj:5=>Kl (f+31*j*j)<|JU q]|x+1+xi ld t]:=by
     ext qp;rw[ht,Zd (w,R,S)]
    let U:jc g l≠8:=by rw[o.hl,];simp
    let X:=o.load<|ld++[x+1+xi ld t];let p2:∀sd,V2 sd (.int<|x+1+xi ld t) l %[.int (-1)|g]=.ok (.next sd<|JC g l<|wu<|ld++[x+1+xi ld t]):=λsd=>by
     rw[Yz o.hl (j:=⇑ld) (by rw[Zql,];rw[Du ld<|x+1]),Ud,List.map_singleton,<-@List.length_map _ _ ld D.int,De];ext wu;rw[Ud,List.map_singleton]
    let(s,hp2e):∃s,s=JC g l (wu<|ld++[x+1+xi ld t]):=(_,9);rw[<-hp2e]at X;simp only[<-hp2e]at p2;let k2:∀b,b≠l->jc s b=jc m b:=λb P=>by rw[hp2e,Qa U P];rw[O b P]
    let w1:=X.dp;let yp:jf (qq<|e++[q]) (.int t)=!(JH<|qr e t):=Rr t0 t1 q;let hg:(qr e t).givens.length<=1000:=hs _<|by
     ext qr;rw[Ul,Zqg ()];rw[UR _]
    let yl:jq [D.lst ((qr e t).givens.map D.str)]=! .int ((qr e t).givens.length:3):=by show some (D.int (⇑((qr e t).givens.map D.str):3))=_;rw[Zql,]
    let yr:Wq [.int ((qr e t).givens.length:3)]=.ok (Qw 0 (qr e t).givens.length):=by rw[XZ () (),Uk]
    rw[(s,?_,k2,by rw[i,];rw[X])];rw[i,];let Y:(1:3)<(⇑e:3)+1:=()
    let Z:j9 (.int<|d/04) (.int (⇑e:3))=! .int t:=by rw[Xw B,ht]
    let ym:qB (.one 0) (J9 WW<|Ju (jd jv (ja 1)<|jd xA (jd xA (dC<|.int 31)<|ja 0)<|ja 0)<|Ju (ja 2) jb) [8,~~~.int f,~~~(.int<|JU q)] (Qw 0 (qr e t).givens.length)=.ok ((List.range (qr e t).givens.length).map λj:5=>qw<|Kl (f+31*j*j)<|JU q):=FK λj hj=>by
     let g31:xA (.int 31) (.int (j:3))=!(.int<|31*j):=9;let g32:xA (.int<|31*(j:3)) (.int (j:3))=!(.int<|31*j*j):=CF<|CG () ();let fj:=Dz (c:=f+31*j*j) hq ();simp[g31,g32,fj]
    let yz:⇑(Qw 0 (qr e t).givens.length)<00:=by rw[AJ,];rw[Qi hg]
    let ef:QK 08 (.tup [.str (jt n<|(⇑e:3)+1+JU q),.str (qr e t).name,.tup ((List.range (qr e t).givens.length).map λj:5=>qw<|Kl (f+31*j*j)<|JU q)])=6:=by
     let:=ZZ 05 %[jt n ((⇑e:3)+1+JU q),(qr e t).name|(List.range (qr e t).givens.length).map λj:5=>Kl (f+31*j*j)<|JU q];unfold jn jU at this;rw[Zw]at this;rw[this]
    simp[WY,G,C,E,F,H,I,J,L,i,M,y,N,A,Q,f3,w,Y,Z,y1,y2,S,p2,w1,yp,yl,yr,ym,yz,ef];ext jn jU;rw[Zw,];rfl
   .let i:=small λz=>S z.2.2;rw[(g,?_,O,by rw[i,];rw[o])];rw[i,];let Y:(1:3)<(⇑e:3)+1:=()
    let Z:j9 (.int<|d/04) (.int (⇑e:3))=! .int t:=by rw[Xw B,ht]
    simp[WY,G,C,E,F,H,I,J,L,i,M,y,N,A,Q,f3,w,Y,Z,y1,y2,S,T,v];rfl
 .let i:=small λz=>w z.1;rw[(g,?_,O,by rw[i,];rw[o])];rw[i,];simp[WY,G,C,E,F,H,I,J,L,i,M,y,N,A,Q,w,T,v];rfl
def HC      {ld:Ye}  (h:StB m p l o a g q (ld++[x]))(s:⇑ld=⇑g)(t:0<⇑i)(u:0<JU q)(j:JU q<1000)(c d:3)
 (v:∀r∈g,⇑r.givens<=1000):∃f,Y8 [.adr p,.adr l,.lst (i.map .str),.int c,.int d] m=.ok %[jn (qp i g q ld x c d).1|f]/\
 (∀b,b≠l->jc f b=jc m b)/\StB f p l o a g q (ld++[(qp i g q ld x c d).2]):=by
 let(-f,e,k,n):=bh h s t u j c d v;rw[(f,WS 9 e λb w=>?_,k,n)];cases y:b=l
 .rw[y,n.hl];simp
 ext
def Y9:qb:=jr (jV 05<|yw (vL<|ja 0)<|vL<|jJ qF<|dC<|.int 1)<|jr (zL<|j3 06<|jd j9 (ja 03)<|dC<|.int 08)<|Qk (xG 05 [05]<|Qz (Jz<|jd qI (ja 06)<|dC<|.int 0)<|Jz<|jd xL (jd jf (ja 05)<|dC<|.int 2)<|qm jb) (jr (qz (vL<|ja 0)<|jG<|J0 (qG 05 [0]<|jd jf (ja 2)<|jj jq<|Ju (ja 0) jb)<|J0 (jG<|J0 (qG 05 [0]<|jd jf (ja 2)<|jd jv (jj jq<|Ju (ja 0) jb)<|dC<|.int 1) j0)<|J0 (jG j0) j0)<|qz (vL<|ja 1)<|vL<|dC<|.int 0)<|Qk (xG 05 [05]<|Qz (Jz<|jd qI (ja 06)<|dC<|.int 1)<|Qz (Jz<|jd qI (jd jf (ja 05)<|dC<|.int 2)<|qm jb)<|Jz<|jd ww (jj jq<|Ju (jd jf (ja 05)<|dC<|.int 1) jb)<|dC<|.int 12) (qz (yw (vL<|ja 05)<|vL<|dC<|.int 1)<|qG 05 [0,05]<|jd jf (ja 2)<|jd j9 (jd jv (jj jq<|Ju (ja 0) jb)<|jj jq<|Ju (jd jf (ja 05)<|dC<|.int 1) jb)<|jj jq<|Ju (ja 2) jb)<|Qk (xG 05 [05]<|Qz (Jz<|jd wx (ja 06)<|dC<|.int 03)<|Qz (Jz<|jd xL (jd jf (ja 05)<|dC<|.int 2)<|qm jb)<|Jz<|jd (x8 7) (jd jf (jd jf (jd jf (ja 05)<|dC<|.int 2)<|jJ qF<|dC<|.int 1)<|dC<|.int 1)<|jH<|Ju (dC<|.str "all")<|Ju (dC<|.str "first") jb) (jr (jV 07<|qG 05 [05]<|jd jf (jd jf (ja 05)<|dC<|.int 2)<|jJ qF<|dC<|.int 1)<|ye (yw (vL<|ja 05)<|vL<|dC<|.int 2) (vL<|jJ qF<|dC<|.int 1)<|qG 05 [05]<|jH<|Ju (jd jf (ja 07)<|dC<|.int 0)<|Ju (jd jf (ja 07)<|dC<|.int 1)<|Ju (jd KU (jd jf (ja 07)<|dC<|.int 2)<|jH<|Ju (J9 WW<|Ju (ja 04)<|Ju (jd yP (jd jv (jj jq<|Ju (jd jf (ja 05)<|dC<|.int 1) jb)<|jj jq<|Ju (jd jf (ja 05)<|dC<|.int 2) jb)<|dC<|.int 1) jb) jb) jb)<|qz (yw (vL<|ja 05)<|vL<|dC<|.int 2)<|Qr Y8<|J0 (vL<|ja 0)<|J0 (vL<|ja 1)<|J0 (vL<|ja 2)<|J0 (vL<|jd JZ (ja 03)<|dC<|.int 08)<|J0 (vL<|ja 04) j0
def Ae:Yq->HP->Wr (D×HP):=qK 08 05 Y9
structure Bst where
 ps:List Pl
 q:Pl
 ld:Ye
 x:3
def Km(h:Str):Bool:=decide (h="all")||decide (h="first")
def JX(a:List (Str×Str×Js)):Str×Str×Js:=a.getLast?.getD %[Str.empty,Str.empty|[]]
def Wi(c:Yg)(s:Bst)(a b:3):Bst:=
 if a%08=0/\s.q.rows ≠[]then(s.ps++[s.q],(jt c<|(⇑s.ps:3)+1,[jt c ((⇑s.ps:3)+1+1)],[]),s.ld++[s.x],0)
 else if a%08=1/\s.q.rows=[]/\⇑s.q.givens<12 then(s.ps,(s.q.name,s.q.givens++[jt c ((⇑s.ps:3)+1+(⇑s.q.givens:3))],s.q.rows),s.ld,s.x)
 else if 03<a%08/\s.q.rows ≠[]/\Km (JX s.q.rows).2.1=6 then(s.ps,(s.q.name,s.q.givens,s.q.rows.dropLast++[%[(JX s.q.rows).1,(JX s.q.rows).2.1|(JX s.q.rows).2.2++[Kl b (JU s.q-1)]]]),s.ld,s.x)
 else(s.ps,(s.q.name,s.q.givens,s.q.rows++[(qp c s.ps s.q s.ld s.x (a/08) b).1]),s.ld,(qp c s.ps s.q s.ld s.x (a/08) b).2)
structure Bsz(s:Bst):4 where
 ll:⇑s.ld=⇑s.ps
 g1:1<=⇑s.q.givens
 ga:∀r∈s.ps++[s.q],⇑r.givens<=12
 ra:⇑s.q.rows<=100
 ta:∀z∈s.q.rows,asc z.1/\asc z.2.1/\1<=⇑z.2.2/\⇑z.2.2<=100
 na:⇑s.ps<=100
def mO:qb:=jr (qz (vL<|ja 0)<|jG<|J0 (qG 05 [0]<|jd jf (ja 2)<|jj jq<|Ju (ja 0) jb)<|J0 (jG<|J0 (qG 05 [0]<|jd jf (ja 2)<|jd jv (jj jq<|Ju (ja 0) jb)<|dC<|.int 1) j0)<|J0 (jG j0) j0)<|qz (vL<|ja 1)<|vL<|dC<|.int 0
def mM:qb:=qz (yw (vL<|ja 05)<|vL<|dC<|.int 1)<|qG 05 [0,05]<|jd jf (ja 2)<|jd j9 (jd jv (jj jq<|Ju (ja 0) jb)<|jj jq<|Ju (jd jf (ja 05)<|dC<|.int 1) jb)<|jj jq<|Ju (ja 2) jb
def mL:qb:=jr (jV 07<|qG 05 [05]<|jd jf (jd jf (ja 05)<|dC<|.int 2)<|jJ qF<|dC<|.int 1)<|ye (yw (vL<|ja 05)<|vL<|dC<|.int 2) (vL<|jJ qF<|dC<|.int 1)<|qG 05 [05]<|jH<|Ju (jd jf (ja 07)<|dC<|.int 0)<|Ju (jd jf (ja 07)<|dC<|.int 1)<|Ju (jd KU (jd jf (ja 07)<|dC<|.int 2)<|jH<|Ju (J9 WW<|Ju (ja 04)<|Ju (jd yP (jd jv (jj jq<|Ju (jd jf (ja 05)<|dC<|.int 1) jb)<|jj jq<|Ju (jd jf (ja 05)<|dC<|.int 2) jb)<|dC<|.int 1) jb) jb) jb
def mK:qb:=qz (yw (vL<|ja 05)<|vL<|dC<|.int 2)<|Qr Y8<|J0 (vL<|ja 0)<|J0 (vL<|ja 1)<|J0 (vL<|ja 2)<|J0 (vL<|jd JZ (ja 03)<|dC<|.int 08)<|J0 (vL<|ja 04) j0
def fG:Y9=(jr (jV 05<|yw (vL<|ja 0)<|vL<|jJ qF<|dC<|.int 1)<|jr (zL<|j3 06<|jd j9 (ja 03)<|dC<|.int 08)<|Qk (xG 05 [05]<|Qz (Jz<|jd qI (ja 06)<|dC<|.int 0)<|Jz<|jd xL (jd jf (ja 05)<|dC<|.int 2)<|qm jb) mO<|Qk (xG 05 [05]<|Qz (Jz<|jd qI (ja 06)<|dC<|.int 1)<|Qz (Jz<|jd qI (jd jf (ja 05)<|dC<|.int 2)<|qm jb)<|Jz<|jd ww (jj jq<|Ju (jd jf (ja 05)<|dC<|.int 1) jb)<|dC<|.int 12) mM<|Qk (xG 05 [05]<|Qz (Jz<|jd wx (ja 06)<|dC<|.int 03)<|Qz (Jz<|jd xL (jd jf (ja 05)<|dC<|.int 2)<|qm jb)<|Jz<|jd (x8 7) (jd jf (jd jf (jd jf (ja 05)<|dC<|.int 2)<|jJ qF<|dC<|.int 1)<|dC<|.int 1)<|jH<|Ju (dC<|.str "all")<|Ju (dC<|.str "first") jb) mL mK):=rfl
def HD{a:List (Str×Str×Js)}(h:∀z∈a,asc z.1/\asc z.2.1):plN 12 (.lst<|a.map jn)=6:=by
 show(a.map jn).all (plN 11)=6;rw[Ur,];intro d c;let(-z,b,rfl):=Jb.mp c;show[D.str z.1,D.str z.2.1,jU z.2.2].all (plN 10)=6;rw[Uv,Uv,KH (h z b).1,KH (h z b).2,Uv,gA 07];rfl
def B8 (h:a ≠[]):a=a.dropLast++[JX a]:=by
 ext JX;rw[List.getLast?_eq_getLast h,];rw[(List.dropLast_concat_getLast h).symm]
section
variable     {s:Bst}
abbrev xX(p l:Addr)(ws:Yg)(what cell:3)(a:Addr):SD:=[~~~.adr p,~~~.adr l,~~~(.lst<|ws.map .str),~~~.int what,~~~.int cell,~~~.adr a,~~~(.int<|what%08),8]
def Rt(h:StB j p l H a s.ps s.q (s.ld++[s.x]))(z:Bsz s)(c d:3):Y9 [~~~.adr p,~~~.adr l,~~~(.lst<|t.map .str),~~~.int c,~~~.int d,8,8,8] j=
 if c%08=0/\s.q.rows ≠[]then mO (xX p l t c d a.1) j else if c%08=1/\s.q.rows=[]/\⇑s.q.givens<12 then mM (xX p l t c d a.1) j else if 03<c%08/\s.q.rows ≠[]/\Km (JX s.q.rows).2.1=6 then mL (xX p l t c d a.1) j else mK (xX p l t c d a.1) j:=by
 let m:xm (.adr p) %[.int (-1)|j]=.ok %[.adr a.1|j]:=by
  rw[Wa (q:=%[D.int (-1)|j]) h.hp_,];show(Wr.of<|.ofO<|qo ((H++[a]).map λb=>D.adr b.1)<|-1).bind _=_;rw[Ud,List.map_singleton,Wg];rfl
 let n:=h.da;let A:=HD λy u=>((z.ta y u).1,(z.ta y u).2.1);let f:=PU A;let g:=Hd A;let o:jq [D.lst (s.q.givens.map D.str)]=! .int (⇑s.q.givens:3):=by show some (D.int (⇑(s.q.givens.map D.str):3))=_;rw[Zql,]
 let B:(⇑s.q.givens:3)<12 ↔⇑s.q.givens<12:=()
 rw[fG,];cases i:s.q.rows=[]
 .rw[i]at f g;simp at f g;cases r:c%08=1
  .cases C:⇑s.q.givens<12
   .simp[xX,m,n,i,f,g,o,r,B,C]
   .simp[xX,m,n,i,f,g,o,r,B,C]
  ext
 .let E:=B8 i;let I:JX s.q.rows∈s.q.rows:=by
   let:=Uf s.q.rows.dropLast<|Jc.mpr (9:JX s.q.rows=JX s.q.rows);rw[<-E]at this;rw[this]
  let J:asc (JX s.q.rows).2.1:=(z.ta _ I).2.1;let F:jf (.lst<|s.q.rows.map jn) (.int<|-1)=!(jn<|JX s.q.rows):=by
   show qo (s.q.rows.map jn) (-1)=_;let:s.q.rows.map jn=s.q.rows.dropLast.map jn++[jn (JX s.q.rows)]:=by
    conv=>lhs;rw[E]
    simp
   rw[this,Wg]
  let G:x8 7 (.str (JX s.q.rows).2.1) (.tup [D.str "all",D.str "first"])=!(.bl<|Km (JX s.q.rows).2.1):=by
   let:=Ht (neg:=7) (x:=(JX s.q.rows).2.1) (xs:=["all","first"]) J<|by
    intro y u;let:y="all"\/y="first":=by simpa using u
    obtain rfl|rfl:=this<;>ext asc<;>decide+kernel
   rw[show D.tup (List.map D.str ["all","first"])=D.tup [D.str "all",D.str "first"]from 9]at this;rw[this,];ext Km;simp
  let L:s.q.rows.isEmpty=7:=by induction e:s.q.rows with|nil=>rw[Zn e i]|cons _ _=>rfl
  rw[L]at f g;cases v:c%08=0
  .simp[xX,m,n,i,f,g,o,v]
  .cases r:c%08=1
   .simp[xX,m,n,i,f,g,o,r]
   .cases w:03<c%08
    .induction c4:Km (JX s.q.rows).2.1
     .simp[xX,m,n,i,f,g,o,v,r,w,F,G,c4]
     .simp[xX,m,n,i,f,g,o,v,r,w,F,G,c4]
    .simp[xX,m,n,i,f,g,o,v,r,w]
def B9(h:StB b p l c a s.ps s.q (s.ld++[s.x])):xm (.adr a.1) %[.int 1|b]=.ok %[.adr a.2.1|b]/\xm (.adr a.1) %[.int 2|b]=.ok %[.adr a.2.2|b]:=by
 constructor<;>rw[Wa h.at_.pl,]<;>rfl
def Ru(h:StB e p l n a s.ps s.q (s.ld++[s.x]))(z:Bsz s)(f:0<⇑d)(b c:3):mM (xX p l d b c a.1) e=.ok (.next (xX p l d b c a.1)<|JC e a.2.1<|.lst<|(s.q.givens++[jt d ((⇑s.ps:3)+1+(⇑s.q.givens:3))]).map .str):=by
 let g:=h.dp;let i:=h.da;let j:jq [qq (s.ps++[s.q])]=!(.int<|(⇑s.ps:3)+1):=by show some (D.int (⇑((s.ps++[s.q]).map JH):3))=_;simp
 let m:⇑(s.q.givens.map D.str)<00:=by rw[Zql,];rw[Qi<|by let:=z.ga s.q ();lia]
 ext mM;simp[(B9 h).1,Ww h.at_.gv,g,i,D0 f<|(⇑s.ps:3)+1+(⇑s.q.givens:3),j,f,Wx h.at_.gv m]
def Rv(h:StB g p l G a s.ps s.q (s.ld++[s.x]))(z:Bsz s)(e b:3)(m:s.q.rows ≠[]):∃sd,mL (xX p l o e b a.1) g=.ok (.next sd<|JC g a.2.2<|.lst<|(s.q.rows.dropLast++[%[(JX s.q.rows).1,(JX s.q.rows).2.1|(JX s.q.rows).2.2++[Kl b (JU s.q-1)]]]).map jn):=by
 let r:=h.da;let t:=(B9 h).2;let n:=B8 m;let u:JX s.q.rows∈s.q.rows:=by
  let:=Uf s.q.rows.dropLast<|Jc.mpr (9:JX s.q.rows=JX s.q.rows);rw[<-n]at this;rw[this]
 let(!_,_,H,I):=z.ta _ u;let f:s.q.rows.map jn=s.q.rows.dropLast.map jn++[jn (JX s.q.rows)]:=by
  conv=>lhs;rw[n]
  simp
 let v:jf (.lst<|s.q.rows.map jn) (.int<|-1)=!(jn<|JX s.q.rows):=by
  show qo (s.q.rows.map jn) (-1)=_;rw[f,Wg]
 let w:jq [D.lst (s.q.givens.map D.str)]=! .int (⇑s.q.givens:3):=by show some (D.int (⇑(s.q.givens.map D.str):3))=_;rw[Zql,]
 let y:jq [D.lst (s.q.rows.map jn)]=! .int (⇑s.q.rows:3):=by show some (D.int (⇑(s.q.rows.map jn):3))=_;rw[Zql,]
 let A:(⇑s.q.givens:3)+(⇑s.q.rows:3)=JU s.q:=9;let J:=z.g1;let L:=z.ga s.q ();let M:=z.ra;let B:=Dz (c:=b) (a:=JU s.q-1) (by ext JU;let:=Jh.mpr m;lia) (by ext JU;lia);let C:KU (jU (JX s.q.rows).2.2) (.tup [qw (Kl b<|JU s.q-1)])=!(jU<|(JX s.q.rows).2.2++[Kl b (JU s.q-1)]):=by
  show(if((JX s.q.rows).2.2.map qw).length+1<=00 then !(D.tup<|(JX s.q.rows).2.2.map qw++[qw (Kl b<|JU s.q-1)])else 8)=_;rw[Zd (small<|by rw[Zql,];lia),];ext jU;rw[Ud,List.map_singleton]
 let E:=ZZ 05 %[(JX s.q.rows).1,(JX s.q.rows).2.1|(JX s.q.rows).2.2++[Kl b (JU s.q-1)]];let i:QK 08 (.tup [.str (JX s.q.rows).1,.str (JX s.q.rows).2.1,jU ((JX s.q.rows).2.2++[Kl b (JU s.q-1)])])=6:=E;let F:∀sd d,V2 sd d a.2.2 %[.int (-1)|g]=.ok (.next sd<|JC g a.2.2<|.lst<|s.q.rows.dropLast.map jn++[d]):=λsd d=>by
  rw[Yz h.at_.rw_ (j:=⇑s.q.rows.dropLast) (by rw[f,<-@List.length_map _ _ s.q.rows.dropLast jn];rw[Du _ _]),f,<-@List.length_map _ _ s.q.rows.dropLast jn,De]
 let fr:=ZZ 05<|JX s.q.rows;rw[([~~~.adr p,~~~.adr l,~~~(.lst<|o.map .str),~~~.int e,~~~.int b,~~~.adr a.1,~~~(.int<|e%08),~~~(jn<|JX s.q.rows)],?_)];ext mL;simp[xX,t,r,v,w,y,A,B,C,i,fr,F];rfl
def Rw(h:StB i p l j a s.ps s.q (s.ld++[s.x]))(z:Bsz s)(m:0<⇑ws)(c d:3):∃f,mK (xX p l ws c d a.1) i=.ok (.next (xX p l ws c d a.1) f)/\(∀b,jc i b≠8->jc f b≠8)/\
 StB f p l j a s.ps (s.q.name,s.q.givens,s.q.rows++[(qp ws s.ps s.q s.ld s.x (c/08) d).1]) (s.ld++[(qp ws s.ps s.q s.ld s.x (c/08) d).2]):=by
 let t:=z.g1;let u:=z.ga s.q ();let v:=z.ra;let(-f,e,k,g):=HC h z.ll m (by ext JU;lia) (by ext JU;lia) (c/08) d λr n=>by let:=z.ga r (by simp[n]);lia
 let o:⇑(s.q.rows.map jn)<00:=by rw[Zql,];rw[Qi ()]
 rw[(JC f a.2.2<|.lst<|(s.q.rows++[(qp ws s.ps s.q s.ld s.x (c/08) d).1]).map jn,?_,λb w=>ZQ ?_,g.rows<|s.q.rows++[(qp ws s.ps s.q s.ld s.x (c/08) d).1])]
 .ext mK;simp[(B9 h).2,Ww h.at_.rw_,e,Wx g.at_.rw_ o]
 .cases y:b=l
  .rw[y,g.hl];simp
  ext
def WZ{k:5}(a:k<⇑ws):jf (.lst<|ws.map .str) (.int (k:3))=!(.str<|jt ws (k:3)):=by
 let:=D0 (ws:=ws) () (k:3);rw[Vb () ()]at this;rw[this]
def Rx(h:StB i p l C a s.ps s.q (s.ld++[s.x]))(z:Bsz s)(hw:⇑s.ps+2<⇑ws)(e f:3):(mO (xX p l ws e f a.1) i).need (λo=>∃sd v G a',o=.next sd v/\(∀b,jc i b≠8->jc v b≠8)/\
 StB v p l G a' (s.ps++[s.q]) (jt ws<|(⇑s.ps:3)+1,[jt ws ((⇑s.ps:3)+1+1)],[]) (s.ld++[s.x]++[0])) λ_ _=>False:=by
 let e1:=h.dp;let ep:jq [qq (s.ps++[s.q])]=!(.int<|(⇑s.ps:3)+1):=by show some (D.int (⇑((s.ps++[s.q]).map JH):3))=_;rw[Zql,Ub,Uj];simp
 let U:=WZ (ws:=ws) (k:=⇑s.ps+1) ();let X:=WZ (ws:=ws) (k:=⇑s.ps+1+1) ();rw[show((⇑s.ps+1:5):3)=(⇑s.ps:3)+1 by lia]at U;rw[show((⇑s.ps+1+1:5):3)=(⇑s.ps:3)+1+1 by lia]at X;let(Y,n2,n3,n4,n5,n6,n7,n8,n9,n10,H):=h.ne;let I:(jG<|J0 (qG 05 [0]<|jd jf (ja 2)<|jj jq<|Ju (ja 0) jb)<|J0 (jG<|J0 (qG 05 [0]<|jd jf (ja 2)<|jd jv (jj jq<|Ju (ja 0) jb)<|dC<|.int 1) j0)<|J0 (jG j0) j0) (xX p l ws e f a.1) i=
  .new i λg=>.new (%[g|.lst [.str (jt ws<|(⇑s.ps:3)+1+1)]]::i) λr=>.new (%[r|.lst []]::%[g|.lst [.str (jt ws<|(⇑s.ps:3)+1+1)]]::i) λb=>.ok %[.adr b|%[b|.lst [.str (jt ws<|(⇑s.ps:3)+1),.adr g,.adr r]]::%[r|.lst []]::%[g|.lst [.str (jt ws<|(⇑s.ps:3)+1+1)]]::i]:=by
  simp[xX,e1,ep,U,X]
 ext mO;rw[Bf,];rw[Wr.need_bind.mpr ?_];let e0:qz (vL<|ja 0) (jG<|J0 (qG 05 [0]<|jd jf (ja 2)<|jj jq<|Ju (ja 0) jb)<|J0 (jG<|J0 (qG 05 [0]<|jd jf (ja 2)<|jd jv (jj jq<|Ju (ja 0) jb)<|dC<|.int 1) j0)<|J0 (jG j0) j0) (xX p l ws e f a.1) i=
  ((jG<|J0 (qG 05 [0]<|jd jf (ja 2)<|jj jq<|Ju (ja 0) jb)<|J0 (jG<|J0 (qG 05 [0]<|jd jf (ja 2)<|jd jv (jj jq<|Ju (ja 0) jb)<|dC<|.int 1) j0)<|J0 (jG j0) j0) (xX p l ws e f a.1) i).bind (VF (xX p l ws e f a.1) p):=by
  show WK _ (xX p l ws e f a.1) %[.adr p|i]=_;rw[Ww h.hp_,]
 rw[e0,I];intro g hg r A b u;rw[JK]at A;let J:r≠g:=λy=>by rw[Zd y]at A;cases A
 rw[Ze J]at A;rw[JK]at u;let L:b≠r:=λy=>by rw[Zd y]at u;cases u
 rw[Ze L,JK]at u;let M:b≠g:=λy=>by rw[Zd y]at u;cases u
 rw[Ze M]at u;let(n,h3e):∃n:HP,n=%[b|.lst [.str (jt ws<|(⇑s.ps:3)+1),.adr g,.adr r]]::%[r|.lst []]::%[g|.lst [.str (jt ws<|(⇑s.ps:3)+1+1)]]::i:=(_,9);let j:∀c,jc i c≠8->jc n c=jc i c/\c≠b/\c≠r/\c≠g:=λc hc=>by
  let E:c≠b:=λy=>hc (by rw[y,];rw[u]);let F:c≠r:=λy=>hc (by rw[y,];rw[A]);let Z:c≠g:=λy=>hc (by rw[y,];rw[hg]);rw[(?_,E,F,Z)];rw[h3e,JK,Ze E,JK,Ze F,JK,Ze Z]
 let N:jc n b=! .lst [.str (jt ws<|(⇑s.ps:3)+1),.adr g,.adr r]:=by rw[h3e,JK,Zd 9]
 let O:jc n r=! .lst []:=by rw[h3e,JK,Ze L.symm,JK,Zd 9]
 let P:jc n g=! .lst [.str (jt ws<|(⇑s.ps:3)+1+1)]:=by rw[h3e,JK,Ze M.symm,JK,Ze J.symm,JK,Zd 9]
 let(!Q,pb,pr,pg):=j p (by rw[h.hp_,];simp);let(!ol,lb,lr,lg):=j l (by rw[h.hl,];simp);rw[h.hp_]at Q;rw[h.hl]at ol;let la:=h.len;let zn:=z.na;show(VF (xX p l ws e f a.1) p %[.adr b|_]).need _ _;rw[<-h3e,Wx Q (by rw[Zql,Ub,Uj];rw[Qi ()])];show(qz (vL<|ja 1) (vL<|dC<|.int 0) (xX p l ws e f a.1) _).need _ _;let(t,h4e):∃t,t=JC n p (.lst<|(C++[a]).map (λb=>D.adr b.1)++[.adr b]):=(_,9);rw[<-h4e];let pn:jc n p≠8:=by rw[Q,];simp
 let B:∀c,c≠p->jc t c=jc n c:=λc hc=>by rw[h4e,];rw[Qa pn hc]
 let w:jc t l=!(.lst<|(s.ld++[s.x]).map .int):=(B l Y.symm).trans ol;let R:⇑((s.ld++[s.x]).map D.int)<00:=by rw[Zql,Ub,Uj];rw[Qi<|by let:=z.ll;lia]
 let e5:qz (vL<|ja 1) (vL<|dC<|.int 0) (xX p l ws e f a.1) t=.ok (.next (xX p l ws e f a.1)<|JC t l<|.lst<|(s.ld++[s.x]).map D.int++[.int 0]):=by
  show WK _ (xX p l ws e f a.1) %[.adr l|t]=_;rw[Ww w,];show VF _ _ %[.int 0|t]=_;rw[Wx w R,]
 rw[e5,];let S:jc t l≠8:=by rw[w,];simp
 let m:∀c,c≠p->c≠l->jc (JC t l<|.lst<|(s.ld++[s.x]).map D.int++[.int 0]) c=jc n c:=λc E F=>by rw[Qa S F,B c E]
 rw[jX _ _ (C++[a]) %[b,g|r] (9,λc hc=>ZQ<|by rw[h4e,];rw[ZQ<|by rw[(j c hc).1,];rw[hc]],?_)];rw[(?_,?_,(h.all.mono λc hc=>?_).snoc<|h.at_.mono λc hc=>?_,(?_,?_,?_),?_)]
 .rw[Qa S Y,h4e,KG pn];simp
 .rw[KG S,];simp
 .let(!k1,k2,_):=H c hc;rw[(m c k1 k2).trans (j c<|h.all.has c hc).1]
 .let hh:=h.at_.has c hc;let:c=a.1\/c=a.2.1\/c=a.2.2:=by simpa using hc
  rw[(m c ?_ ?_).trans (j c hh).1]
  .rcases this with rfl|rfl|rfl
   .rw[n2.symm]
   .rw[n3.symm]
   .rw[n4.symm]
  .rcases this with rfl|rfl|rfl
   .rw[n5.symm]
   .rw[n6.symm]
   .rw[n7.symm]
 .rw[(m b pb.symm lb.symm).trans N]
 .rw[(m g pg.symm lg.symm).trans P]
 .rw[(m r pr.symm lr.symm).trans O]
 .let nd:=h.nd;let has:∀c∈p::l::jI (C++[a]),jc i c≠8:=λc hc=>by
   obtain rfl|hc:=Ux.mp hc
   .rw[h.hp_,];simp
   .rcases Ux.mp hc with rfl|hc
    .rw[h.hl,];simp
    .rw[(h.all.snoc h.at_).has c hc]
  rw[WR,];show(p::l::jI (C++[a])++[b,g,r]).Nodup;rw[Jf.mpr (nd,?_,λc hc d hd y=>?_)]
  .simp[M,L,J.symm]
  .let T:=j c<|has c hc;let:d=b\/d=g\/d=r:=by simpa using hd
   obtain rfl|rfl|rfl:=this
   .rw[T.2.1 y]
   .rw[T.2.2.2 y]
   .rw[T.2.2.1 y]
def Ry(h:StB u p l i a s.ps s.q (s.ld++[s.x]))(z:Bsz s)(v:⇑s.ps+2<⇑ws)(d f:3):(Ae [.adr p,.adr l,.lst (ws.map .str),.int d,.int f] u).need (λr=>∃g j,StB r.2 p l g j (Wi ws s d f).ps (Wi ws s d f).q ((Wi ws s d f).ld++[(Wi ws s d f).x])) λ_ _=>False:=by
 rw[Bg 9 ?_];show(Wr.bind (Y9 [~~~.adr p,~~~.adr l,~~~(.lst<|ws.map .str),~~~.int d,~~~.int f,8,8,8] u) qi).need _ _;rw[Rt h z,];ext Wi
 split
 .rw[Wr.need_bind.mpr<|(Rx h z v d f).mono (λo w=>?_) λ_ _ y=>y];let(sd m g j,rfl,k,n):=w;rw[(k,g,j,n)]
 .split
  .rw[Ru h z (),];rw[(λb t=>ZQ t,i,a,h.given _)]
  .split
   .rename_i c;let(sd,e):=Rv h z d f c.2.1;rw[e,];rw[(λb t=>ZQ t,i,a,h.rows _)]
   .let(-m,e,k,n):=Rw (ws:=ws) h z () d f;rw[e,];rw[(k,i,a,n)]
end
def Af:qb:=jr (zL<|j3 1<|J9 V6<|Ju (ja 0)<|Ju (dC<|.int 34) jb)<|jr (jV 2<|jG<|J0 (jG<|J0 (vL<|jd jf (ja 1)<|dC<|.int 0)<|J0 (jG<|J0 (vL<|jd jf (ja 1)<|dC<|.int 1) j0)<|J0 (jG j0) j0) j0)<|jr (jV 03<|jG<|J0 (vL<|dC<|.int 0) j0)<|jr (zy (fB<|Ju (dC<|.int 2)<|Ju (jj Xv<|Ju (jj jq<|Ju (ja 0) jb)<|Ju (dC<|.int 62) jb)<|Ju (dC<|.int 2) jb) (.one 04)<|Kk<|Qr Ae<|J0 (vL<|ja 2)<|J0 (vL<|ja 03)<|J0 (vL<|ja 1)<|J0 (vL<|jd jf (ja 0)<|ja 04)<|J0 (vL<|J9 QH<|Ju (ja 0)<|Ju (jd jv (ja 04)<|dC<|.int 1) jb) j0)<|jr (Qk (xG 05 [2]<|Jz<|jd qI (jd jf (jd jf (ja 2)<|jJ qF<|dC<|.int 1)<|dC<|.int 2)<|qm jb) (qz (yw (yw (vL<|ja 2)<|vL<|jJ qF<|dC<|.int 1)<|vL<|dC<|.int 2)<|Qr Y8<|J0 (vL<|ja 2)<|J0 (vL<|ja 03)<|J0 (vL<|ja 1)<|J0 (vL<|dC<|.int 0)<|J0 (vL<|dC<|.int 0) j0) QD)<|qT<|vL<|ja 2
def YA:Yq->HP->Wr (D×HP):=qK 05 1 Af
structure RwW(ps:List Pl)(ahead:3)(n:5)(r:Str×Str×Js):4 where
 how:Km r.2.1=6/\⇑r.2.2<=n+1\/Km r.2.1=7/\∃p∈ps,r.2.1=p.name/\⇑r.2.2=⇑p.givens
 low:1<=⇑r.2.2
 its:ItOk ahead r.2.2
structure PlW(ws:Yg)(i:5)(ps:List Pl)(n:5)(q:Pl):4 where
 nm:q.name=jt ws (i:3)
 th:∀(k:5)(x:Str),(q.givens++q.rows.map (·.1))[k]?=!x->x=jt ws ((i:3)+1+(k:3))
 g1:1<=⇑q.givens
 g12:⇑q.givens<=12
 sz:i+⇑q.givens+⇑q.rows<=n+1
 rw_:∀(k:5)(r:Str×Str×Js),q.rows[k]?=!r->RwW ps ((⇑q.givens:3)+(k:3)) n r
structure BW(ws:Yg)(n:5)(s:Bst):4 where
 all:∀(i:5)(q:Pl),s.ps[i]?=!q->PlW ws i (s.ps.take i) n q/\q.rows ≠[]
 last:PlW ws ⇑s.ps s.ps n s.q
 ll:⇑s.ld=⇑s.ps
def RwW.mono    (h:RwW g e n r)(l:n<=i)(j:∀p∈g,p∈f):RwW f e i r:=
 (h.how.imp (λ(a,b)=>(a,())) λ(a,p,b,c)=>(a,p,j p b,c),h.low,h.its)
theorem PlW.mono     (h:PlW a i b n q)(c:n<=e):PlW a i b e q:=
 (h.nm,h.th,h.g1,h.g12,by let:=h.sz;lia,λk r f=>(h.rw_ k r f).mono c λ_ y=>y)
structure WsOk(ws:Yg):4 where
 len:⇑ws=34
 nd:ws.Nodup
 ok:∀w∈ws,zC w
def WsOk.at_ (W:WsOk a)(k:3):jt a k∈a:=by
 let b:0<=k%(⇑a:3):=UC _ (by let:=W.len;lia);let c:k%(⇑a:3)<(⇑a:3):=UE _<|by let:=W.len;lia
 simp_all[jt]
def zC.noHow (h:zC x):Km x=7:=by
 let(-m,_,_,a):=h;ext Km;rw[Bool.or_eq_false_iff,];rw[(Zo λz=>a ?_,Zo λz=>a ?_)]<;>rw[z,]<;>simp[zw]
def Rz (e:Km h=6):TxtOk 12 h:=by
 unfold Km at e;rw[UF,decide_eq_true_eq,decide_eq_true_eq]at e;obtain rfl|rfl:=e
 .rw[Qy<|by decide+kernel]
 .rw[Qy<|by decide+kernel]
def BW.names(B:BW a n s)(W:WsOk a):∀p∈s.ps++[s.q],p.name∈a/\1<=⇑p.givens/\⇑p.givens<=12:=λp b=>by
 obtain z|z:=Jd.mp b
 .let(-i,c):=Ug z;let:=(B.all i p c).1;rw[(by rw[this.nm,];rw[W.at_ _],this.g1,this.g12)]
 .rw[Jc.mp z,];rw[(by rw[B.last.nm,];rw[W.at_ _],B.last.g1,B.last.g12)]
def PlW.rowTxt   (P:PlW f i l n q)(W:WsOk f)(g:∀p∈l,p.name∈f/\1<=⇑p.givens/\⇑p.givens<=12):∀z∈q.rows,zC z.1/\TxtOk 12 z.2.1/\1<=⇑z.2.2/\⇑z.2.2<=n+13:=λz o=>by
 let(k,j):=Ug o;let R:=P.rw_ k z j;let e:(q.givens++q.rows.map (·.1))[⇑q.givens+k]?=!z.1:=by
  rw[Us (),Nat.add_sub_cancel_left,Zv,j];rfl
 let:=P.th _ _ e;rw[(by rw[this,];rw[W.ok _<|W.at_ _],?_,R.low,?_)]
 .rcases R.how with ⟨a,_⟩|⟨_,p,b,c,_⟩
  .rw[Rz a]
  .rw[c,];rw[(W.ok _ (g p b).1).ok]
 .rcases R.how with ⟨_,a⟩|⟨_,p,b,_,c⟩
  .omega
  .let:=(g p b).2.2;lia
theorem BW.sz(B:BW e n s)(W:WsOk e)(l:n<=31):Bsz s:=by
 let L:=B.last.sz;let f:=B.last.g1;rw[(B.ll,f,λr g=>(B.names W r g).2.2,(),λz i=>?_,())];let(!a,b,c,d):=B.last.rowTxt W λp j=>B.names W p<|by simp[j] z i;rw[(a.ok.asc,b.asc,c,())]
def D3 (h:0<a):0<=(Kl c a).1/\(Kl c a).1<a:=(UC _ (),UE _ h)
def R0  (b:0<=k)(c:k<(⇑a:3)):qr a k∈a:=by
 ext qr;rw[Ul,Zqg ()];rw[UR _]
def R3(B:BW d n s)(W:WsOk d)(a b:3):(qp d s.ps s.q s.ld s.x a b).1.1=jt d ((⇑s.ps:3)+1+JU s.q)/\RwW s.ps (JU s.q) n (qp d s.ps s.q s.ld s.x a b).1:=by
 let e:0<JU s.q:=by ext JU;let:=B.last.g1;lia
 ext qp
 split
 .rename_i c;let g:0<(⇑s.ps:3):=by let:=Jh.mpr c.2.1;lia
  let i:0<=a/04%(⇑s.ps:3):=UC _ ();let l:a/04%(⇑s.ps:3)<(⇑s.ps:3):=UE _ g;let f:=R0 i l;have(m,o,r):=B.names W _ (Uo _ f);rw[(9,.inr ((W.ok _ m).noHow,_,f,9,()),by simpa using o,λp h=>?_,λp h=>?_)]
  .let(j,_,rfl):=Jb.mp h;rw[D3 e]
  .let(j,_,rfl):=Jb.mp h;rw[Dy _]
 .rw[(9,.inl (?_,()),(),λp h=>?_,λp h=>?_)]
  .grind[z5,Km]
  .rw[Jc.mp h,];rw[D3 e]
  .rw[Jc.mp h,];rw[Dy _]
def HE(B:BW f n s)(W:WsOk f)(a b x:3):BW f (n+1) (s.ps,(s.q.name,s.q.givens,s.q.rows++[(qp f s.ps s.q s.ld s.x a b).1]),s.ld,x):=by
 let(j,l):=R3 B W a b;let L:=B.last;rw[(λi q h=>((B.all i q h).1.mono (),(B.all i q h).2),(L.nm,λk x c=>?_,L.g1,L.g12,by let:=L.sz;simp;lia,λk r d=>?_),B.ll)]
 .rw[Ud,List.map_singleton,<-Uq]at c;obtain z|z:=Vc k (s.q.givens++s.q.rows.map (·.1)).length
  .rw[Ui z]at c;rw[L.th k x c]
  .rw[Us z,Ub,Zql]at c;rw[Ub,Zql]at z;let g:k-(⇑s.q.givens+⇑s.q.rows)=0:=by
    let:=(Ja.mp c).1;simp at this;lia
   rw[g]at c;let c:(qp f s.ps s.q s.ld s.x a b).1.1=x:=Zqi c;rw[<-c,j];show jt f ((⇑s.ps:3)+1+JU s.q)=jt f ((⇑s.ps:3)+1+(k:3));ext JU
   congr 1
   lia
 .rcases Vc k ⇑s.q.rows with z|z
  .rw[Ui z]at d;rw[(L.rw_ k r d).mono () λ_ y=>y]
  .rw[Us z]at d;let g:k-⇑s.q.rows=0:=by
    let:=(Ja.mp d).1;simp at this;lia
   rw[g]at d;let d:(qp f s.ps s.q s.ld s.x a b).1=r:=Zqi d;rw[<-d];let e:(⇑s.q.givens:3)+(k:3)=JU s.q:=by ext JU;lia
   rw[e,];rw[l.mono () λ_ y=>y]
def R4(B:BW f n s)(W:WsOk f)(g b:3):BW f (n+1) (Wi f s g b):=by
 let L:=B.last;let up:∀i q,s.ps[i]?=!q->PlW f i (s.ps.take i) (n+1) q/\q.rows ≠[]:=λi q e=>((B.all i q e).1.mono (),(B.all i q e).2);ext Wi
 split
 .rename_i c;rw[(λi q e=>?_,((),λk x a=>?_,(),(),by let:=L.sz;let:=L.g1;simp;lia,λk r d=>by simp at d),by simp[B.ll])]
  .let e:(s.ps++[s.q])[i]?=!q:=e;obtain z|z:=Vc i ⇑s.ps
   .rw[Ui z]at e;let(!o,t):=up i q e;rw[show(s.ps++[s.q]).take i=s.ps.take i by rw[Vo (),],];rw[(o,t)]
   .let j:=(Ja.mp e).1;simp at j;let u:i=⇑s.ps:=()
    subst u;rw[Us (Zf _),UY]at e;let e:s.q=q:=Zqi e;subst e;rw[show(s.ps++[s.q]).take ⇑s.ps=s.ps by simp,];rw[(L.mono (),c.2)]
  .let l:k=0:=by
    let:=(Ja.mp a).1;simp at this;lia
   subst l;let a:jt f ((⇑s.ps:3)+1+1)=x:=Zqi a;rw[<-a];simp
 .split
  .rename_i c;rw[(up,(L.nm,λk x a=>?_,(),by simp;lia,by let:=L.sz;simp;lia,λk r d=>?_),B.ll)]
   .let a:(s.q.givens++[jt f ((⇑s.ps:3)+1+(⇑s.q.givens:3))]++s.q.rows.map (·.1))[k]?=!x:=a;rw[c.2.1,List.map_nil,ZA]at a;obtain z|z:=Vc k ⇑s.q.givens
    .rw[Ui z]at a;rw[L.th k x ?_];rw[Ui z,];rw[a]
    .rw[Us z]at a;let l:k-⇑s.q.givens=0:=by
      let:=(Ja.mp a).1;simp at this;lia
     rw[l]at a;let a:jt f ((⇑s.ps:3)+1+(⇑s.q.givens:3))=x:=Zqi a;rw[<-a];show _=jt f ((⇑s.ps:3)+1+(k:3))
     congr 1
     lia
   ext
  .split
   .rename_i c;let j:=B8 c.2.1;let A:=Jh.mpr c.2.1;let ld:⇑s.q.rows.dropLast=⇑s.q.rows-1:=List.length_dropLast;let h:s.q.rows[⇑s.q.rows-1]?=! JX s.q.rows:=by
     conv=>lhs;rw[j]
     rw[Us (by rw[List.length_dropLast,];simp),];simp
    rw[(up,(L.nm,λk x a=>?_,L.g1,L.g12,by let:=L.sz;simp;lia,λk r d=>?_),B.ll)]
    .rw[L.th k x ?_];rw[<-a]
     congr 1
     show s.q.givens++s.q.rows.map (·.1)=s.q.givens++_
     congr 1
     conv=>lhs;rw[j]
     simp
    .let d:(s.q.rows.dropLast++[%[(JX s.q.rows).1,(JX s.q.rows).2.1|(JX s.q.rows).2.2++[Kl b (JU s.q-1)]]])[k]?=!r:=d;obtain z|z:=Vc k ⇑s.q.rows.dropLast
     .rw[Ui z]at d;rw[(L.rw_ k r ?_).mono () λ_ y=>y]
      conv=>lhs;rw[j]
      rw[Ui z,];rw[d]
     .rw[Us z]at d;let l:k-⇑s.q.rows.dropLast=0:=by
       let:=(Ja.mp d).1;simp at this;lia
      rw[l]at d;let d:%[(JX s.q.rows).1,(JX s.q.rows).2.1|(JX s.q.rows).2.2++[Kl b (JU s.q-1)]]=r:=Zqi d;let R:=L.rw_ _ _ h;let v:((⇑s.q.rows-1:5):3)=(k:3):=()
      rw[v]at R;rw[<-d];let w:JU s.q-1=(⇑s.q.givens:3)+(k:3):=by ext JU;lia
      rw[(.inl (c.2.2,?_),(),λp m=>?_,λp m=>?_)]
      .rcases R.how with ⟨_,y⟩|⟨y,_⟩
       .simp;lia
       .rw[c.2.2]at y;cases y
      .rcases Jd.mp m with y|y
       .rw[R.its.rng p y]
       .rw[Jc.mp y,w];rw[D3<|by let:=L.g1;lia]
      .rcases Jd.mp m with y|y
       .rw[R.its.far p y]
       .rw[Jc.mp y,];rw[Dy _]
   .rw[HE B W (g/08) b _]
def HF(b:Ye):∃a:Yg,V6 [.lst (b.map .int),.int 34]=.ok (.lst<|a.map .str)/\⇑a=34/\a.Nodup/\∀w∈a,zC w:=bj (many:=34) ()
def qc(a:Ye):Yg:=Classical.choose<|HF a
def KQ(a:Ye):V6 [.lst (a.map .int),.int 34]=.ok (.lst<|(qc a).map .str)/\WsOk (qc a):=by
 let(!b,c,d,e):=Vd (HF a);rw[(b,c,d,e)]
def qU(a:Ye):Bst:=([],(jt (qc a) 0,[jt (qc a) 1],[]),[],0)
def Qn(a:Ye):5->Bst
 |0=>qU a
 |j+1=>Wi (qc a) (Qn a j) (Qm a ((2+j*2:5):3)) (Qm a ((2+j*2+1:5):3))
def Qd(a:Ye):5:=((min (⇑a:3) 62-2+1)/2).toNat
def v9(a:Ye)(s:Bst):Bst:=if s.q.rows=[]then(s.ps,(s.q.name,s.q.givens,s.q.rows++[(qp (qc a) s.ps s.q s.ld s.x 0 0).1]),s.ld,(qp (qc a) s.ps s.q s.ld s.x 0 0).2)else s
def Kf(a:Ye):Bst:=v9 a<|Qn a<|Qd a
def Qf(a:Ye):List Pl:=(Kf a).ps++[(Kf a).q]
def R5(a:Ye):BW (qc a) 0 (qU a):=by
 rw[(λi q b=>by simp[qU]at b,(9,λk x d=>?_,by simp[qU],by simp[qU],by simp[qU],λk r c=>by simp[qU]at c),9)]
 grind[qU]
theorem YB(a:Ye):∀j,BW (qc a) j (Qn a j)
 |0=>R5 a
 |j+1=>R4 (YB a j) (KQ a).2 _ _
def BA(a:Ye):Qd a<=30:=by
 ext Qd;lia
def D4(a:Ye):BW (qc a) 31 (Kf a)/\(Kf a).q.rows ≠[]:=by
 let h:=YB a<|Qd a;let d:=BA a;ext Kf v9
 split
 .let:=HE h (KQ a).2 0 0 (qp (qc a) (Qn a<|Qd a).ps (Qn a<|Qd a).q (Qn a<|Qd a).ld (Qn a<|Qd a).x 0 0).2;rw[((λi q b=>((this.all i q b).1.mono (),(this.all i q b).2),this.last.mono (),this.ll),())]
 .rename_i c;rw[((λi q b=>((h.all i q b).1.mono (),(h.all i q b).2),h.last.mono (),h.ll),c)]
def BB:qb:=Kk<|Qr Ae<|J0 (vL<|ja 2)<|J0 (vL<|ja 03)<|J0 (vL<|ja 1)<|J0 (vL<|jd jf (ja 0)<|ja 04)<|J0 (vL<|J9 QH<|Ju (ja 0)<|Ju (jd jv (ja 04)<|dC<|.int 1) jb) j0
def uu:qb:=zy (fB<|Ju (dC<|.int 2)<|Ju (jj Xv<|Ju (jj jq<|Ju (ja 0) jb)<|Ju (dC<|.int 62) jb)<|Ju (dC<|.int 2) jb) (.one 04) BB
def uZ:qb:=Qk (xG 05 [2]<|Jz<|jd qI (jd jf (jd jf (ja 2)<|jJ qF<|dC<|.int 1)<|dC<|.int 2)<|qm jb) (qz (yw (yw (vL<|ja 2)<|vL<|jJ qF<|dC<|.int 1)<|vL<|dC<|.int 2)<|Qr Y8<|J0 (vL<|ja 2)<|J0 (vL<|ja 03)<|J0 (vL<|ja 1)<|J0 (vL<|dC<|.int 0)<|J0 (vL<|dC<|.int 0) j0) QD
def gB:Af=(jr (zL<|j3 1<|J9 V6<|Ju (ja 0)<|Ju (dC<|.int 34) jb)<|jr (jV 2<|jG<|J0 (jG<|J0 (vL<|jd jf (ja 1)<|dC<|.int 0)<|J0 (jG<|J0 (vL<|jd jf (ja 1)<|dC<|.int 1) j0)<|J0 (jG j0) j0) j0)<|jr (jV 03<|jG<|J0 (vL<|dC<|.int 0) j0)<|jr uu<|jr uZ<|qT<|vL<|ja 2):=rfl
abbrev zQ(ns:Ye)(p l:Addr)(y:02 SV):SD:=[~~~(.lst<|ns.map .int),~~~(.lst<|(qc ns).map .str),~~~.adr p,~~~.adr l,y]
def R6    (G:StB hp p l [] a (qU c).ps (qU c).q ((qU c).ld++[(qU c).x])):(uu (zQ c p l 8) hp).need (λo=>∃y f g m,o=.next (zQ c p l y) f/\StB f p l g m (Qn c<|Qd c).ps (Qn c<|Qd c).q ((Qn c<|Qd c).ld++[(Qn c<|Qd c).x])) λ_ _=>False:=by
 let(O,W):=KQ c;let P:=BA c;let s:fB (Ju (dC<|.int 2)<|Ju (jj Xv<|Ju (jj jq<|Ju (ja 0) jb)<|Ju (dC<|.int 62) jb)<|Ju (dC<|.int 2) jb) (zQ c p l 8)=.ok (VH 2 2<|Qd c):=by
  let H:Xv [.int (⇑c:3),.int 62]=!(.int<|min (⇑c:3) 62):=by
   rw[N9,]
   congr 2
   split<;>lia
  let A:jq [.lst (c.map .int)]=! .int (⇑c:3):=by rw[N8,Zql]
  let I:Vx (min (⇑c:3) 62)=6:=F8 () ();let t:Vx 2=6:=9;ext fB;simp[zQ,H,A,I,t,Qd]
 ext uu zy;rw[s,];let u:=Hy (tg:=.one 04) (b:=BB) (Q:=λ_ _=>False) (λj sd hp=>j<=Qd c->∃y g m,sd=zQ c p l y/\StB hp p l g m (Qn c j).ps (Qn c j).q ((Qn c j).ld++[(Qn c j).x])) (ds:=VH 2 2<|Qd c) (sd:=zQ c p l 8) (hp:=hp) 0 (λ_=>(8,[],a,9,G)) λi x sd hp n C=>by
  let E:i<Qd c:=by
   let:=(Ja.mp n).1;unfold VH at this;simpa using this
  let ex:x=.int ((2+i*2:5):3):=by
   unfold VH at n;rw[Zv,U6 E]at n;let:=(Zqi n).symm;rw[this,];simp
  subst ex;rw[UK]at C ⊢;let(y g m,rfl,h):=C ();let B:=YB c i;let d:2+i*2<⇑c:=by unfold Qd at E;lia
  let F:jf (.lst<|c.map .int) (.int ((2+i*2:5):3))=!(.int<|Qm c ((2+i*2:5):3)):=by
   show qo (c.map D.int) ((2+i*2:5):3)=_;rw[V4 (by rw[Zql,];rw[d]),];ext Qm;rw[Uk,Ul,Zv,Zqg d];rfl
  let v:=Ad c<|2+i*2+1;let L:=B.last.sz;let R:=B.last.g1;let J:=Ry (ws:=qc c) h (B.sz W ()) (by rw[W.len,];lia) (Qm c ((2+i*2:5):3))<|Qm c ((2+i*2+1:5):3);let e:KY (.one 04) BB (.int ((2+i*2:5):3)) (zQ c p l y) hp=(Ae [.adr p,.adr l,.lst ((qc c).map .str),.int (Qm c ((2+i*2:5):3)),.int (Qm c ((2+i*2+1:5):3))] hp).bind λr=>.ok<|.next (zQ c p l<|~~~.int ((2+i*2:5):3)) r.2:=by
   rw[show((2+i*2+1:5):3)=((2+i*2:5):3)+1 by lia]at v ⊢;generalize((2+i*2:5):3)=k at F v ⊢;ext KY BB;simp[zQ,F,v]
  rw[e,];rw[Wr.need_bind.mpr<|J.mono (λr s=>?_) λ_ _ z=>z];have(w,M,N):=s;rw[(_,_,9,λ_=>jh _ w M (9,N))]
 rw[u.mono (λo S=>?_) λ_ _ z=>z];let A:⇑(VH 2 2<|Qd c)=Qd c:=by ext VH;simp
 grind
def R7      (h:StB g p l i a (Qn d<|Qd d).ps (Qn d<|Qd d).q ((Qn d<|Qd d).ld++[(Qn d<|Qd d).x])):∃f,uZ (zQ d p l y) g=.ok (.next (zQ d p l y) f)/\StB f p l i a (Kf d).ps (Kf d).q ((Kf d).ld++[(Kf d).x]):=by
 let(A,W):=KQ d;let B:=BA d;let z:=(YB d<|Qd d).sz W ();let o:=h.dp;let j:=Hd<|HD λy m=>((z.ta y m).1,(z.ta y m).2.1);let s:jf (qq<|(Qn d<|Qd d).ps++[(Qn d<|Qd d).q]) (.int<|-1)=! JH (Qn d<|Qd d).q:=by
  show qo (((Qn d<|Qd d).ps++[(Qn d<|Qd d).q]).map JH) (-1)=_;rw[Ud,List.map_singleton,Wg]
 let t:xm (.adr p) %[.int (-1)|g]=.ok %[.adr a.1|g]:=by
  rw[Wa h.hp_,];show(Wr.of<|.ofO<|qo ((i++[a]).map λb=>D.adr b.1)<|-1).bind _=_;rw[Ud,List.map_singleton,Wg];rfl
 ext Kf v9;cases c:(Qn d<|Qd d).q.rows=[]
 .rw[Zd c,];let C:=z.g1;let E:=z.ga (Qn d<|Qd d).q ();let F:=z.ra;let(-f,e,k,n):=HC h z.ll (by rw[W.len,];lia) (by ext JU;lia) (by ext JU;lia) 0 0 λr u=>by let:=z.ga r (by simp[u]);lia
  let v:⇑((Qn d<|Qd d).q.rows.map jn)<00:=by rw[Zql,];rw[Qi ()]
  rw[(JC f a.2.2<|.lst<|((Qn d<|Qd d).q.rows++[(qp (qc d) (Qn d<|Qd d).ps (Qn d<|Qd d).q (Qn d<|Qd d).ld (Qn d<|Qd d).x 0 0).1]).map jn,?_,n.rows _)];let w:(Qn d<|Qd d).q.rows.isEmpty=6:=by rw[c,];rfl
  rw[w]at j;ext uZ;simp[o,s,j,t,(B9 h).2,Ww h.at_.rw_,e,Wx n.at_.rw_ v]
 simp_all[uZ]
def d9(b:Ye)(r:D×HP):4:=∃p l c a,r.1=.adr p/\StB r.2 p l c a (Kf b).ps (Kf b).q ((Kf b).ld++[(Kf b).x])
def R8(f:Ye):((Af [~~~(.lst<|f.map .int),8,8,8,8] []).bind qi).need (d9 f) λ_ _=>False:=by
 let(H,W):=KQ f;let I:jf (.lst<|(qc f).map .str) (.int 0)=!(.str<|jt (qc f) 0):=WZ (ws:=qc f) (k:=0) (by rw[W.len,];lia);let J:jf (.lst<|(qc f).map .str) (.int 1)=!(.str<|jt (qc f) 1):=WZ (ws:=qc f) (k:=1) (by rw[W.len,];lia);rw[gB,];simp[H,I,J];intro g U r L a n p j l i;let split:∀{c b:Addr}{d:D}{h:HP},jc (%[c|d]::h) b=8->b≠c/\jc h b=8:=λ{c b d h}e=>by
  rw[JK]at e;cases z:b=c
  .rw[Zd z]at e;cases e
  .rw[Ze z]at e;rw[(z,e)]
 let(s,_):=split L;let(v,n):=split n;let(w,_):=split n;let(A,j):=split j;let(B,j):=split j;let(C,_):=split j;let(t,i):=split i;let(E,i):=split i;let(F,i):=split i;let(G,_):=split i;let M:StB [%[l|D.lst [D.int 0]],%[p|D.lst [D.adr a]],%[a|D.lst [D.str (jt (qc f) 0),D.adr g,D.adr r]],%[r|D.lst []],%[g|D.lst [D.str (jt (qc f) 1)]]] p l [] %[a,g|r] (qU f).ps (qU f).q ((qU f).ld++[(qU f).x]):=by
  rw[(?_,?_,9,(?_,?_,?_),?_)]
  .simp[JK,t.symm]
  .simp[JK,qU]
  .simp[JK,E.symm,A.symm,qU]
  .simp[JK,G.symm,C.symm,w.symm,s.symm,qU]
  .simp[JK,F.symm,B.symm,v.symm,qU]
  .simp[jI,t,A,B,C,E,F,G,v,w,s,t.symm,s.symm]
 rw[Wr.need_bind.mpr<|Wr.need_bind.mpr<|(R6 M).mono (λo N=>?_) λ_ _ z=>z];let(y m O P,rfl,Q):=N;let(u,R,S):=R7 Q;let T:zK (jr uZ<|qT<|vL<|ja 2) (.next (zQ f p l y) m)=.ok (.ret (.adr p) u):=by
  show(jr uZ<|qT<|vL<|ja 2) (zQ f p l y) m=_;rw[Bf,R];simp
 rw[T,];rw[jX p l O P (9,S)]
def R9(a:Ye):(YA [.lst (a.map .int)] []).need (d9 a) λ_ _=>False:=by
 ext YA qK;rw[Zd (show[D.lst (a.map D.int)].length=1 from 9),];rw[Wr.need_bind.mpr<|(R8 a).mono (λr b=>b) λ_ _ z=>z]
def zr:FS:=js (qj (xP (Qv<|Jz<|Kd xM xM (dC<|.int 1) (jj jq<|Ju (ja 0) jb)<|dC<|.int 12)<|xP (Jz<|jd (x8 7) (ja 0)<|dC<|.tup<|List.map .str ["plan","given","all","first","part"])<|Jz<|jd (xO 6) (jd jf (ja 0)<|dC<|.int 0)<|dC<|.str "abcdefghijklmnopqrstuvwxyz") (jL<|dC<|.bl 7) JF)<|jL<|jj za<|Ju (Q2 [8] (vv<|ja 0) (.one 0)<|vA (jd (xO 7) (ja 0)<|dC<|.str "abcdefghijklmnopqrstuvwxyz")<|jd (xO 7) (ja 0)<|dC<|.str "0123456789") jb
def xc:Yq->Res D:=jS 1 1 zr
def kB(x:Str):Bool:=(List.map D.str ["plan","given","all","first","part"]).any λe=>sameD e<|.str x
def LT:Yf:=("abcdefghijklmnopqrstuvwxyz":Str).cps.toList
def FG:Yf:=("0123456789":Str).cps.toList
def Wy(x:Str):Bool:=decide (1<=⇑x/\⇑x<=12)&&((not<|kB x)&&(decide (x.cps.toList.headD 0∈LT)&&x.cps.toList.all λc=>decide (c∈LT)||decide (c∈FG)))
def RA  (h:TxtOk n x):x8 7 (.str x) (.tup<|List.map D.str ["plan","given","all","first","part"])=!(.bl<|kB x):=by
 let p:plN 12 (.str x)=6:=by
  show PyData.strOk x=6;ext PyData.strOk;rw[<-Vn,Ur];rw[λc a=>Zp<|UO (w6.mp h.asc c a) ()]
 let q:(List.map D.str ["plan","given","all","first","part"]).all (plN 12)=6:=by decide+kernel
 show(if plN 12 (.str x)&&(List.map D.str ["plan","given","all","first","part"]).all (plN 12)then !(D.bl<|if 7=6 then _ else kB x)else 8)=_;rw[p,q];rfl
def v8  (h:TxtOk n x)(u:n<=1000):xc [.str x]=.ok (.bl<|Wy x):=by
 let j:=Bq h u;let b:=RA h;let v:wO x=6:=h.asc;ext Wy;cases c:1<=⇑x/\⇑x<=12
 .rw[Zp c,Bool.true_and];let d:(1:3)<=(⇑x:3):=()
  let m:(⇑x:3)<=12:=()
  induction k:kB x with
  |true=>
   rw[k]at b;simp[xc,zr,j,d,m]at b ⊢;simp[b]
  |false=>
   rw[k]at b;let(-e,r,f,_):=Hc (k:=0) h u () ();let w:x.cps.toList.headD 0=e:=by
    let f:x.cps.toList[0]?=!e:=f
    induction l:x.cps.toList with
    |nil=>rw[l]at f;cases f
    |cons a A=>rw[l]at f;rw[Zqi f]
   let g:=AT 6 e "abcdefghijklmnopqrstuvwxyz";rw[w,];let o:qB (.one 0) (vA (jd (xO 7) (ja 0)<|dC<|.str "abcdefghijklmnopqrstuvwxyz")<|jd (xO 7) (ja 0)<|dC<|.str "0123456789") [8] (vB x)=.ok ((x.cps.toList.map λc=>decide (c∈LT)||decide (c∈FG)).map .bl):=by
    rw[Zw,];rw[K5 λc _=>?_];let i:=AT 7 c "abcdefghijklmnopqrstuvwxyz";let s:=AT 7 c "0123456789";let i:xO 7 (.str ⟨#[c]⟩) (.str "abcdefghijklmnopqrstuvwxyz")=!(.bl<|decide<|c∈LT):=i;let s:xO 7 (.str ⟨#[c]⟩) (.str "0123456789")=!(.bl<|decide<|c∈FG):=s
    induction p:decide (c∈LT)with
    |true=>rw[p]at i;simp[i,p]
    |false=>rw[p]at i;simp[i,s,p]
   let t:=ZF<|x.cps.toList.map λc=>decide (c∈LT)||decide (c∈FG);let y:(x.cps.toList.map λc=>decide (c∈LT)||decide (c∈FG)).all id=x.cps.toList.all λc=>decide (c∈LT)||decide (c∈FG):=by rw[US,];rfl
   rw[y]at t;generalize(x.cps.toList.map λc=>decide (c∈LT)||decide (c∈FG)).map D.bl=bs at o t;let z:⇑(vB x)<00:=Qi (by ext vB;rw[Zql,Up];let:⇑x=x.cps.size:=9;lia);let g:xO 6 (.str ⟨#[e]⟩) (.str "abcdefghijklmnopqrstuvwxyz")=!(.bl<|not<|decide<|e∈LT):=g
   induction p:decide (e∈LT)with
   |true=>
    rw[p]at g;simp[xc,zr,j,d,m]at b r ⊢;simp[b,r,g,v,z,o,t]
   |false=>
    rw[p]at g;simp[xc,zr,j,d,m]at b r ⊢;simp[b,r,g]
 .rw[Zo c,Bool.false_and];let B:¬((1:3)<=(⇑x:3)/\(⇑x:3)<=12):=()
  cases d:(1:3)<=(⇑x:3)
  .let m:¬(⇑x:3)<=12:=()
   simp[xc,zr,j,d,m]
  .simp[xc,zr,j,d]
def Ag:FS:=js (j3 2<|uD (ja 1) (Kw<|jj jq<|Ju (ja 0) jb) QX)<|jL<|nY (Qz (Jz<|qD Bd (ja 1)<|ja 0)<|Jz<|J9 xc<|Ju (ja 2) jb) (ja 2)<|dC .non
def X6:Yq->Res D:=jS 03 2 Ag
def BC:FS:=jL<|W7 (Kd xM xM (dC<|.int 1) (jj jq<|Ju (ja 0) jb)<|dC<|.int 30)<|W7 (jd xL (jd jf (ja 0)<|dC<|.int 0)<|dC<|.str "0")<|jj za<|Ju (Q2 [8] (vv<|ja 0) (.one 0)<|jd (xO 7) (ja 0)<|dC<|.str "0123456789") jb
def BE:Yq->Res D:=jS 1 1 BC
def YC:FS:=js (qj (Jz<|J9 xc<|Ju (ja 0) jb) (jL<|jH<|Ju (ja 0)<|Ju (dC<|.int 0) jb) JF)<|js (qf (iS<|jH<|Ju (dC<|.str "+")<|Ju (dC<|.str "-") jb) (.one 1)<|js (j3 2<|qD VZ (ja 0)<|ja 1)<|qj (Qz (Jz<|jd qI (jj jq<|Ju (ja 2) jb)<|dC<|.int 2)<|Qz (Jz<|J9 xc<|Ju (jd jf (ja 2)<|dC<|.int 0) jb)<|Jz<|J9 BE<|Ju (jd jf (ja 2)<|dC<|.int 1) jb) (jL<|jH<|Ju (jd jf (ja 2)<|dC<|.int 0)<|Ju (jj ZT<|Ju (jd jv (ja 1)<|jd jf (ja 2)<|dC<|.int 1) jb) jb) JF)<|jL<|dC .non
def Xa:Yq->Res D:=jS 03 1 YC
def BF:FS:=js (j3 03<|Q2 [8] (iS<|qD VZ (qD WM (dC<|.str " ")<|ja 2)<|dC<|.str ", ") (.one 0)<|J9 Xa<|Ju (ja 0) jb)<|jL<|nY (Jz<|jd (x8 7) (dC .non)<|ja 03) (dC .non)<|jH<|Ju (ja 0)<|Ju (ja 1)<|Ju (ja 03) jb
def Ah:Yq->Res D:=jS 04 03 BF
def YD:FS:=js (j3 1<|qD VZ (ja 0)<|dC<|.str " ")<|js (qj (xP (Jz<|jd ww (jj jq<|Ju (ja 1) jb)<|dC<|.int 04)<|xP (Jz<|jd xL (jd jf (ja 1)<|dC<|.int 0)<|dC<|.str "")<|Qv<|Jz<|J9 xc<|Ju (jd jf (ja 1)<|dC<|.int 1) jb) (jL<|dC .non) JF)<|js (qj (Jz<|jd (x8 7) (jd jf (ja 1)<|dC<|.int 2)<|jH<|Ju (dC<|.str "all")<|Ju (dC<|.str "first") jb) (jL<|J9 Ah<|Ju (jd jf (ja 1)<|dC<|.int 1)<|Ju (jd jf (ja 1)<|dC<|.int 2)<|Ju (wM (ja 1) (Kw<|dC<|.int 03) QX QX) jb) JF)<|js (qj (Qz (Jz<|jd qI (jd jf (ja 1)<|dC<|.int 2)<|dC<|.str "part")<|Jz<|J9 xc<|Ju (jd jf (ja 1)<|dC<|.int 03) jb) (jL<|J9 Ah<|Ju (jd jf (ja 1)<|dC<|.int 1)<|Ju (jd jf (ja 1)<|dC<|.int 03)<|Ju (wM (ja 1) (Kw<|dC<|.int 04) QX QX) jb) JF)<|jL<|dC .non
def X7:Yq->Res D:=jS 2 1 YD
def X8:qb:=jr (zL<|j3 03<|J9 X6<|Ju (dC<|.str " given ")<|Ju (ja 2) jb)<|jr (zL<|j3 04<|J9 X7<|Ju (ja 2) jb)<|jr (Qk (xG 06 [0]<|Qz (Jz<|jJ (xN 6)<|ja 03)<|Jz<|jd qI (jJ (jA "Draft" "rows")<|ja 0)<|qm jb) (jr (qz (vd "Draft" "givens"<|vL<|ja 0)<|vL<|ja 03)<|qT<|vL<|dC<|.bl 6) QD)<|jr (Qk (yM<|Jz<|jJ (xN 6)<|ja 04) (jr (qz (vd "Draft" "rows"<|vL<|ja 0)<|vL<|jH<|Ju (ja 1)<|Ju (ja 04) jb)<|qT<|vL<|dC<|.bl 6) QD)<|qT<|vL<|dC<|.bl 7
def Ai:Yq->HP->Wr (D×HP):=qK 05 03 X8
def X9:qb:=jr (zL<|j3 03<|J9 X6<|Ju (dC<|.str "plan ")<|Ju (ja 2) jb)<|jr (Qk (yM<|Jz<|jJ (xN 6)<|ja 03) (jr (qz (vL<|ja 0)<|CZ "Draft" Bx<|J0 (vL<|ja 03) j0)<|qT<|vL<|dC<|.bl 6) QD)<|qT<|uj (qG 06 [0]<|jd v4 (ja 0)<|qm jb)<|Qr Ai<|J0 (yw (vL<|ja 0)<|vL<|jJ qF<|dC<|.int 1)<|J0 (vL<|ja 1)<|J0 (vL<|ja 2) j0
def VI:Yq->HP->Wr (D×HP):=qK 04 03 X9
def XA:qb:=jr (jV 1<|jG j0)<|jr (zy (vx<|Ju (qD VZ (ja 0)<|dC<|.str "\n") jb) (.tup [2,03])<|Qk (Bj<|X2<|Bn VI<|J0 (vL<|ja 1)<|J0 (vL<|ja 2)<|J0 (vL<|ja 03) j0) (zL<|Wb "BadRow"<|ja 2) QD)<|qT<|vL<|ja 1
def tX(a:Yq)(d:D):4:=⇑a=1/\((XA (JN 04 a) []).bind qi).need (λp=>dr p.2 06 p.1=d) λ_ _=>False
open Classical in
def Xb:Yq->Res D:=λa=>if h:∃d,tX a d then .ok (choose h)else .no
def k7:∀a d,Xb a=.ok d->⇑a=1/\((XA (JN 04 a) []).bind qi).need (λp=>dr p.2 06 p.1=d) λ_ _=>False:=λa d h=>by
 unfold Xb at h
 split at h
 .rename_i e;let:=Vd e;cases h;rw[this]
 .cases h
def kr:∀a c fs,Xb a=.ex c fs->⇑a=1/\((XA (JN 04 a) []).bind qi).need (λ_=>False) λd b=>d=c/\b=fs:=λa c fs h=>by
 unfold Xb at h
 split at h<;>cases h
def wh:FS:=jL<|W7 (jj za<|Ju (Q2 [8] (iS<|ja 0) (.one 0)<|J9 xc<|Ju (ja 0) jb) jb)<|jd qI (jj ZN<|Ju (ja 0) jb)<|jj jq<|Ju (ja 0) jb
def yV:Yq->Res D:=jS 1 1 wh
def RB:∀k:Fin 10,FG[k.val]?=! 48+k.val:=by decide+kernel
theorem HG (h:zM c=6):c∈LT:=by
 unfold zM at h;rw[Uc,decide_eq_true_eq,decide_eq_true_eq]at h;let:=PR (c-97,());rw[show 97+(c-97)=c by lia]at this;rw[Ua this]
def HH (h:zN c=6):c∈FG:=by
 unfold zN at h;rw[Uc,decide_eq_true_eq,decide_eq_true_eq]at h;let:=RB (c-48,());rw[show 48+(c-48)=c by lia]at this;rw[Ua this]
def D5 (h:Kx x=6):Wy x=6:=by
 unfold Kx at h;rw[Uc,Uc,Uc,Uc,decide_eq_true_eq,decide_eq_true_eq]at h;let(j,l,e,m,b):=h;let k:kB x=7:=by
  ext kB;rw[UU,];intro d f;let(-w,g,rfl):=Jb.mp f;let:=Ur.mp e w g;rw[Vh,decide_eq_false_iff_not]at this;rw[Bool.not_eq_true,wV];intro z;injection z with z
  rw[this z]
 let a:(x.cps.toList.all λc=>decide (c∈LT)||decide (c∈FG))=6:=by
  rw[Ur]at b ⊢;intro c i;rcases Bool.or_eq_true_iff.mp (b c i)with z|z
  .rw[Zp (HG z),];rfl
  .rw[Zp (HH z),U8]
 grind[Wy,decide_eq_true,HG]
def RC{a:Yg}(h:a.Nodup)(b:⇑a<=999):ZN [.lst (a.map .str)]=! .int ⇑a:=by
 let e:K0 Q3 (a.map .str)=! a.map Uu:=YW (f:=Q3) (λ_=>9) a;let c:(a.map (Uu:Str->jR)).Nodup:=by
  grind
 show(K0 Q3<|a.map .str).bind _=_;rw[e,];show(if(a.map (Uu:Str->jR)).length<=999 then _ else _)=_;rw[Zql,Zd b,L2.ST.dedL_nodup c,Zql]
def bg{a:Yg}(b:∀x∈a,jP x)(d:a.Nodup)(f:⇑a<=60):yV [.lst (a.map .str)]=.ok (.bl 6):=by
 let e:qB (.one 0) (J9 xc<|Ju (ja 0) jb) [8] (a.map .str)=.ok ((a.map λ_=>6).map .bl):=by
  rw[Zw,];rw[K5 λx c=>by
   let:=v8 (b x c).1 ();rw[D5 (b x c).2]at this;simp[this]]
 let g:=ZF<|a.map λ_=>6;let h:=RC d ();let i:⇑(a.map D.str)<00:=Qi<|by rw[Zql,];lia
 simp_all[yV,wh]
def wj:FS:=js (qj (Qv<|Jz<|KW yV<|Ju (Q2 [8] (iS<|jJ (jA "Book" "plans")<|ja 0) (.one 0)<|jJ (jA "Plan" "name")<|ja 0) jb) (Qt "BadName"<|dC<|.str "a plan's name is no name or stands twice") JF)<|qf (iS<|jJ (jA "Book" "plans")<|ja 0) (.one 1)<|qj (Qv<|Jz<|KW yV<|Ju (jd jv (jJ (jA "Plan" "givens")<|ja 1)<|Q2 [8,8,8] (iS<|jJ (jA "Plan" "rows")<|ja 1) (.tup [0,1,2])<|ja 0) jb) (Qt "BadName"<|dC<|.str "a thing's name is no name or stands twice in its plan") JF
def zG:Yq->Res D:=jS 2 1 wj
def sJ (L:LB a)(W:WB a):zG [JL a]=.ok .non:=by
 let o:=W.l2;let s:=Qi<|show ⇑a<=1000 from();let t:qB (.one 0) (jJ (jA "Plan" "name")<|ja 0) [8] (a.map JJ)=.ok ((a.map (·.name)).map .str):=by
  rw[Zw,];rw[K5 λp _=>by simp]
 let u:=bg (λx c=>by
  let(p,d,rfl):=Jb.mp c;let(i,P):=L.mem d;rw[P.nm]) W.nd<|by rw[Zql,];lia
 let(-l,v,(e,g)):=K4 (tg:=.one 1) (b:=qj (Qv<|Jz<|KW yV<|Ju (jd jv (jJ (jA "Plan" "givens")<|ja 1)<|Q2 [8,8,8] (iS<|jJ (jA "Plan" "rows")<|ja 1) (.tup [0,1,2])<|ja 0) jb) (Qt "BadName"<|dC<|.str "a thing's name is no name or stands twice in its plan") JF) (ds:=a.map JJ)
  (P:=λi sd=>∃e:02 SV,sd=[~~~JL a,e]) (8,9) (by
   rintro i x sd c ⟨e,rfl⟩;let(-p,d,rfl):=Ke c;let P:=L i p d;let w:=P.g2;let m:=P.r2;let n:=Qi<|show ⇑p.rows<=1000 from();let h:qB (.tup [0,1,2]) (ja 0) [8,8,8] (p.rows.map jn)=.ok ((p.rows.map (·.1)).map .str):=by
    rw[Zw,];rw[K5 λr _=>by simp]
   let f:jv (.lst<|p.givens.map .str) (.lst<|(p.rows.map (·.1)).map .str)=!(.lst<|(p.givens++p.rows.map (·.1)).map .str):=by
    rw[Ud,];rw[Zd<|small<|by rw[Zql,Zql,Zql];lia]
   let j:=bg P.tn P.td (by rw[Ub,Zql];lia);generalize(p.givens++p.rows.map (·.1)).map D.str=y at f j;generalize(p.rows.map (·.1)).map D.str=z at h f;simp[n,h,f,j])
 simp_all[zG,wj]
def vJ:FS:=jL<|jd (x8 6) (ja 0)<|jH<|Ju (dC<|.str "all")<|Ju (dC<|.str "first") jb
def yU:Yq->Res D:=jS 1 1 vJ
def uB (h:asc a):yU [.str a]=.ok (.bl<|xl a):=by
 let p:plN 12 (.str a)=6:=KH h;let q:[D.str "all",D.str "first"].all (plN 12)=6:=by decide+kernel
 let g:x8 6 (.str a) (.tup [.str "all",.str "first"])=!(.bl<|xl a):=by
  show(if plN 12 (.str a)&&[D.str "all",D.str "first"].all (plN 12)then !(D.bl<|if 6=6 then not<|[D.str "all",D.str "first"].any λe=>sameD e<|.str a else _)else 8)=_;rw[p,q];ext xl sameD;let b:decide (("all":Str)=a)=decide (a="all"):=decide_eq_decide.mpr eq_comm;let c:decide (("first":Str)=a)=decide (a="first"):=decide_eq_decide.mpr eq_comm;simp[b,c]
 simp[yU,vJ,g]
def wP:FS:=js (xH 1 ZD)<|qf (iS<|jJ (jA "Book" "plans")<|ja 0) (.one 2)<|js (qf (iS<|jJ (jA "Plan" "rows")<|ja 2) (.tup [03,04,05])<|qj (Qz (Jz<|KW yU<|Ju (ja 04) jb)<|Jz<|jd xL (Yy [1]<|Xz (ja 1)<|ja 04)<|jj jq<|Ju (ja 05) jb) (Qt "BadPart"<|(yF Ka (ja 03)<|jT " is made by no plan ahead that has as many given things as it has items" qC) Str.empty) JF)<|W9 1 (jJ (jA "Plan" "name")<|ja 2)<|jj jq<|Ju (jJ (jA "Plan" "givens")<|ja 2) jb
def wl:Yq->Res D:=jS 06 1 wP
def HI (o:(c.map (·.name)).Nodup)  (h:%[x|n]∈QZ c):qH (QZ c) x=!n:=by
 ext qH
 induction e:(QZ c).find? λp=>decide<|p.1=x with
 |none=>rw[Zn (Zp 9)<|List.find?_eq_none.mp e %[x|n] h]
 |some q=>
  let(a,r,t):=Jb.mp (List.mem_of_find?_eq_some e);let(b,s,u):=Jb.mp h;let nm:a.name=b.name:=by grind
  let v:a=b:=by
   let(i,g,d):=U7 r;let(j,l,f):=U7 s;let m:=Va.mp<|Jo.mp<|Vs.mp o;obtain z|z|z:=Nat.lt_trichotomy i j
   .rw[Zn (by rwa[d,f])<|m i j g l z]
   .subst z;rw[<-d,<-f]
   .rw[Zn (by rw[d,f];rw[nm.symm])<|m j i l g z]
  grind
def D6(a:List Pl):(QZ a).map (·.1)=a.map (·.name):=by
 ext QZ;rw[Zw,];rfl
def sG (L:LB a)(W:WB a):wl [JL a]=.ok .non:=by
 let(-s,O,(h,c,d,e,n)):=K4 (tg:=.one 2) (b:=js (qf (iS<|jJ (jA "Plan" "rows")<|ja 2) (.tup [03,04,05])<|qj (Qz (Jz<|KW yU<|Ju (ja 04) jb)<|Jz<|jd xL (Yy [1]<|Xz (ja 1)<|ja 04)<|jj jq<|Ju (ja 05) jb) (Qt "BadPart"<|(yF Ka (ja 03)<|jT " is made by no plan ahead that has as many given things as it has items" qC) Str.empty) JF)<|W9 1 (jJ (jA "Plan" "name")<|ja 2)<|jj jq<|Ju (jJ (jA "Plan" "givens")<|ja 2) jb) (ds:=a.map JJ)
  (sd:=[~~~JL a,!(.own 7<|.dct [] []),8,8,8,8])
  (P:=λi sd=>∃h c d e:02 SV,sd=[~~~JL a,!(.own 7<|dT<|QZ<|a.take i),h,c,d,e]) (jX 8 8 8 8 9) (by
   rintro i x sd u ⟨h,c,d,e,rfl⟩;let(-p,f,rfl):=Ke u;let P:=L i p f;let Q:=(Ja.mp f).1;let R:=W.l2;let w:((a.take i).map (·.name)).Nodup:=by
    rw[UZ,];rw[List.Sublist.nodup (List.take_sublist _ _) W.nd]
   let(t,ht):∃t,QZ (a.take i)=t:=(_,9);let fr:p.name∉t.map (·.1):=by
    rw[<-ht,D6,<-Y2];rw[W.fresh f]
   let S:⇑t<=20:=by
    rw[<-ht];ext QZ;rw[Zql,Ue];lia
   let A:∀r∈p.rows,xl r.2.1=6->qH t r.2.1=!(⇑r.2.2:3):=λr l q=>by
    obtain z|z|z:=P.how r l
    .rw[z]at q;rw[Zn q<|by decide+kernel]
    .rw[z]at q;rw[Zn q<|by decide+kernel]
    .rw[<-ht];rw[HI w z]
   let(-B,C,(E,F,G,g)):=K4 (tg:=.tup [03,04,05]) (b:=qj (Qz (Jz<|KW yU<|Ju (ja 04) jb)<|Jz<|jd xL (Yy [1]<|Xz (ja 1)<|ja 04)<|jj jq<|Ju (ja 05) jb) (Qt "BadPart"<|(yF Ka (ja 03)<|jT " is made by no plan ahead that has as many given things as it has items" qC) Str.empty) JF) (ds:=p.rows.map jn)
    (sd:=[~~~JL a,!(.own 7<|dT t),~~~JJ p,c,d,e])
    (P:=λ_ sd=>∃c d e:02 SV,sd=[~~~JL a,!(.own 7<|dT t),~~~JJ p,c,d,e]) (jh c d e 9) (by
     rintro j y sd H ⟨c,d,e,rfl⟩;let(-r,l,rfl):=Ke H;let o:=Ua l;let m:=uB<|W.hasc f o;let I:jq [jU r.2.2]=! .int ⇑r.2.2:=by show some (D.int ⇑(r.2.2.map qw))=_;rw[Zql,]
     induction q:xl r.2.1 with
     |false=>
      rw[q]at m;simp[m]
     |true=>
      let v:=Y1 t r.2.1;rw[A r o q]at v;let J:CH (dT t)=.ok %[t.map λp=>.inr p.1|t.map λp=>.int p.2]:=9;simp[m,I,J,v])
   subst g;let pt:=Br fr (⇑p.givens:3);let M:QZ (a.take<|i+1)=t++[%[p.name|(⇑p.givens:3)]]:=by
    rw[Uw,f,<-ht];ext QZ;rw[Ud,];rfl
   let N:vh (! !(.own 7<|dT t))=.ok %[t.map λp=>.inr p.1|t.map λp=>.int p.2]:=9;rw[([~~~JL a,!(.own 7<|dT<|t++[%[p.name|(⇑p.givens:3)]]),~~~JJ p,E,F,G],?_,_,_,_,_,by rw[M,])];rw[<-pt,ht];simp[C,N,Qi<|show ⇑t<=1000 from()])
 simp_all[wl,wP]
def wQ:FS:=js (j3 1<|jj jq<|Ju (jJ (jA "Plan" "givens")<|ja 0) jb)<|qf (iS<|jJ (jA "Plan" "rows")<|ja 0) (.tup [2,03,04])<|js (qj (Qv<|Jz<|Kd xM xM (dC<|.int 1) (jj jq<|Ju (ja 04) jb)<|dC<|.int 40) (Qt "BadPlan"<|(yF Ka (ja 2)<|jT " has not 1 to 40 items" qC) Str.empty) JF)<|js (qf (iS<|ja 04) (.tup [05,06])<|js (qj (Qv<|Jz<|Kd xM ww (dC<|.int 0) (ja 05)<|ja 1) (Qt "BadPlan"<|(jT "an item of "<|yF Ka (ja 2)<|jT " is no thing ahead of it" qC) Str.empty) JF)<|qj (Jz<|jd vS (jj zp<|Ju (ja 06) jb)<|jd xq (dC<|.int 10)<|dC<|.int 30) (Qt "BadPlan"<|(jT "a wait of "<|yF Ka (ja 2)<|jT " has more than 30 figures" qC) Str.empty) JF)<|zP 1<|dC<|.int 1
def zt:Yq->Res D:=jS 07 1 wQ
def sH  (P:PL e p):zt [JJ p]=.ok .non:=by
 let o:xq (.int 10) (.int 30)=! .int 1000000000000000000000000000000:=9;let(-s,N,(f,h,l,a,c,m)):=K4 (tg:=.tup [2,03,04]) (b:=js (qj (Qv<|Jz<|Kd xM xM (dC<|.int 1) (jj jq<|Ju (ja 04) jb)<|dC<|.int 40) (Qt "BadPlan"<|(yF Ka (ja 2)<|jT " has not 1 to 40 items" qC) Str.empty) JF)<|js (qf (iS<|ja 04) (.tup [05,06])<|js (qj (Qv<|Jz<|Kd xM ww (dC<|.int 0) (ja 05)<|ja 1) (Qt "BadPlan"<|(jT "an item of "<|yF Ka (ja 2)<|jT " is no thing ahead of it" qC) Str.empty) JF)<|qj (Jz<|jd vS (jj zp<|Ju (ja 06) jb)<|jd xq (dC<|.int 10)<|dC<|.int 30) (Qt "BadPlan"<|(jT "a wait of "<|yF Ka (ja 2)<|jT " has more than 30 figures" qC) Str.empty) JF)<|zP 1<|dC<|.int 1) (ds:=p.rows.map jn)
  (sd:=[~~~JJ p,~~~.int ⇑p.givens,8,8,8,8,8])
  (P:=λi sd=>∃f h l a c:02 SV,sd=[~~~JJ p,~~~(.int<|(⇑p.givens:3)+i),f,h,l,a,c]) (jE 8 8 8 8 8 ()) (by
   rintro i x sd t ⟨f,h,l,a,c,rfl⟩;let(-r,u,rfl):=Ke t;let(!I,O,Q):=P.its i r u;let(g,hg):∃g:3,(⇑p.givens:3)+i=g:=(_,9);rw[hg]at I;let(-v,w,(z,A,d)):=K4 (tg:=.tup [05,06]) (b:=js (qj (Qv<|Jz<|Kd xM ww (dC<|.int 0) (ja 05)<|ja 1) (Qt "BadPlan"<|(jT "an item of "<|yF Ka (ja 2)<|jT " is no thing ahead of it" qC) Str.empty) JF)<|qj (Jz<|jd vS (jj zp<|Ju (ja 06) jb)<|jd xq (dC<|.int 10)<|dC<|.int 30) (Qt "BadPlan"<|(jT "a wait of "<|yF Ka (ja 2)<|jT " has more than 30 figures" qC) Str.empty) JF) (ds:=r.2.2.map qw)
    (P:=λ_ sd=>∃a c:02 SV,sd=[~~~JJ p,~~~.int g,~~~.str r.1,~~~.str r.2.1,~~~jU r.2.2,a,c]) (a,c,9) (by
     rintro j y sd B ⟨a,c,rfl⟩;let(-q,C,rfl):=Ke B;let n:=Ua C;let(!E,F):=I.rng q n;let(!R,S):=I.far q n;let G:¬(1000000000000000000000000000000:3)<=if q.2<0 then-q.2 else q.2:=by split<;>lia
     simp[E,F,o,G])
   subst d;let H:(1:3)<=(⇑r.2.2:3):=()
   let J:(⇑r.2.2:3)<=40:=()
   let L:g+1=(⇑p.givens:3)+((i+1:5):3):=()
   rw[([~~~JJ p,~~~(.int<|g+1),~~~.str r.1,~~~.str r.2.1,~~~jU r.2.2,z,A],?_,_,_,_,_,_,by rw[L,])];let M:jq [jU r.2.2]=! .int ⇑r.2.2:=by show some (D.int ⇑(r.2.2.map qw))=_;rw[Zql,]
   rw[hg,];simp[M,H,J,w])
 simp_all[zt,wQ]
def zE:FS:=js (qj (Qv<|Jz<|Kd xM xM (dC<|.int 1) (jj jq<|Ju (jJ (jA "Book" "plans")<|ja 0) jb)<|dC<|.int 20) (Qt "BadPlan"<|dC<|.str "a book has 1 to 20 plans") JF)<|qf (iS<|jJ (jA "Book" "plans")<|ja 0) (.one 1)<|js (qj (Qv<|Jz<|Kd xM xM (dC<|.int 1) (jj jq<|Ju (jJ (jA "Plan" "givens")<|ja 1) jb)<|dC<|.int 12) (Qt "BadPlan"<|dC<|.str "a plan has 1 to 12 given things") JF)<|js (qj (Qv<|Jz<|Kd xM xM (dC<|.int 1) (jj jq<|Ju (jJ (jA "Plan" "rows")<|ja 1) jb)<|dC<|.int 40) (Qt "BadPlan"<|dC<|.str "a plan has 1 to 40 rows") JF)<|KS<|J9 zt<|Ju (ja 1) jb
def zu:Yq->Res D:=jS 2 1 zE
def sI (L:LB a)(n:1<=⇑a)(o:⇑a<=20):zu [JL a]=.ok .non:=by
 let(-e,r,(c,d)):=K4 (tg:=.one 1) (b:=js (qj (Qv<|Jz<|Kd xM xM (dC<|.int 1) (jj jq<|Ju (jJ (jA "Plan" "givens")<|ja 1) jb)<|dC<|.int 12) (Qt "BadPlan"<|dC<|.str "a plan has 1 to 12 given things") JF)<|js (qj (Qv<|Jz<|Kd xM xM (dC<|.int 1) (jj jq<|Ju (jJ (jA "Plan" "rows")<|ja 1) jb)<|dC<|.int 40) (Qt "BadPlan"<|dC<|.str "a plan has 1 to 40 rows") JF)<|KS<|J9 zt<|Ju (ja 1) jb) (ds:=a.map JJ)
  (P:=λi sd=>∃c:02 SV,sd=[~~~JL a,c]) (8,9) (by
   rintro i x sd f ⟨c,rfl⟩;let(-p,g,rfl):=Ke f;let P:=L i p g;let s:=P.g1;let t:=P.g2;let u:=P.r1;let v:=P.r2;let h:(1:3)<=(⇑p.givens:3):=()
   let j:(⇑p.givens:3)<=12:=()
   let l:(1:3)<=(⇑p.rows:3):=()
   let m:(⇑p.rows:3)<=40:=()
   simp[h,j,l,m,sH P])
 let w:(1:3)<=(⇑a:3):=()
 let y:(⇑a:3)<=20:=()
 simp_all[zu,zE]
def vK:FS:=js (xH 1 ZD)<|js (qf (iS<|jJ (jA "Book" "plans")<|ja 0) (.one 2)<|js (xH 03<|ZI [1]<|ZE [8,8,8,!1] (iS<|jJ (jA "Plan" "rows")<|ja 2) (.tup [0,1,2]) (Jz<|J9 yU<|Ju (ja 1) jb)<|jd jf (ja 03)<|ja 1)<|W9 1 (jJ (jA "Plan" "name")<|ja 2)<|jd jv (jj jq<|Ju (jJ (jA "Plan" "rows")<|ja 2) jb)<|zd [03]<|jj zW<|Ju (ja 03) jb)<|Wn 1
def vN:Yq->Res D:=xI 04 1 vK
def sE (W:WB a):vN [JL a]=.ok (dT<|qS a):=by
 let(-m,F,(e,f,l)):=K4 (tg:=.one 2) (b:=js (xH 03<|ZI [1]<|ZE [8,8,8,!1] (iS<|jJ (jA "Plan" "rows")<|ja 2) (.tup [0,1,2]) (Jz<|J9 yU<|Ju (ja 1) jb)<|jd jf (ja 03)<|ja 1)<|W9 1 (jJ (jA "Plan" "name")<|ja 2)<|jd jv (jj jq<|Ju (jJ (jA "Plan" "rows")<|ja 2) jb)<|zd [03]<|jj zW<|Ju (ja 03) jb) (ds:=a.map JJ)
  (sd:=[~~~JL a,!(.own 7<|.dct [] []),8,8])
  (P:=λi sd=>∃(e f:02 SV),sd=[~~~JL a,!(.own 7<|dT<|qS<|a.take i),e,f]) (xh 8 8 9) (by
   rintro i x sd n ⟨e,f,rfl⟩;let(-p,c,rfl):=Ke n;let o:=Ua c;let(t,ht):∃t,qS (a.take i)=t:=(_,9);let fr:=W.fresh c;let u:=Ra W i;let g:∀r∈p.rows,(qH t r.2.1).isSome=xl r.2.1:=λr d=>by rw[<-ht];rw[W.part c d]
   rw[ht]at fr u;let w:=Qi (show ⇑p.rows<=1000 by let:=(W.sz p o).1;lia);let j:VU (.tup [0,1,2]) (Jz<|J9 yU<|Ju (ja 1) jb) (jd jf (ja 03)<|ja 1) [8,8,8,~~~dT t] (p.rows.map jn)=.ok ((p.rows.filter λr=>xl r.2.1).map λr=>D.int<|(qH t r.2.1).getD 0):=NA (s:=λr=>[~~~.str r.1,~~~.str r.2.1,~~~jU r.2.2,~~~dT t]) (λr _=>()) (λr d=>by
    let:=uB<|W.hasc c d;simp[this])<|λr d q=>by
    let h:=g r d;rw[q]at h;let(v,y):=Jq.mp h;simp[y]
   let z:=PY (λr:Str×Str×Js=>(qH t r.2.1).getD 0)<|p.rows.filter λr=>xl r.2.1;let A:=PZ (λr:Str×Str×Js=>(qH t r.2.1).getD 0)<|p.rows.filter λr=>xl r.2.1;let pt:=Br fr<|yC t p;let B:=Qi<|show ⇑t<=1000 from();let C:a.take (i+1)=a.take i++[p]:=by rw[Uw,c];rfl
   let E:qS (a.take<|i+1)=t++[%[p.name|yC t p]]:=by rw[C,Bt,ht]
   rw[E,<-pt,ht];simp[j,w,z,A];simp[dT,B,yC])
 simp_all[vN,vK]
def vM:FS:=qf (sC<|KW vN<|Ju (ja 0) jb) (.tup [1,2])<|qj (Jz<|jd wx (ja 2)<|dC<|.int 2000) (Qt "TooLong"<|(jT "plan "<|yF Ka (ja 1)<|jT " has a weight of more than 2000" qC) Str.empty) JF
def vO:Yq->Res D:=jS 03 1 vM
def RE(t:List (Str×3)):X0 (t.map λp=>.inr p.1) (t.map λp=>.int p.2)=t.map λp=>D.tup [.str p.1,.int p.2]:=by
 ext X0;rw[List.zipWith_map,]
 cases(t)with
 |nil=>rfl
 |cons p t a=>rw[List.zipWith_cons_cons,a];rfl
def sF (L:LB a)(W:WB a):vO [JL a]=.ok .non:=by
 let h:=sE W;let(t,ht):∃t,qS a=t:=(_,9);let f:=L.wts;rw[ht]at h f;let(-j,n,(d,e,g)):=K4 (tg:=.tup [1,2]) (b:=qj (Jz<|jd wx (ja 2)<|dC<|.int 2000) (Qt "TooLong"<|(jT "plan "<|yF Ka (ja 1)<|jT " has a weight of more than 2000" qC) Str.empty) JF) (ds:=t.map λp=>D.tup [.str p.1,.int p.2])
  (P:=λ_ sd=>∃d e:02 SV,sd=[~~~JL a,d,e]) (8,8,9) (by
   rintro i x sd l ⟨d,e,rfl⟩;let(-q,m,rfl):=Ke l;let:=f q<|Ua m;let c:¬(2000:3)<q.2:=()
   simp[c])
 let o:AY (dT t)=.ok (t.map λp=>D.tup [.str p.1,.int p.2]):=by rw[<-RE];rfl
 simp_all[vO,vM]
def zF:FS:=js (KS<|J9 zG<|Ju (ja 0) jb)<|js (KS<|J9 zu<|Ju (ja 0) jb)<|js (KS<|J9 wl<|Ju (ja 0) jb)<|KS<|J9 vO<|Ju (ja 0) jb
def yK:Yq->Res D:=jS 1 1 zF
def sK (L:LB e)(f:1<=⇑e)(g:⇑e<=20):yK [JL e]=.ok .non:=by
 let W:=L.wb f g;let a:=sJ L W;let b:=sI L f g;let c:=sG L W;let d:=sF L W
 simp_all[yK,zF]
def Aj:FS:=js (qf (iS<|ja 0) (.tup [03,04])<|qj (Jz<|jd (x8 6) (ja 03)<|ja 1) (Wb "NoName"<|ja 2) JF)<|jL<|jj Z8<|Ju (Q2 [8,8,!1] (iS<|ja 0) (.tup [0,1])<|jH<|Ju (jd jf (ja 2)<|ja 0)<|Ju (ja 1) jb) jb
def Xc:Yq->Res D:=jS 05 03 Aj
def BG:FS:=js (xH 1 ZD)<|js (qf (fF<|Ju (ja 0) jb) (.tup [2,03])<|ZS 1 (ja 03)<|ja 2)<|Wn 1
def BH:Yq->Res D:=xI 04 1 BG
def Ak:FS:=js (j3 1<|KW BH<|Ju (jd jv (jJ (jA "Draft" "givens")<|ja 0)<|Q2 [8,8] (iS<|jJ (jA "Draft" "rows")<|ja 0) (.tup [0,1])<|jd jf (ja 1)<|dC<|.int 0) jb)<|js (xH 2<|qm jb)<|js (qf (iS<|jJ (jA "Draft" "rows")<|ja 0) (.tup [03,04])<|Ko 2<|jH<|Ju (jd jf (ja 04)<|dC<|.int 0)<|Ju (jd jf (ja 04)<|dC<|.int 1)<|Ju (J9 Xc<|Ju (jd jf (ja 04)<|dC<|.int 2)<|Ju (ja 1)<|Ju (ja 03) jb) jb)<|λsd=>(jL<|Bm "Plan" ["name","givens","rows"] Dx<|Ju (jJ (jA "Draft" "name")<|ja 0)<|Ju (jJ (jA "Draft" "givens")<|ja 0)<|Ju (ja 2) jb)<|qR [2] sd
def VJ:Yq->Res D:=xI 05 1 Ak
def Am:FS:=js (j3 1<|Bm "Book" ["plans"] Dw<|Ju (Q2 [8] (iS<|J9 Xb<|Ju (ja 0) jb) (.one 0)<|J9 VJ<|Ju (ja 0) jb) jb)<|js (KS<|J9 yK<|Ju (ja 1) jb)<|jL<|ja 1
def Kb:Yq->Res D:=jS 2 1 Am
theorem HJ:∀c∈LT,zM c=6:=by
 let h:LT.all zM=6:=by decide+kernel
 rw[Ur.mp h]
def RF:∀c∈FG,zN c=6:=by
 let h:FG.all zN=6:=by decide+kernel
 rw[Ur.mp h]
def RG (h:Wy x=6):Kx x=6:=by
 unfold Wy at h;rw[Uc,Uc,Uc,decide_eq_true_eq,decide_eq_true_eq]at h;let((i,j),b,l,d):=h;let k:(kept.all λw=>not<|decide<|w=x)=6:=by
  rw[Ur,];intro w f;cases e:w=x
  .subst e;let:kB w=6:=by
    ext kB;rw[List.any_eq_true,];rw[(.str w,Jb.mpr (w,f,9),VR _)]
   rw[this]at b;cases b
  .rw[Zo e,];rfl
 let a:(x.cps.toList.all λc=>zM c||zN c)=6:=by
  rw[Ur]at d ⊢;intro c g;rcases Bool.or_eq_true_iff.mp (d c g)with z|z
  .rw[HJ c (of_decide_eq_true z),];rfl
  .rw[RF c (of_decide_eq_true z),U8]
 grind[Kx,decide_eq_true,HJ]
def RH(x:Str):Wy x=Kx x:=by
 induction h:Kx x with
 |true=>rw[D5 h]
 |false=>
  induction k:Wy x with
  |false=>rfl
  |true=>rw[RG k]at h;cases h
def HK (h:∀x∈xs,TxtOk 20 x)(m:⇑xs<=920):∃b:Bool,yV [.lst (xs.map .str)]=.ok (.bl b)/\(b=6↔vn xs):=by
 let a:qB (.one 0) (J9 xc<|Ju (ja 0) jb) [8] (xs.map .str)=.ok ((xs.map Kx).map .bl):=by
  rw[Zw,];rw[K5 λx g=>by
   let:=v8 (h x g) ()
   simp_all[RH]]
 let d:=ZF<|xs.map Kx;let(-n,i,j):=Rp (xs:=xs) ();let f:⇑(xs.map D.str)<00:=Qi ();let l:jq [.lst (xs.map .str)]=! .int ⇑xs:=by simp
 let(b,hb):∃b,(xs.map Kx).all id=b:=(_,9);let c:b=6↔∀x∈xs,Kx x=6:=by
  rw[<-hb,US,Ur];rfl
 rw[hb]at d;generalize(xs.map Kx).map D.bl=bs at a d;generalize xs.map D.str=o at a i f l ⊢
 cases(b)with
 |false=>
  rw[(7,by simp[yV,wh,f,a,d],?_)];constructor
  .intro z;cases z
  .intro z;rw[c.mpr z.1]
 |true=>
  rw[(decide<|n=⇑xs,?_,?_)]
  .let e:decide ((n:3)=(⇑xs:3))=decide (n=⇑xs):=by grind
   simp_all[yV,wh]
  .rw[decide_eq_true_iff,j];rw[(λz=>(c.mp 9,z),λz=>z.2)]
def D7 (S:SnB a):zG [JL a]=xV (zB a) "BadName":=by
 let v:=S.len;let w:=Qi<|show ⇑a<=1000 from();let y:qB (.one 0) (jJ (jA "Plan" "name")<|ja 0) [8] (a.map JJ)=.ok ((a.map (·.name)).map .str):=by
  rw[Zw,];exact K5 λp _=>by simp
 let(-b,A,l):=HK (λx e=>by
  let(p,d,rfl):=Jb.mp e;calc(S.pl p d).nm) ()
 induction b with
 |false=>
  rw[(KZ λz=>by let:=l.mpr z.1;cases this),]
  simp_all[zG,wj]
 |true=>
  let t:(qa (.one 1) (qj (Qv<|Jz<|KW yV<|Ju (jd jv (jJ (jA "Plan" "givens")<|ja 1)<|Q2 [8,8,8] (iS<|jJ (jA "Plan" "rows")<|ja 1) (.tup [0,1,2])<|ja 0) jb) (Qt "BadName"<|dC<|.str "a thing's name is no name or stands twice in its plan") JF) (a.map JJ) [~~~JL a,8]).bind xK=xV (zB a) "BadName":=by
   refine WG (R:=λz=>z.bind xK=xV (zB a) "BadName") (P:=λi sd=>(∀p∈a.take i,vn (xT p))/\∃f:02 SV,sd=[~~~JL a,f]) () ?_ ?_
   .rintro sd ⟨h,f,rfl⟩;rw[Zql,Uy]at h;rw[WT (l.mp 9,h),];rfl
   .rintro i x sd e ⟨h,f,rfl⟩;let(-p,d,rfl):=Ke e;let m:=Ua d;let P:=S.pl p m;let B:=P.sz;let n:=Qi<|show ⇑p.rows<=1000 from();let g:qB (.tup [0,1,2]) (ja 0) [8,8,8] (p.rows.map jn)=.ok ((p.rows.map (·.1)).map .str):=by
     rw[Zw,];exact K5 λr _=>by simp
    let j:jv (.lst<|p.givens.map .str) (.lst<|(p.rows.map (·.1)).map .str)=!(.lst<|(xT p).map .str):=by
     unfold xT;rw[Ud,];exact Zd<|small<|by rw[Zql,Zql,Zql];lia
    have(u,o,c):=HK (Ro P) (by let:=Rn P;lia);generalize(p.rows.map (·.1)).map D.str=C at g j
    induction u with
    |true=>
     calc .inl ([~~~JL a,~~~JJ p],by simp[n,g,j,o],λq s=>?_,_,9);rw[Uw,d]at s;obtain z|z:=Jd.mp s
     .exact h q z
     .rw[Jc.mp z,];calc c.mp 9
    |false=>
     calc .inr ("BadName",[],by simp[n,g,j,o],?_);rw[(KZ λz=>by let:=c.mpr<|z.2 p m;cases this),];rfl
  simp_all[zG,wj]
def HL (h:TxtOk 20 x):⇑(reprText x)<=400:=by
 let b:=StrLaws.reprText_len x λc a=>UO (w6.mp h.asc c a) (by decide);let:=h.len;lia
def fw (h:TxtOk 20 x)(b:⇑c<=100)  (a:ja i sd=.ok (.str x)):∃d,(yF Ka (ja i)<|jT c qC) Str.empty sd=.ok d:=by
 let r:=HL h;let e:⇑(Str.empty:Str)=0:=9;let f:⇑(reprText x)<=00:=small ();let g:⇑((Str.empty:Str)++reprText x)<=00:=small (by rw[K8,];lia);let j:⇑((Str.empty:Str)++reprText x++c)<=00:=small (by rw[K8,K8];lia);rw[(.str<|Str.empty++reprText x++c,?_)];ext yF;rw[a,Res.bind_ok];show(if(reprText x).length<=00/\⇑((Str.empty:Str)++reprText x)<=00 then jT c qC ((Str.empty:Str)++reprText x) sd else .no)=_
 simp_all[jT,qC]
def fu (h:TxtOk 20 x)(g:⇑a<=100)(j:⇑c<=100)  (e:ja i sd=.ok (.str x)):∃d,(jT a<|yF Ka (ja i)<|jT c qC) Str.empty sd=.ok d:=by
 let r:=HL h;let l:⇑(Str.empty:Str)=0:=9;let f:⇑((Str.empty:Str)++a)<=00:=small (by rw[K8,];lia);let m:⇑(reprText x)<=00:=small ();let n:⇑((Str.empty:Str)++a++reprText x)<=00:=small (by rw[K8,K8];lia);let o:⇑((Str.empty:Str)++a++reprText x++c)<=00:=small (by rw[K8,K8,K8];lia);rw[(.str<|Str.empty++a++reprText x++c,?_)];ext jT;rw[Zd f,];ext yF;rw[e,Res.bind_ok];show(if(reprText x).length<=00/\⇑((Str.empty:Str)++a++reprText x)<=00 then(λb sd=>if(b++c).length<=00 then qC (b++c) sd else .no) ((Str.empty:Str)++a++reprText x) sd else .no)=_
 simp_all[qC]
def RI (S:Sn p):zt [JJ p]=xV (kj p) "BadPlan":=by
 let L:xq (.int 10) (.int 30)=! .int 1000000000000000000000000000000:=9;let N:(" has not 1 to 40 items":Str).length<=100:=by decide+kernel
 let O:("an item of ":Str).length<=100:=by decide+kernel
 let Q:(" is no thing ahead of it":Str).length<=100:=by decide+kernel
 let T:("a wait of ":Str).length<=100:=by decide+kernel
 let U:(" has more than 30 figures":Str).length<=100:=by decide+kernel
 let(inner,hI):∃b,(js (qj (Qv<|Jz<|Kd xM ww (dC<|.int 0) (ja 05)<|ja 1) (Qt "BadPlan"<|(jT "an item of "<|yF Ka (ja 2)<|jT " is no thing ahead of it" qC) Str.empty) JF)<|qj (Jz<|jd vS (jj zp<|Ju (ja 06) jb)<|jd xq (dC<|.int 10)<|dC<|.int 30) (Qt "BadPlan"<|(jT "a wait of "<|yF Ka (ja 2)<|jT " has more than 30 figures" qC) Str.empty) JF)=b:=(_,9);let X:(qa (.tup [2,03,04]) (js (qj (Qv<|Jz<|Kd xM xM (dC<|.int 1) (jj jq<|Ju (ja 04) jb)<|dC<|.int 40) (Qt "BadPlan"<|(yF Ka (ja 2)<|jT " has not 1 to 40 items" qC) Str.empty) JF)<|js (qf (iS<|ja 04) (.tup [05,06]) inner)<|zP 1<|dC<|.int 1) (p.rows.map jn) [~~~JJ p,~~~.int ⇑p.givens,8,8,8,8,8]).bind xK=xV (kj p) "BadPlan":=by
  rw[WG (R:=λz=>z.bind xK=xV (kj p) "BadPlan") (P:=λi sd=>(∀(k:5)(r:Str×Str×Js),k<i->p.rows[k]?=!r->dq ((⇑p.givens:3)+k) r.2.2)/\∃C E F d e:02 SV,sd=[~~~JJ p,~~~(.int<|(⇑p.givens:3)+i),C,E,F,d,e]) () ?_ ?_]
  .rintro sd ⟨h,C,E,F,d,e,rfl⟩;rw[Zql]at h;let ok:kj p:=λk r G=>h k r (Ja.mp G).1 G;rw[WT ok,];rfl
  .rintro i x sd Y ⟨h,C,E,F,d,e,rfl⟩;let(-r,w,rfl):=Ke Y;let Z:=Ua w;let H:=S.rn r Z;let(g,hg):∃g:3,(⇑p.givens:3)+i=g:=(_,9);rw[hg,];let A:jq [jU r.2.2]=! .int ⇑r.2.2:=by show some (D.int ⇑(r.2.2.map qw))=_;rw[Zql,]
   cases c:1<=⇑r.2.2/\⇑r.2.2<=40
   .let u:(1:3)<=(⇑r.2.2:3):=()
    let B:(⇑r.2.2:3)<=40:=()
    let I:(∃f l:02 SV,qa (.tup [05,06]) inner (r.2.2.map qw) [~~~JJ p,~~~.int g,~~~.str r.1,~~~.str r.2.1,~~~jU r.2.2,d,e]=.ok (.next [~~~JJ p,~~~.int g,~~~.str r.1,~~~.str r.2.1,~~~jU r.2.2,f,l])/\ItOk g r.2.2)\/qa (.tup [05,06]) inner (r.2.2.map qw) [~~~JJ p,~~~.int g,~~~.str r.1,~~~.str r.2.1,~~~jU r.2.2,d,e]=.ex "BadPlan" []/\¬ItOk g r.2.2:=by
     rw[WG (R:=λz=>(∃f l:02 SV,z=.ok (.next [~~~JJ p,~~~.int g,~~~.str r.1,~~~.str r.2.1,~~~jU r.2.2,f,l])/\ItOk g r.2.2)\/z=.ex "BadPlan" []/\¬ItOk g r.2.2) (P:=λj sd=>(∀q∈r.2.2.take j,(0<=q.1/\q.1<g)/\-1000000000000000000000000000000<q.2/\q.2<1000000000000000000000000000000)/\∃d e:02 SV,sd=[~~~JJ p,~~~.int g,~~~.str r.1,~~~.str r.2.1,~~~jU r.2.2,d,e]) (λq m=>by simp at m,d,e,9) ?_ ?_]
     .rintro sd ⟨h,f,l,rfl⟩;rw[Zql,Uy]at h;rw[.inl (f,l,9,λq m=>(h q m).1,λq m=>(h q m).2)]
     .rintro j y sd hy ⟨h,f,l,rfl⟩;let(-q,m,rfl):=Ke hy;let M:q∈r.2.2:=Ua m;let(-d1,o):=fu H O Q (i:=2) (sd:=[~~~JJ p,~~~.int g,~~~.str r.1,~~~.str r.2.1,~~~jU r.2.2,~~~.int q.1,~~~.int q.2]) 9;let(d2,s):=fu H T U (i:=2) (sd:=[~~~JJ p,~~~.int g,~~~.str r.1,~~~.str r.2.1,~~~jU r.2.2,~~~.int q.1,~~~.int q.2]) 9;subst hI;generalize jT "an item of " _=j1 at o ⊢;generalize jT "a wait of " _=j2 at s ⊢;cases a:0<=q.1/\q.1<g
      .let(!n,v):=a;cases b:-1000000000000000000000000000000<q.2/\q.2<1000000000000000000000000000000
       .let J:¬(1000000000000000000000000000000:3)<=if q.2<0 then-q.2 else q.2:=by split<;>lia
        rw[.inl ([~~~JJ p,~~~.int g,~~~.str r.1,~~~.str r.2.1,~~~jU r.2.2,~~~.int q.1,~~~.int q.2],by simp[n,v,L,J],λz t=>?_,_,_,9)];rw[Uw,m]at t;obtain y|y:=Jd.mp t
        .rw[h z y]
        .rw[Jc.mp y,];rw[((n,v),b)]
       .let J:(1000000000000000000000000000000:3)<=if q.2<0 then-q.2 else q.2:=by split<;>lia
        rw[.inr ("BadPlan",[],by simp[n,v,L,J,s],.inr (9,λz=>b<|z.far q M))]
      .rw[.inr ("BadPlan",[],?_,.inr (9,λz=>a<|z.rng q M))];cases n:0<=q.1
       .let v:¬q.1<g:=λz=>a (n,z);simp[n,v,o]
       .simp[n,o]
    obtain⟨f,l,s,ok⟩|⟨s,no⟩:=I
    .let eg:g+1=(⇑p.givens:3)+((i+1:5):3):=()
     rw[.inl ([~~~JJ p,~~~(.int<|g+1),~~~.str r.1,~~~.str r.2.1,~~~jU r.2.2,f,l],by simp[A,u,B,s],λk z G t=>?_,_,_,_,_,_,by rw[eg,])];cases ki:k<i
     .rw[h k z ki t]
     .let:k=i:=()
      subst this;rw[w]at t;cases t;rw[(c,by rw[hg,];rw[ok])]
    .rw[.inr ("BadPlan",[],by simp[A,u,B,s],?_)];rw[KZ λz=>no<|by rw[<-hg];calc(z i r w).2,];rfl
   .let(d1,o):=fw H N (i:=2) (sd:=[~~~JJ p,~~~.int g,~~~.str r.1,~~~.str r.2.1,~~~jU r.2.2,d,e]) 9;rw[.inr ("BadPlan",[],?_,?_)]
    .cases u:(1:3)<=(⇑r.2.2:3)
     .let B:¬(⇑r.2.2:3)<=40:=()
      simp[A,u,B,o]
     .simp[A,u,o]
    .rw[KZ λz=>c (z i r w).1,];rfl
 simp_all[zt,wQ]
def HM (S:SnB a):zu [JL a]=xV (kg a) "BadPlan":=by
 cases c:1<=⇑a/\⇑a<=20
 .let n:(1:3)<=(⇑a:3):=()
  let s:(⇑a:3)<=20:=()
  let v:(qa (.one 1) (js (qj (Qv<|Jz<|Kd xM xM (dC<|.int 1) (jj jq<|Ju (jJ (jA "Plan" "givens")<|ja 1) jb)<|dC<|.int 12) (Qt "BadPlan"<|dC<|.str "a plan has 1 to 12 given things") JF)<|js (qj (Qv<|Jz<|Kd xM xM (dC<|.int 1) (jj jq<|Ju (jJ (jA "Plan" "rows")<|ja 1) jb)<|dC<|.int 40) (Qt "BadPlan"<|dC<|.str "a plan has 1 to 40 rows") JF)<|KS<|J9 zt<|Ju (ja 1) jb) (a.map JJ) [~~~JL a,8]).bind xK=xV (kg a) "BadPlan":=by
   rw[WG (R:=λz=>z.bind xK=xV (kg a) "BadPlan") (P:=λi sd=>(∀p∈a.take i,tH p)/\∃o:02 SV,sd=[~~~JL a,o]) () ?_ ?_]
   .rintro sd ⟨h,o,rfl⟩;rw[Zql,Uy]at h;rw[WT (c,h),];rfl
   .rintro i x sd w ⟨h,o,rfl⟩;let(-p,t,rfl):=Ke w;let f:=Ua t;let j:=RI<|S.pl p f;cases g:1<=⇑p.givens/\⇑p.givens<=12
    .let b:(1:3)<=(⇑p.givens:3):=()
     let d:(⇑p.givens:3)<=12:=()
     cases r:1<=⇑p.rows/\⇑p.rows<=40
     .let e:(1:3)<=(⇑p.rows:3):=()
      let l:(⇑p.rows:3)<=40:=()
      cases m:kj p
      .rw[WT m]at j;rw[.inl ([~~~JL a,~~~JJ p],by simp[b,d,e,l,j],λq u=>?_,_,9)];rw[Uw,t]at u;obtain z|z:=Jd.mp u
       .rw[h q z]
       .rw[Jc.mp z,];rw[(g,r,m)]
      .rw[KZ m]at j;rw[.inr ("BadPlan",[],by simp[b,d,e,l,j],?_)];rw[KZ λz=>m (z.2 p f).2.2,];rfl
     .rw[.inr ("BadPlan",[],?_,?_)]
      .cases e:(1:3)<=(⇑p.rows:3)
       .let l:¬(⇑p.rows:3)<=40:=()
        simp[b,d,e,l]
       .simp[b,d,e]
      .rw[KZ λz=>r (z.2 p f).2.1,];rfl
    .rw[.inr ("BadPlan",[],?_,?_)]
     .cases b:(1:3)<=(⇑p.givens:3)
      .let d:¬(⇑p.givens:3)<=12:=()
       simp[b,d]
      .simp[b]
     .rw[KZ λz=>g (z.2 p f).1,];rfl
  simp_all[zu,zE]
 .rw[KZ λz=>c z.1,];cases n:(1:3)<=(⇑a:3)
  .let s:¬(⇑a:3)<=20:=()
   simp[zu,zE,n,s]
  .simp[zu,zE,n]
def RJ (S:SnB a)(T:(a.map (·.name)).Nodup):wl [JL a]=xV (mj a) "BadPart":=by
 let U:(" is made by no plan ahead that has as many given things as it has items":Str).length<=100:=by decide+kernel
 let(inner,hI):∃b,qj (Qz (Jz<|KW yU<|Ju (ja 04) jb)<|Jz<|jd xL (Yy [1]<|Xz (ja 1)<|ja 04)<|jj jq<|Ju (ja 05) jb) (Qt "BadPart"<|(yF Ka (ja 03)<|jT " is made by no plan ahead that has as many given things as it has items" qC) Str.empty) JF=b:=(_,9);let X:(qa (.one 2) (js (qf (iS<|jJ (jA "Plan" "rows")<|ja 2) (.tup [03,04,05]) inner)<|W9 1 (jJ (jA "Plan" "name")<|ja 2)<|jj jq<|Ju (jJ (jA "Plan" "givens")<|ja 2) jb) (a.map JJ) [~~~JL a,!(.own 7<|.dct [] []),8,8,8,8]).bind xK=xV (mj a) "BadPart":=by
  rw[WG (R:=λz=>z.bind xK=xV (mj a) "BadPart") (P:=λi sd=>(∀(k:5)(p:Pl),k<i->a[k]?=!p->∀r∈p.rows,wW (QZ<|a.take k) r)/\∃u c d e:02 SV,sd=[~~~JL a,!(.own 7<|dT<|QZ<|a.take i),u,c,d,e]) (λk p h=>(),8,8,8,8,9) ?_ ?_]
  .rintro sd ⟨h,u,c,d,e,rfl⟩;rw[Zql]at h;let ok:mj a:=λk p w=>h k p (Ja.mp w).1 w;rw[WT ok,];rfl
  .rintro i x sd Y ⟨h,u,c,d,e,rfl⟩;let(-p,m,rfl):=Ke Y;let Z:=Ua m;let P:=S.pl p Z;let M:=(Ja.mp m).1;let l2:=S.len;let(t,ht):∃t,QZ (a.take i)=t:=(_,9);let fr:p.name∉t.map (·.1):=by
    rw[<-ht,D6];intro z;let(-y,A,ey):=Jb.mp z;let(j,hj,N):=U7 A;let pw:=Va.mp<|Jo.mp<|Vs.mp T;let B:j<i:=by rw[Ue]at hj;lia
    let:=pw j i () M B;rw[List.getElem_take]at N;rw[Zqg M]at m;cases m;rw[N]at this;rw[this ey]
   let tl:⇑t<=920:=by
    rw[<-ht];ext QZ;rw[Zql,Ue];lia
   rw[ht,];let C:(∃f g l:02 SV,qa (.tup [03,04,05]) inner (p.rows.map jn) [~~~JL a,!(.own 7<|dT t),~~~JJ p,c,d,e]=.ok (.next [~~~JL a,!(.own 7<|dT t),~~~JJ p,f,g,l])/\∀r∈p.rows,wW t r)\/qa (.tup [03,04,05]) inner (p.rows.map jn) [~~~JL a,!(.own 7<|dT t),~~~JJ p,c,d,e]=.ex "BadPart" []/\¬ ∀r∈p.rows,wW t r:=by
    rw[WG (R:=λz=>(∃f g l:02 SV,z=.ok (.next [~~~JL a,!(.own 7<|dT t),~~~JJ p,f,g,l])/\∀r∈p.rows,wW t r)\/z=.ex "BadPart" []/\¬ ∀r∈p.rows,wW t r) (P:=λj sd=>(∀r∈p.rows.take j,wW t r)/\∃c d e:02 SV,sd=[~~~JL a,!(.own 7<|dT t),~~~JJ p,c,d,e]) (λq E=>by simp at E,c,d,e,9) ?_ ?_]
    .rintro sd ⟨h,f,g,l,rfl⟩;rw[Zql,Uy]at h;rw[.inl (f,g,l,9,h)]
    .rintro j y sd A ⟨h,f,g,l,rfl⟩;let(-r,O,rfl):=Ke A;let s:r∈p.rows:=Ua O;let o:=uB (P.rh r s).asc;let F:jq [jU r.2.2]=! .int ⇑r.2.2:=by show some (D.int ⇑(r.2.2.map qw))=_;rw[Zql,]
     let v:=Y1 t r.2.1;let G:CH (dT t)=.ok %[t.map λp=>.inr p.1|t.map λp=>.int p.2]:=9;let step:wW t r->∀q∈p.rows.take (j+1),wW t q:=λE q Q=>by
      rw[Uw,O]at Q;obtain z|z:=Jd.mp Q
      .rw[h q z]
      .rw[Jc.mp z,];rw[E]
     let(-d1,H):=fw (P.rn r s) U (i:=03) (sd:=[~~~JL a,!(.own 7<|dT t),~~~JJ p,~~~.str r.1,~~~.str r.2.1,~~~jU r.2.2]) 9;subst hI;generalize yF Ka _ _=j1 at H ⊢
     induction q:xl r.2.1 with
     |false=>
      rw[q]at o;rw[.inl ([~~~JL a,!(.own 7<|dT t),~~~JJ p,~~~.str r.1,~~~.str r.2.1,~~~jU r.2.2],by simp[o],step (λz=>nomatch q.symm.trans z),_,_,_,9)]
     |true=>
      rw[q]at o
      induction k:qH t r.2.1 with
      |none=>
       rw[k]at v;let gn:xL .non (.int ⇑r.2.2)=! .bl 6:=by
        let z:sameD .non (.int ⇑r.2.2)=7:=by
         rw[wV,];intro z;cases z
        rw[Z1 9 9,z];rfl
       rw[.inr ("BadPart",[],by simp[o,F,G,v,Kz,gn,H],.inr (9,λz=>by let:=z r s q;rw[k]at this;cases this))]
      |some n=>
       rw[k]at v;cases I:n=(⇑r.2.2:3)
       .subst I;rw[.inl ([~~~JL a,!(.own 7<|dT t),~~~JJ p,~~~.str r.1,~~~.str r.2.1,~~~jU r.2.2],by simp[o,F,G,v,Kz],step<|λ_=>k,_,_,_,9)]
       .rw[.inr ("BadPart",[],by simp[o,F,G,v,Kz,I,H],.inr (9,λz=>by let:=z r s q;rw[k]at this;rw[I<|Zqi this]))]
   obtain⟨f,g,l,J,ok⟩|⟨J,no⟩:=C
   .let pt:=Br fr (⇑p.givens:3);let lz:=Qi<|show ⇑t<=1000 from();let tk:QZ (a.take<|i+1)=t++[%[p.name|(⇑p.givens:3)]]:=by
     rw[Uw,m,<-ht];ext QZ;rw[Ud,];rfl
    let gk:vh (! !(.own 7<|dT t))=.ok %[t.map λp=>.inr p.1|t.map λp=>.int p.2]:=9;rw[.inl ([~~~JL a,!(.own 7<|dT<|t++[%[p.name|(⇑p.givens:3)]]),~~~JJ p,f,g,l],?_,λk z w L=>?_,_,_,_,_,by rw[tk,])]
    .rw[<-pt];simp[J,gk,lz]
    .cases ki:k<i
     .rw[h k z ki L]
     .let:k=i:=()
      subst this;rw[m]at L;cases L
      rwa[ht,]
   .rw[.inr ("BadPart",[],by simp[J],?_)];rw[KZ λz=>no<|by rw[<-ht];rw[z i p m],];rfl
 simp_all[wl,wP]
def rd  :StrLaws.At x s ⇑x i↔i+⇑s<=⇑x/\(x.cps.toList.drop i).take ⇑s=s.cps.toList:=by
 ext StrLaws.At;rw[StrLaws.subAt_eq,Yi]
theorem HN   (m:s.cps.toList=c::t):∀(i:Yg)(r:Str)(a:5)(g:Yf)(f:5),a<=⇑x->x.cps.toList.drop a=(Txt.join s<|r::i).cps.toList->(∀p∈r::i,c∉p.cps.toList)->StrLaws.ChainG x s ⇑x a g f->(∀k,f<=k->¬StrLaws.At x s ⇑x k)->StrLaws.partsFrom x ⇑s a g=r::i
 |[],r,a,[],f,ha,hx,fr,hG,hn=>by
  show[Builtin.Str.strSub x a ⇑x]=[r]
  congr 1
  apply Wd;rw[StrLaws.strSub_toList,hx,WQ];apply UJ;let:=Zt List.length hx;rw[WQ,UW]at this;rw[<-this];rw[Zf _]
 |[],r,a,d::n,f,ha,hx,fr,hG,hn=>by
  exfalso;let v:=(rd.mp hG.2.1).2;let e:x.cps.toList.drop d=r.cps.toList.drop (d-a):=by
   rw[<-WQ s r,<-hx,List.drop_drop]
   congr 1
   let:=hG.1;lia
  grind
 |r2::i,r,a,g,f,ha,hx,fr,hG,hn=>by
  rw[WP,Q0,Q0]at hx;let w:⇑s=⇑t+1:=by
   show s.cps.size=_;rw[<-Up,m];rfl
  let y:⇑r=⇑r.cps.toList:=9;let A:=Zt List.length hx;let B:⇑x.cps.toList=⇑x:=Up;let j:⇑s.cps.toList=⇑s:=Up;rw[UW,Ub,Ub,B,j]at A;let u:x.cps.toList.drop (a+⇑r)=s.cps.toList++(Txt.join s<|r2::i).cps.toList:=by
   rw[<-List.drop_drop,hx,y,Uq,List.drop_left]
  let N:StrLaws.At x s ⇑x (a+⇑r):=by
   rw[rd.mpr ((),?_)];rw[u,<-j,Ve]
  let C:∀k,a<=k->k<a+⇑r->¬StrLaws.At x s ⇑x k:=λk O v E=>by
   let o:=(rd.mp E).2;let e:x.cps.toList.drop k=(r.cps.toList++(s.cps.toList++(Txt.join s<|r2::i).cps.toList)).drop (k-a):=by
    rw[<-Uq,<-hx,List.drop_drop]
    congr 1
    lia
   rw[e,List.drop_append_of_le_length (),m,w]at o;let(b,l,hl):∃b l,r.cps.toList.drop (k-a)=b::l:=by
    cases F:r.cps.toList.drop (k-a)with
    |nil=>
     let z:=Zt List.length F;rw[UW,ZC]at z;lia
    |cons b l=>rw[xh b l 9]
   rw[hl,List.cons_append,Vf]at o;injection o with h4 _
   rw[fr r Zqs<|List.mem_of_mem_drop<|by rw[hl,h4];rw[Zqs]]
  cases(g)with
  |nil=>
   let P:f=a:=hG;rw[()]
  |cons d n=>
   let(!G,H,Q,I):=hG;let J:d=a+⇑r:=by
    rcases Nat.lt_trichotomy d (a+⇑r)with h|h|h
    .rw[Zn H<|C d G h]
    .rw[h]
    .rw[()]
   subst J;let L:Builtin.Str.strSub x a (a+⇑r)=r:=by
    apply Wd;rw[StrLaws.strSub_toList,hx,show a+⇑r-a=⇑r.cps.toList by lia,Uq,Ve]
   show Builtin.Str.strSub x a (a+⇑r)::StrLaws.partsFrom x ⇑s (a+⇑r+⇑s) n=_;rw[L,HN m i r2 (a+⇑r+⇑s) n f () (by rw[<-List.drop_drop,u,<-j,List.drop_left]) (λp M=>fr p<|Zqm _ M) I hn]
def Xd   (d:s.cps.toList=c::t)(j:s.cps.all (·<256)=6)  (fr:∀p∈r::rs,c∉p.cps.toList):Txt.split (Txt.join s<|r::rs) s=r::rs:=by
 let l:⇑s=⇑t+1:=by
  show s.cps.size=_;rw[<-Up,d];rfl
 let(-f,e,g):=StrLaws.occ_tight (Txt.join s<|r::rs) s ();let a:=HN d rs r 0 _ f (Um _) 9 fr e g;ext Txt.split
 split
 .rename_i b
  cases(rs)with
  |nil=>rw[WQ,]
  |cons m rs=>
   rw[WP]at b;simp[K8]at b;obtain h|h:=b
   .omega
   .exfalso;unfold Builtin.Str.strKind at h
    split at h
    .omega
    .split at h<;>lia
 .split
  .rename_i i;rw[List.isEmpty_iff.mp i]at a;rw[Eq.trans ?_ a];show[_]=[_];rw[StrLaws.sub_whole,]
  .rwa[StrLaws.partsBetween_eq,]
def RK(a b:Str):Txt.startswith (a++b) a=6:=by
 show(decide (0+⇑a<=⇑(a++b))&&Builtin.Str.subAt (a++b) a 0)=6;rw[StrLaws.subAt_eq,K8,Zp (),Bool.true_and,Yi,Q0,List.drop_zero];rw[rfl.trans<|by rw[show ⇑a=⇑a.cps.toList from(Up).symm,Ve]]
def HR (h:(x.cps.toList).take ⇑y≠y.cps.toList):Txt.startswith x y=7:=by
 show(decide (0+⇑y<=⇑x)&&Builtin.Str.subAt x y 0)=7
 simp_all[StrLaws.subAt_eq]
def HS (a:asc x)(b:asc y):xL (.str x) (.str y)=!(.bl<|not<|decide<|x=y):=by
 rw[Z1 (KH a) (KH b),];cases z:x=y
 .simp_all[VR]
 .rw[Zo z,wV.mpr λq=>z<|D.str.inj q]
def RL (a:asc x)(b:asc y):qI (.str x) (.str y)=!(.bl<|decide<|x=y):=by
 rw[YZ (KH a) (KH b),];cases z:x=y
 .simp_all[VR]
 .rw[Zo z,wV.mpr λq=>z<|D.str.inj q]
def RM(a b:Str):Txt.slice (a++b) (!(⇑a:3)) 8=b:=by
 let l:(a++b).cps.toList.length=⇑a+⇑b:=K8 a b;let e:Txt.slice (a++b) (!(⇑a:3)) 8=StrLaws.sliceText (a++b) (!(⇑a:3)) 8:=9;rw[e,StrLaws.sliceText_from ()];apply Wd;rw[l,Q0,Uk,show ⇑a=⇑a.cps.toList from 9,List.drop_left];rw[UJ ?_];let:⇑b=⇑b.cps.toList:=(Up).symm;lia
def RO (d:x.cps.toList=43::y.cps.toList)(a:NumText.AllDigits y.cps.toList):intText? x=intText? y:=by
 let low:∀c∈x.cps.toList,43<=c/\c<58:=by
  rw[d,];intro c b;obtain z|z:=Ux.mp b
  .omega
  .let:=a c z;lia
 let e:numTextOf x=x.cps.toList:=Zd<|by
  rw[<-Vn,Ur]
  grind
 let i:numSeenOf x=x.cps.toList:=by
  show(numTextOf x).takeWhile _=_;rw[e,];rw[NumText.takeWhile_all ()]
 have(j,l):=numText_signs λc b=>.inr<|a c b;let f:NumText.sign (x.cps.toList.dropWhile NumText.blank)=%[7|y.cps.toList]:=by rw[d,NumText.dropWhile_of (by decide)];rfl
 let g:(NumText.sign<|y.cps.toList.dropWhile NumText.blank)=%[7|y.cps.toList]:=by
  rw[NumText.dropWhile_digits a,]
  induction h:y.cps.toList with
  |nil=>rfl
  |cons c m=>
   let:=(h ▸ a).head;rw[NumText.sign_of () ()]
 ext intText?;rw[e,i,j,l,show NumText.core x.cps.toList=NumText.core y.cps.toList by ext NumText.core;rw[f,g],f,g,beq_self_eq_true,beq_self_eq_true]
theorem HU:∀m:5,1<=m->((Nat.toDigits 10 m).map Char.toNat).headD 0≠48
 |m,h=>by
  cases g:m<10
  .rw[Vu g,];let:∀k:Fin 10,1<=k.val->([Nat.digitChar k.val].map Char.toNat).headD 0≠48:=by decide
   rw[this (m,g) h]
  .rw[Nat.toDigits_of_base_le () (),Ud];let a:=HU (m/10) ();cases e:(Nat.toDigits 10<|m/10).map Char.toNat with
   |nil=>
    ext
   |cons c b=>ext
termination_by m=>m
theorem HV:∀(k m:5),m<10^(k+1)->⇑(Nat.toDigits 10 m)<=k+1
 |0,m,h=>by rw[Vu (),];rw[Zf _]
 |k+1,m,h=>by
  cases g:m<10
  .rw[Vu g,];simp
  .rw[Nat.toDigits_of_base_le () (),Ub];let:=HV k (m/10) ()
   ext
def RP(m:5):1<=⇑((Nat.toDigits 10 m).map Char.toNat):=by
 rw[Zql,];rw[Nat.length_toDigits_pos]
def HX(m:5):NumText.AllDigits (jZ (m:3)).cps.toList:=by
 rw[ZX,];intro c a;let(-d,b,rfl):=Jb.mp a;let:=Nat.isDigit_of_mem_toDigits (by decide) (by decide) b;simp only[Char.isDigit,Uc,decide_eq_true_eq]at this;rw[(this.1,this.2)]
structure FigT(d:Str)(m:5):4 where
 lo:1<=⇑d
 hi:⇑d<=30
 hd:d.cps.toList.headD 0≠48
 all:NumText.AllDigits d.cps.toList
 val:NumText.digitsVal d.cps.toList=m
def HY{m:5}(a:1<=m)(b:m<1000000000000000000000000000000):FigT (jZ (m:3)) m:=by
 let l:⇑(jZ (m:3))=⇑(Nat.toDigits 10 m):=by
  show(jZ (m:3)).cps.size=_;rw[<-Up,ZX,Zql]
 let p:=RP m;rw[Zql]at p;rw[((),by rw[l,];rw[HV 29 m b],by rw[ZX,];rw[HU m a],HX m,by rw[ZX,];rw[W.KIN.val_back m])]
def FigT.ok  (h:FigT d m):TxtOk 30 d:=(h.hi,w6.mpr λc a=>by let:=h.all c a;lia)
def FigT.plus  (h:FigT d m):intText? (("+":Str)++d)=!(m:3):=by
 let:=h.lo;rw[RO (by rw[Q0,];rfl) h.all,intText_digits h.all λz=>by let:⇑d=⇑d.cps.toList:=(Up).symm;simp_all (by let:=h.hi;lia),h.val]
def FigT.minus  (h:FigT d m):intText? (("-":Str)++d)=!-(m:3):=by
 let:=h.lo;let:=h.hi;rw[intText_neg (by rw[Q0,];rfl) h.all λz=>by let:⇑d=⇑d.cps.toList:=(Up).symm;simp_all (by rw[K8,];show 1+⇑d<=_;lia),h.val]
def HZ  (h:FigT d m):BE [.str d]=.ok (.bl 6):=by
 let p:=Bq h.ok ();let r:(1:3)<=(⇑d:3):=by let:=h.lo;lia
 let s:(⇑d:3)<=30:=by let:=h.hi;lia
 have(e,t,b,u):=Hc (k:=0) h.ok () () ();let g:e≠48:=λz=>h.hd<|by
  let b:=b
  induction l:d.cps.toList with
  |nil=>rw[l]at b;cases b
  |cons a v=>rw[l]at b;rw[<-z];rw[Zqi b]
 let i:e<128:=()
 let w:xL (.str ⟨#[e]⟩) (.str "0")=! .bl 6:=by
  rw[HS (PQ i).asc (Qy (n:=1)<|by decide+kernel).asc,Zo λz=>g ?_]
  .rfl
  .let:(⟨#[e]⟩:Str).cps.toList=("0":Str).cps.toList:=by rw[z,]
   let:=this;injection this
 let y:wO d=6:=h.ok.asc;let j:qB (.one 0) (jd (xO 7) (ja 0)<|dC<|.str "0123456789") [8] (vB d)=.ok ((d.cps.toList.map λc=>decide<|c∈FG).map .bl):=by
  rw[Zw,];rw[K5 λc _=>?_];let f:=AT 7 c "0123456789";let f:xO 7 (.str ⟨#[c]⟩) (.str "0123456789")=!(.bl<|decide<|c∈FG):=f;simp[f]
 let A:=ZF<|d.cps.toList.map λc=>decide<|c∈FG;let B:(d.cps.toList.map λc=>decide<|c∈FG).all id=6:=by
  rw[US,Ur];intro c o;let z:=h.all c o;rw[Zp<|HH<|by ext zN;rw[Zp z.1,Zp ()];rfl]
 let C:⇑(vB d)<00:=Qi<|by ext vB;rw[Zql,Up];let:⇑d=d.cps.size:=9;lia
 simp_all[BE,BC]
def RQ (h:jP x) (a:c∈x.cps.toList):(zM c||zN c)=6:=by
 let z:=h.2;unfold Kx at z;simp only[Uc]at z;rw[Ur.mp z.2.2.2.2 c a]
def V7 (h:jP x) (a:(zM c||zN c)=7):c∉x.cps.toList:=λz=>by rw[RQ h z]at a;cases a
def BI (h:jP x):xc [.str x]=.ok (.bl 6):=by rw[v8 h.1 (),D5 h.2]
def Ia   (h:TxtOk n x)(a:n<=1000)(b:c∈x.cps.toList)(d:c∉LT)(e:c∉FG):xc [.str x]=.ok (.bl 7):=by
 rw[v8 h a,];let:(x.cps.toList.all λc=>decide (c∈LT)||decide (c∈FG))=7:=by grind
 ext Wy;rw[this,Bool.and_false,Bool.and_false,Bool.and_false]
def D8  (h:FigT d m)(a:c<48\/57<c):c∉d.cps.toList:=λz=>by let:=h.all c z;lia
def XB  (h:TxtOk n x)(b:n<=4000000)(a:(⇑s==0)=7):VZ x (.str s)=!(.lst<|(Txt.split x s).map .str):=by
 rw[Zd (a,?_)];let:=h.len;rw[Zh (show ⇑x+2<=4000002 from())<|by decide+kernel]
def z8  {d:D}(a:0<=k)(h:l[k.toNat]?=!d):qo l k=!d:=by
 let b:=(Ja.mp h).1;ext qo zm;rw[Zd a,Zd ()];rw[h]
def z9(a:D)(l:Yq):qo (a::l) 0=!a:=z8 () 9
def wa(a b:D)(l:Yq):qo (a::b::l) 1=!b:=z8 () 9
def uH(a b c:D)(l:Yq):qo (a::b::c::l) 2=!c:=z8 () 9
def t8(a b c d:D)(l:Yq):qo (a::b::c::d::l) 03=!d:=z8 () 9
def BJ(s a b:Str):Txt.join s [a,b]=a++s++b:=by rw[WP,WQ]
def bn  (d:jP x)(u:-1000000000000000000000000000000<w)(v:w<1000000000000000000000000000000):Xa [.str (zx x w)]=.ok (.tup [.str x,.int w]):=by
 let o:=BI d;ext zx;cases r:w=0
 .simp_all[Xa,YC]
 .rw[Ze r,];cases g:0<w
  .rw[Zd g,];let(-m,rfl):=UT (Int.le_of_lt g);let f:=HY (m:=m) () ();let k:TxtOk 44 (x++"+"++jZ (m:3)):=((d.1.app<|Qy (n:=1)<|by decide+kernel).app f.ok).mono ();let h:xc [.str (x++"+"++jZ (m:3))]=.ok (.bl 7):=Ia (c:=43) k () (by rw[Q0,Q0];simp;rw[.inr<|.inl<|by decide+kernel]) (by decide+kernel) (by decide+kernel);let b:=XB (s:="+") k () (by decide+kernel);rw[<-BJ "+",Xd (c:=43) (t:=[]) 9 (by decide+kernel) λp hp=>by
    obtain rfl|hp:=Ux.mp hp
    .rw[V7 d<|by decide]
    .rw[Jc.mp hp,];rw[D8 f ()],BJ]at b
   let b:VZ (x++"+"++jZ (m:3)) (.str "+")=! .lst [.str x,.str (jZ (m:3))]:=b;let i:=HZ f;let j:=Wf (a:="+") (Qy (n:=1)<|by decide+kernel) f.ok ();let l:ZT [.str (("+":Str)++jZ (m:3))]=! .int (m:3):=by
    show(if(("+":Str)++jZ (m:3)).length<=640 then(intText? _).map D.int else 8)=_;rw[Zd (by rw[K8,];let:=f.hi;show 1+_<=_;lia),f.plus];rfl
   simp_all[Xa,YC,Bu,ZW,z9,wa,qD]
  .rw[Ze g,];let(m,rfl):∃m:5,w=-((m+1:5):3):=((-w).toNat-1,());rw[Bv,<-We];let f:=HY (m:=m+1) () ();let k:TxtOk 44 (x++"-"++jZ ((m+1:5):3)):=((d.1.app<|Qy (n:=1)<|by decide+kernel).app f.ok).mono ();let h:xc [.str (x++"-"++jZ ((m+1:5):3))]=.ok (.bl 7):=Ia (c:=45) k () (by rw[Q0,Q0];simp;rw[.inr<|.inl<|by decide+kernel]) (by decide+kernel) (by decide+kernel);let e:=XB (s:="+") k () (by decide+kernel);rw[<-WQ "+" (x++"-"++jZ ((m+1:5):3)),Xd (c:=43) (t:=[]) 9 (by decide+kernel) λp hp=>by
    rw[Jc.mp hp,Q0,Q0];intro z;obtain z|z:=Jd.mp z
    .rcases Jd.mp z with z|z
     .rw[V7 d (by decide) z]
     .revert z;decide+kernel
    .rw[D8 f () z],WQ]at e
   let e:VZ (x++"-"++jZ ((m+1:5):3)) (.str "+")=! .lst [.str (x++"-"++jZ ((m+1:5):3))]:=e;let b:=XB (s:="-") k () (by decide+kernel);rw[<-BJ "-",Xd (c:=45) (t:=[]) 9 (by decide+kernel) λp hp=>by
    obtain rfl|hp:=Ux.mp hp
    .rw[V7 d<|by decide]
    .rw[Jc.mp hp,];rw[D8 f ()],BJ]at b
   let b:VZ (x++"-"++jZ ((m+1:5):3)) (.str "-")=! .lst [.str x,.str (jZ ((m+1:5):3))]:=b;let i:=HZ f;let j:=Wf (a:="-") (Qy (n:=1)<|by decide+kernel) f.ok ();let l:ZT [.str (("-":Str)++jZ ((m+1:5):3))]=!(.int<|-((m+1:5):3)):=by
    show(if(("-":Str)++jZ ((m+1:5):3)).length<=640 then(intText? _).map D.int else 8)=_;rw[Zd (by rw[K8,];let:=f.hi;show 1+_<=_;lia),f.minus];rfl
   generalize((m+1:5):3)=q at*;simp[Xa,YC,Bu,ZW,z9,wa,h,qD,e,b,o,i,j,l]
def rI(i:Str×3):D:=.tup [.str i.1,.int i.2]
def uS(i:Str×3):4:=jP i.1/\-1000000000000000000000000000000<i.2/\i.2<1000000000000000000000000000000
def yG(i:Str×3):Str:=zx i.1 i.2
def Wz:Yg->List Str
 |[]=>[]
 |[x]=>[x]
 |x::y::r=>(x++",")::Wz (y::r)
def Ib(x:Str)(r:Yg):∃y l,Wz (x::r)=y::l:=by
 cases r with
 |nil=>rw[(_,_,9)]
 |cons y r=>rw[(_,_,9)]
theorem D9:∀(x:Str)(r:Yg),Txt.join " " (Wz<|x::r)=Txt.join ", " (x::r)
 |x,[]=>by rfl
 |x,y::r=>by
  let a:=D9 y r;let(z l,e):=Ib y r;show Txt.join " " ((x++",")::Wz (y::r))=_;rw[e]at a ⊢;rw[WP,a,WP,We x,We x,We x]
  congr 1
theorem DA:∀l:Yg,⇑(Wz l)=⇑l
 |[]=>9
 |[_]=>9
 |x::y::r=>Zt (·+1) (DA<|y::r)
theorem DB:∀(l:Yg),∀w∈Wz l,∃x∈l,w=x\/w=x++","
 |[],w,h=>nomatch h
 |[x],w,h=>(x,Zqs,.inl<|Jc.mp h)
 |x::y::r,w,h=>by
  obtain z|z:=Ux.mp h
  .rw[()]
  .let(-a,b,c):=DB (y::r) w z
   grind
def DC (h:uS i):TxtOk 44 (yG i):=Hv h.1.1 h.2.1 h.2.2
def DD (h:uS i) (d:(zM c||zN c)=7)(f:c≠43)(g:c≠45):c∉(yG i).cps.toList:=by
 let a:=V7 h.1 d;let b:∀m:5,c∉(jZ (m:3)).cps.toList:=λm z=>by
  let:=HX m c z;let:zN c=6:=by ext zN;rw[Zp (),Zp ()];rfl
  ext
 ext yG zx
 split
 .rw[a]
 .split
  .have(m,e):=UT (show 0<=i.2 from());rw[e,Q0,Q0];intro z;obtain z|z:=Jd.mp z
   .rcases Jd.mp z with z|z
    .rw[a z]
    .rw[f<|Jc.mp z]
   .rw[b m z]
  .have(m,e):∃m:5,i.2=-((m+1:5):3):=((-i.2).toNat-1,());rw[e,Bv,Q0,Q0];intro z;obtain z|z:=Jd.mp z
   .rw[a z]
   .rcases Jd.mp z with z|z
    .rw[g<|Jc.mp z]
    .rw[b (m+1) z]
def RR{a:List (Str×3)}(h:∀i∈a,uS i):∀w∈Wz (a.map yG),32∉w.cps.toList:=λw b=>by
 let(-x,d,e):=DB _ w b;let(-i,g,rfl):=Jb.mp d;let f:=DD (h i g) (c:=32) (by decide) () ();obtain rfl|rfl:=e
 .rw[f]
 .rw[Q0,];intro z;obtain z|z:=Jd.mp z
  .rw[f z]
  .rw[Zn (Jc.mp z)<|by decide]
def RU{a:List (Str×3)}(h:∀i∈a,uS i):∀w∈Wz (a.map yG),TxtOk 45 w:=λw b=>by
 let(-x,c,e):=DB _ w b;let(-i,d,rfl):=Jb.mp c;let f:=DC<|h i d;obtain rfl|rfl:=e
 .rw[f.mono ()]
 .rw[f.app<|Qy (n:=1)<|by decide+kernel]
def gg (h:uS i):plN 12 (rI i)=6:=by
 show[D.str i.1,D.int i.2].all (plN 11)=6;rw[Uv,KH h.1.1.asc];rfl
def bo   (h:∀j∈i::a,uS j)(v:⇑a<=43):Ah [.str n,.str how,.lst ((Wz<|(i::a).map yG).map .str)]=.ok (.tup [.str n,.str how,.lst ((i::a).map rI)]):=by
 let l:=DA<|(i::a).map yG;rw[Zql,Zu]at l;let g:=Dp (sep:=" ")<|Dn (m:=1) (n:=45) (k:=44) (by decide+kernel) (λw o=>(RU h w o).len) () ();rw[Zl]at g;rw[D9,<-Zl]at g;let k:TxtOk 2024 (Txt.join ", "<|(i::a).map yG):=(ZY (m:=2) (k:=44) (Qy<|by decide+kernel) (λx r=>by let(j,b,rfl):=Jb.mp r;calc DC<|h j b)<|by rw[Zql,Zu];lia).mono ();let y:=XB (s:=", ") k () (by decide+kernel);let A:Txt.split (Txt.join ", "<|(i::a).map yG) ", "=(i::a).map yG:=Xd (c:=44) 9 (by decide+kernel) λp t=>by
  let(-j,b,rfl):=Jb.mp (show p∈(i::a).map yG from t);exact DD (h j b) (by decide) () ()
 let u:qB (.one 0) (J9 Xa<|Ju (ja 0) jb) [8] ((i::a).map<|D.str ∘ yG)=.ok ((i::a).map rI):=K5 λj b=>by
  let e:=bn (h j b).1 (h j b).2.1 (h j b).2.2;let e:Xa [.str (yG j)]=.ok (rI j):=e;simp[e]
 let B:x8 7 .non (.lst<|(i::a).map rI)=! .bl 7:=by
  let p:=Ur.mpr λd f=>by
   let(j,b,rfl):=Jb.mp f;exact gg<|h j b
  show(if plN 12 D.non&&((i::a).map rI).all (plN 12)then !(D.bl<|if 7=6 then _ else((i::a).map rI).any λe=>sameD e .non)else 8)=_;rw[p,];let q:(((i::a).map rI).any λe=>sameD e .non)=7:=UU.mpr λd f=>by
   let(-j,b,rfl):=Jb.mp f;rw[(wV.mpr λz=>by cases z),];exact Zj
  rw[q,];rfl
 let C:⇑((i::a).map<|D.str ∘ yG)<00:=Qi<|by rw[Zql,Zu];lia
 simp_all[Ah,BF,qD]
structure RowR(n how:Str)(its:List (Str×3)):4 where
 nm:jP n
 hw:how="all"\/how="first"\/jP how
 is:∀i∈its,uS i
 lo:1<=⇑its
 hi:⇑its<=44
def xn(n a:Str)(b:List (Str×3)):Str:=" "++n++" "++yf a++" "++Txt.join ", " (b.map yG)
def XC(n a:Str)(b:List (Str×3)):D:=.tup [.str n,.str a,.lst (b.map rI)]
def RowR.ok  (R:RowR n a b):TxtOk 2056 (xn n a b)/\TxtOk 12 a:=by
 let c:TxtOk 12 a:=by
  obtain rfl|rfl|h:=R.hw
  .rw[Qy<|by decide+kernel]
  .rw[Qy<|by decide+kernel]
  .rw[h.1]
 let k:TxtOk 2024 (Txt.join ", "<|b.map yG):=(ZY (m:=2) (Qy<|by decide+kernel) (λx e=>by let(-j,f,rfl):=Jb.mp e;rw[DC<|R.is j f])<|by rw[Zql,];rw[R.hi]).mono ();rw[((((((zk.app R.nm.1).app zk).app<|Dq c).app zk).app k).mono (),c)]
def Ic(a:Str):("":Str)++a=a:=Wd<|by rw[Q0,];rfl
def RV(a:Str):("part":Str)++(" "++a)="part "++a:=Wd<|by simp only[Q0,<-Uq];rfl
def XD(x y:Str)(r:Yg):Txt.join " " (x::y::r)=x++" "++Txt.join " " (y::r):=WP _ _ _ _
def DE (a:asc x):x8 7 (.str x) (.tup [.str "all",.str "first"])=!(.bl<|not<|xl x):=by
 let e:=Ht (neg:=7) a (xs:=["all","first"])<|λy hy=>by
  obtain rfl|hy:=Ux.mp hy;· ext asc;decide+kernel
  .rw[Jc.mp hy,];ext asc;decide+kernel
 simp_all[xl]
def bp  (R:RowR n how d):X7 [.str (xn n how d)]=.ok (XC n how d):=by
 let(k,F):=R.ok;let lo:=R.lo;let G:=R.hi;let y:=BI R.nm;let(i,r,rfl):∃i r,d=i::r:=by
  cases(d)with
  |nil=>ext
  |cons i r=>simp
 let(w b,m):=Ib (yG i) (r.map yG);let jw:=D9 (yG i)<|r.map yG;rw[m]at jw;let A:=DA<|yG i::r.map yG;rw[m]at A;rw[Zu,Zu,Zql]at A;rw[Zu]at lo G;let f:=bo (n:=n) (how:=how) R.is ();rw[Zl,m]at f;let fr:=RR R.is;rw[Zl,m]at fr;let g:=XB (s:=" ") k () (by decide+kernel);let B:xL (.str "") (.str "")=! .bl 7:=by
  let a:asc ("":Str):=by ext asc;decide+kernel
  rw[HS a a,Zp 9];rfl
 let M:(32:5)∉("":Str).cps.toList:=by decide+kernel
 let N:(32:5)∉n.cps.toList:=V7 R.nm (by decide);cases c:how="all"\/how="first"
 .let H:xl how=7:=by grind[xl]
  let e:xn n how (i::r)=Txt.join " " (""::n::how::w::b):=by
   ext xn;rw[show yf how=how from Zd c,XD,XD,XD,jw,Zl];simp only[We,Ic]
  let I:(32:5)∉how.cps.toList:=by obtain rfl|rfl:=c<;>decide+kernel
  let o:=Xd (s:=" ") (c:=32) (t:=[]) 9 (by decide+kernel) (r:="") (rs:=n::how::w::b) λp O=>by
   grind
  rw[e,o]at g;rw[e,];let h:=DE F.asc;rw[H]at h;let(z,hz):∃z:3,z=((⇑b+1+1+1+1:5):3):=(_,9);let j:jq [.lst ((("":Str)::n::how::w::b).map .str)]=! .int z:=by
   ext
  let l:vz (.lst<|(("":Str)::n::how::w::b).map .str) (!03) 8 8=!(.lst<|(w::b).map .str):=by
   show some (D.lst<|Q6 _ (!03) 8 8)=_;rw[Ha _ (),];rfl
  let u:¬z<04:=()
  simp only[Zl]at g j l f;generalize Txt.join " " (""::n::how::w::b)=J at*;simp[X7,YD,qD,g,j,l,z9,wa,uH,B,y,h,f,XC,u]
 .let C:jP how:=by
   obtain z|z|z:=R.hw
   .rw[Zn (.inl z) c]
   .rw[Zn (.inr z) c]
   .rw[z]
  let e:xn n how (i::r)=Txt.join " " (""::n::"part"::how::w::b):=by
   ext xn;rw[show yf how="part "++how from Ze c,XD,XD,XD,XD,jw,Zl];simp only[We,Ic,RV]
  let I:(32:5)∉how.cps.toList:=V7 C (by decide);let P:(32:5)∉("part":Str).cps.toList:=by decide+kernel
  let o:=Xd (s:=" ") (c:=32) (t:=[]) 9 (by decide+kernel) (r:="") (rs:=n::"part"::how::w::b) ();rw[e,o]at g;rw[e,];let v:asc ("part":Str):=by ext asc;decide+kernel
  let h:=DE v;rw[show xl "part"=6 by decide+kernel]at h;let E:=RL v v;rw[Zp 9]at E;let L:=BI C;let(z,hz):∃z:3,z=((⇑b+1+1+1+1+1:5):3):=(_,9);let j:jq [.lst ((("":Str)::n::"part"::how::w::b).map .str)]=! .int z:=by
   show some (D.int _)=_;simp only[Zql,Zu];rw[()]
  let l:vz (.lst<|(("":Str)::n::"part"::how::w::b).map .str) (!04) 8 8=!(.lst<|(w::b).map .str):=by
   show some (D.lst<|Q6 _ (!04) 8 8)=_;rw[Ha _ (),];rfl
  let u:¬z<04:=()
  simp only[Zl]at g j l f;generalize Txt.join " " (""::n::"part"::how::w::b)=J at*;simp[X7,YD,qD,g,j,l,z9,wa,uH,t8,B,y,L,h,E,f,XC,u]
structure Dr where
 name:Str
 givens:Yg
 rows:List (3×Str×Str×List (Str×3))
def yQ(r:3×Str×Str×List (Str×3)):D:=.tup [.int r.1,XC r.2.1 r.2.2.1 r.2.2.2]
def Kp(q:Dr):D:=.ins "Draft" ["name","givens","rows"] [.str q.name,.lst (q.givens.map .str),.lst (q.rows.map yQ)]
structure AtR(hp:HP)(a:Addr×Addr×Addr)(q:Dr):4 where
 pl:jc hp a.1=! .ins "Draft" ["name","givens","rows"] [.str q.name,.adr a.2.1,.adr a.2.2]
 gv:jc hp a.2.1=!(.lst<|q.givens.map .str)
 rw_:jc hp a.2.2=!(.lst<|q.rows.map yQ)
def qJ(c:HP):List (Addr×Addr×Addr)->List Dr->4
 |[],b=>b=[]
 |a::d,b=>∃q r,b=q::r/\AtR c a q/\qJ c d r
structure StR(hp:HP)(p:Addr)(as:List (Addr×Addr×Addr))(qs:List Dr):4 where
 hp_:jc hp p=!(.lst<|as.map λb=>.adr b.1)
 all:qJ hp as qs
 nd:(p::jI as).Nodup
theorem qJ.snoc   (f:AtR g a q):∀{e:List (Addr×Addr×Addr)}{c:List Dr},qJ g e c->qJ g (e++[a]) (c++[q])
 |[],c,h=>by rw[h,];rw[(q,[],9,f,9)]
 |b::e,c,h=>by
  let(i,r,rfl,j,h):=h;rw[(i,r++[q],9,j,h.snoc f)]
theorem qJ.last  :∀{f:List (Addr×Addr×Addr)}{g:List Dr},qJ n f (g++[q])->∃bs a,f=bs++[a]/\qJ n bs g/\AtR n a q
 |[],g,h=>by let:=Zt List.length<|h;simp at this
 |a::f,[],h=>by
  let(o r,e,i,h):=h;injection e with j l
  subst j l
  cases(f)with
  |nil=>rw[([],a,9,9,i)]
  |cons b f=>let(_ _,e,_):=h;cases e
 |a::f,p::g,h=>by
  let(o r,e,i,h):=h;injection e with j l
  subst j l;let(bs c,rfl,s,u):=h.last;rw[(a::bs,c,9,(_,_,9,i,s),u)]
def AtR.mono   (h:AtR f a q)(e:∀b ∈[a.1,a.2.1,a.2.2],jc c b=jc f b):AtR c a q:=
 ((e _ ()).trans h.pl,(e _ ()).trans h.gv,(e _ ()).trans h.rw_)
theorem qJ.mono :∀{c:List (Addr×Addr×Addr)}{f:List Dr},qJ j c f->(∀b∈jI c,jc g b=jc j b)->qJ g c f
 |[],f,h,_=>h
 |a::c,f,h,e=>by
  let(q,r,rfl,l,h):=h;rw[(q,r,9,l.mono λb i=>e b<|Uo _ i,h.mono λb i=>e b<|Uf _ i)]
def AtR.has   (h:AtR b a q):∀c ∈[a.1,a.2.1,a.2.2],jc b c≠8:=λc e=>by
 let:c=a.1\/c=a.2.1\/c=a.2.2:=by simpa using e
 obtain rfl|rfl|rfl:=this
 .rw[h.pl,];simp
 .rw[h.gv,];simp
 .rw[h.rw_,];simp
theorem qJ.has :∀{b:List (Addr×Addr×Addr)}{e:List Dr},qJ f b e->∀c∈jI b,jc f c≠8
 |[],_,_,c,hc=>by cases hc
 |a::b,e,h,c,hc=>by
  let(q,r,rfl,g,h):=h;obtain z|z:=Jd.mp hc
  .rw[g.has c z]
  .rw[h.has c z]
theorem qJ.len :∀{c:List (Addr×Addr×Addr)}{b:List Dr},qJ e c b->⇑c=⇑b
 |[],b,h=>by rw[h,];rfl
 |a::c,b,h=>by
  let(q,r,rfl,_,h):=h;rw[Zu,Zu,h.len]
def Ie(a:HP)(l:Yq):l.map (dr a 0)=l:=by
 conv=>rhs;rw[<-List.map_id l]
 rw[Vq λx _=>9]
def AtR.dr4   (h:AtR b a q):dr b 04 (.adr a.1)=Kp q:=by
 rw[KP _ h.pl,];show D.ins "Draft" ["name","givens","rows"] [L2.DL.dr b 2 (.str q.name),L2.DL.dr b 2 (.adr a.2.1),L2.DL.dr b 2 (.adr a.2.2)]=_;rw[Y3,KP _ h.gv,KP _ h.rw_];show D.ins "Draft" ["name","givens","rows"] [.str q.name,.lst ((q.givens.map D.str).map<|L2.DL.dr b 0),.lst ((q.rows.map yQ).map<|L2.DL.dr b 0)]=_;rw[Ie,Ie];rfl
theorem qJ.dr{f:HP}:∀{e:List (Addr×Addr×Addr)}{c:List Dr},qJ f e c->(e.map λb=>D.adr b.1).map (dr f 04)=c.map Kp
 |[],c,h=>by rw[h,];rfl
 |a::e,c,h=>by
  let(q,r,rfl,g,h):=h;rw[Zl,Zl,g.dr4,h.dr];rfl
def An(a:List Dr):D:=.lst<|a.map Kp
def StR.dp    (h:StR a p c e):dr a 06 (.adr p)=An e:=by
 rw[KP _ h.hp_,];show D.lst ((c.map λb=>D.adr b.1).map<|dr a 04)=_;rw[h.all.dr,];rfl
def Ig(a:Addr×Addr×Addr):jI [a]=[a.1,a.2.1,a.2.2]:=rfl
def StR.ne     (h:StR f p (e++[a]) g):p≠a.2.1/\p≠a.2.2/\a.1≠a.2.1/\a.1≠a.2.2/\a.2.1≠a.2.2/\∀b∈jI e,b≠a.2.1/\b≠a.2.2:=by
 let c:=h.nd;rw[WR,Ig]at c;let(i,c):=Je.mp c;let(!j,l,n):=Jf.mp c
 ext
def StR.given      (h:StR e p (i++[a]) (j++[q]))(f:AtR e a q)(l:qJ e i j)(g:Yg):StR (JC e a.2.1<|.lst<|g.map .str) p (i++[a]) (j++[(q.name,g,q.rows)]):=by
 let c:jc e a.2.1≠8:=by rw[f.gv,];simp
 rw[((Qa c h.ne.1).trans h.hp_,qJ.snoc (q:=(q.name,g,q.rows)) ((Qa c h.ne.2.2.1).trans f.pl,KG c,(Qa c h.ne.2.2.2.2.1.symm).trans f.rw_)<|l.mono λb n=>Qa c (h.ne.2.2.2.2.2 b n).1,h.nd)]
def StR.made      (h:StR e p (i++[a]) (j++[q]))(f:AtR e a q)(l:qJ e i j)(g:List (3×Str×Str×List (Str×3))):StR (JC e a.2.2<|.lst<|g.map yQ) p (i++[a]) (j++[(q.name,q.givens,g)]):=by
 let c:jc e a.2.2≠8:=by rw[f.rw_,];simp
 rw[((Qa c h.ne.2.1).trans h.hp_,qJ.snoc (q:=(q.name,q.givens,g)) ((Qa c h.ne.2.2.2.1).trans f.pl,(Qa c h.ne.2.2.2.2.1).trans f.gv,KG c)<|l.mono λb n=>Qa c (h.ne.2.2.2.2.2 b n).2,h.nd)]
def StR.plan     (h:StR a p u y)(l:jc a x=8)(n:jc a g=8)(o:jc a r=8)(B:x≠g)(E:x≠r)(F:g≠r)(G:AtR f %[x,g|r] q)(H:jc f p=!(.lst<|(u++[%[x,g|r]]).map λb=>.adr b.1))(e:∀b,b≠x->b≠g->b≠r->b≠p->jc f b=jc a b):StR f p (u++[%[x,g|r]]) (y++[q]):=by
 let j:=h.all.has;let(v,I):=Je.mp h.nd;let s:jc a p≠8:=by rw[h.hp_,];simp
 let ne:∀{b c:Addr},jc a b≠8->jc a c=8->b≠c:=by grind
 rw[(H,qJ.snoc G<|h.all.mono λb i=>e b (ne (j b i) l) (ne (j b i) n) (ne (j b i) o) λz=>v<|by rwa[<-z],?_)];rw[WR,Ig];rw[Je.mpr (λz=>?_,Jf.mpr (I,by simp[B,E,F],λb i c J=>?_))]
 .rcases Jd.mp z with z|z
  .rw[v z]
  .let:p=x\/p=g\/p=r:=by simpa using z
   obtain z|z|z:=this
   .rw[ne s l z]
   .rw[ne s n z]
   .rw[ne s o z]
 .let:c=x\/c=g\/c=r:=by simpa using J
  obtain rfl|rfl|rfl:=this
  .rw[ne (j b i) l]
  .rw[ne (j b i) n]
  .rw[ne (j b i) o]
def Ih  (b:TxtOk n a)(h:n<=1000000)(l u:02 3):u0 (.str a) l u=!(.str<|Txt.slice a l u):=Zd<|by
 let:=b.len;rw[Zh (show ⇑a<=1000000 from())<|by decide+kernel]
def Ii {st row:Str}(a:TxtOk m st)(b:m<=1000)(c:TxtOk n row)(d:n<=1000000)(h:Txt.startswith row st=7):X6 [.str st,.str row]=.ok .non:=by
 let e:=Bq a b;let f:=Ih c d (!(⇑st:3)) 8;let g:Bd row (.str st)=! .bl 7:=by show some (D.bl<|Txt.startswith row st)=_;rw[h,]
 simp[X6,Ag,e,f,qD,g]
def Ij {st x:Str}(a:TxtOk m st)(e:m<=900)(b:jP x):X6 [.str st,.str (st++x)]=.ok (.str x):=by
 let c:=Ih (a.app b.1) () (!(⇑st:3)) 8;rw[RM]at c;let d:Bd (st++x) (.str st)=! .bl 6:=by show some (D.bl<|Txt.startswith (st++x) st)=_;rw[RK,]
 simp[X6,Ag,Bq a (),c,qD,d,BI b]
def Ik:TxtOk 05 ("plan ":Str):=Qy<|by decide+kernel
def m8:TxtOk 07 (" given ":Str):=Qy<|by decide+kernel
def Il(y:Str):Txt.startswith (" "++y) "plan "=7:=HR λh=>by
 rw[Q0]at h;let h:(32::y.cps.toList).take 05=[112,108,97,110,32]:=h;rw[Vf]at h;injection h with h
 cases h
def RY(x:Str):(" given ":Str)++x=" "++("given "++x):=by
 rw[<-We];rw[Zt (·++x)<|Wd<|by decide+kernel]
def RZ  (R:RowR n a b):Txt.startswith (xn n a b) " given "=7:=HR λh=>by
 unfold xn at h;simp only[We]at h;rw[Q0,Q0,Q0]at h;generalize(yf a++((" ":Str)++Txt.join ", " (b.map yG))).cps.toList=t at h;let h:(32::(n.cps.toList++32::t)).take 07=[32,103,105,118,101,110,32]:=h;injection h with _ h
 let e:=List.take_append_drop 06<|n.cps.toList++32::t;rw[h]at e;let d:(n.cps.toList++32::t).takeWhile λc=>c !=32=n.cps.toList:=by
  rw[List.takeWhile_append_of_pos λc i=>bne_iff_ne.mpr λz=>V7 R.nm (c:=32) (by decide)<|by rwa[<-z],];simp
 rw[<-e]at d;let f:[103,105,118,101,110]=n.cps.toList:=by
  rw[<-d];rfl
 let g:("given":Str)=n:=Wd (by rw[<-f];decide+kernel);let z:=R.nm.2;unfold Kx at z;simp only[Uc]at z;let:=Ur.mp z.2.2.1 "given" (by decide+kernel);rw[Zp g]at this;cases this
def Sa (a:jP x):X7 [.str (" given "++x)]=.ok .non:=by
 let g:=XB (s:=" ") (m8.app a.1) () (by decide+kernel);let e:(" given ":Str)++x=Txt.join " " ["","given",x]:=9;let b:=Xd (s:=" ") 9 (by decide+kernel) (r:="") (rs:=["given",x]) λp hp=>by
  obtain rfl|hp:=Ux.mp hp
  .decide+kernel
  obtain rfl|hp:=Ux.mp hp
  .decide+kernel
  .rw[Jc.mp hp,];rw[V7 a<|by decide]
 simp_all[X7,YD,qD]
def Sb (h:AtR c a q)(d:q.rows=[])(e:jP x)(f:⇑q.givens<=1000)(k:3):Ai [.adr a.1,.int k,.str (" given "++x)] c=.ok %[.bl 6|JC c a.2.1 (.lst<|(q.givens++[x]).map .str)]:=by
 let g:=Ij m8 () e;let i:=Sa e;let j:⇑(q.givens.map D.str)<00:=by rw[Zql,];rw[Qi f]
 let l:dr c 06 (.adr a.1)=Kp q:=by
  rw[KP _ h.pl,];show D.ins "Draft" ["name","givens","rows"] [dr c 04 (.str q.name),dr c 04 (.adr a.2.1),dr c 04 (.adr a.2.2)]=_;rw[Y3,KP _ h.gv,KP _ h.rw_,Dt,d];ext Kp;rw[d,];rfl
 let m:jA "Draft" "rows" (Kp q)=! .lst []:=by ext Kp;rw[d,];rfl
 let n:jA "Draft" "givens" (.ins "Draft" ["name","givens","rows"] [.str q.name,.adr a.2.1,.adr a.2.2])=! .adr a.2.1:=9;let o:qI (.lst []) (.lst [])=! .bl 6:=by rw[YZ 9 9,VR]
 rw[WS 9 ?_ λb p=>?_]
 .generalize(" given ":Str)++x=row at*;show(X8 [~~~.adr a.1,~~~.int k,~~~.str row,8,8] c).bind qi=_;simp[X8,g,i,l,m,o,show xN 6 (D.str x)=! .bl 6 from 9,GJ h.pl n,Ww h.gv,Wx h.gv j]
 .let r:jc c a.2.1≠8:=by rw[h.gv,];simp
  rw[KE b r,]
  split
  .simp
  .rw[p]
def Sc  (h:AtR e a q)(R:RowR n c d)(f:⇑q.rows<=1000)(k:3):Ai [.adr a.1,.int k,.str (xn n c d)] e=.ok %[.bl 6|JC e a.2.2 (.lst<|(q.rows++[%[k,n,c|d]]).map yQ)]:=by
 let g:=Ii m8 () R.ok.1 ()<|RZ R;let i:=bp R;let j:⇑(q.rows.map yQ)<00:=by rw[Zql,];rw[Qi f]
 let l:jA "Draft" "rows" (.ins "Draft" ["name","givens","rows"] [.str q.name,.adr a.2.1,.adr a.2.2])=! .adr a.2.2:=9;rw[WS 9 ?_ λb m=>?_]
 .generalize xn n c d=row at*;show(X8 [~~~.adr a.1,~~~.int k,~~~.str row,8,8] e).bind qi=_;simp[X8,g,i,XC,yQ,show ∀l,xN 6 (.tup l)=! .bl 6 from λ_=>9,GJ h.pl l,Ww h.rw_,Wx h.rw_ j]
 .let o:jc e a.2.2≠8:=by rw[h.rw_,];simp
  rw[KE b o,]
  split
  .simp
  .rw[m]
def tM(a:HP)(x:Addr)(nm:Str)(o:D×HP):4:=o.1=.non/\∃g r,x≠g/\x≠r/\g≠r/\jc a g=8/\jc a r=8/\AtR o.2 %[x,g|r] (nm,[],[])/\∀b,b≠x->b≠g->b≠r->jc o.2 b=jc a b
def Sd   (R:jc a x=8):(Bx [.adr x,.str nm]<|%[x|.ins "Draft" [] []]::a).need (tM a x nm) λ_ _=>False:=by
 let(H0,eH):∃H:HP,H=%[x|D.ins "Draft" [] []]::a:=(_,9);let n:jc H0 x=! .ins "Draft" [] []:=by rw[eH,JK,Zd 9]
 let o:∀b,b≠x->jc H0 b=jc a b:=λb z=>by rw[eH,JK,Ze z]
 rw[<-eH];let p:jc H0 x≠8:=by rw[n,];simp
 ext Bx;rw[Bg 9 ?_];let E:WO "Draft" "name" [~~~.adr x,~~~.str nm] (.str nm) %[.adr x|H0]=.ok (.next [~~~.adr x,~~~.str nm]<|JC H0 x<|.ins "Draft" ["name"] [.str nm]):=Da n () ();show((Aa [~~~.adr x,~~~.str nm] H0).bind qi).need _ _;let F:jc (JC H0 x<|.ins "Draft" ["name"] [.str nm]) x=! .ins "Draft" ["name"] [.str nm]:=KG p;let s:∀b,b≠x->jc (JC H0 x<|.ins "Draft" ["name"] [.str nm]) b=jc a b:=λb z=>(Qa p z).trans<|o b z;ext Aa;simp[E];generalize JC H0 x (.ins "Draft" ["name"] [.str nm])=G at*;intro g S;let e:x≠g:=by grind
 let(c,eH2):∃H:HP,H=%[g|D.lst []]::G:=(_,9);rw[<-eH2];let t:jc c x=! .ins "Draft" ["name"] [.str nm]:=by rw[eH2,JK,Ze e,F]
 let I:jc c g=! .lst []:=by rw[eH2,JK,Zd 9]
 let J:∀b,b≠x->b≠g->jc c b=jc a b:=λb z y=>by rw[eH2,JK,Ze y,s b z]
 let i:jc c x≠8:=by rw[t,];simp
 let L:WO "Draft" "givens" [~~~.adr x,~~~.str nm] (.adr g) %[.adr x|c]=.ok (.next [~~~.adr x,~~~.str nm]<|JC c x<|.ins "Draft" ["name","givens"] [.str nm,.adr g]):=Da t (by decide+kernel) ();let M:jc (JC c x<|.ins "Draft" ["name","givens"] [.str nm,.adr g]) x=! .ins "Draft" ["name","givens"] [.str nm,.adr g]:=KG i;let N:jc (JC c x<|.ins "Draft" ["name","givens"] [.str nm,.adr g]) g=! .lst []:=(Qa i e.symm).trans I;let u:∀b,b≠x->b≠g->jc (JC c x<|.ins "Draft" ["name","givens"] [.str nm,.adr g]) b=jc a b:=λb z y=>(Qa i z).trans<|J b z y;simp[L];generalize JC c x (.ins "Draft" ["name","givens"] [.str nm,.adr g])=H3 at*;intro r T;let f:x≠r:=by grind
 let j:g≠r:=by grind
 let(H4,eH4):∃H:HP,H=%[r|D.lst []]::H3:=(_,9);rw[<-eH4];let v:jc H4 x=! .ins "Draft" ["name","givens"] [.str nm,.adr g]:=by rw[eH4,JK,Ze f,M]
 let O:jc H4 g=! .lst []:=by rw[eH4,JK,Ze j,N]
 let P:jc H4 r=! .lst []:=by rw[eH4,JK,Zd 9]
 let A:∀b,b≠x->b≠g->b≠r->jc H4 b=jc a b:=λb z y w=>by rw[eH4,JK,Ze w,u b z y]
 let B:jc H4 x≠8:=by rw[v,];simp
 let Q:WO "Draft" "rows" [~~~.adr x,~~~.str nm] (.adr r) %[.adr x|H4]=.ok (.next [~~~.adr x,~~~.str nm]<|JC H4 x<|.ins "Draft" ["name","givens","rows"] [.str nm,.adr g,.adr r]):=Da v (by decide+kernel) ();let C:jc (JC H4 x<|.ins "Draft" ["name","givens","rows"] [.str nm,.adr g,.adr r]) x=! .ins "Draft" ["name","givens","rows"] [.str nm,.adr g,.adr r]:=KG B;let h:∀b,b≠x->jc (JC H4 x<|.ins "Draft" ["name","givens","rows"] [.str nm,.adr g,.adr r]) b=jc H4 b:=λb z=>Qa B z;rw[Q,];let l:jc a g=8:=by rwa[<-s g e.symm]
 let m:jc a r=8:=by rwa[<-u r f.symm j.symm]
 rw[(λb U=>?_,9,g,r,e,f,j,l,m,(C,(h g e.symm).trans O,(h r f.symm).trans P),λb z y w=>(h b z).trans<|A b z y w)];cases z:b=x
 .rw[z,C];simp
 .let d:jc a b≠8:=by rwa[<-o b z]
  rw[h b z,A b z λy=>d<|by rwa[y,] λy=>d<|by rwa[y,]];rw[d]
section
variable {hp:HP}{p:Addr}
def ke(p:Addr)(hp:HP)(a:List Dr)(o:D×HP):4:=o.1=.bl 6/\(∃c,StR o.2 p c a)/\∀b,jc hp b≠8->jc o.2 b≠8
def Se (h:StR hp p c j)(w:jP x)(A:⇑j<=1000)(k:3):(VI [.adr p,.int k,.str ("plan "++x)] hp).need (ke p hp<|j++[(x,[],[])]) λ_ _=>False:=by
 let B:=Ij Ik () w;ext VI;rw[Bg 9 ?_];generalize("plan ":Str)++x=row at*;show((X9 [~~~.adr p,~~~.int k,~~~.str row,8] hp).bind qi).need _ _;ext X9;simp[B,show xN 6 (D.str x)=! .bl 6 from 9,Ww h.hp_];intro y f;rw[Wr.need_bind.mpr<|Wr.need_bind.mpr<|Wr.need_bind.mpr<|Wr.need_bind.mpr<|Wr.need_bind.mpr<|(Sd f).mono (λo C=>?_) λ_ _ z=>z];let(d,H):=o;let(rfl,g,r,E,F,G,l,m,I,n):=C;let s:jc hp p≠8:=by rw[h.hp_,];simp
 let t:p≠y:=λz=>s (by rw[z,];rw[f]);let u:p≠g:=λz=>s (by rw[z,];rw[l]);let v:p≠r:=λz=>s (by rw[z,];rw[m]);let e:jc H p=!(.lst<|c.map λb=>.adr b.1):=(n p t u v).trans h.hp_;let J:⇑(c.map λb=>D.adr b.1)<00:=by rw[Zql,h.all.len];rw[Qi A]
 show Wr.need (ZR y %[.non|H]) _ _;rw[Pt,];show Wr.need (VF _ p %[.adr y|H]) _ _;rw[Wx e J,];let i:jc H p≠8:=by rw[e,];simp
 let st:StR (JC H p<|.lst<|(c.map λb=>D.adr b.1)++[.adr y]) p (c++[%[y,g|r]]) (j++[(x,[],[])]):=by
  rw[h.plan f l m E F G (I.mono λb a=>Qa i ?_) ?_ λb L M N O=>(Qa i O).trans<|n b L M N]
  .let:b=y\/b=g\/b=r:=by simpa using a
   obtain rfl|rfl|rfl:=this
   .rw[t.symm]
   .rw[u.symm]
   .rw[v.symm]
  .rw[KG i,Ud];rfl
 let keep:∀b,jc hp b≠8->jc (JC H p<|.lst<|(c.map λb=>D.adr b.1)++[.adr y]) b≠8:=λb a=>by
  rw[KE b i,]
  split
  .simp
  .rw[n b (λz=>a<|by rw[z,];rw[f]) (λz=>a<|by rw[z,];rw[l]) λz=>a<|by rw[z,];rw[m],];rw[a]
 rw[(keep,9,(_,st),keep)]
def Im    (h:StR hp p g (d++[q]))(i:TxtOk n row)(j:n<=1000000)(l:Txt.startswith row "plan "=7)
 (f:∀(bs:List (Addr×Addr×Addr))(a:Addr×Addr×Addr),g=bs++[a]->qJ hp bs d->AtR hp a q->∃c,Ai [.adr a.1,.int k,.str row] hp=.ok %[.bl 6|c]/\StR c p g (d++[m])/\∀b,jc hp b≠8->jc c b≠8):
 (VI [.adr p,.int k,.str row] hp).need (ke p hp<|d++[m]) λ_ _=>False:=by
 let(bs a,o,r,s):=h.all.last;let(-c,e,st,keep):=f bs a o r s;let t:=Ii Ik () i j l;let u:xm (.adr p) %[.int (-1)|hp]=.ok %[.adr a.1|hp]:=by
  rw[Wa h.hp_,]
  simp_all[Ud,Wg]
 let dp:=h.dp;let v:v4 (An<|d++[q]) (.lst [])=! .bl 6:=by
  show some (D.bl<|not<|((d++[q]).map Kp).isEmpty)=_;simp
 ext VI;rw[Bg 9 ?_];show((X9 [~~~.adr p,~~~.int k,~~~.str row,8] hp).bind qi).need _ _;ext X9;simp[t,dp,v,u,e];rw[(keep,9,(_,st),keep)]
def Sf  (h:StR hp p m (e++[q]))(d:jP x)(f:q.rows=[])(g:⇑q.givens<=1000)(k:3):(VI [.adr p,.int k,.str (" given "++x)] hp).need (ke p hp<|e++[(q.name,q.givens++[x],q.rows)]) λ_ _=>False:=by
 rw[Im h (m8.app d.1) () (by rw[RY,];rw[Il _]) λbs a i j c=>(_,Sb c f d g k,?_,λb l=>?_)]
 .subst i;rw[h.given c j _]
 .rw[KE b (by rw[c.gv,];simp),]
  split
  .simp
  .rw[l]
def Sg   (h:StR hp p m (f++[q]))(R:RowR n c d)(g:⇑q.rows<=1000)(k:3):(VI [.adr p,.int k,.str (xn n c d)] hp).need (ke p hp<|f++[(q.name,q.givens,q.rows++[%[k,n,c|d]])]) λ_ _=>False:=by
 rw[Im h R.ok.1 () (by ext xn;simp[We];rw[Il _]) λbs a i j e=>(_,Sc e R g k,?_,λb l=>?_)]
 .subst i;rw[h.made e j _]
 .rw[KE b (by rw[e.rw_,];simp),]
  split
  .simp
  .rw[l]
end
inductive Rd:Nat->List Str->List Dr->List Dr->Prop
 |nil(k:Nat)(qs:List Dr):Rd k [] qs qs
 |plan{k:Nat}{x:Str}{rs:Yg}{qs r:List Dr}:jP x->⇑qs<=1000->Rd (k+1) rs (qs++[(x,[],[])]) r->Rd k (("plan "++x)::rs) qs r
 |given{k:Nat}{x:Str}{rs:Yg}{qs r:List Dr}{q:Dr}:jP x->⇑q.givens<=1000->q.rows=[]->Rd (k+1) rs (qs++[(q.name,q.givens++[x],q.rows)]) r->Rd k ((" given "++x)::rs) (qs++[q]) r
 |made{k:Nat}{n how:Str}{its:List (Str×Int)}{rs:Yg}{qs r:List Dr}{q:Dr}:RowR n how its->⇑q.rows<=1000->Rd (k+1) rs (qs++[(q.name,q.givens,q.rows++[%[(k:Int)+1,n,how|its]])]) r->Rd k (xn n how its::rs) (qs++[q]) r
def z4:5->List Str->Yq
 |_,[]=>[]
 |k,x::r=>.tup [.int ((k:3)+1),.str x]::z4 (k+1) r
theorem Io:∀(a:Yg)(k i:5),(z4 k a)[i]?=a[i]?.map λx=>D.tup [.int (((k+i:5):3)+1),.str x]
 |[],k,i=>by simp[z4]
 |x::a,k,0=>9
 |x::a,k,i+1=>by
  show(z4 (k+1) a)[i]?=a[i]?.map _;rw[Io a (k+1) i,show k+1+i=k+(i+1)by lia]
def Sh(a:Yg):X1 (a.map .str)=z4 0 a:=by
 apply List.ext_getElem?;intro i;rw[GH,Io,Zv,Option.map_map,UK];rfl
def uC:qb:=Qk (Bj<|X2<|Bn VI<|J0 (vL<|ja 1)<|J0 (vL<|ja 2)<|J0 (vL<|ja 03) j0) (zL<|Wb "BadRow"<|ja 2) QD
def bJ:XA=(jr (jV 1<|jG j0)<|jr (zy (vx<|Ju (qD VZ (ja 0)<|dC<|.str "\n") jb) (.tup [2,03]) uC)<|qT<|vL<|ja 1):=rfl
def BK(t:D)(p:Addr)(r:List Dr)(o:Out3):4:=∃c d a b,o=.next [~~~t,~~~.adr p,c,d] a/\StR a p b r
def Si       (h:(VI [.adr p,.int k,.str row] b).need (ke p b a) λ_ _=>False):
 (KY (.tup [2,03]) uC (.tup [.int k,.str row]) [~~~t,~~~.adr p,x2,x3] b).need (BK t p a) λ_ _=>False:=by
 ext KY;ext uC;simp;rw[Wr.need_bind.mpr<|Wr.need_bind.mpr<|Wr.need_bind.mpr<|(xu h).mono (λo c=>?_) λ_ _ z=>z];have(d,H):=o;let(!rfl,(e,st),_):=c;rw[jX _ _ _ _ (9,st)]
def Sj       (h:(b x sd d).need (λo=>∃a c,o=.next a c/\(y4 b e a c).need P Q) Q):(y4 b (x::e) sd d).need P Q:=by
 rw[Wr.need_bind.mpr<|h.mono (λo f=>?_) λ_ _ z=>z]
 grind
def DF        (h:(VI [.adr p,.int k,.str row] a).need (ke p a c) λ_ _=>False)
 (g:∀(x2 x3:02 SV)(a:HP)(i:List (Addr×Addr×Addr)),StR a p i c->(y4 (KY (.tup [2,03]) uC) j [~~~t,~~~.adr p,x2,x3] a).need (BK t p r) λ_ _=>False):
 (y4 (KY (.tup [2,03]) uC) (.tup [.int k,.str row]::j) [~~~t,~~~.adr p,x2,x3] a).need (BK t p r) λ_ _=>False:=by
 let l:=Si (t:=t) (x2:=x2) (x3:=x3) h;generalize KY (.tup [2,03]) uC=b at*;apply Sj;rw[l.mono (λo m=>?_) λ_ _ z=>z];let(n s d e,rfl,f):=m;rw[(_,_,9,g n s d e f)]
def Sk  :∀{k:5}{c:Yg}{a r:List Dr},Rd k c a r->∀(d e:02 SV)(b:HP)(f:List (Addr×Addr×Addr)),StR b p f a->
 (y4 (KY (.tup [2,03]) uC) (z4 k c) [~~~t,~~~.adr p,d,e] b).need (BK t p r) λ_ _=>False:=by
 intro k c a r R
 cases(R)with
 |nil k a=>
  intro d e b f st;ext z4 y4;rw[(d,e,b,f,9,st)]
 |@plan k x c a r j g _ h=>
  intro d e b f st;let i:=Se st j g<|(k:3)+1;rw[DF i h]
 |@given k x c a r q j g l _ h=>
  intro d e b f st;let i:=Sf st j l g<|(k:3)+1;rw[DF i h]
 |@made k n m o c a r q s g _ h=>
  intro d e b f st;let i:=Sg st s g<|(k:3)+1;rw[DF i h]
def Sl(d:HP):∃a,jc d a=8:=by
 let:∀l:Yf,∃a,∀b∈l,b<a:=λl=>by
  cases(l)with
  |nil=>simp
  |cons c l e=>
   let(a,h):=e;rw[(a+c+1,λb f=>?_)]
   grind
 let(a,h):=this (d.map (·.1));rw[(a,kq.mpr λz=>())]
theorem DG  :∀{w:Wr α},(w.need p λ_ _=>False)->(w.need q λ_ _=>False)->∃a,p a/\q a
 |.ok a,b,h2=>(a,b,h2)
 |.ex _ _,b,_=>b.elim
 |.no,b,_=>b.elim
 |.new d k,b,h2=>by
  let(-a,c):=Sl d;rw[DG (b a c)<|h2 a c]
def bq    (e:TxtOk n x)(f:n<=4000000)(h:Txt.split x "\n"=i)(R:Rd 0 i [] r):Xb [.str x]=.ok (An r):=by
 let b:tX [.str x] (An r):=by
  rw[(9,?_)];let g:=XB (s:="\n") e f (by decide+kernel);rw[h]at g;show((XA [~~~.str x,8,8,8] []).bind qi).need _ _;rw[bJ,];simp[qD,g,zy];intro p v;rw[Sh,];let st:StR [%[p|D.lst []]] p [] []:=(by simp_all[JK],9,by simp[jI]);rw[Wr.need_bind.mpr<|Wr.need_bind.mpr<|(Sk R 8 8 _ _ st).mono (λo j=>?_) λ_ _ z=>z];let(w y l m,rfl,c):=j;rw[c.dp]
 ext Xb;rw[dif_pos (_,b),];have(a,t,u):=DG (Vd ((_,b):∃d,tX [.str x] d)).2 b.2;rw[<-t,u]
theorem Sm (h:i<36):(zM (xC i)||zN (xC i))=6:=by
 ext xC zM zN
 grind
def zC.nm (h:zC x):jP x:=by
 rw[(h.ok,?_)];let f:=h.ok.len;let(-m,g,rfl,b):=h;let c:(Q8 m).cps.toList=xC (m%26)::xj 59 (m/26):=by show((X3 m).toArray).toList=_;simp[X3]
 let lo:1<=⇑(Q8 m):=by
  show 1<=(Q8 m).cps.size;rw[<-Up,c,Zu];lia
 let a:m%26<26:=()
 let i:zM (xC<|m%26)=6:=by
  ext xC zM;rw[Zd a,Zp (),Zp ()];rfl
 let j:(kept.all λw=>not<|decide<|w=Q8 m)=6:=Ur.mpr λw e=>by
  rw[Zo λz=>b<|by rw[<-z];rw[e],];rfl
 unfold Kx
 grind[Sm,Dk]
structure NbT(xs:Yg)(t:List (Str×3)):4 where
 len:⇑t<=⇑xs
 yes:∀x∈xs,∃j:5,qH t x=!(j:3)/\xs[j]?=!x
 no:∀x,x∉xs->qH t x=8
def So (J:⇑a<=920):∃t,NbT a t/\BH [.lst (a.map .str)]=.ok (dT t):=by
 let(-B,C,(t,o,r,g,T)):=K4 (tg:=.tup [2,03]) (b:=ZS 1 (ja 03)<|ja 2) (ds:=Vy<|a.map .str)
  (sd:=[~~~(.lst<|a.map .str),!(.own 7<|.dct [] []),8,8])
  (P:=λi sd=>∃(t:List (Str×3))(o r:02 SV),sd=[~~~(.lst<|a.map .str),!(.own 7<|dT t),o,r]/\NbT (a.take i) t) ([],8,8,9,Um _,λ_ h=>by simp at h,λ_ _=>9) (by
   rintro i d sd u ⟨t,o,r,rfl,T⟩;rw[CK,Zv]at u
   induction hi:a[i]? with
   |none=>ext
   |some x=>
    rw[hi]at u;obtain rfl:=Zqi u;let L:=(Ja.mp hi).1;let e:a.take (i+1)=a.take i++[x]:=by rw[Uw,hi];rfl
    let E:⇑(a.take i)=i:=by rw[Ue,];lia
    let F:=T.len;rw[E]at F;let w:=Qi<|show ⇑t<=1000 from();let s:=Y1 t x;let l:(JS (.tup [2,03]) (.tup [.int (i:3),.str x]) [~~~(.lst<|a.map .str),!(.own 7<|dT t),o,r]).bind (ZS 1 (ja 03)<|ja 2)=Bk 1 [~~~(.lst<|a.map .str),!(.own 7<|dT t),~~~.int i,~~~.str x] (t.map λp=>.inr p.1) (t.map λp=>D.int p.2) (.int i) (Q3<|.str x):=9;let M:Q3 (.str x)=! .inr x:=9;let f:∀y∈a.take i,∃j:5,qH t y=!(j:3)/\(a.take<|i+1)[j]?=!y:=λy hy=>by
     let(-j,m,n):=T.yes y hy;rw[(j,m,by rw[e,Ui (Ja.mp n).1];rw[n])]
    cases c:x∈a.take i
    .let(-j,m,n):=T.yes x c;rw[m]at s;rw[([~~~(.lst<|a.map .str),!(.own 7<|dT t),~~~.int i,~~~.str x],?_,t,_,_,9,by rw[e,Ub];let:=T.len;lia,λy hy=>?_,λy hy=>?_)]
     .show(JS (.tup [2,03]) (.tup [.int (i:3),.str x]) _).bind _=_;rw[l,];show(if(t.map λp:Str×3=>(Uu p.1:jR)).length<00 then match ql (t.map λp=>.inr p.1) (t.map λp=>D.int p.2) (.inr x)with
       |some _=>_
       |none=>_ else _)=_
      rw[Zql,Zd w,s];rfl
     .rw[e]at hy;obtain hy|hy:=Jd.mp hy
      .rw[f y hy]
      .rw[Jc.mp hy,];rw[f x c]
     .rw[T.no y λz=>hy<|by rw[e,];rw[Uo _ z]]
    .let A:=T.no x c;rw[A]at s;let fr:=kn.mp A;let pt:=Br fr (i:3);rw[([~~~(.lst<|a.map .str),!(.own 7<|dT<|t++[%[x|(i:3)]]),~~~.int i,~~~.str x],?_,t++[%[x|(i:3)]],_,_,9,by rw[e,Ub,Ub];let:=T.len;simp;lia,λy hy=>?_,λy hy=>?_)]
     .show(JS (.tup [2,03]) (.tup [.int (i:3),.str x]) _).bind _=_;rw[l,<-pt];show(if(t.map λp:Str×3=>(Uu p.1:jR)).length<00 then match ql (t.map λp=>.inr p.1) (t.map λp=>D.int p.2) (.inr x)with
       |some _=>_
       |none=>_ else _)=_
      rw[Zql,Zd w,s];rfl
     .let v:∃j:5,qH (t++[%[x|(i:3)]]) x=!(j:3)/\(a.take<|i+1)[j]?=!x:=(i,by rw[Hf fr,Dh],by rw[U4 (),];rw[hi]);rw[e]at hy;obtain hy|hy:=Jd.mp hy
      .let(-j,m,n):=f y hy;let ne:x≠y:=λz=>c (by rw[z,];rw[hy]);rw[(j,by rw[Hh ne,];rw[m],n)]
      .rw[Jc.mp hy,];rw[v]
     .let G:y∉a.take i:=λz=>hy (by rw[e,];rw[Uo _ z]);let H:x≠y:=λz=>hy (by rw[e,z];simp);rw[Hh H,];rw[T.no y G])
 let I:⇑(Vy<|a.map D.str)=⇑a:=by ext Vy;simp
 rw[I,Uy]at T;subst g;rw[(t,T,by simp[BH,BG,C])]
def Sq  (T:NbT l t) (E:⇑a<=900)(m:3):
 ((∀p∈a,p.1∈l)/\∃r:Js,(a=r.map λi=>%[jM l i.1|i.2])/\(∀i∈r,0<=i.1/\i.1<(⇑l:3))/\Xc [.lst (a.map rI),dT t,.int m]=.ok (jU r))\/(¬ ∀p∈a,p.1∈l)/\Xc [.lst (a.map rI),dT t,.int m]=.ex "NoName" [.int m]:=by
 let(L,hL):∃L,L=a.map rI:=(_,9);rw[<-hL];let step:∀{i:5}{d:D}{u3 u4:02 SV},L[i]?=!d->∃p∈a,a[i]?=!p/\(p.1∈l->(JS (.tup [03,04]) d [~~~.lst L,~~~dT t,~~~.int m,u3,u4]).bind (qj (Jz<|jd (x8 6) (ja 03)<|ja 1) (Wb "NoName"<|ja 2) JF)=.ok (.next [~~~.lst L,~~~dT t,~~~.int m,~~~.str p.1,~~~.int p.2]))/\(p.1∉l->(JS (.tup [03,04]) d [~~~.lst L,~~~dT t,~~~.int m,u3,u4]).bind (qj (Jz<|jd (x8 6) (ja 03)<|ja 1) (Wb "NoName"<|ja 2) JF)=.ex "NoName" [.int m]):=λ{i d u3 u4}n=>by
  rw[hL]at n;let(-p,e,rfl):=Ke n;rw[(p,Ua e,e,λs=>?_,λs=>?_)]
  .let(-j,f,_):=T.yes _ s;let g:=He 6 t p.1;rw[f]at g;simp[rI,g]
  .let g:=He 6 t p.1;rw[T.no _ s]at g;simp[rI,g]
 cases c:∀p∈a,p.1∈l
 .rw[.inl (c,a.map λp=>%[(qH t p.1).getD 0|p.2],?_,λi u=>?_,?_)]
  .rw[Zw,]
   conv=>lhs;rw[<-List.map_id a]
   rw[Vq λp e=>?_];let(-j,f,v):=T.yes _ (c p e)
   simp_all[jM,Uk,Ul]
  .let(-p,e,rfl):=Jb.mp u;let(-j,f,v):=T.yes _ (c p e)
   grind
  .let(-A,B,(u3,u4,o)):=K4 (tg:=.tup [03,04]) (b:=qj (Jz<|jd (x8 6) (ja 03)<|ja 1) (Wb "NoName"<|ja 2) JF) (ds:=L)
    (sd:=[~~~.lst L,~~~dT t,~~~.int m,8,8])
    (P:=λi sd=>∃(u3 u4:02 SV),sd=[~~~.lst L,~~~dT t,~~~.int m,u3,u4]) (8,8,9) (by
     rintro i d sd n ⟨u3,u4,rfl⟩;let(-p,e,_,f,_):=step (u3:=u3) (u4:=u4) n;rw[(_,f<|c p e,_,_,9)])
   let w:qB (.tup [0,1]) (jH<|Ju (jd jf (ja 2)<|ja 0)<|Ju (ja 1) jb) [8,8,~~~dT t] L=.ok ((a.map λp=>%[(qH t p.1).getD 0|p.2]).map qw):=by
    rw[hL,Zw];rw[K5 λp e=>?_];let(-j,f,_):=T.yes _ (c p e);let g:=fW t p.1;rw[f]at g;simp[rI,g,qw,f]
   let C:⇑L<00:=Qi (by rw[hL,Zql];lia);subst o;simp[Xc,Aj,B,w,C,jU]
 .let bad:qa (.tup [03,04]) (qj (Jz<|jd (x8 6) (ja 03)<|ja 1) (Wb "NoName"<|ja 2) JF) L [~~~.lst L,~~~dT t,~~~.int m,8,8]=.ex "NoName" [.int m]:=by
   rw[WG (R:=λz=>z=.ex "NoName" [.int m]) (P:=λi sd=>(∀p∈a.take i,p.1∈l)/\∃(u3 u4:02 SV),sd=[~~~.lst L,~~~dT t,~~~.int m,u3,u4]) (λp e=>by simp at e,8,8,9) ?_ ?_]
   .rintro sd ⟨h,_⟩;rw[hL,Zql,Uy]at h;rw[Zn h c]
   .rintro i d sd n ⟨h,u3,u4,rfl⟩;let(-p,e,u,f,v):=step (u3:=u3) (u4:=u4) n;cases y:p.1∈l
    .rw[.inl (_,f y,λz hz=>?_,_,_,9)];rw[Uw,u]at hz;obtain hz|hz:=Jd.mp hz
     .rw[h z hz]
     .rw[Jc.mp hz,];rw[y]
    .rw[.inr (_,_,v y,9)]
  rw[.inr (c,by simp[Xc,Aj,bad])]
def DH(a:Yg)(r:Str×Str×Js):yD a r=xn r.1 r.2.1 (r.2.2.map λi=>%[jM a i.1|i.2]):=by
 ext yD xn wI;rw[Zw,];rfl
def Sr(nm:Str)(a b:Yq):Dx [.str nm,.lst a,.lst b]=.ok [.str nm,.lst a,.lst b]:=rfl
def tG(a:Yg)(z:3×Str×Str×List (Str×3))(r:Str×Str×Js):4:=z.2=%[r.1,r.2.1|r.2.2.map λi=>%[jM a i.1|i.2]]/\∀i∈r.2.2,0<=i.1/\i.1<(⇑a:3)
def y8(b:Yg):List (3×Str×Str×List (Str×3))->List (Str×Str×Js)->4
 |[],a=>a=[]
 |z::d,a=>∃r c,a=r::c/\tG b z r/\y8 b d c
theorem y8.snoc   (h:tG g z r):∀{f:List (3×Str×Str×List (Str×3))}{c:List (Str×Str×Js)},y8 g f c->y8 g (f++[z]) (c++[r])
 |[],c,e=>by rw[e,];rw[(r,[],9,h,9)]
 |y::f,c,e=>by
  let(a b,rfl,i,j):=e;rw[(a,b++[r],9,i,j.snoc h)]
theorem y8.out :∀{f:List (3×Str×Str×List (Str×3))}{c:List (Str×Str×Js)},y8 g f c->⇑c=⇑f/\c.map (·.1)=f.map (·.2.1)/\c.map (yD g)=f.map (λz=>xn z.2.1 z.2.2.1 z.2.2.2)/\∀r∈c,∃z∈f,tG g z r
 |[],c,e=>by rw[e,];simp
 |y::f,c,e=>by
  let(a b,rfl,i,j):=e;let(!l,n,o,p):=j.out;let q:=i.1
  simp_all[Zu,Zl,DH]
structure PlM(q:Dr)(p:Pl):4 where
 nm:p.name=q.name
 gs:p.givens=q.givens
 rs:y8 (q.givens++q.rows.map (·.2.1)) q.rows p.rows
def zJ(a:Yg)(z:3×Str×Str×List (Str×3)):4:=∀p∈z.2.2.2,p.1∈a
def uW(q:Dr):Yg:=q.givens++q.rows.map (·.2.1)
def wm(a:Yg)(R:List (3×Str×Str×List (Str×3)))(m:3):4:=∃i z,R[i]?=!z/\¬zJ a z/\z.1=m/\∀y∈R.take i,zJ a y
def Ss (r:⇑q.givens+⇑q.rows<=920)(s:∀z∈q.rows,⇑z.2.2.2<=900):((∀z∈q.rows,zJ (uW q) z)/\∃p,PlM q p/\VJ [Kp q]=.ok (JJ p))\/∃m,wm (uW q) q.rows m/\VJ [Kp q]=.ex "NoName" [.int m]:=by
 let(nm,b,R):=q;let r:⇑b+⇑R<=920:=r;let s:∀z∈R,⇑z.2.2.2<=900:=s;show(∀z∈R,zJ (b++R.map (·.2.1)) z)/\_\/∃m,wm (b++R.map (·.2.1)) R m/\_;let(c,hxs):∃c,c=b++R.map (·.2.1):=(_,9);let S:⇑c<=920:=by rw[hxs,Ub,Zql];rw[r]
 let(-t,T,B):=So S;let(L,hL):∃L,L=R.map yQ:=(_,9);let U:⇑L=⇑R:=by rw[hL,Zql]
 let C:qB (.tup [0,1]) (jd jf (ja 1)<|dC<|.int 0) [8,8] L=.ok (R.map λz=>.str z.2.1):=by
  rw[hL,];rw[K5 λz n=>?_];let g:jf (XC z.2.1 z.2.2.1 z.2.2.2) (.int 0)=! .str z.2.1:=z9 _ _;simp[yQ,g]
 let E:jv (.lst<|b.map .str) (.lst<|R.map λz=>.str z.2.1)=!(.lst<|c.map .str):=by
  show(if(b.map D.str).length+⇑(R.map λz=>D.str z.2.1)<=00 then !(D.lst<|b.map D.str++R.map λz=>D.str z.2.1)else 8)=_;rw[Zd (small<|by rw[Zql,Zql];lia),hxs,Ud,Zw];rfl
 let X:Kp (nm,b,R)=.ins "Draft" ["name","givens","rows"] [.str nm,.lst (b.map .str),.lst L]:=by rw[hL,];rfl
 rw[X,];let(f,hdd):∃f,f=D.ins "Draft" ["name","givens","rows"] [.str nm,.lst (b.map .str),.lst L]:=(_,9);let Y:jA "Draft" "name" f=! .str nm:=by rw[hdd,];rfl
 let F:jA "Draft" "givens" f=!(.lst<|b.map .str):=by rw[hdd,];rfl
 let G:jA "Draft" "rows" f=! .lst L:=by rw[hdd,];rfl
 rw[<-hdd];let H:⇑L<00:=Qi ();let u:((∀z∈R,zJ c z)/\∃a,y8 c R a/\∃j l:02 SV,qa (.tup [03,04]) (Ko 2<|jH<|Ju (jd jf (ja 04)<|dC<|.int 0)<|Ju (jd jf (ja 04)<|dC<|.int 1)<|Ju (J9 Xc<|Ju (jd jf (ja 04)<|dC<|.int 2)<|Ju (ja 1)<|Ju (ja 03) jb) jb) L [~~~f,~~~dT t,!(.own 7<|.lst []),8,8]=.ok (.next [~~~f,~~~dT t,!(.own 7<|.lst<|a.map jn),j,l]))\/∃m,wm c R m/\qa (.tup [03,04]) (Ko 2<|jH<|Ju (jd jf (ja 04)<|dC<|.int 0)<|Ju (jd jf (ja 04)<|dC<|.int 1)<|Ju (J9 Xc<|Ju (jd jf (ja 04)<|dC<|.int 2)<|Ju (ja 1)<|Ju (ja 03) jb) jb) L [~~~f,~~~dT t,!(.own 7<|.lst []),8,8]=.ex "NoName" [.int m]:=by
  rw[WG (R:=λo=>((∀z∈R,zJ c z)/\∃a,y8 c R a/\∃j l:02 SV,o=.ok (.next [~~~f,~~~dT t,!(.own 7<|.lst<|a.map jn),j,l]))\/∃m,wm c R m/\o=.ex "NoName" [.int m]) (P:=λi sd=>(∀z∈R.take i,zJ c z)/\∃a,y8 c (R.take i) a/\∃j l:02 SV,sd=[~~~f,~~~dT t,!(.own 7<|.lst<|a.map jn),j,l]) (λz n=>by simp at n,[],9,8,8,9) ?_ ?_]
  .rintro sd ⟨ok,a,h,j,l,rfl⟩;rw[U,Uy]at h ok;rw[.inl (ok,a,h,j,l,9)]
  .rintro i d sd I ⟨ok,a,h,j,l,rfl⟩;rw[hL]at I;let(-z,n,rfl):=Ke I;let Z:=Ua n;let J:R.take (i+1)=R.take i++[z]:=by rw[List.take_add_one,n];rfl
   let(md,hmd):∃md,md=XC z.2.1 z.2.2.1 z.2.2.2:=(_,9);let M:jf md (.int 0)=! .str z.2.1:=by rw[hmd,];rw[z9 _ _]
   let N:jf md (.int 1)=! .str z.2.2.1:=by rw[hmd,];rw[wa _ _ _]
   let O:jf md (.int 2)=!(.lst<|z.2.2.2.map rI):=by rw[hmd,];rw[uH _ _ _ _]
   let rl:=h.out.1;let lr:=Qi (show(a.map jn).length<=1000 by rw[Zql,rl,Ue];lia);let em:yQ z=.tup [.int z.1,md]:=by rw[hmd,];rfl
   rw[em,];obtain⟨v,Q,h1,h2,e⟩|⟨v,e⟩:=Sq T (s z Z) z.1
   .rw[.inl ([~~~f,~~~dT t,!(.own 7<|.lst<|(a++[%[z.2.1,z.2.2.1|Q]]).map jn),~~~.int z.1,~~~md],?_,λy hy=>by
     rw[J]at hy;obtain hy|hy:=Jd.mp hy
     .rw[ok y hy]
     .rw[Jc.mp hy,];rw[v],a++[%[z.2.1,z.2.2.1|Q]],?_,_,_,9)]
    .rw[Ud,];generalize a.map jn=acc at*;generalize z.2.2.2.map rI=w at*;simp[M,N,O,e,lr,jn]
    .rw[J,];rw[h.snoc (by rw[<-h1],h2)]
   .rw[.inr ("NoName",[.int z.1],?_,.inr (_,(i,z,n,v,9,ok),9))];generalize a.map jn=acc at*;generalize z.2.2.2.map rI=w at*;simp[M,N,O,e]
 obtain⟨ok,a,h,j,l,A⟩|⟨m,bm,A⟩:=u
 .rw[.inl (by rw[<-hxs];rw[ok],(nm,b,a),(9,9,by rw[<-hxs];rw[h]),?_)];let pi:JJ (nm,b,a)=.ins "Plan" ["name","givens","rows"] [.str nm,.lst (b.map .str),.lst (a.map jn)]:=9;rw[pi,];generalize a.map jn=acc at*;simp[VJ,Ak,Y,F,G,C,H,E,B,A,Sr]
 .rw[.inr (m,by rw[<-hxs];rw[bm],by simp[VJ,Ak,F,G,C,H,E,B,A])]
def zq:List Dr->List Pl->4
 |[],a=>a=[]
 |q::b,a=>∃p r,a=p::r/\PlM q p/\zq b r
def uN(q:Dr):4:=∀z∈q.rows,zJ (uW q) z
def vP(a:List Dr)(m:3):4:=∃i q,a[i]?=!q/\wm (uW q) q.rows m/\∀y∈a.take i,uN y
theorem Ip:∀(a:List Dr),(∀q∈a,⇑q.givens+⇑q.rows<=920/\∀z∈q.rows,⇑z.2.2.2<=900)->((∀q∈a,uN q)/\∃d,zq a d/\qB (.one 0) (J9 VJ<|Ju (ja 0) jb) [8] (a.map Kp)=.ok (d.map JJ))\/∃m,vP a m/\qB (.one 0) (J9 VJ<|Ju (ja 0) jb) [8] (a.map Kp)=.ex "NoName" [.int m]
 |[],_=>.inl ((λ_ h=>nomatch h),[],9,9)
 |q::a,h=>by
  let e:qB (.one 0) (J9 VJ<|Ju (ja 0) jb) [8] ((q::a).map Kp)=(VJ [Kp q]).bind λy=>(qB (.one 0) (J9 VJ<|Ju (ja 0) jb) [8]<|a.map Kp).bind λl=>.ok<|y::l:=9;rw[e,];obtain⟨ok,p,n,f⟩|⟨m,b,f⟩:=Ss (h q Zqs).1 (h q Zqs).2
  .rw[f,];obtain⟨g,d,r,j⟩|⟨m,⟨i,y,s,b,c⟩,j⟩:=Ip a λz o=>h z<|Zqm _ o
   .rw[.inl (Jp.mpr (ok,g),p::d,(p,d,9,n,r),by rw[j,];rfl)]
   .rw[.inr (m,(i+1,y,s,b,by rw[Vf,];rw[Jp.mpr (ok,c)]),by rw[j,];rfl)]
  .rw[.inr (m,(0,q,9,b,λ_ h=>by simp at h),by rw[f,];rfl)]
def Su    (f:TxtOk n x)(g:n<=4000000)(h:Txt.split x "\n"=i)(R:Rd 0 i [] a)(u:⇑a<=900)(big:∀q∈a,⇑q.givens+⇑q.rows<=920/\∀z∈q.rows,⇑z.2.2.2<=900):
 (∃m,vP a m/\Kb [.str x]=.ex "NoName" [.int m])\/(∀q∈a,uN q)/\∃c,zq a c/\Kb [.str x]=(yK [JL c]).bind λ_=>.ok<|JL c:=by
 let d:=bq f g h R;let j:⇑(a.map Kp)<00:=Qi (by rw[Zql,];lia);let o:∀l:Yq,Dw [.lst l]=.ok [.lst l]:=λ_=>9;unfold An at d;obtain⟨ok,c,M,e⟩|⟨m,b,e⟩:=Ip a big
 .rw[.inr (ok,c,M,?_)];let p:JL c=.ins "Book" ["plans"] [.lst (c.map JJ)]:=9;rw[p,];generalize c.map JJ=s at*;generalize a.map Kp=v at*;generalize t:yK [D.ins "Book" ["plans"] [.lst s]]=r
  cases(r)<;>simp[Kb,Am,d,e,t,j,o]
 simp_all[Kb,Am]
def XE:FS:=js (j3 1<|dC .non)<|js (AS ["BadName","BadPart","BadPlan","BadRow","NoName","TooLong"] 2 (KS<|AR Kb<|Ju (ja 0) jb)<|j3 1<|ja 2)<|js (qj (Jz<|jJ (xN 7)<|ja 1) (jL<|dC .non) JF)<|js (j3 03<|qm<|Ju (jj (Q7 ["BadName","BadPart","BadPlan","BadRow","NoName","TooLong"] ["BadRow","NoName","BadName","BadPlan","BadPart","TooLong","NoPlan","TooMany","Unlike"])<|Ju (ja 1)<|Ju (dC<|.ucl "BadRow") jb)<|Ju (jj (Q7 ["BadName","BadPart","BadPlan","BadRow","NoName","TooLong"] ["BadRow","NoName","BadName","BadPlan","BadPart","TooLong","NoPlan","TooMany","Unlike"])<|Ju (ja 1)<|Ju (dC<|.ucl "NoName") jb)<|Ju (jj (Q7 ["BadName","BadPart","BadPlan","BadRow","NoName","TooLong"] ["BadRow","NoName","BadName","BadPlan","BadPart","TooLong","NoPlan","TooMany","Unlike"])<|Ju (ja 1)<|Ju (dC<|.ucl "BadName") jb) jb)<|js (j3 03<|jd jv (ja 03)<|qm<|Ju (jj (Q7 ["BadName","BadPart","BadPlan","BadRow","NoName","TooLong"] ["BadRow","NoName","BadName","BadPlan","BadPart","TooLong","NoPlan","TooMany","Unlike"])<|Ju (ja 1)<|Ju (dC<|.ucl "BadPlan") jb)<|Ju (jj (Q7 ["BadName","BadPart","BadPlan","BadRow","NoName","TooLong"] ["BadRow","NoName","BadName","BadPlan","BadPart","TooLong","NoPlan","TooMany","Unlike"])<|Ju (ja 1)<|Ju (dC<|.ucl "BadPart") jb)<|Ju (jj (Q7 ["BadName","BadPart","BadPlan","BadRow","NoName","TooLong"] ["BadRow","NoName","BadName","BadPlan","BadPart","TooLong","NoPlan","TooMany","Unlike"])<|Ju (ja 1)<|Ju (dC<|.ucl "TooLong") jb) jb)<|js (j3 03<|jd jv (ja 03)<|qm<|Ju (jj (Q7 ["BadName","BadPart","BadPlan","BadRow","NoName","TooLong"] ["BadRow","NoName","BadName","BadPlan","BadPart","TooLong","NoPlan","TooMany","Unlike"])<|Ju (ja 1)<|Ju (dC<|.ucl "NoPlan") jb)<|Ju (jj (Q7 ["BadName","BadPart","BadPlan","BadRow","NoName","TooLong"] ["BadRow","NoName","BadName","BadPlan","BadPart","TooLong","NoPlan","TooMany","Unlike"])<|Ju (ja 1)<|Ju (dC<|.ucl "TooMany") jb)<|Ju (jj (Q7 ["BadName","BadPart","BadPlan","BadRow","NoName","TooLong"] ["BadRow","NoName","BadName","BadPlan","BadPart","TooLong","NoPlan","TooMany","Unlike"])<|Ju (ja 1)<|Ju (dC<|.ucl "Unlike") jb) jb)<|js (j3 04<|dC<|.int 0)<|js (qj (xP (Jz<|jd jf (ja 03)<|dC<|.int 0)<|Jz<|jd jf (ja 03)<|dC<|.int 1) (j3 04<|jJ (v3 ["BadRow","NoName"])<|ja 1) JF)<|js (qj (xP (Qv<|Jz<|jj (Q7 ["BadName","BadPart","BadPlan","BadRow","NoName","TooLong"] ["BadRow","NoName","BadName","BadPlan","BadPart","TooLong","NoPlan","TooMany","Unlike"])<|Ju (ja 1)<|Ju (dC<|.ty "ValueError") jb)<|xP (Qv<|Jz<|jj qx<|Ju (ja 04)<|Ju (dC<|.ty "int") jb)<|Jz<|jj qx<|Ju (ja 04)<|Ju (dC<|.ty "bool") jb) (j3 04<|jJ qF<|dC<|.int 1) JF)<|jL<|jH<|Ju (ja 03)<|Ju (ja 04) jb
def V8:Yq->Res D:=jS 05 1 XE
abbrev z7:Yg:=["BadName","BadPart","BadPlan","BadRow","NoName","TooLong"]
abbrev wr:Yg:=["BadRow","NoName","BadName","BadPlan","BadPart","TooLong","NoPlan","TooMany","Unlike"]
def Iq (h:⇑A+⇑B<=1000):jv (.lst A) (.lst B)=!(.lst<|A++B):=Zd<|small h
def Sv  (e:Kb [.str x]=.ok d):V8 [.str x]=.ok .non:=by
 simp[V8,XE,e]
def Ir     (e:Kb [.str x]=.ex c fs)(p:c∈z7)(r:fs=[]/\a=.exc c/\b=7/\b1=7/\k=0\/fs=[.int k]/\a=.exr c k/\(b||b1)=6/\v3 ["BadRow","NoName"] a=! .int k)(t:Q7 z7 wr [a,.ucl "BadRow"]=! .bl b)(u:Q7 z7 wr [a,.ucl "NoName"]=! .bl b1)(v:Q7 z7 wr [a,.ucl "BadName"]=! .bl d)(w:Q7 z7 wr [a,.ucl "BadPlan"]=! .bl f)(y:Q7 z7 wr [a,.ucl "BadPart"]=! .bl g)(z:Q7 z7 wr [a,.ucl "TooLong"]=! .bl h)(A:Q7 z7 wr [a,.ucl "NoPlan"]=! .bl i)(B:Q7 z7 wr [a,.ucl "TooMany"]=! .bl l)(C:Q7 z7 wr [a,.ucl "Unlike"]=! .bl m)(E:Q7 z7 wr [a,.ty "ValueError"]=! .bl 6):
 V8 [.str x]=.ok (.tup [.lst [.bl b,.bl b1,.bl d,.bl f,.bl g,.bl h,.bl i,.bl l,.bl m],.int k]):=by
 let F:jv (.lst [.bl b,.bl b1,.bl d]) (.lst [.bl f,.bl g,.bl h])=! .lst [.bl b,.bl b1,.bl d,.bl f,.bl g,.bl h]:=Iq ();let G:jv (.lst [.bl b,.bl b1,.bl d,.bl f,.bl g,.bl h]) (.lst [.bl i,.bl l,.bl m])=! .lst [.bl b,.bl b1,.bl d,.bl f,.bl g,.bl h,.bl i,.bl l,.bl m]:=Iq ();let H:qo [D.bl b,.bl b1,.bl d,.bl f,.bl g,.bl h,.bl i,.bl l,.bl m] 0=! .bl b:=z9 _ _;let I:qo [D.bl b,.bl b1,.bl d,.bl f,.bl g,.bl h,.bl i,.bl l,.bl m] 1=! .bl b1:=wa _ _ _;let n:xN 7 a=! .bl 7:=by obtain⟨_,rfl,_⟩|⟨_,rfl,_⟩:=r<;>rfl
 obtain⟨rfl,rfl,rfl,rfl,rfl⟩|⟨rfl,rfl,J,L⟩:=r
 .let s:=λj o sd=>Og (cs:=z7) (c:=c) j o sd p
  simp_all[V8,XE]
 .let s:=λj o sd=>Oh (cs:=z7) (c:=c) (n:=k) j o sd p;obtain _|_:=b
  .rcases b1 with _|_
   .cases J
   .simp[V8,XE,e,s,n,t,u,v,w,y,z,A,B,C,E,F,G,H,I,L]
  simp_all[V8,XE]
def Kq   (h:zc d=!c)(a:c∈z7)(e:u∈wr)(f:decide (c=u)=b):Q7 z7 wr [d,.ucl u]=! .bl b:=by rw[P9 h a e,f]
def DI{x c:Str} (a:c="BadName"/\j=2\/c="BadPlan"/\j=03\/c="BadPart"/\j=04)(e:Kb [.str x]=.ex c []):V8 [.str x]=.ok (.tup [.lst ((List.range 09).map λk=>.bl<|k==j),.int 0]):=by
 obtain⟨rfl,rfl⟩|⟨rfl,rfl⟩|⟨rfl,rfl⟩:=a<;>rw[Ir e () (.inl (9,9,9,9,9)) (Kq 9 () ()<|by decide+kernel) (Kq 9 () ()<|by decide+kernel) (Kq 9 () ()<|by decide+kernel) (Kq 9 () ()<|by decide+kernel) (Kq 9 () ()<|by decide+kernel) (Kq 9 () ()<|by decide+kernel) (Kq 9 () ()<|by decide+kernel) (Kq 9 () ()<|by decide+kernel) (Kq 9 () ()<|by decide+kernel)<|GS 9 ()]
def YE:FS:=js (qj (Jz<|jd qI (jd jf (ja 1)<|dC<|.int 1)<|dC<|.int 0) (jL<|jd jf (ja 0)<|jd jf (ja 1)<|dC<|.int 0) JF)<|jL<|jd jv (jd jv (jd jf (ja 0)<|jd jf (ja 1)<|dC<|.int 0)<|jd jf (qm<|Ju (dC<|.str "-")<|Ju (dC<|.str "+") jb)<|jj v6<|Ju (jd wx (jd jf (ja 1)<|dC<|.int 1)<|dC<|.int 0) jb)<|jj vy<|Ju (jj zp<|Ju (jd jf (ja 1)<|dC<|.int 1) jb) jb
def Xe:Yq->Res D:=jS 2 2 YE
def Sw  (h:w≠0):zx x w=x++(if 0<w then"+"else"-":Str)++jZ (if w<0 then-w else w):=by
 ext zx;rw[Ze h,];cases c:0<w
 .rw[Zd c,Zd c,Ze ()]
 .rw[Ze c,Ze c,Zd ()];let(m,rfl):∃m:5,w=-((m+1:5):3):=((-w-1).toNat,());rw[Bv,Int.neg_neg,We]
def bf  (m:∀x∈a,TxtOk 12 x)(o:0<=i.1)(p:i.1<(⇑a:3))(v:-1000000000000000000000000000000<i.2)(w:i.2<1000000000000000000000000000000):Xe [.lst (a.map .str),qw i]=.ok (.str<|zx (jM a i.1) i.2):=by
 let(f,r):=Hw o p;let e:=m _ r;cases c:i.2=0
 .let s:zx (jM a i.1) i.2=jM a i.1:=Zd c;rw[s,];simp[Xe,YE,c,f]
 .rw[Sw c,];let j:=Dm (n:=if i.2<0 then-i.2 else i.2) (by split<;>lia) (by split<;>lia);let l:vy [.int (if i.2<0 then-i.2 else i.2)]=!(.str<|jZ<|if i.2<0 then-i.2 else i.2):=Zd<|UM.mpr<|Zz<|UO (Ri (by split<;>lia)<|by split<;>lia) ();cases d:0<i.2
  .let b:TxtOk 1 ("+":Str):=Qy (by decide+kernel);let g:=Bp e b ();let h:=Bp (e.app b) j ();let t:qo [D.str "-",D.str "+"] 1=! .str "+":=9;simp[Xe,YE,c,f,d,g,h,l,t]
  .let b:TxtOk 1 ("-":Str):=Qy (by decide+kernel);let g:=Bp e b ();let h:=Bp (e.app b) j ();let u:qo [D.str "-",D.str "+"] 0=! .str "-":=9;simp[Xe,YE,c,f,d,g,h,l,u]
def BM:FS:=js (xH 2<|qm jb)<|js (qf (fF<|Ju (ja 0) jb) (.tup [03,04])<|js (xH 05<|jd Yw (jd jf (ja 04)<|dC<|.int 1)<|Q2 [8] (iS<|jd jf (ja 04)<|dC<|.int 2) (.one 0)<|jd jf (ja 0)<|dC<|.int 0)<|js (Ko 05<|jd jf (ja 1)<|jd j9 (jd jv (jd jv (ja 03)<|dC<|.int 1)<|zd [05]<|jj jq<|Ju (ja 05) jb)<|jj jq<|Ju (ja 1) jb)<|js (Ko 2<|jd jv (dC<|.str "plan ")<|jd jf (ja 04)<|dC<|.int 0)<|js (qf (iS<|jd jf (ja 04)<|dC<|.int 1) (.one 06)<|Ko 2<|jd jv (dC<|.str " given ")<|ja 06)<|qf (iS<|jd jf (ja 04)<|dC<|.int 2) (.one 07)<|js (j3 08<|jd jf (ja 07)<|dC<|.int 1)<|js (qj (Qz (Jz<|jd xL (ja 08)<|dC<|.str "all")<|Jz<|jd xL (ja 08)<|dC<|.str "first") (j3 08<|jd jv (dC<|.str "part ")<|ja 08) JF)<|λsd=>(Ko 2<|jd jv (jd jv (jd jv (jd jv (jd jv (dC<|.str " ")<|jd jf (ja 07)<|dC<|.int 0)<|dC<|.str " ")<|ja 08)<|dC<|.str " ")<|qD WM (dC<|.str ", ")<|Q2 [8,!05] (iS<|jd jf (ja 07)<|dC<|.int 2) (.one 0)<|J9 Xe<|Ju (ja 1)<|Ju (ja 0) jb)<|qR [05] sd)<|Wn 2
def Ao:Yq->Res D:=xI 09 2 BM
def XF(a:Yq->Res D):FS:=js (qj (xP (Jz<|jj qx<|Ju (ja 1)<|Ju (dC<|.ty "tuple") jb)<|Jz<|jj qx<|Ju (ja 1)<|Ju (dC<|.ty "list") jb) (js (qj (xP (Jz<|jd xL (jj qx<|Ju (ja 0)<|Ju (dC<|.ty "tuple") jb)<|jj qx<|Ju (ja 1)<|Ju (dC<|.ty "tuple") jb)<|Jz<|jd xL (jj qx<|Ju (ja 0)<|Ju (dC<|.ty "list") jb)<|jj qx<|Ju (ja 1)<|Ju (dC<|.ty "list") jb) (jL<|dC<|.bl 7) JF)<|js (qj (Jz<|jd xL (jj jq<|Ju (ja 0) jb)<|jj jq<|Ju (ja 1) jb) (jL<|dC<|.bl 7) JF)<|jL<|jj za<|Ju (Q2 [8,!0,!1] (vw<|Ju (jj jq<|Ju (ja 1) jb) jb) (.one 0)<|J9 a<|Ju (jd jf (ja 1)<|ja 0)<|Ju (jd jf (ja 2)<|ja 0) jb) jb) JF)<|jL<|W7 (Cw<|jj qx<|Ju (ja 0)<|Ju (dC<|.ty "bool") jb)<|jd qI (ja 0)<|ja 1
def KI:5->Yq->Res D
 |0=>λ_=>.no
 |n+1=>jS 2 2 (XF<|KI n)
def DJ:5->D->4
 |0,_=>False
 |n+1,d=>(∃x,d=.str x/\asc x)\/(∃i,d=.int i)\/∃a,(d=.lst a\/d=.tup a)/\⇑a<=1000/\∀e∈a,DJ n e
def Sx {P:5->Bool}(h:∀i,i<n->P i=6):za [.lst ((List.range n).map λi=>.bl<|P i)]=! .bl 6:=by
 let e:((List.range n).map λi=>D.bl<|P i)=((List.range n).map P).map .bl:=by rw[Zw,];rfl
 grind[ZF]
def Iu(n:5):za [.lst ((List.range n).map λ_=>.bl 6)]=! .bl 6:=Sx (P:=λ_=>6) λ_ _=>9
theorem Iv:∀(n:5)(d:D),DJ n d->KI n [d,d]=.ok (.bl 6)
 |0,d,h=>h.elim
 |n+1,d,h=>by
  obtain⟨x,rfl,f⟩|⟨i,rfl⟩|⟨a,o,p,t⟩:=h
  .let e:qI (.str x) (.str x)=! .bl 6:=by rw[YZ (KH f) (KH f),VR]
   simp[KI,XF,e]
  .simp[KI,XF]
  .let g:Wq [.int (⇑a:3)]=.ok (Qw 0 ⇑a):=by rw[XZ () (),Uk]
   let j:⇑(Qw 0 ⇑a)<00:=by rw[AJ,];rw[Qi p]
   let l:∀b:Yq->D,b=.lst\/b=.tup->qB (.one 0) (J9 (KI n)<|Ju (jd jf (ja 1)<|ja 0)<|Ju (jd jf (ja 2)<|ja 0) jb) [8,~~~b a,~~~b a] (Qw 0 ⇑a)=.ok ((List.range ⇑a).map λ_=>.bl 6):=λb r=>FK λk c=>by
    let s:jf (b a) (.int (k:3))=!a[k]:=by
     obtain rfl|rfl:=r
     .show qo a (k:3)=_;rw[V4 c,Zqg c]
     .show qo a (k:3)=_;rw[V4 c,Zqg c]
    simp[s,Iv n a[k] ()]
   obtain rfl|rfl:=o
   .let m:=l D.lst<|.inl 9;simp[KI,XF,g,j,m,Iu]
   .let m:=l D.tup<|.inr 9;simp[KI,XF,g,j,m,Iu]
def BN:FS:=js (qj (xP (Qv<|Jz<|jj (Wv "Book")<|Ju (ja 0)<|Ju (dC<|.ucl "Book") jb)<|xP (Qv<|Jz<|jj qx<|Ju (jJ (jA "Book" "plans")<|ja 0)<|Ju (dC<|.ty "list") jb)<|Jz<|jd xL (jj jq<|Ju (jJ (jA "Book" "plans")<|ja 0) jb)<|jj jq<|Ju (ja 1) jb) (jL<|dC<|.bl 7) JF)<|js (qf (vw<|Ju (jj jq<|Ju (ja 1) jb) jb) (.one 2)<|js (j3 03<|jd jf (jJ (jA "Book" "plans")<|ja 0)<|ja 2)<|qj (xP (Qv<|Jz<|jj (Wv "Plan")<|Ju (ja 03)<|Ju (dC<|.ucl "Plan") jb)<|Qv<|Jz<|J9 (KI 08)<|Ju (qm<|Ju (jJ (jA "Plan" "name")<|ja 03)<|Ju (jJ (jA "Plan" "givens")<|ja 03)<|Ju (jJ (jA "Plan" "rows")<|ja 03) jb)<|Ju (jd jf (ja 1)<|ja 2) jb) (jL<|dC<|.bl 7) JF)<|jL<|dC<|.bl 6
def Ap:Yq->Res D:=jS 04 2 BN
def Sy (h:PlT p):DJ 08 (JH p):=by
 let i:=h.gl;let j:=h.rl;rw[.inr<|.inr (_,.inl 9,(),λe f=>?_)];let:e=.str p.name\/e=.lst (p.givens.map .str)\/e=.lst (p.rows.map jn):=by simpa using f
 obtain rfl|rfl|rfl:=this
 .rw[.inl (_,9,h.nm.asc)]
 .rw[.inr<|.inr (_,.inl 9,(),λe f=>?_)];let(g,i,rfl):=Jb.mp f;rw[.inl (_,9,(h.gs g i).asc)]
 .rw[.inr<|.inr (_,.inl 9,(),λe f=>?_)];let(-r,j,rfl):=Jb.mp f;let(!a,b,c,d):=h.rs r j;rw[.inr<|.inr (_,.inr 9,(),λe f=>?_)];let:e=.str r.1\/e=.str r.2.1\/e=jU r.2.2:=by simpa using f
  obtain rfl|rfl|rfl:=this
  .rw[.inl (_,9,a.asc)]
  .rw[.inl (_,9,b.asc)]
  .rw[.inr<|.inr (_,.inr 9,(),λe f=>?_)];let(-q,l,rfl):=Jb.mp f;rw[.inr<|.inr (_,.inr 9,(),λe f=>?_)];let:e=.int q.1\/e=.int q.2:=by simpa using f
   obtain rfl|rfl:=this
   .rw[.inr<|.inl (_,9)]
   .rw[.inr<|.inl (_,9)]
def bd (h:∀p∈c,PlT p)(r:⇑c<=32):Ap [JL c,qq c]=.ok (.bl 6):=by
 let s:Wv "Book" [JL c,.ucl "Book"]=! .bl 6:=by ext JL Wv;simp
 let t:jq [qq c]=! .int (⇑c:3):=by show some (D.int (⇑(c.map JH):3))=_;rw[Zql,]
 let u:Wq [.int (⇑c:3)]=.ok (Qw 0 ⇑c):=by rw[XZ () (),Uk]
 let(-sd,e,(d,f,j)):=K4 (tg:=.one 2) (b:=js (j3 03<|jd jf (jJ (jA "Book" "plans")<|ja 0)<|ja 2)<|qj (xP (Qv<|Jz<|jj (Wv "Plan")<|Ju (ja 03)<|Ju (dC<|.ucl "Plan") jb)<|Qv<|Jz<|J9 (KI 08)<|Ju (qm<|Ju (jJ (jA "Plan" "name")<|ja 03)<|Ju (jJ (jA "Plan" "givens")<|ja 03)<|Ju (jJ (jA "Plan" "rows")<|ja 03) jb)<|Ju (jd jf (ja 1)<|ja 2) jb) (jL<|dC<|.bl 7) JF) (ds:=Qw 0 ⇑c)
  (P:=λi sd=>∃d f:02 SV,sd=[~~~JL c,~~~qq c,d,f]) (8,8,9) (by
   rintro i x sd l ⟨d,f,rfl⟩;let(rfl,g):=CI l;let m:jf (.lst<|c.map JJ) (.int (i:3))=! JJ c[i]:=by
    show qo (c.map JJ) (i:3)=_;rw[V4 (by rwa[Zql,]),Zv,Zqg g];rfl
   let n:jf (qq c) (.int (i:3))=! JH c[i]:=by
    show qo (c.map JH) (i:3)=_;rw[V4 (by rwa[Zql,]),Zv,Zqg g];rfl
   let o:Wv "Plan" [JJ c[i],.ucl "Plan"]=! .bl 6:=by ext JJ Wv;simp
   let a:=Iv 08 _<|Sy<|h _<|UR g;let a:KI 08 [.lst [.str c[i].name,.lst (c[i].givens.map .str),.lst (c[i].rows.map jn)],JH c[i]]=.ok (.bl 6):=a;rw[([~~~JL c,~~~qq c,~~~(.int<|0+(i:3)),~~~JJ c[i]],by simp[m,n,o,a],_,_,9)])
 simp_all[Ap,BN]
def BO:qb:=jr (jV 2<|ug (Qr Y4<|J0 (vL<|ja 0)<|J0 (vL<|ja 1) j0)<|vL<|dC<|.int 0)<|Kk<|Qr B5<|J0 (vL<|ja 0)<|J0 (vL<|ja 1)<|J0 (qG 05 [2]<|jd jv (jj jq<|Ju (jd jf (ja 2)<|dC<|.int 1) jb)<|jj jq<|Ju (jd jf (ja 2)<|dC<|.int 2) jb) j0
def Xf:Yq->HP->Wr (D×HP):=qK 03 2 BO
def BP:FS:=js (j3 1<|dC<|.int 0)<|js (qf (iS<|ja 0) (.one 2)<|js (j3 1<|jd jv (jd jv (ja 1)<|dC<|.int 1)<|jj jq<|Ju (jd jf (ja 2)<|dC<|.int 1) jb)<|qf (iS<|jd jf (ja 2)<|dC<|.int 2) (.one 03)<|js (j3 1<|jd jv (ja 1)<|dC<|.int 1)<|qj (Jz<|jd vS (jj Z5<|Ju (Q2 [8,8] (iS<|jd jf (ja 03)<|dC<|.int 2) (.tup [0,1])<|ja 0) jb)<|jd jv (jj jq<|Ju (jd jf (ja 2)<|dC<|.int 1) jb)<|jj jq<|Ju (jd jf (ja 2)<|dC<|.int 2) jb) (jL<|ja 1) JF)<|jL<|dC<|.int 0
def Aq:Yq->Res D:=jS 04 1 BP
def YF:qb:=jr (zL<|j3 1<|J9 V6<|Ju (ja 0)<|Ju (dC<|.int 34) jb)<|jr (jV 2<|Qr YA<|J0 (vL<|jd jv (wM (ja 0) QX (Kw<|dC<|.int 2) QX)<|wM (ja 0) (Kw<|dC<|.int 05) (Kw<|dC<|.int 59) QX) j0)<|jr (jV 03<|Bl<|vL<|ja 2)<|jr (zL<|j3 04<|jd j9 (J9 QH<|Ju (ja 0)<|Ju (dC<|.int 2) jb)<|dC<|.int 32)<|jr (zL<|j3 05<|qm<|Ju (jd j9 (J9 QH<|Ju (ja 0)<|Ju (dC<|.int 03) jb)<|jd xq (dC<|.int 10)<|dC<|.int 09)<|Ju (jd j9 (J9 QH<|Ju (ja 0)<|Ju (dC<|.int 04) jb)<|jd xq (dC<|.int 10)<|dC<|.int 09) jb)<|jr (zL<|j3 06<|dC<|.int 09)<|jr (Qk (yM<|Jz<|jd qI (jd j9 (jd JZ (ja 04)<|dC<|.int 08)<|dC<|.int 2)<|dC<|.int 1) (jr (Kk<|Qr B0<|J0 (vL<|ja 03)<|J0 (vL<|ja 1)<|J0 (vL<|jd jf (ja 05)<|dC<|.int 0) j0)<|zL<|j3 06<|dC<|.int 04) QD)<|jr (Qk (yM<|Jz<|jd qI (jd j9 (jd JZ (ja 04)<|dC<|.int 04)<|dC<|.int 2)<|dC<|.int 1) (jr (Kk<|Qr Wh<|J0 (vL<|ja 2)<|J0 (vL<|ja 1)<|J0 (vL<|jd jf (ja 05)<|dC<|.int 1) j0)<|zL<|j3 06<|dC<|.int 03) QD)<|jr (Qk (yM<|Jz<|jd qI (jd j9 (jd JZ (ja 04)<|dC<|.int 2)<|dC<|.int 2)<|dC<|.int 1) (jr (Kk<|Qr X5<|J0 (vL<|ja 03)<|J0 (vL<|jd jv (jd JZ (jd jf (ja 05)<|dC<|.int 0)<|dC<|.int 05)<|jd jf (ja 05)<|dC<|.int 1) j0)<|zL<|j3 06<|dC<|.int 2) QD)<|jr (zL<|j3 07<|dC<|.int 0)<|jr (Qk (yM<|Jz<|jd qI (jd j9 (ja 04)<|dC<|.int 2)<|dC<|.int 1) (jr (Kk<|Qr Xf<|J0 (vL<|ja 03)<|J0 (vL<|jd jv (jd JZ (jd jf (ja 05)<|dC<|.int 1)<|dC<|.int 03)<|jd jf (ja 05)<|dC<|.int 0) j0)<|jr (Qk (yM<|Jz<|jd qI (jd j9 (jd JZ (ja 04)<|dC<|.int 16)<|dC<|.int 2)<|dC<|.int 1) (Kk<|Qr Xf<|J0 (vL<|ja 03)<|J0 (vL<|jd jv (jd jv (jd JZ (jd jf (ja 05)<|dC<|.int 0)<|dC<|.int 07)<|jd jf (ja 05)<|dC<|.int 1)<|dC<|.int 1) j0) QD)<|jr (zL<|j3 06<|dC<|.int 1)<|jV 07<|qG 05 [2]<|J9 Aq<|Ju (ja 2) jb) QD)<|jr (jV 08<|qG 05 [2]<|qD WM (dC<|.str "\n")<|J9 Ao<|Ju (ja 2)<|Ju (ja 1) jb)<|jr (zL<|j3 09<|J9 V8<|Ju (ja 08) jb)<|jr (Qk (yM<|Jz<|jd ww (ja 06)<|dC<|.int 09) (qT<|vL<|jd wK (ja 09)<|jH<|Ju (Q2 [8,!06] (vw<|Ju (dC<|.int 09) jb) (.one 0)<|jd qI (ja 0)<|ja 1)<|Ju (ja 07) jb) QD)<|qT<|qG 05 [2]<|W7 (jJ (xN 7)<|ja 09)<|J9 Ap<|Ju (J9 Kb<|Ju (ja 08) jb)<|Ju (ja 2) jb
structure LsP(hp:HP)(p:Addr)(as:List (Addr×Addr×Addr))(ps:List Pl):4 where
 hp_:jc hp p=!(.lst<|as.map λb=>.adr b.1)
 all:jY hp as ps
 nd:(p::jI as).Nodup
def LsP.dp    (h:LsP a p c e):dr a 05 (.adr p)=qq e:=by
 rw[KP _ h.hp_,];show D.lst ((c.map λb=>D.adr b.1).map<|dr a 03)=_;rw[jY.dr 0 h.all,];rfl
theorem jY.at_ :∀{c:List (Addr×Addr×Addr)}{b:List Pl}{i:5}{q:Pl},jY f c b->b[i]?=!q->∃a,c[i]?=!a/\AtP f a q
 |[],b,i,q,h,e=>by rw[h]at e;simp at e
 |a::c,b,i,q,h,e=>by
  let(j r,rfl,l,g):=h
  cases(i)with
  |zero=>ext
  |succ i=>rw[g.at_ e]
theorem jY.set   (o:AtP g a l)(e:∀b,b ∉[a.1,a.2.1,a.2.2]->jc g b=jc u b):∀{f:List (Addr×Addr×Addr)}{j:List Pl}{i:5},jY u f j->f[i]?=!a->(jI f).Nodup->jY g f (j.set i l)
 |[],j,i,h,z,_=>by simp at z
 |b::f,j,i,h,z,nd=>by
  let(q r,rfl,v,p):=h;let(!E,y,s):=Jf.mp nd
  cases(i)with
  |zero=>
   cases z;rw[(l,r,9,o,p.mono λc n=>e c λw=>s c w c n 9)]
  |succ i=>
   let B:a∈f:=Ua z;rw[(q,r.set i l,9,v.mono λc n=>e c λw=>s c n c (Ji.mpr (a,B,w)) 9,p.set o e z y)]
def LsP.upd       (h:LsP g p c j)(f:c[i]?=!a)(l:AtP hp' a n)(e:∀b,b ∉[a.1,a.2.1,a.2.2]->jc hp' b=jc g b):LsP hp' p c (j.set i n):=by
 let(o,r):=Je.mp h.nd;rw[((e p λw=>o<|Ji.mpr (a,Ua f,w)).trans h.hp_,h.all.set l e f r,h.nd)]
def DK (c:(jI d).Nodup) (e:a∈d):a.1≠a.2.1/\a.1≠a.2.2/\a.2.1≠a.2.2:=by
 let(l r,rfl):=List.append_of_mem e;rw[WR]at c;let f:=(Jf.mp c).2.1;let g:([a.1,a.2.1,a.2.2]++jI r).Nodup:=f;let b:=(Jf.mp g).1;simp at b;rw[(b.1.1,b.1.2,b.2)]
def LsP.rows       (h:LsP e p g n)(j:g[i]?=!a)(f:AtP e a q)(l:List (Str×Str×Js)):LsP (JC e a.2.2<|.lst<|l.map jn) p g (n.set i (q.name,q.givens,l)):=by
 let(!u,o,r):=DK (Je.mp h.nd).2 (Ua j);let c:jc e a.2.2≠8:=by rw[f.rw_,];simp
 rw[h.upd j ((Qa c o).trans f.pl,(Qa c r).trans f.gv,KG c) λb s=>Qa c λz=>s<|by simp[z]]
def LsP.givens       (h:LsP e p g n)(j:g[i]?=!a)(f:AtP e a q)(l:Yg):LsP (JC e a.2.1<|.lst<|l.map .str) p g (n.set i (q.name,l,q.rows)):=by
 let(!o,u,r):=DK (Je.mp h.nd).2 (Ua j);let c:jc e a.2.1≠8:=by rw[f.gv,];simp
 rw[h.upd j ((Qa c o).trans f.pl,KG c,(Qa c r.symm).trans f.rw_) λb s=>Qa c λz=>s<|by simp[z]]
def LsP.name       (h:LsP e p g l)(j:g[i]?=!a)(f:AtP e a q)(nm:Str):LsP (JC e a.1<|.lst [.str nm,.adr a.2.1,.adr a.2.2]) p g (l.set i (nm,q.givens,q.rows)):=by
 let(!n,o,s):=DK (Je.mp h.nd).2 (Ua j);let c:jc e a.1≠8:=by rw[f.pl,];simp
 rw[h.upd j (KG c,(Qa c n.symm).trans f.gv,(Qa c o.symm).trans f.rw_) λb r=>Qa c λz=>r<|by simp[z]]
structure Spot(ps:List Pl)(c:3)(i k j:5)(q:Pl)(r:Str×Str×Js):4 where
 pl:ps[i]?=!q
 rw_:q.rows[k]?=!r
 it:j<⇑r.2.2
 e1:c%(⇑ps:3)=i
 e2:c/31%(⇑q.rows:3)=k
 e3:c/961%(⇑r.2.2:3)=j
def YG{α:Type}{l:List α}(h:l ≠[])(c:3):∃(k:5)(x:α),l[k]?=!x/\c%(⇑l:3)=k:=by
 let d:(0:3)<⇑l:=by let:=Jh.mpr h;lia
 let a:=UC c (show(⇑l:3)≠0 by lia);let b:=UE c d;let e:(c%(⇑l:3)).toNat<⇑l:=()
 rw[(_,l[(c%(⇑l:3)).toNat],Zqg e,())]
def DM (h:a ≠[])(e:∀q∈a,q.rows ≠[]/\∀r∈q.rows,r.2.2 ≠[])(c:3):∃i k j q r,Spot a c i k j q r:=by
 let(i q,b,f):=YG h c;let(g,l):=e q (Ua b);let(k r,d,m):=YG g (c/31);let(j x,n,o):=YG (l r<|Ua d) (c/961);rw[jE i k j q r (b,d,(Ja.mp n).1,f,m,o)]
def YH {n k:5}(h:c%(n:3)=k)(a:k<n):j9 (.int c) (.int (n:3))=! .int k:=by
 rw[Xw (),h]
def Wj{α:Type}(f:α->D)(l:List α):jq [.lst (l.map f)]=! .int (⇑l:3):=by
 show some (D.int (⇑(l.map f):3))=_;rw[Zql,]
def Sz(l:Js):jq [jU l]=! .int (⇑l:3):=by
 show some (D.int (⇑(l.map qw):3))=_;rw[Zql,]
def AtP.da   (h:AtP b a q):L2.DL.dr b 05 (.adr a.1)=JH q:=AtP.dr h 2
def gD(q:Pl):jf (JH q) (.int 0)=! .str q.name:=rfl
def gC(q:Pl):jf (JH q) (.int 1)=!(.lst<|q.givens.map .str):=rfl
def vg(q:Pl):jf (JH q) (.int 2)=!(.lst<|q.rows.map jn):=rfl
def W0{α:Type}{f:α->D}{l:List α}{k:5}{x:α}(h:l[k]?=!x):jf (.lst<|l.map f) (.int (k:3))=! f x:=z8 ()<|by rw[Uk,Zv,h];rfl
def BQ         (h:LsP b p e d)(S:Spot d c i k j q r)(g:e[i]?=!a)(l:AtP b a q):Y4 [.adr p,.int c] b=.ok %[.tup [.adr a.1,.int k,.int j]|b]:=by
 rw[WS 9 ?_ λ_ z=>z];let m:=(Ja.mp S.pl).1;let n:=YH S.e1 m;let o:=YH S.e2<|(Ja.mp S.rw_).1;let s:=YH S.e3 S.it;let t:=h.dp;let u:=l.da;let v:jq [qq d]=! .int (⇑d:3):=Wj JH d;let w:=Sz r.2.2;let y:xm (.adr p) %[.int (i:3)|b]=.ok %[.adr a.1|b]:=by
  rw[Wa h.hp_,W0 g];rfl
 let A:=W0 (f:=jn) S.rw_
 simp_all[Bz,JN]
def Iw  {j:5}(h:j<=⇑a):yi a 8 (!(j:3))=a.take j:=by
 ext yi;let b:HT.sIx ⇑a 0 8=0:=9
 simp_all[HT.sIx_nat]
def S0  {j:5}(h:j<=⇑a):yi a (!(j:3)) 8=a.drop j:=by
 ext yi;let b:HT.sIx ⇑a ⇑a 8=⇑a:=9
 simp_all[HT.sIx_nat,UJ]
def AM (h:⇑a+⇑b<=1000):KU (.tup a) (.tup b)=!(.tup<|a++b):=Zd<|small h
def BR    (c:AtP b a q) (d:k<⇑q.rows)(r:Str×Str×Js):V2 sd (jn r) a.2.2 %[.int (k:3)|b]=.ok (.next sd<|JC b a.2.2<|.lst<|(q.rows.set k r).map jn):=by
 rw[Yz c.rw_ (j:=k) (by simp_all[zm]),List.map_set]
def DN   (c:AtP b a q):xm (.adr a.1) %[.int 2|b]=.ok %[.adr a.2.2|b]:=by
 rw[Wa (q:=%[D.int 2|b]) c.pl,];rfl
def Ix          (h:LsP d p n o)(S:Spot o c i k j q r)(s:n[i]?=!a)(g:AtP d a q)(R:⇑r.2.2<=500)(t:r.2.2[j]?=!x):
 B5 [.adr p,.int c,.int th] d=.ok %[.non|JC d a.2.2 (.lst<|(q.rows.set k %[r.1,r.2.1|r.2.2.set j %[th|x.2]]).map jn)]:=by
 let u:jc d a.2.2≠8:=by rw[g.rw_,];simp
 rw[WS 9 ?_ λb z=>by
  rw[KE b u,]
  split
  .simp
  .rw[z]]
 let e:=BQ h S s g;let v:=(Ja.mp S.rw_).1;let w:=W0 (f:=jn) S.rw_;let y:=g.da;let A:=vg q;let B:jf (jn r) (.int 2)=! jU r.2.2:=9;let C:jf (jn r) (.int 1)=! .str r.2.1:=9;let E:jf (jn r) (.int 0)=! .str r.1:=9;let F:jf (jU r.2.2) (.int (j:3))=! qw x:=z8 (l:=r.2.2.map qw) () (by rw[Uk,Zv,t];rfl);let G:jf (qw x) (.int 1)=! .int x.2:=9;let H:=ZZ 05 r;let I:=S.it;let J:wJ (jU r.2.2) 8 (!(j:3))=!(.tup<|(r.2.2.take j).map qw):=by
  show some (D.tup<|yi (r.2.2.map qw) 8<|!(j:3))=_;rw[Iw (by rw[Zql,];lia),UZ]
 let L:wJ (jU r.2.2) (!(j:3)+1) 8=!(.tup<|(r.2.2.drop<|j+1).map qw):=by
  show some (D.tup<|yi (r.2.2.map qw) (!((j+1:5):3)) 8)=_;rw[S0 (by rw[Zql,];lia),List.map_drop]
 let M:KU (.tup<|(r.2.2.take j).map qw) (.tup [.tup [.int th,.int x.2]])=!(.tup<|(r.2.2.take j++[%[th|x.2]]).map qw):=by
  rw[AM (by rw[Zql,Ue,Uj];lia),Ud];rfl
 let N:KU (.tup<|(r.2.2.take j++[%[th|x.2]]).map qw) (.tup<|(r.2.2.drop<|j+1).map qw)=!(jU<|r.2.2.set j %[th|x.2]):=by
  rw[AM (by rw[Zql,Zql,Ub,Ue,UW,Uj];lia),<-Ud,Uq,List.singleton_append];show _=!(D.tup<|(r.2.2.set j %[th|x.2]).map qw);rw[List.set_eq_take_append_cons_drop,Zd I]
 let m:=λsd=>BR (sd:=sd) g v %[r.1,r.2.1|r.2.2.set j %[th|x.2]];let O:jn %[r.1,r.2.1|r.2.2.set j %[th|x.2]]=.tup [.str r.1,.str r.2.1,jU (r.2.2.set j %[th|x.2])]:=9;rw[O]at m;let P:=DN g;generalize JH q=Q at*;generalize q.rows.map jn=QR at*;generalize jn r=RD at*;generalize jU r.2.2=RW at*;generalize qw x=PX at*;generalize jU (r.2.2.set j %[th|x.2])=RN at*;generalize(r.2.2.take j).map qw=T1 at*;generalize(r.2.2.take j++[%[th|x.2]]).map qw=T2 at*;generalize(r.2.2.drop<|j+1).map qw=T3 at*;generalize JC d a.2.2 (.lst<|(q.rows.set k %[r.1,r.2.1|r.2.2.set j %[th|x.2]]).map jn)=HQ at*;simp[B4,JN,e,JS,setAll,y,A,w,B,C,E,F,G,H,J,L,M,N,m,P,qi]
def S1          (h:LsP d p l m)(S:Spot m c i k j q r)(g:l[i]?=!a)(f:AtP d a q)(n:⇑r.2.2<=500)(o:r.2.2[j]?=!x):
 Xf [.adr p,.int c] d=.ok %[.non|JC d a.2.2 (.lst<|(q.rows.set k %[r.1,r.2.1|r.2.2.set j %[(⇑q.givens:3)+⇑q.rows|x.2]]).map jn)]:=by
 let s:jc d a.2.2≠8:=by rw[f.rw_,];simp
 rw[WS 9 ?_ λb z=>by
  rw[KE b s,]
  split
  .simp
  .rw[z]]
 let e:=BQ h S g f;let t:=Ix (th:=(⇑q.givens:3)+⇑q.rows) h S g f n o;let u:=f.da;let v:u1 (.tup [.adr a.1,.int k,.int j]) (.int 0)=! .adr a.1:=9
 simp_all[BO,JN]
def yj(a:Yg)(c:3)(q:Pl)(r:Str×Str×Js):Str×Str×Js:=
 if c%03=0/\xl r.2.1=6 then%[r.1,r.2.1|r.2.2++r.2.2.take 1]else%[r.1,if c%2=0 then q.name else jt a 32|r.2.2]
def S2 (a:asc x):x8 6 (.str x) (.tup [.str "all",.str "first"])=!(.bl<|xl x):=by
 let h:=DE a
 simp_all[x8]
def S3          (h:LsP d p L M)(S:Spot M (c/03) i k j q r)(N:L[i]?=!a)(g:AtP d a q)(Y:⇑r.2.2<=500)(O:32<⇑ws)(P:asc r.2.1):
 B0 [.adr p,.lst (ws.map .str),.int c] d=.ok %[.non|JC d a.2.2 (.lst<|(q.rows.set k<|yj ws c q r).map jn)]:=by
 let R:jc d a.2.2≠8:=by rw[g.rw_,];simp
 rw[WS 9 ?_ λb z=>by
  rw[KE b R,]
  split
  .simp
  .rw[z]]
 let e:=BQ h S N g;let E:=(Ja.mp S.rw_).1;let s:=W0 (f:=jn) S.rw_;let t:=g.da;let u:=vg q;let F:=gD q;let v:jf (jn r) (.int 2)=! jU r.2.2:=9;let G:jf (jn r) (.int 1)=! .str r.2.1:=9;let w:jf (jn r) (.int 0)=! .str r.1:=9;let y:=ZZ 05 r;let Z:=S.it;let T:wJ (jU r.2.2) 8 (!1)=!(jU<|r.2.2.take 1):=by
  show some (D.tup<|yi (r.2.2.map qw) 8<|!((1:5):3))=_;rw[Iw (),<-UZ];rfl
 let U:KU (jU r.2.2) (jU<|r.2.2.take 1)=!(jU<|r.2.2++r.2.2.take 1):=by
  show KU (.tup<|r.2.2.map qw) (.tup<|(r.2.2.take 1).map qw)=_;rw[AM (),<-Ud];rfl
 let A:=S2 P;let H:jf (.lst<|ws.map D.str) (.int 32)=!(.str<|jt ws 32):=WZ (ws:=ws) (k:=32) O;let B:=DN g;let I:∀z:Str×Str×Js,jn z=.tup [.str z.1,.str z.2.1,jU z.2.2]:=λ_=>9;cases l:c%03=0/\xl r.2.1=6
 .let m:=λsd=>BR (sd:=sd) g E %[r.1,r.2.1|r.2.2++r.2.2.take 1];rw[I %[r.1,r.2.1|r.2.2++r.2.2.take 1]]at m;let C:yj ws c q r=%[r.1,r.2.1|r.2.2++r.2.2.take 1]:=Zd l;rw[C,];rw[l.2]at A;let n:=l.1;generalize JH q=Q at*;generalize q.rows.map jn=QR at*;generalize jn r=RD at*;generalize jU r.2.2=RW at*;generalize jU (r.2.2++r.2.2.take 1)=RN at*;generalize jU (r.2.2.take 1)=RT at*;generalize JC d a.2.2 (.lst<|(q.rows.set k %[r.1,r.2.1|r.2.2++r.2.2.take 1]).map jn)=HQ at*;simp[Y5,JN,e,JS,setAll,t,u,s,v,G,w,y,T,U,A,m,B,qi,n]
 .let C:yj ws c q r=%[r.1,if c%2=0 then q.name else jt ws 32|r.2.2]:=Ze l;rw[C,];let m:=λsd=>BR (sd:=sd) g E %[r.1,if c%2=0 then q.name else jt ws 32|r.2.2];rw[I %[r.1,if c%2=0 then q.name else jt ws 32|r.2.2]]at m;let o:=Dv 05 r.2.2;let J:jf (.lst [.str q.name,.str (jt ws 32)]) (.int<|c%2)=!(.str<|if c%2=0 then q.name else jt ws 32):=by
   let:c%2=0\/c%2=1:=()
   obtain z|z:=this<;>rw[z,]<;>rfl
  generalize(if c%2=0 then q.name else jt ws 32)=HW at*;let X:¬(c%03=0/\xl r.2.1=6):=l;generalize JH q=Q at*;generalize q.rows.map jn=QR at*;generalize jn r=RD at*;generalize jU r.2.2=RW at*;generalize xl r.2.1=ip at*;generalize JC d a.2.2 (.lst<|(q.rows.set k %[r.1,HW|r.2.2]).map jn)=HQ at*;cases n:c%03=0
  .let:ip=7:=by cases ip;rfl;rw[Zn (n,9) l]
   subst this;simp[Y5,JN,e,JS,setAll,t,u,s,v,G,w,F,y,o,A,m,B,H,J,qi,n,QK]
  .simp[Y5,JN,e,JS,setAll,t,u,s,v,w,F,y,o,m,B,H,J,n,QK]
def wR(a b:List Pl):4:=
 (∃j z q,j+1<⇑a/\a[j]?=!z/\a[⇑a-1]?=!q/\b=a.set (⇑a-1) (z.name,q.givens,q.rows))\/
 (∃i q j y,a[i]?=!q/\j+1<⇑q.givens/\q.givens[j]?=!y/\b=a.set i (q.name,q.givens.set (⇑q.givens-1) y,q.rows))\/
 ∃i q k r y,a[i]?=!q/\q.rows[k]?=!r/\y∈q.givens++(q.rows.take k).map (·.1)/\b=a.set i (q.name,q.givens,q.rows.set k %[y,r.2.1|r.2.2])
def jY.mono2   (h:jY c f g)(e:∀b,jc c b≠8->jc a b=jc c b):jY a f g:=h.mono λb i=>e b<|h.has b i
def LsP.mono    (h:LsP c p f g)(e:∀b,jc c b≠8->jc a b=jc c b):LsP a p f g:=
 ((e p<|by rw[h.hp_,];simp).trans h.hp_,h.all.mono2 e,h.nd)
def Iy     (h:⇑c=i)(e:((g (JN n c) b).bind qi).need (λo=>P o/\∀a,jc b a≠8->jc o.2 a≠8) λ_ _=>False):(qK n i g c b).need P λ_ _=>False:=by
 ext qK;rw[Zd h,];rw[Wr.need_bind.mpr<|e.mono (λo f=>?_) λ_ _ z=>z];rw[Zd,]
 .rw[f.1]
 .rw[Ur.mpr λz j=>?_];let l:jc b z.1≠8:=by
   rw[Ne,kq];rw[λw=>w<|Jb.mpr (z,j,9)]
  let:=f.2 _ l
  induction w:jc o.2 z.1 with
  |none=>rw[Zn w this]
  |some d=>rfl
structure Chg(hp:HP)(p:Addr)(as:List (Addr×Addr×Addr))(ps':List Pl)(o:D×HP):4 where
 non:o.1=.non
 ls:LsP o.2 p as ps'
 out:∀b,b∉jI as->jc hp b≠8->jc o.2 b=jc hp b
def Chg.keep     (h:LsP e p f l)(c:Chg e p f j o):∀a,jc e a≠8->jc o.2 a≠8:=λb g=>by
 cases i:b∈jI f
 .rw[c.ls.all.has b i]
 .rw[c.out b i g,];rw[g]
def DO {i:5} (c:b[i]?=!a):a.1∈jI b/\a.2.1∈jI b/\a.2.2∈jI b:=by
 let m:=Ua c;rw[(Ji.mpr (a,m,()),Ji.mpr (a,m,()),Ji.mpr (a,m,()))]
def S5           (h:LsP d p l m)(S:Spot m (c/04) i k j q r)(g:l[i]?=!a)(f:AtP d a q)(n:⇑r.2.2<=500)(o:r.2.2[j]?=!x)(s:c%04=0):
 Wh [.adr p,W,.int c] d=.ok %[.non|JC d a.2.2 (.lst<|(q.rows.set k %[r.1,r.2.1|r.2.2.set j %[(⇑q.givens:3)+k+c/04/07%((⇑q.rows:3)-k)|x.2]]).map jn)]:=by
 let t:jc d a.2.2≠8:=by rw[f.rw_,];simp
 rw[WS 9 ?_ λb z=>by
  rw[KE b t,]
  split
  .simp
  .rw[z]]
 let e:=BQ h S g f;let B:=(Ja.mp S.rw_).1;let u:=Ix (th:=(⇑q.givens:3)+k+c/04/07%((⇑q.rows:3)-k)) h S g f n o;let v:=f.da;let w:=Wj D.str q.givens;let y:=Wj jn q.rows;let A:j9 (.int<|c/04/07) (.int<|(⇑q.givens:3)+⇑q.rows-(⇑q.givens+k))=!(.int<|c/04/07%((⇑q.rows:3)-k)):=by
  rw[Xw (),show(⇑q.givens:3)+⇑q.rows-(⇑q.givens+k)=(⇑q.rows:3)-k by lia]
 simp[WU,JN,e,JS,setAll,v,w,y,s,A,u]
structure Apd(hp:HP)(p:Addr)(as:List (Addr×Addr×Addr))(ps':List Pl)(o:D×HP):4 where
 non:o.1=.non
 ls:∃a,LsP o.2 p (as++[a]) ps'/\∀b∈jI [a],jc hp b=8
 out:∀b,b≠p->jc hp b≠8->jc o.2 b=jc hp b
def Apd.keep     (c:Apd g p j i o):∀a,jc g a≠8->jc o.2 a≠8:=λb e=>by
 cases f:b=p
 .let(-a,h,_):=c.ls;rw[f,h.hp_];simp
 .rw[c.out b f e,];rw[e]
def DP         (h:LsP a p u O)(P:ja 0 sd=.ok (.adr p))(X:⇑u<=500)
 (e:fe sd a=.new a λg=>.new (%[g|.lst (gs.map .str)]::a) λr=>.new (%[r|.lst (rs.map jn)]::%[g|.lst (gs.map .str)]::a) λb=>.ok %[.adr b|%[b|.lst [.str nm,.adr g,.adr r]]::%[r|.lst (rs.map jn)]::%[g|.lst (gs.map .str)]::a]):
 (qz (vL<|ja 0) fe sd a).need (λo=>∃t,o=.next sd t/\Apd a p u (O++[(nm,gs,rs)]) %[.non|t]) λ_ _=>False:=by
 let Q:qz (vL<|ja 0) fe sd a=(fe sd a).bind (VF sd p):=by
  rw[OX,b0,P];show WK _ sd %[.adr p|a]=_;rw[Ww h.hp_,]
 rw[Q,e];intro g G r v b m;rw[JK]at v;let w:r≠g:=by grind
 rw[Ze w]at v;rw[JK]at m;let z:b≠r:=λy=>by rw[Zd y]at m;cases m
 rw[Ze z,JK]at m;let A:b≠g:=by grind
 rw[Ze A]at m;let(j,h3e):∃j:HP,j=%[b|.lst [.str nm,.adr g,.adr r]]::%[r|.lst (rs.map jn)]::%[g|.lst (gs.map .str)]::a:=(_,9);let l:∀c,jc a c≠8->jc j c=jc a c/\c≠b/\c≠r/\c≠g:=λc f=>by
  let n:c≠b:=λy=>f (by rw[y,];rw[m]);let s:c≠r:=λy=>f (by rw[y,];rw[v]);let H:c≠g:=λy=>f (by rw[y,];rw[G]);rw[(?_,n,s,H)];rw[h3e,JK,Ze n,JK,Ze s,JK,Ze H]
 let B:jc j b=! .lst [.str nm,.adr g,.adr r]:=by rw[h3e,JK,Zd 9]
 let C:jc j r=!(.lst<|rs.map jn):=by rw[h3e,JK,Ze z.symm,JK,Zd 9]
 let E:jc j g=!(.lst<|gs.map .str):=by rw[h3e,JK,Ze A.symm,JK,Ze w.symm,JK,Zd 9]
 let(!F,I,J,L):=l p (by rw[h.hp_,];simp);rw[h.hp_]at F;let M:jc j p≠8:=by rw[F,];simp
 show(VF sd p %[.adr b|_]).need _ _;rw[<-h3e,Wx F (by rw[Zql,];rw[Qi ()])];let i:∀c,c≠p->jc (JC j p<|.lst<|u.map (λb=>D.adr b.1)++[.adr b]) c=jc j c:=λc f=>Qa M f;let(N,R):=Je.mp h.nd;let has:∀c∈jI u,jc a c≠8:=h.all.has;rw[(_,9,9,(%[b,g|r],(by show jc (JC j p _) p=_;rw[KG M,Ud];rfl,(h.all.mono λc f=>?_).snoc (?_,?_,?_),?_),λc f=>?_),λc n s=>(i c n).trans (l c s).1)]
 .rw[(i c λy=>N<|y ▸ f).trans (l c<|has c f).1]
 .rw[(i b I.symm).trans B]
 .rw[(i g L.symm).trans E]
 .rw[(i r J.symm).trans C]
 .rw[WR,];rw[Je.mpr (λy=>?_,Jf.mpr (R,by simp[jI,A,z,w,w.symm],λc n d s y=>?_))]
  .rcases Jd.mp y with y|y
   .rw[N y]
   .simp[jI,I,L,J]at y
  .subst y;have(_,S,T,U):=l c (has c n);simp[jI,S,T,U]at s
 .simp[jI]at f;obtain rfl|rfl|rfl:=f
  .rw[m]
  .rw[G]
  .rw[v]
def qV(a:Yg)(c:3):Pl:=
 if c%04=1 then(jt a 33,[jt a (c/04%33)],[])else if c%04=2 then(jt a 33,a.take 13,[%[jt a 13,"all"|[%[c/04%13|0]]]])else(jt a 33,[],[%[jt a (c/04%33),"first"|[%[0|0]]]])
def S6      (h:LsP a p f g)(i:⇑f<=500)(y:⇑ws=34)(A:c%04≠0):
 (Wh [.adr p,.lst (ws.map .str),.int c] a).need (Apd a p f<|g++[qV ws c]) λ_ _=>False:=by
 let e:jf (.lst<|ws.map D.str) (.int 33)=!(.str<|jt ws 33):=WZ (ws:=ws) (k:=33) ();let r:jf (.lst<|ws.map D.str) (.int 13)=!(.str<|jt ws 13):=WZ (ws:=ws) (k:=13) ();let l:jf (.lst<|ws.map D.str) (.int<|c/04%33)=!(.str<|jt ws<|c/04%33):=by
  let:=WZ (ws:=ws) (k:=(c/04%33).toNat) ()
  rwa[show(((c/04%33).toNat:5):3)=c/04%33 by lia]at this
 let s:vz (.lst<|ws.map D.str) 8 (!13) 8=!(.lst<|(ws.take 13).map D.str):=by
  show some (D.lst<|Q6 (ws.map D.str) 8 (!13) 8)=_;rw[Df _ (),<-UZ];rfl
 let fs:((ws.take 13).map D.str).all (QK 08)=6:=by
  rw[US,Ur];simp
 let j:c%04=1\/c%04=2\/c%04=03:=()
 let b:∀{X:Pl}{sd:SD}{fe:FV},qV ws c=X->WU (JN 08 [.adr p,.lst (ws.map .str),.int c]) a=qz (vL<|ja 0) fe sd a->(qz (vL<|ja 0) fe sd a).need (λo=>∃d,o=.next sd d/\Apd a p f (g++[X]) %[.non|d]) (λ_ _=>False)->
  (Wh [.adr p,.lst (ws.map .str),.int c] a).need (Apd a p f<|g++[qV ws c]) λ_ _=>False:=λ{X sd fe}t u n=>by
  rw[Iy 9 ?_];rw[t,u];rw[Wr.need_bind.mpr<|n.mono (λo v=>?_) λ_ _ z=>z];let(d,rfl,m):=v;rw[(m,m.keep)]
 obtain w|w|w:=j
 .rw[b (X:=(jt ws 33,[jt ws (c/04%33)],[])) (Zd w) (by simp[WU,JN,w])<|DP (nm:=jt ws 33) (gs:=[jt ws (c/04%33)]) (rs:=[]) (sd:=[~~~.adr p,~~~(.lst<|ws.map D.str),~~~(.int<|c/04),~~~.int 1,8,8,8,8]) (fe:=jG<|J0 (vL<|jd jf (ja 1)<|dC<|.int 33)<|J0 (jG<|J0 (vL<|jd jf (ja 1)<|jd j9 (ja 2)<|dC<|.int 33) j0)<|J0 (jG j0) j0) h 9 i<|by simp[e,l]]
 .rw[b (X:=(jt ws 33,ws.take 13,[%[jt ws 13,"all"|[%[c/04%13|0]]]])) (by simp_all[qV]) (by simp[WU,JN,w])<|DP (nm:=jt ws 33) (gs:=ws.take 13) (rs:=[%[jt ws 13,"all"|[%[c/04%13|0]]]]) (sd:=[~~~.adr p,~~~(.lst<|ws.map D.str),~~~(.int<|c/04),~~~.int 2,8,8,8,8]) (fe:=jG<|J0 (vL<|jd jf (ja 1)<|dC<|.int 33)<|J0 (yW 05 []<|wM (ja 1) QX (Kw<|dC<|.int 13) QX)<|J0 (jG<|J0 (vL<|jH<|Ju (jd jf (ja 1)<|dC<|.int 13)<|Ju (dC<|.str "all")<|Ju (jH<|Ju (jH<|Ju (jd j9 (ja 2)<|dC<|.int 13)<|Ju (dC<|.int 0) jb) jb) jb) j0) j0) h 9 i<|by simp_all[yW,zT,jn,jU,qw]]
 .rw[b (X:=(jt ws 33,[],[%[jt ws (c/04%33),"first"|[%[0|0]]]])) (by simp_all[qV]) (by simp[WU,JN,w])<|DP (nm:=jt ws 33) (gs:=[]) (sd:=[~~~.adr p,~~~(.lst<|ws.map D.str),~~~(.int<|c/04),~~~.int 03,8,8,8,8]) (fe:=jG<|J0 (vL<|jd jf (ja 1)<|dC<|.int 33)<|J0 (jG j0)<|J0 (jG<|J0 (vL<|jH<|Ju (jd jf (ja 1)<|jd j9 (ja 2)<|dC<|.int 33)<|Ju (dC<|.str "first")<|Ju (jH<|Ju (jH<|Ju (dC<|.int 0)<|Ju (dC<|.int 0) jb) jb) jb) j0) j0) h 9 i<|by simp[e,l,jn,jU,qw]]
def S7{α:Type}{l:List α}{x:α}(h:l[⇑l-1]?=!x):l=l.dropLast++[x]:=by
 let a:l ≠[]:=λz=>by rw[z]at h;cases h
 let e:=List.dropLast_concat_getLast a;let:l.getLast a=x:=by
  rw[List.getLast_eq_getElem,];rw[Zqg (by let:=Jh.mpr a;lia)]at h;rw[Zqi h]
 rw[this]at e;rw[e.symm]
def S8{α:Type}{f:α->D}{l:List α}{x:α}(h:l[⇑l-1]?=!x):jf (.lst<|l.map f) (.int<|-1)=! f x:=by
 show qo (l.map f) (-1)=_;rw[S7 h,Ud,List.map_singleton,Wg]
def jY.lenA   (h:jY c a b):⇑a=⇑b:=h.len.symm
def S9    (h:LsP g p C s)(hl:⇑s<=500)(ne:s ≠[])(A:∀q∈s,q.rows ≠[]/\⇑q.rows<=400/\q.givens ≠[]/\⇑q.givens<=400)(c:3):
 (X5 [.adr p,.int c] g).need (λo=>∃n,wR s n/\Chg g p C n o) λ_ _=>False:=by
 let(i q,h1,e1):=YG ne c;let(-a,ha,I):=h.all.at_ h1;let(!b1,b2,b3,b4):=A q (Ua h1);let l1:=(Ja.mp h1).1;let np:=Jh.mpr ne;let al:=h.all.lenA;let(!m1,m2,m3):=DO ha;let J:∀{n:List Pl}{sd:SD}{B:HP},wR s n->LsP B p C n->(∀b,b∉jI C->jc g b≠8->jc B b=jc g b)->((Wr.ok<|Out3.next sd B).bind qi).need (λo=>(∃n,wR s n/\Chg g p C n o)/\∀a,jc g a≠8->jc o.2 a≠8) λ_ _=>False:=λ{n sd B}d l o=>by
  let c:Chg g p C n %[D.non|B]:=(9,l,o);rw[((n,d,c),c.keep h)]
 rw[Iy 9 ?_];let dp:=h.dp;let da:=I.da;let M:jq [qq s]=! .int (⇑s:3):=Wj JH s;let n2:=Wj D.str q.givens;let n3:=Wj jn q.rows;let N:=YH e1 l1;let x1:=gC q;let x2:=vg q;let O:xm (.adr p) %[.int (i:3)|g]=.ok %[.adr a.1|g]:=by
  rw[Wa (q:=%[D.int (i:3)|g]) h.hp_,];show(Wr.of<|.ofO<|jf (.lst<|C.map λb=>D.adr b.1)<|.int (i:3)).bind _=_;rw[W0 ha,];rfl
 cases cA:c/31%03=0/\1<⇑s
 .let(c1,c2):=cA;let E:(1:3)<⇑s:=()
  let(j,hj):∃j:5,c/93%((⇑s:3)-1)=j:=((c/93%((⇑s:3)-1)).toNat,by let:=UC (c/93) (show(⇑s:3)-1≠0 by lia);lia);let j1:j+1<⇑s:=by let:=UE (c/93) (show(0:3)<(⇑s:3)-1 by lia);lia
  let gm:j9 (.int<|c/93) (.int<|(⇑s:3)-1)=! .int j:=by rw[Xw (),hj]
  let(z,hz):∃z,s[j]?=!z:=(_,Zqg ());let(q',u):∃z,s[⇑s-1]?=!z:=(_,Zqg ());let(-R,S,T):=h.all.at_ u;let gz:jf (qq s) (.int (j:3))=! JH z:=W0 hz;let z0:=gD z;let i2:xm (.adr p) %[.int (-1)|g]=.ok %[.adr R.1|g]:=by
   rw[Wa (q:=%[D.int (-1)|g]) h.hp_,];show(Wr.of<|.ofO<|jf (.lst<|C.map λb=>D.adr b.1)<|.int<|-1).bind _=_;rw[S8 (by rw[al,];rw[S]),];rfl
  let U:∀sd,V2 sd (.str z.name) R.1 %[.int 0|g]=.ok (.next sd<|JC g R.1<|.lst [.str z.name,.adr R.2.1,.adr R.2.2]):=λsd=>by
   rw[Yz T.pl (j:=0) 9,];rfl
  let L:=h.name S T z.name;let hn:jc g R.1≠8:=by rw[T.pl,];simp
  let F:=J (sd:=[~~~.adr p,~~~.int c,~~~.adr a.1,8,8]) (.inl<|jh j z q' (j1,hz,u,9)) L λb A _=>Qa hn λy=>A<|y ▸(DO S).1;generalize JC g R.1 _=HQ at*;generalize JH z=Z at*;generalize JH q=Q at*;generalize qq s=P at*;simpa[V5,JN,dp,M,N,O,c1,E,c2,gm,gz,z0,i2,U]using F
 .cases cB:c/31%2=0/\1<⇑q.givens
  .let(!c1,c2):=cB;let E:(1:3)<⇑q.givens:=()
   let(j,hj):∃j:5,c/62%((⇑q.givens:3)-1)=j:=((c/62%((⇑q.givens:3)-1)).toNat,by let:=UC (c/62) (show(⇑q.givens:3)-1≠0 by lia);lia);let j1:j+1<⇑q.givens:=by let:=UE (c/62) (show(0:3)<(⇑q.givens:3)-1 by lia);lia
   let gm:j9 (.int<|c/62) (.int<|(⇑q.givens:3)-1)=! .int j:=by rw[Xw (),hj]
   let(y,hy):∃y,q.givens[j]?=!y:=(_,Zqg ());let gz:jf (.lst<|q.givens.map D.str) (.int (j:3))=! .str y:=W0 hy;let i2:xm (.adr a.1) %[.int 1|g]=.ok %[.adr a.2.1|g]:=by
    rw[Wa (q:=%[D.int 1|g]) I.pl,];rfl
   let U:∀sd,V2 sd (.str y) a.2.1 %[.int (-1)|g]=.ok (.next sd<|JC g a.2.1<|.lst<|(q.givens.set (⇑q.givens-1) y).map .str):=λsd=>by
    rw[Yz I.gv (j:=⇑q.givens-1) (by rw[Zql,];(
     ext zm;rw[Ze (),Zd ()]
     congr 1
     lia)),List.map_set]
   let L:=h.givens ha I<|q.givens.set (⇑q.givens-1) y;let hn:jc g a.2.1≠8:=by rw[I.gv,];simp
   let F:=J (sd:=[~~~.adr p,~~~.int c,~~~.adr a.1,8,8]) (.inr<|.inl<|jX i q j y (h1,j1,hy,9)) L λb A _=>Qa hn λy=>A<|y ▸ m2;generalize JC g a.2.1 _=HQ at*;generalize q.givens.map D.str=QG at*;generalize JH q=Q at*;generalize qq s=P at*;cases H:c/31%03=0
   .let c3:¬(1:3)<⇑s:=λy=>cA (H,());simpa[V5,JN,dp,da,M,n2,N,O,c1,E,gm,gz,x1,i2,U,H,c3]using F
   .simpa[V5,JN,dp,da,M,n2,N,O,c1,E,gm,gz,x1,i2,U,H]using F
  .let(k r,hk,e2):=YG b1 (c/62);let k1:=(Ja.mp hk).1;let g2:=YH e2 k1;let(w,hso):∃w,w=q.givens++(q.rows.take k).map (·.1):=(_,9);let son:w ≠[]:=λy=>by rw[hso]at y;rw[b3 (List.append_eq_nil_iff.mp y).1]
   let sol:⇑w<=900:=by rw[hso,Ub,Zql,Ue];lia
   let(m y,hm,e3):=YG son (c/07);let g3:=YH e3 (Ja.mp hm).1;let n4:=Wj D.str w;let sl:vz (.lst<|q.rows.map jn) 8 (!(k:3)) 8=!(.lst<|(q.rows.take k).map jn):=by
    show some (D.lst<|Q6 (q.rows.map jn) 8 (!(k:3)) 8)=_;rw[Df _ (),<-UZ];rfl
   let mp:qB (.one 0) (jd jf (ja 0)<|dC<|.int 0) [8] ((q.rows.take k).map jn)=.ok ((q.rows.take k).map λr=>.str r.1):=K5 λr hr=>by simp
   let lz:⇑((q.rows.take k).map jn)<00:=Qi (by rw[Zql,Ue];lia);let ad:Yw (.lst<|q.givens.map .str) (.lst<|(q.rows.take k).map λr=>.str r.1)=!(.lst<|w.map .str):=by
    show(if(q.givens.map D.str).length+⇑((q.rows.take k).map λr=>D.str r.1)<=00 then !(D.lst<|q.givens.map D.str++(q.rows.take k).map λr=>D.str r.1)else 8)=_;rw[Zd (small<|by rw[Zql,Zql,Ue];lia),hso,Ud,Zw];rfl
   let fs:(w.map D.str).all (QK 08)=6:=by
    rw[US,Ur];rw[λ_ _=>9]
   let gy:jf (.lst<|w.map D.str) (.int (m:3))=! .str y:=W0 hm;let xr:=W0 (f:=jn) hk;let r1:jf (jn r) (.int 1)=! .str r.2.1:=9;let r2:jf (jn r) (.int 2)=! jU r.2.2:=9;let fl2:=Dv 05 r.2.2;let ym:y∈q.givens++(q.rows.take k).map (·.1):=by rw[<-hso];rw[Ua hm]
   let F:∀l,jc g l=8->∀t:HP,t=%[l|.lst (w.map D.str)]::g->dr t 05 (.adr a.1)=JH q/\dr t 05 (.adr l)=.lst (w.map D.str)/\xm (.adr a.1) %[.int 2|t]=.ok %[.adr a.2.2|t]/\∀sd,((V2 sd (.tup [.str y,.str r.2.1,jU r.2.2]) a.2.2 %[.int (k:3)|t]).bind qi).need (λo=>(∃n,wR s n/\Chg g p C n o)/\∀a,jc g a≠8->jc o.2 a≠8) λ_ _=>False:=λl X t he=>by
    let Y:∀b,jc g b≠8->jc t b=jc g b:=λb A=>by
     rw[he,JK,Ze λz=>A<|by rw[z,];rw[X]]
    let h':=h.mono Y;let u:AtP t a q:=I.mono λb A=>Y b<|I.has b A;rw[(u.da,?_,DN u,λsd=>?_)]
    .rw[KP _ (show jc t l=!(.lst<|w.map D.str)by rw[he,JK,Zd 9]),Dt]
    .let U:=BR (sd:=sd) u k1 %[y,r.2.1|r.2.2];let ru:jn %[y,r.2.1|r.2.2]=.tup [.str y,.str r.2.1,jU r.2.2]:=9;rw[ru]at U;rw[U,];let hn:jc t a.2.2≠8:=by rw[u.rw_,];simp
     rw[J (.inr<|.inr<|jE i q k r y (h1,hk,ym,9)) (h'.rows ha u _) λb A hn2=>(Qa hn λz:b=a.2.2=>A<|by rw[z,];rw[m3]).trans<|Y b hn2]
   generalize(q.rows.take k).map jn=TR at*;generalize((q.rows.take k).map λr=>D.str r.1)=TN at*;generalize w.map D.str=SO at*;generalize q.givens.map D.str=QG at*;generalize q.rows.map jn=QR at*;generalize JH q=Q at*;generalize qq s=P at*;generalize jn r=RD at*;generalize jU r.2.2=RW at*;let v:∀G:qb,V5 (JN 05 [.adr p,.int c]) g=(Wr.new g λl=>G [~~~.adr p,~~~.int c,~~~.adr a.1,~~~.int k,~~~.adr l]<|%[l|.lst SO]::g)->G=ye (yw (vL<|ja 2)<|vL<|dC<|.int 2) (vL<|ja 03) (qG 05 [2,04]<|jH<|Ju (jd jf (ja 04)<|jd j9 (jd JZ (ja 1)<|dC<|.int 07)<|jj jq<|Ju (ja 04) jb)<|Ju (jd jf (jd jf (jd jf (ja 2)<|dC<|.int 2)<|ja 03)<|dC<|.int 1)<|Ju (jd jf (jd jf (jd jf (ja 2)<|dC<|.int 2)<|ja 03)<|dC<|.int 2) jb)->((V5 (JN 05 [.adr p,.int c]) g).bind qi).need (λo=>(∃n,wR s n/\Chg g p C n o)/\∀a,jc g a≠8->jc o.2 a≠8) λ_ _=>False:=λG e eG=>by
    rw[e,eG];intro l X;let(!f1,f2,f3,f4):=F l X _ 9;let:=f4 [~~~.adr p,~~~.int c,~~~.adr a.1,~~~.int k,~~~.adr l];simpa[f1,f2,f3,gy,g3,n4,x2,xr,r1,r2,fl2,QK]using this
   cases H:c/31%03=0
   .let c3:¬(1:3)<⇑s:=λy=>cA (H,());cases cd:c/31%2=0
    .let c4:¬(1:3)<⇑q.givens:=λy=>cB (cd,());rw[v _ (by simp[V5,JN,dp,da,M,n2,n3,N,O,x1,x2,g2,H,c3,cd,c4,sl,mp,lz,ad,yW,zT,fs]) 9]
    .rw[v _ (by simp[V5,JN,dp,da,M,n2,n3,N,O,x1,x2,g2,H,c3,cd,sl,mp,lz,ad,yW,zT,fs]) 9]
   .cases cd:c/31%2=0
    .let c4:¬(1:3)<⇑q.givens:=λy=>cB (cd,());rw[v _ (by simp[V5,JN,dp,da,M,n2,n3,N,O,x1,x2,g2,H,cd,c4,sl,mp,lz,ad,yW,zT,fs]) 9]
    .rw[v _ (by simp[V5,JN,dp,da,M,n2,n3,N,O,x1,x2,g2,H,cd,sl,mp,lz,ad,yW,zT,fs]) 9]
structure PlX(p:Pl):4 where
 nm:TxtOk 12 p.name
 gs:∀g∈p.givens,TxtOk 12 g
 gl:⇑p.givens<=13
 rl:⇑p.rows<=40
 rs:∀r∈p.rows,TxtOk 12 r.1/\TxtOk 12 r.2.1/\⇑r.2.2<=44/\∀i∈r.2.2,0<=i.1/\i.1<=((p.givens++p.rows.map (·.1)).length:3)/\-1000000000000000000000000000000<i.2/\i.2<1000000000000000000000000000000
def xU(a:Yg)(i:5)(p:Pl):Yg:=p.givens++p.rows.map (·.1)++[jt a ((i:3)+1+((p.givens++p.rows.map (·.1)).length:3))]
def K9(a:Yg)(i:5)(p:Pl):Yg:=[("plan ":Str)++p.name]++p.givens.map (λg=>(" given ":Str)++g)++p.rows.map (yD<|xU a i p)
def Ql(a:Yg):5->List Pl->List Str
 |_,[]=>[]
 |i,p::b=>K9 a i p++Ql a (i+1) b
theorem Iz(c:Yg):∀(a b:List Pl)(i:5),Ql c i (a++b)=Ql c i a++Ql c (i+⇑a) b
 |[],b,i=>9
 |p::a,b,i=>by
  show K9 c i p++Ql c (i+1) (a++b)=K9 c i p++Ql c (i+1) a++_;rw[Iz c a b (i+1),Uq,Zu,show i+1+⇑a=i+(⇑a+1)by lia]
def SA(a:Yg)(i:5)(p:Pl):⇑(K9 a i p)=1+⇑p.givens+⇑p.rows:=by
 ext K9;simp only[Ub,Zql,Uj]
theorem DQ :∀{ps:List Pl}(i:5),(∀p∈ps,PlX p)->⇑(Ql ws i ps)<=⇑ps*54
 |[],i,_=>Zf _
 |p::ps,i,h=>by
  show(K9 ws i p++_).length<=_;let a:=(h p Zqs).gl;let b:=(h p Zqs).rl;let c:=DQ (ws:=ws) (i+1) λq d=>h q<|Zqm _ d;rw[Ub,SA,Zu];lia
def sr:FS:=Ko 2<|jd jv (dC<|.str " given ")<|ja 06
def mH:FS:=qj (Qz (Jz<|jd xL (ja 08)<|dC<|.str "all")<|Jz<|jd xL (ja 08)<|dC<|.str "first") (j3 08<|jd jv (dC<|.str "part ")<|ja 08) JF
def mJ:FS:=Ko 2<|jd jv (jd jv (jd jv (jd jv (jd jv (dC<|.str " ")<|jd jf (ja 07)<|dC<|.int 0)<|dC<|.str " ")<|ja 08)<|dC<|.str " ")<|qD WM (dC<|.str ", ")<|Q2 [8,!05] (iS<|jd jf (ja 07)<|dC<|.int 2) (.one 0)<|J9 Xe<|Ju (ja 1)<|Ju (ja 0) jb
def fy:FS:=js (j3 08<|jd jf (ja 07)<|dC<|.int 1)<|js mH<|λsd=>mJ<|qR [05] sd
def mI:FS:=js (xH 05<|jd Yw (jd jf (ja 04)<|dC<|.int 1)<|Q2 [8] (iS<|jd jf (ja 04)<|dC<|.int 2) (.one 0)<|jd jf (ja 0)<|dC<|.int 0)<|js (Ko 05<|jd jf (ja 1)<|jd j9 (jd jv (jd jv (ja 03)<|dC<|.int 1)<|zd [05]<|jj jq<|Ju (ja 05) jb)<|jj jq<|Ju (ja 1) jb)<|js (Ko 2<|jd jv (dC<|.str "plan ")<|jd jf (ja 04)<|dC<|.int 0)<|js (qf (iS<|jd jf (ja 04)<|dC<|.int 1) (.one 06) sr)<|qf (iS<|jd jf (ja 04)<|dC<|.int 2) (.one 07) fy
def fx:BM=(js (xH 2<|qm jb)<|js (qf (fF<|Ju (ja 0) jb) (.tup [03,04]) mI)<|Wn 2):=rfl
def IA (a:asc x)(b:asc y):xL (.str x) (.str y)=!(.bl<|not<|decide<|x=y):=by
 rw[Z1 (KH a) (KH b),];cases z:x=y
 .rw[Zp z,ko.mpr (by rw[z,])]
 .rw[Zo z,wV.mpr λq=>z<|by cases q;rfl]
def mm(a:Yg)(u:02 SV):4:=u=!(.own 7<|.lst<|a.map .str)\/u= ~~~(.lst<|a.map .str)
abbrev yO(d0 d1:D)(R:Yg)(d3 d4:D)(u5 u6 u7 u8:02 SV):SD:=[~~~d0,~~~d1,!(.own 7<|.lst<|R.map .str),~~~d3,~~~d4,u5,u6,u7,u8]
def SB     (y:mm xs d)(z:⇑R<=100000)(u:∀x∈xs,TxtOk 12 x)(e:TxtOk 12 r.1)(g:TxtOk 12 r.2.1)(A:⇑r.2.2<=44)(h:∀i∈r.2.2,0<=i.1/\i.1<(⇑xs:3)/\-1000000000000000000000000000000<i.2/\i.2<1000000000000000000000000000000):
 ∃s,fy (yO d0 d1 R d3 d4 d u6 (~~~jn r) u8)=.ok (.next<|yO d0 d1 (R++[yD xs r]) d3 d4 (~~~(.lst<|xs.map .str)) u6 (~~~jn r) s):=by
 let(!a,b,c):=Hx u A h;let mk:qB (.one 0) (J9 Xe<|Ju (ja 1)<|Ju (ja 0) jb) [8,~~~(.lst<|xs.map .str)] (r.2.2.map qw)=.ok (r.2.2.map λp=>.str<|zx (jM xs p.1) p.2):=K5 λp B=>by
  let(!C,E,F,G):=h p B;let H:=bf u C E F G;simp[H]
 let j:=Dp c;rw[Zw]at j;let j:WM ", " (.lst<|r.2.2.map λp=>D.str<|zx (jM xs p.1) p.2)=!(.str<|wI xs r.2.2):=j;let I:=Qi<|show ⇑r.2.2<=1000 from();let t:⇑R<00:=UP z (by decide+kernel);let f:=IA g.asc (show asc ("all":Str)by ext asc;decide+kernel);let l:=IA g.asc (show asc ("first":Str)by ext asc;decide+kernel);let w:=Dq g;let J:=Wf zk e ();let L:=Wf (zk.app e) zk ();let M:=Wf ((zk.app e).app zk) w ();let N:=Wf (((zk.app e).app zk).app w) zk ();let v:=Wf ((((zk.app e).app zk).app w).app zk) b ();let O:(" ":Str)++r.1++" "++yf r.2.1++" "++wI xs r.2.2=yD xs r:=9;rw[O]at v;rw[(~~~(.str<|yf r.2.1),?_)];let P:∀u8:02 SV,qR [05] (yO d0 d1 R d3 d4 d u6 (~~~jn r) u8)=yO d0 d1 R d3 d4 (~~~(.lst<|xs.map .str)) u6 (~~~jn r) u8:=λu8=>by
  obtain rfl|rfl:=y<;>rfl
 let Q:mH (yO d0 d1 R d3 d4 d u6 (~~~jn r)<|~~~.str r.2.1)=.ok (.next<|yO d0 d1 R d3 d4 d u6 (~~~jn r)<|~~~(.str<|yf r.2.1)):=by
  ext yf mH;cases m:r.2.1="all"
  .rw[Zd (.inl m),];rw[Zp m]at f;simp[yO,f]
  .rw[Zo m]at f;cases o:r.2.1="first"
   .rw[Zd (.inr o),];rw[Zp o]at l;simp[yO,f,l]
   .rw[Ze (not_or.mpr (m,o)),];rw[Zo o]at l;let S:=Wf (Qy (n:=05) (x:="part ")<|by decide+kernel) g ();simp[f,l,S]
 let T:fy (yO d0 d1 R d3 d4 d u6 (~~~jn r) u8)=((mH<|yO d0 d1 R d3 d4 d u6 (~~~jn r)<|~~~.str r.2.1).bind<|vf λsd=>mJ<|qR [05] sd):=by
  ext fy;simp
 rw[T,Q];show mJ (qR [05] _)=_;rw[P,];ext mJ;simp[yO,mk,I,t,qD,j,J,L,M,N,v]
def YI (c:a ≠[])(k:3):a[(k%(⇑a:3)).toNat]?=! jt a k:=by
 let d:(0:3)<⇑a:=by let:=Jh.mpr c;lia
 let b:=UE k d
 simp_all[jt]
def SE (c:b ≠[])(k:3):jf (.lst<|b.map D.str) (.int<|k%(⇑b:3))=!(.str<|jt b k):=by
 let a:=UC k (show(⇑b:3)≠0 by let:=Jh.mpr c;lia);rw[z8 a<|by rw[Zv,YI c];rfl]
def SF   (h:PlX p)(b:∀w∈a,TxtOk 12 w)(c:a ≠[]):∀x∈xU a i p,TxtOk 12 x:=λx d=>by
 obtain z|z:=Jd.mp d
 .rcases Jd.mp z with z|z
  .rw[h.gs x z]
  .let(-r,e,rfl):=Jb.mp z;rw[(h.rs r e).1]
 .rw[Jc.mp z,];rw[b _<|Ua<|YI c _]
def SG  {i:5}  (S:⇑R<=90000)(h:PlX p)(T:∀w∈f,TxtOk 12 w)(L:⇑f=34):
 ∃U X Y Z,mI (yO d0 (.lst<|f.map .str) R (.int (i:3)) (JH p) u5 u6 y u8)=.ok (.next<|yO d0 (.lst<|f.map .str) (R++K9 f i p) (.int (i:3)) (JH p) U X Y Z):=by
 let hl:=h.gl;let hr:=h.rl;let M:f ≠[]:=λz=>by rw[z]at L;cases L
 let(th,hth):∃th,th=p.givens++p.rows.map (·.1):=(_,9);let tl:⇑th<=60:=by rw[hth,Ub,Zql];lia
 let m1:qB (.one 0) (jd jf (ja 0)<|dC<|.int 0) [8] (p.rows.map jn)=.ok (p.rows.map λr=>.str r.1):=K5 λr hr=>by simp
 let z1:=Qi<|show ⇑p.rows<=1000 from();let g1:Yw (.lst<|p.givens.map .str) (.lst<|p.rows.map λr=>.str r.1)=!(.lst<|th.map .str):=by
  show(if(p.givens.map D.str).length+⇑(p.rows.map λr=>D.str r.1)<=00 then !(D.lst<|p.givens.map D.str++p.rows.map λr=>D.str r.1)else 8)=_;rw[Zd (small<|by rw[Zql,Zql];lia),hth];simp
 let n1:=Wj D.str th;let n2:=Wj D.str f;let gm:j9 (.int<|(i:3)+1+(⇑th:3)) (.int (⇑f:3))=!(.int<|((i:3)+1+(⇑th:3))%(⇑f:3)):=Xw ();let gx:jf (.lst<|f.map D.str) (.int<|((i:3)+1+(⇑th:3))%(⇑f:3))=!(.str<|jt f<|(i:3)+1+(⇑th:3)):=SE M _;let ex:xU f i p=th++[jt f ((i:3)+1+(⇑th:3))]:=by ext xU;rw[<-hth]
 let tx:=SF (i:=i) h T M;let ap:=Wf (Qy (n:=05) (x:="plan ")<|by decide+kernel) h.nm ();let C:⇑R<00:=UP S (by decide+kernel);let E:⇑(th.map D.str)<00:=Qi (by rw[Zql,];lia);let(l,ho5):∃l:02 SV,l=!(.own 7<|.lst<|(xU f i p).map .str):=(_,9);let(-sd1,F,(m,o)):=K4 (tg:=.one 06) (b:=sr) (ds:=p.givens.map .str) (sd:=yO d0 (.lst<|f.map .str) (R++[("plan ":Str)++p.name]) (.int (i:3)) (JH p) l u6 y u8)
  (P:=λj sd=>∃m:02 SV,sd=yO d0 (.lst<|f.map .str) (R++[("plan ":Str)++p.name]++(p.givens.take j).map λg=>(" given ":Str)++g) (.int (i:3)) (JH p) l m y u8) (u6,()) (by
   rintro j x sd G ⟨m,rfl⟩;let(-g,N,rfl):=Ke G;let ag:=Wf (Qy (n:=07) (x:=" given ")<|by decide+kernel) (h.gs g<|Ua N) ();let H:p.givens.take (j+1)=p.givens.take j++[g]:=by rw[Uw,N];rfl
   let A:(R++[("plan ":Str)++p.name]++(p.givens.take j).map λg=>(" given ":Str)++g).length<00:=UP (show _<=99000 by rw[Ub,Ub,Zql,Ue,Uj];lia) (by decide+kernel);rw[(_,?_,~~~.str g,9)];rw[H,Ud,List.map_singleton,<-Uq];generalize R++[("plan ":Str)++p.name]++(p.givens.take j).map (λg=>(" given ":Str)++g)=R1 at A ⊢;ext sr;simp[yO,ag,A])
 rw[Zql,Uy]at o;subst o;let(R2,hR2):∃R2,R2=R++[("plan ":Str)++p.name]++p.givens.map λg=>(" given ":Str)++g:=(_,9);rw[<-hR2]at F;let lR2:R2.length<=90014:=by rw[hR2,Ub,Ub,Zql,Uj];lia
 let(-sd2,O,(s,B,t,_,u)):=K4 (tg:=.one 07) (b:=fy) (ds:=p.rows.map jn) (sd:=yO d0 (.lst<|f.map .str) R2 (.int (i:3)) (JH p) l m y u8)
  (P:=λj sd=>∃s B t:02 SV,mm (xU f i p) s/\sd=yO d0 (.lst<|f.map .str) (R2++(p.rows.take j).map (yD<|xU f i p)) (.int (i:3)) (JH p) s m B t) (jh l y u8 (.inl ho5,())) (by
   rintro j x sd G ⟨s,B,t,I,rfl⟩;let(-r,v,rfl):=Ke G;let(!a,b,c,d):=h.rs r (Ua v);let H:p.rows.take (j+1)=p.rows.take j++[r]:=by rw[Uw,v];rfl
   let(J,e):=SB (d0:=d0) (d1:=.lst<|f.map .str) (d3:=.int (i:3)) (d4:=JH p) (R:=R2++(p.rows.take j).map (yD<|xU f i p)) (xs:=xU f i p) (r:=r) (u6:=m) (u8:=t) I (by rw[Ub,Zql,Ue];lia) tx a b c λz A=>by
    let(!d1,d2,d3):=d z A;rw[(d1,?_,d3)];rw[<-hth]at d2;rw[ex,Ub,Uj];lia
   rw[(_,?_,_,~~~jn r,J,.inr 9,9)];rw[H,Ud,List.map_singleton,<-Uq];rw[e])
 rw[Zql,Uy]at u;subst u;rw[jX s m B t ?_];let ep:R++K9 f i p=R2++p.rows.map (yD<|xU f i p):=by rw[hR2,];ext K9;simp
 rw[ep,];let eR:(R++[("plan ":Str)++p.name]).map D.str=R.map D.str++[.str ("plan "++p.name)]:=by simp
 let Q:l=!(.own 7<|.lst<|th.map D.str++[.str (jt f<|(i:3)+1+(⇑th:3))]):=by rw[ho5,ex,Ud];rfl
 simp only[yO,eR,Q]at F;simp only[yO,Q]at O;generalize th.map D.str=TH at*;ext mI;simp[yO,m1,z1,g1,E,n1,n2,gm,gx,ap,C,F,O]
def be  (h:∀p∈ps,PlX p)(H:⇑ps<=40)(r:∀w∈ws,TxtOk 12 w)(s:⇑ws=34):Ao [qq ps,.lst (ws.map .str)]=.ok (.lst<|(Ql ws 0 ps).map .str):=by
 let(-sd,e,(f,g,j,l,m,n,c)):=K4 (tg:=.tup [03,04]) (b:=mI) (ds:=Vy<|ps.map JH) (sd:=[~~~qq ps,~~~(.lst<|ws.map .str),!(.own 7<|.lst []),8,8,8,8,8,8])
  (P:=λi sd=>∃f g j l m n:02 SV,sd=[~~~qq ps,~~~(.lst<|ws.map .str),!(.own 7<|.lst<|(Ql ws 0<|ps.take i).map .str),f,g,j,l,m,n]) (vm 8 8 8 8 8 8<|by simp[Ql]) (by
   intro i x sd o;rw[vl λf g j l m n a=>?_];subst a;let(p,d,rfl):∃p,ps[i]?=!p/\x=.tup [.int (i:3),JH p]:=by
    rw[CK,Zv]at o
    induction d:ps[i]? with
    |none=>rw[d]at o;cases o
    |some p=>rw[()]
   let t:=Ua d;let u:ps.take (i+1)=ps.take i++[p]:=by rw[Uw,d];rfl
   let v:=DQ (ws:=ws) (ps:=ps.take i) 0 ();let I:=(Ja.mp d).1;let y:⇑(Ql ws 0<|ps.take i)<=90000:=by
    rw[Ue]at v;lia
   let z:Ql ws 0 (ps.take<|i+1)=Ql ws 0 (ps.take i)++K9 ws i p:=by
    rw[u,Iz,Ue,U9 (),UK];show _++(K9 ws i p++[])=_;rw[ZA,]
   let(A,B,C,E,e):=SG y (h p t) r s;rw[(_,?_,~~~.int (i:3),~~~JH p,A,B,C,E,9)]
   rwa[z,])
 let F:⇑(Vy<|ps.map JH)=⇑ps:=by rw[FR,Zql]
 rw[F,Uy]at c;subst c;ext Ao;rw[fx,];let G:ZG [qq ps]=.ok (Vy<|ps.map JH):=9;simp[G,e]
def Wk {a b:Str}(d:c∉a.cps.toList)(e:c∉b.cps.toList):c∉(a++b).cps.toList:=by
 rw[Q0,];rw[λz=>(Jd.mp z).elim d e]
theorem IB  (a:c∉s.cps.toList):∀l:Yg,(∀x∈l,c∉x.cps.toList)->c∉(Txt.join s l).cps.toList
 |[],_=>λz=>nomatch z
 |[x],h=>by rw[WQ,];rw[()]
 |x::y::r,h=>by
  rw[WP,];rw[Wk (Wk () a)<|IB a (y::r) ()]
def SH  (R:RowR n a b):10∉(xn n a b).cps.toList:=by
 let c:(10:5)∉(" ":Str).cps.toList:=by decide+kernel
 let d:10∉(yf a).cps.toList:=by
  ext yf
  split
  .rename_i h;obtain rfl|rfl:=h<;>decide+kernel
  .rw[Wk (by decide+kernel) ?_];obtain z|z|z:=R.hw
   .ext
   .ext
   .rw[V7 z<|by decide]
 rw[Wk (Wk (Wk (Wk (Wk c<|V7 R.nm<|by decide) c) d) c)<|IB (by decide+kernel) _ λx e=>?_];let(-i,f,rfl):=Jb.mp e;rw[DD (R.is i f) (by decide) () ()]
def qL(a:Yg)(z:3×Str×Str×Js):3×Str×Str×List (Str×3):=%[z.1,z.2.1,z.2.2.1|z.2.2.2.map λi=>%[jM a i.1|i.2]]
def KA:5->List (Str×Str×Js)->List (3×Str×Str×Js)
 |_,[]=>[]
 |k,r::a=>%[(k:3)+1|r]::KA (k+1) a
theorem Ar:∀(a:List (Str×Str×Js))(k:5),(KA k a).map (·.2)=a
 |[],_=>9
 |r::a,k=>Zt (r::·) (Ar a<|k+1)
def IC(a:List (Str×Str×Js))(k:5):⇑(KA k a)=⇑a:=by
 let:=Zt List.length<|Ar a k
 rwa[Zql]at this
theorem ID   :∀(a b:Yg)(k:5),(∀g∈a,jP g)->⇑b+⇑a<=1000->Rd (k+⇑a) rest (c++[(nm,b++a,[])]) r->Rd k (a.map (λg=>(" given ":Str)++g)++rest) (c++[(nm,b,[])]) r
 |[],b,k,_,_,h=>by rwa[ZA]at h
 |g::a,b,k,hn,hl,h=>by
  rw[Zu]at hl h;rw[.given (hn g Zqs) (by show ⇑b<=1000;lia) 9<|ID a (b++[g]) (k+1) (λx d=>hn x<|Zqm _ d) (by rw[Ub,Uj];lia) ?_]
  grind
theorem IE    :∀(a:List (Str×Str×Js))(b:List (3×Str×Str×List (Str×3)))(k:5),(∀z∈a,RowR z.1 z.2.1 (z.2.2.map λi=>%[jM c i.1|i.2]))->⇑b+⇑a<=1000->Rd (k+⇑a) rest (d++[(nm,e,b++(KA k a).map (qL c))]) r->Rd k (a.map (yD c)++rest) (d++[(nm,e,b)]) r
 |[],b,k,_,_,h=>by
  let h:Rd k rest (d++[(nm,e,b++[])]) r:=h;rw[ZA]at h;rw[h]
 |z::a,b,k,hn,hl,h=>by
  rw[Zu]at hl h;rw[Zl,List.cons_append,DH];rw[.made (hn z Zqs) (by show ⇑b<=1000;lia)<|IE a (b++[qL c %[(k:3)+1|z]]) (k+1) (λx f=>hn x<|Zqm _ f) (by rw[Ub,Uj];lia) ?_];rw[Uq,List.singleton_append,show k+1+⇑a=k+(⇑a+1)by lia];rw[h]
structure PlQ(p:Pl):4 where
 nm:jP p.name
 gs:∀g∈p.givens,jP g
 gl:⇑p.givens<=13
 rl:⇑p.rows<=40
 rn:∀r∈p.rows,jP r.1
 hw:∀r∈p.rows,r.2.1="all"\/r.2.1="first"\/jP r.2.1
 lo:∀r∈p.rows,1<=⇑r.2.2/\⇑r.2.2<=44
 it:∀r∈p.rows,∀i∈r.2.2,0<=i.1/\i.1<=((p.givens++p.rows.map (·.1)).length:3)/\-1000000000000000000000000000000<i.2/\i.2<1000000000000000000000000000000
def BS{h:Str}(w:h="all"\/h="first"\/jP h):TxtOk 12 h:=by
 obtain rfl|rfl|w:=w
 .rw[Qy<|by decide+kernel]
 .rw[Qy<|by decide+kernel]
 .rw[w.1]
def PlQ.x (h:PlQ p):PlX p:=(h.nm.1,λg b=>(h.gs g b).1,h.gl,h.rl,λr a=>((h.rn r a).1,BS<|h.hw r a,(h.lo r a).2,h.it r a))
def IF   (h:PlQ p)(b:∀w∈a,jP w)(c:a ≠[]):∀x∈xU a i p,jP x:=λx d=>by
 obtain z|z:=Jd.mp d
 .rcases Jd.mp z with z|z
  .rw[h.gs x z]
  .let(-r,e,rfl):=Jb.mp z;rw[h.rn r e]
 .rw[Jc.mp z,];rw[b _<|Ua<|YI c _]
theorem IG  (b:0<=k)(c:k<(⇑a:3)):jM a k∈a:=by
 ext jM;rw[Ul,Zqg (show k.toNat<⇑a from())];rw[UR _]
def IH(a:Yg)(i:5)(p:Pl):(⇑(xU a i p):3)=((p.givens++p.rows.map (·.1)).length:3)+1:=by
 ext xU;rw[Ub,Uj];lia
def PlQ.row   (h:PlQ p)(g:∀w∈f,jP w)(j:f ≠[]):∀z∈p.rows,RowR z.1 z.2.1 (z.2.2.map λx=>%[jM (xU f i p) x.1|x.2]):=λz e=>by
 rw[(h.rn z e,h.hw z e,λy l=>?_,by rw[Zql,];rw[(h.lo z e).1],by rw[Zql,];rw[(h.lo z e).2])];let(-x,n,rfl):=Jb.mp l;let(!a,b,c,d):=h.it z e x n;let o:=IH f i p;rw[(IF h g j _<|IG a (),c,d)]
def z6(a:Yg)(i k:5)(p:Pl):Dr:=(p.name,p.givens,(KA (k+1+⇑p.givens) p.rows).map<|qL<|xU a i p)
def xB(a:Yg):5->5->List Pl->List Dr
 |_,_,[]=>[]
 |i,k,p::b=>z6 a i k p::xB a (i+1) (k+(1+⇑p.givens+⇑p.rows)) b
def SI   (h:PlQ p)(c:∀w∈a,jP w)(d:a ≠[])   (f:⇑b<=1000)(l:Rd (k+(1+⇑p.givens+⇑p.rows)) rest (b++[z6 a i k p]) r):Rd k (K9 a i p++rest) b r:=by
 let m:=h.gl;let n:=h.rl;let e:K9 a i p++rest=(("plan ":Str)++p.name)::(p.givens.map (λg=>(" given ":Str)++g)++(p.rows.map (yD<|xU a i p)++rest)):=by
  ext K9;simp
 rw[e,];rw[.plan h.nm f<|ID p.givens [] (k+1) h.gs ()<|IE p.rows [] (k+1+⇑p.givens) (λz j=>h.row c d z j) () ?_]
 rwa[List.nil_append,List.nil_append,show k+1+⇑p.givens+⇑p.rows=k+(1+⇑p.givens+⇑p.rows)by lia]
theorem II (d:∀w∈c,jP w)(e:c ≠[]):∀(b:List Pl)(i k:5)(a:List Dr),(∀p∈b,PlQ p)->⇑a+⇑b<=1000->Rd k (Ql c i b) a (a++xB c i k b)
 |[],i,k,a,_,_=>by rw[show a++xB c i k []=a from ZA _,];rw[.nil _ _]
 |p::b,i,k,a,h,hl=>by
  rw[SI (h p Zqs) d e () ?_];let:=II d e b (i+1) (k+(1+⇑p.givens+⇑p.rows)) (a++[z6 c i k p]) (λq f=>h q<|Zqm _ f) ()
  rwa[Uq]at this
theorem IJ :∀{a:List Pl}{i:5}{y:Str},y∈Ql b i a->∃p∈a,∃j,y∈K9 b j p
 |[],i,y,h=>by cases h
 |p::a,i,y,h=>by
  rcases Jd.mp (show y∈K9 b i p++Ql b (i+1) a from h)with z|z
  .rw[(p,Zqs,i,z)]
  .let(-q,c,(j,d)):=IJ z;rw[(q,Zqm _ c,j,d)]
def IK (s:∀w∈ws,jP w)(t:ws ≠[]) (h:∀p∈d,PlQ p)(ne:d ≠[])(G:⇑d<=20):TxtOk 4000000 (Txt.join "\n"<|Ql ws 0 d)/\JoinOk "\n" (Ql ws 0 d)=6/\Txt.split (Txt.join "\n"<|Ql ws 0 d) "\n"=Ql ws 0 d:=by
 let a:∀y∈Ql ws 0 d,TxtOk 2056 y/\10∉y.cps.toList:=λy f=>by
  let(-p,l,(j,A)):=IJ f;let h:=h p l;let B:=λx o=>(IF (i:=j) h s t x o).1;obtain z|z:=Jd.mp A
  .rcases Jd.mp z with z|z
   .rw[Jc.mp z,];rw[(((Qy (n:=05)<|by decide+kernel).app h.nm.1).mono (),Wk (by decide+kernel)<|V7 h.nm<|by decide)]
   .let(-g,u,rfl):=Jb.mp z;rw[(((Qy (n:=07)<|by decide+kernel).app (h.gs g u).1).mono (),Wk (by decide+kernel)<|V7 (h.gs g u)<|by decide)]
  .let(-r,m,rfl):=Jb.mp z;let H:=IH ws j p;have(a,b,c):=Hx B (h.lo r m).2 λx o=>by
    have(C,I,E,F):=h.it r m x o;rw[(C,(),E,F)]
   rw[(?_,by rw[DH,];rw[SH<|h.row s t r m])];let:=((((zk.app (h.rn r m).1).app zk).app<|Dq<|BS<|h.hw r m).app zk).app b;rw[this.mono ()]
 let b:=DQ (ws:=ws) 0 λp l=>(h p l).x;let v:TxtOk 1 ("\n":Str):=Qy (by decide+kernel);rw[((ZY v (λy f=>(a y f).1) (k:=1080) ()).mono (),Dn (k:=1080) v.len (λy f=>(a y f).1.len) () (),?_)];let(y,r,e):∃y r,Ql ws 0 d=y::r:=by
  cases(d)with
  |nil=>rw[Zn 9 ne]
  |cons p d=>rw[xh _ _ 9]
 rw[e]at a ⊢;rw[Xd 9 (by decide+kernel) λp l=>(a p l).2]
theorem IL :∀{a:List Pl}{i k:5}{q:Dr},q∈xB b i k a->∃p∈a,∃j m,q=z6 b j m p
 |[],i,k,q,h=>by cases h
 |p::a,i,k,q,h=>by
  obtain z|z:=Ux.mp h
  .rw[(p,Zqs,i,k,z)]
  .let(-y,c,(j,m,e)):=IL z;rw[(y,Zqm _ c,j,m,e)]
theorem IM(b:Yg):∀(a:List Pl)(i k:5),⇑(xB b i k a)=⇑a
 |[],_,_=>9
 |p::a,i,k=>by
  show(xB b (i+1) _ a).length+1=_;rw[IM b a,Zu]
def IN (n:∀w∈d,jP w)(o:d ≠[]) (h:∀p∈f,PlQ p)(ne:f ≠[])(r:⇑f<=20):
 (∃m,vP (xB d 0 0 f) m/\Kb [.str (Txt.join "\n"<|Ql d 0 f)]=.ex "NoName" [.int m])\/(∀q∈xB d 0 0 f,uN q)/\∃l,zq (xB d 0 0 f) l/\Kb [.str (Txt.join "\n"<|Ql d 0 f)]=(yK [JL l]).bind λ_=>.ok<|JL l:=by
 let(!a,b,c):=IK n o h ne r;rw[Su a (Zf _) c (II n o f 0 0 [] h ()) (by rw[IM,];lia) λq s=>?_];let(-p,t,(j,m,rfl)):=IL s;let g:=h p t;rw[(?_,λz u=>?_)]
 .let e:⇑((KA (m+1+⇑p.givens) p.rows).map<|qL<|xU d j p)=⇑p.rows:=by rw[Zql,IC]
  show ⇑p.givens+⇑((KA (m+1+⇑p.givens) p.rows).map<|qL<|xU d j p)<=920;rw[e,];let:=g.gl;let:=g.rl;lia
 .let(-y,v,rfl):=Jb.mp u;show(y.2.2.2.map λi=>%[jM (xU d j p) i.1|i.2]).length<=900;rw[Zql,];let A:y.2∈p.rows:=by
   rw[<-Ar p.rows (m+1+⇑p.givens)];rw[Jb.mpr (y,v,9)]
  let:=(g.lo _ A).2;lia
def qd(t:3)(r:Str×Str×Js):Bool:=r.2.2.any λx=>decide<|t<=x.1
def Ky(t:3):5->List (Str×Str×Js)->02 3
 |_,[]=>8
 |k,r::a=>if qd t r then !(k:3)+1 else Ky t (k+1) a
def jB(p:Pl):3:=((p.givens++p.rows.map (·.1)).length:3)
def qE:5->List Pl->02 3
 |_,[]=>8
 |k,p::a=>match Ky (jB p) (k+1+⇑p.givens) p.rows with
  |some m=>!m
  |none=>qE (k+(1+⇑p.givens+⇑p.rows)) a
theorem IP  :∀{c:List (Str×Str×Js)}{k:5}{m:3},(∀r∈c,∀n,zJ d (qL a %[n|r])↔qd t r=7)->wm d ((KA k c).map<|qL a) m->Ky t k c=!m
 |[],k,m,_,h=>by
  let(i z,b,_):=h;cases b
 |r::c,k,m,he,h=>by
  let(i z,b,f,g,j):=h;let e:=he r Zqs<|(k:3)+1;ext Ky
  cases(i)with
  |zero=>
   let b:qL a %[(k:3)+1|r]=z:=Zqi b;subst b;let:qd t r=6:=by induction s:qd t r;rw[Zn (e.mpr s) f];rfl
   rw[Zd this,];rw[Zt some g]
  |succ i=>
   let b:((KA (k+1) c).map<|qL a)[i]?=!z:=b;let l:zJ d (qL a %[(k:3)+1|r]):=j _<|by
    show qL a %[(k:3)+1|r]∈(qL a %[(k:3)+1|r]::(KA (k+1) c).map (qL a)).take (i+1);rw[Vf,];rw[Zqs]
   rw[Ze (by rw[e.mp l,];simp),];rw[IP (λr o=>he r<|Zqm _ o) (i,z,b,f,g,λy p=>j y<|by
    show y∈(qL a %[(k:3)+1|r]::(KA (k+1) c).map (qL a)).take (i+1);rw[Vf,];rw[Zqm _ p])]
theorem DR  :∀{c:List (Str×Str×Js)}{k:5},(∀r∈c,∀n,zJ e (qL f %[n|r])↔qd t r=7)->(∀z∈(KA k c).map (qL f),zJ e z)->Ky t k c=8/\∀r∈c,qd t r=7
 |[],k,_,_=>(9,λ_ h=>nomatch h)
 |r::c,k,he,h=>by
  let d:=(he r Zqs<|(k:3)+1).mp<|h _ Zqs;let(a,b):=DR (λr g=>he r<|Zqm _ g) λz i=>h z<|Zqm _ i;rw[(?_,Jp.mpr (d,b))];ext Ky;rw[Ze (by rw[d,];simp),a]
def vX(a:Yg):5->List Pl->4
 |_,[]=>True
 |i,p::b=>((∃r∈p.rows,qd (jB p) r=6)->jt a ((i:3)+1+jB p)∉p.givens++p.rows.map (·.1))/\vX a (i+1) b
theorem IQ  (c:0<=k)(d:k<(⇑a:3)):jM (a++b) k=jM a k:=by
 ext jM;rw[Ul,Ul,Ui ()]
def IR {i:5} (h:PlQ p)(f:(∃r∈p.rows,qd (jB p) r=6)->jt d ((i:3)+1+jB p)∉p.givens++p.rows.map (·.1)):∀r∈p.rows,∀n,zJ (p.givens++p.rows.map (·.1)) (qL (xU d i p) %[n|r])↔qd (jB p) r=7:=λr g n=>by
 let one:∀x∈r.2.2,jM (xU d i p) x.1∈p.givens++p.rows.map (·.1)↔¬jB p<=x.1:=λx c=>by
  let(!a,b,_):=h.it r g x c;constructor
  .intro l j;let:x.1=jB p:=by unfold jB at j ⊢;lia
   apply f (r,g,List.any_eq_true.mpr (x,c,Zp j));let e:jM (xU d i p) x.1=jt d ((i:3)+1+jB p):=by
    rw[this,];ext xU jM jB;rw[Ul,Uk,Us (Zf _),UY];rfl
   rw[<-e];rw[l]
  grind[xU,jB,IQ,IG]
 ext zJ qd;rw[UU,];constructor
 .intro q x c;let:=(one x c).mp<|q %[jM (xU d i p) x.1|x.2]<|Jb.mpr (x,c,9);simpa using this
 .intro q y m;let(-x,c,rfl):=Jb.mp m;rw[()]
def Au(a:Yg)(i k:5)(p:Pl):uW (z6 a i k p)=p.givens++p.rows.map (·.1):=by
 ext uW z6
 conv=>rhs;rw[<-Ar p.rows (k+1+⇑p.givens)]
 rw[Zw,Zw];rfl
theorem DS :∀{a:List Pl}{i k:5}{m:3},(∀p∈a,PlQ p)->vX c i a->vP (xB c i k a) m->qE k a=!m
 |[],i,k,m,_,_,h=>by
  let(j q,b,_):=h;cases b
 |p::a,i,k,m,l,f,h=>by
  let(j q,b,d,g):=h;let o:=IR (l p Zqs) f.1;ext qE
  cases(j)with
  |zero=>
   let b:=Zqi b;subst b;rw[Au]at d;rw[IP o d,]
  |succ j=>
   let e:=g _<|by
    rw[Zqs]
   unfold uN at e;rw[Au]at e;rw[(DR o e).1,];rw[DS () f.2 (j,q,b,d,λy n=>g y<|by
    show y∈(z6 c i k p::xB c (i+1) (k+(1+⇑p.givens+⇑p.rows)) a).take (j+1);rw[()])]
theorem DU :∀{e:List Pl}{i k:5},(∀p∈e,PlQ p)->vX j i e->(∀q∈xB j i k e,uN q)->qE k e=8/\∀p∈e,∀r∈p.rows,qd (jB p) r=7
 |[],i,k,_,_,_=>(9,λ_ h=>nomatch h)
 |p::e,i,k,m,f,h=>by
  let g:=h _ Zqs;unfold uN at g;rw[Au]at g;let(a,b):=DR (IR () f.1) g;let(c,d):=DU () f.2 λq l=>h q<|Zqm _ l;rw[(?_,())];ext qE
  rwa[a,]
def uY:FS:=js (j3 1<|jd jv (ja 1)<|dC<|.int 1)<|qj (Jz<|jd vS (jj Z5<|Ju (Q2 [8,8] (iS<|jd jf (ja 03)<|dC<|.int 2) (.tup [0,1])<|ja 0) jb)<|jd jv (jj jq<|Ju (jd jf (ja 2)<|dC<|.int 1) jb)<|jj jq<|Ju (jd jf (ja 2)<|dC<|.int 2) jb) (jL<|ja 1) JF
def kP:FS:=js (j3 1<|jd jv (jd jv (ja 1)<|dC<|.int 1)<|jj jq<|Ju (jd jf (ja 2)<|dC<|.int 1) jb)<|qf (iS<|jd jf (ja 2)<|dC<|.int 2) (.one 03) uY
def kO:BP=(js (j3 1<|dC<|.int 0)<|js (qf (iS<|ja 0) (.one 2) kP)<|jL<|dC<|.int 0):=rfl
def SJ (h:ns ≠[])(t:3):decide (t<=yX ns)=ns.any λx=>decide<|t<=x:=by
 let(a,b):=Fg h;cases c:t<=yX ns
 .rw[Zp c,eq_comm,List.any_eq_true];rw[(_,a,Zp c)]
 .rw[Zo c,eq_comm,UU];intro x d;let:=b x d;simp;lia
def SK   {k:5} (a:r.2.2 ≠[])(b:⇑r.2.2<=1000):
 (JS (.one 03) (jn r) [~~~d0,~~~.int (k:3),~~~JH p,u]).bind uY=if qd (jB p) r then .ok (.ret<|.int<|(k:3)+1)else .ok (.next [~~~d0,~~~.int ((k+1:5):3),~~~JH p,~~~jn r]):=by
 let c:qB (.tup [0,1]) (ja 0) [8,8] (r.2.2.map qw)=.ok ((r.2.2.map (·.1)).map .int):=by
  rw[Zw,];rw[K5 ()]
 let d:Z5 [.lst ((r.2.2.map (·.1)).map .int)]=!(.int<|yX<|r.2.2.map (·.1)):=by
  show(XX<|.lst<|(r.2.2.map (·.1)).map D.int).bind _=_;rw[Fy,];rw[Ze λz=>a<|List.map_eq_nil_iff.mp z]
 let e:=SJ (ns:=r.2.2.map (·.1)) (λz=>a<|List.map_eq_nil_iff.mp z)<|jB p;let f:(r.2.2.map (·.1)).any λx=>decide<|jB p<=x=qd (jB p) r:=by rw[List.any_map,];rfl
 let g:(⇑p.givens:3)+⇑p.rows=jB p:=by ext jB;rw[Ub,Zql];lia
 let h:⇑(r.2.2.map qw)<00:=Qi<|by rw[Zql,];lia
 simp_all[uY]
def DV(t:3)(k:5)(r:Str×Str×Js)(a:List (Str×Str×Js)):Ky t k (r::a)=if qd t r then !(k:3)+1 else Ky t (k+1) a:=rfl
def DW(k:5)(p:Pl)(a:List Pl):qE k (p::a)=match Ky (jB p) (k+1+⇑p.givens) p.rows with
 |some m=>!m
 |none=>qE (k+(1+⇑p.givens+⇑p.rows)) a:=rfl
def SL     (f:∀r∈rs,r.2.2 ≠[]/\⇑r.2.2<=1000):
 match Ky (jB p) k rs with
 |some m=>qa (.one 03) uY (rs.map jn) [~~~d0,~~~.int (k:3),~~~JH p,u]=.ok (.ret<|.int m)
 |none=>∃a,qa (.one 03) uY (rs.map jn) [~~~d0,~~~.int (k:3),~~~JH p,u]=.ok (.next [~~~d0,~~~.int ((k+⇑rs:5):3),~~~JH p,a]):=by
 rw[FH (λo=>match Ky (jB p) k rs with
  |some m=>o=.ok (.ret<|.int m)
  |none=>∃a,o=.ok (.next [~~~d0,~~~.int ((k+⇑rs:5):3),~~~JH p,a])) (λi sd=>Ky (jB p) k rs=Ky (jB p) (k+i) (rs.drop i)/\∃a,sd=[~~~d0,~~~.int ((k+i:5):3),~~~JH p,a]) (9,u,9) ?_ ?_]
 .rintro sd ⟨e,a,rfl⟩;rw[Zql,UQ]at e;rw[e,Zql];rw[(a,9)]
 .rintro i x sd g ⟨e,a,rfl⟩;let(-r,b,rfl):=Ke g;let d:=(Ja.mp b).1;let h:rs.drop i=r::rs.drop (i+1):=by
   rw[UH d,];rw[Zqg d]at b;rw[Zqi b,]
  let(j,l):=f r (Ua b);let o:=SK (d0:=d0) (p:=p) (k:=k+i) (u:=a) j l;rw[h,DV]at e;cases c:qd (jB p) r=6
  .rw[Zd c]at o e;rw[.inr<|.inr (_,o,?_)];rw[e,]
  .rw[Ze c]at o e;rw[.inl (_,.inl o,e,_,9)]
def SM    (t:∀p∈b,∀r∈p.rows,r.2.2 ≠[]/\⇑r.2.2<=1000):
 match qE k b with
 |some m=>qa (.one 2) kP (b.map JH) [~~~d0,~~~.int (k:3),u2,u3]=.ok (.ret<|.int m)
 |none=>∃sd,qa (.one 2) kP (b.map JH) [~~~d0,~~~.int (k:3),u2,u3]=.ok (.next sd):=by
 rw[FH (λo=>match qE k b with
  |some m=>o=.ok (.ret<|.int m)
  |none=>∃sd,o=.ok (.next sd)) (λi sd=>∃a,qE k b=qE a (b.drop i)/\∃u2 u3,sd=[~~~d0,~~~.int (a:5),u2,u3]) (k,9,u2,u3,9) ?_ ?_]
 .rintro sd ⟨a,e,u2,u3,rfl⟩;rw[Zql,UQ]at e;rw[e,];rw[(_,9)]
 .rintro i x sd h ⟨a,e,u2,u3,rfl⟩;let(-p,d,rfl):=Ke h;let g:=(Ja.mp d).1;let j:b.drop i=p::b.drop (i+1):=by
   rw[UH g,];rw[Zqg g]at d;rw[Zqi d,]
  rw[j,DW]at e;let f:=SL (d0:=d0) (p:=p) (rs:=p.rows) (k:=a+1+⇑p.givens) (u:=u3) ();let l:=gC p;let n:=vg p;let s:=Wj D.str p.givens;let st:(JS (.one 2) (JH p) [~~~d0,~~~.int (a:5),u2,u3]).bind kP=qa (.one 03) uY (p.rows.map jn) [~~~d0,~~~(.int<|(a:3)+1+⇑p.givens),~~~JH p,u3]:=by
   ext kP;simp[l,n,s]
  rw[st,]
  induction c:Ky (jB p) (a+1+⇑p.givens) p.rows with
  |some m=>
   rw[c]at f e;rw[.inr<|.inr (_,f,?_)];rw[e,]
  |none=>
   rw[c]at f e;let(v,f):=f;rw[.inl (_,.inl f,_,e,_,_,by rw[show a+1+⇑p.givens+⇑p.rows=a+(1+⇑p.givens+⇑p.rows)by lia,])]
def SN (a:∀p∈ps,∀r∈p.rows,r.2.2 ≠[]/\⇑r.2.2<=1000):Aq [qq ps]=.ok (.int<|(qE 0 ps).getD 0):=by
 let h:=SM (d0:=qq ps) (k:=0) (u2:=8) (u3:=8) a;let b:WA (qq ps)=! ps.map JH:=9;ext Aq;rw[kO,]
 induction c:qE 0 ps with
 |some m=>
  ext
 |none=>
  rw[c]at h;let(sd,h):=h
  ext
structure SkP(ws:Yg)(i:5)(q:Pl):4 where
 tl:(i:3)+1+jB q<=33
 nm:∃j:5,j<=i/\q.name=jt ws (j:3)
 th:∀x∈q.givens++q.rows.map (·.1),∃k:5,(k:3)<jB q/\x=jt ws ((i:3)+1+(k:3))
 g1:1<=⇑q.givens
 g12:⇑q.givens<=12
 r1:q.rows ≠[]
 hw:∀r∈q.rows,Km r.2.1=6\/∃j:3,r.2.1=jt ws j
 lo:∀r∈q.rows,1<=⇑r.2.2/\⇑r.2.2<=33
 it:∀r∈q.rows,∀x∈r.2.2,0<=x.1/\x.1<=jB q/\-1000000000000000000000000000000<x.2/\x.2<1000000000000000000000000000000
def xQ(a:Yg):5->List Pl->4
 |_,[]=>True
 |i,q::b=>SkP a i q/\xQ a (i+1) b
def KB(q:Pl):jB q=(⇑q.givens:3)+⇑q.rows:=by ext jB;rw[Ub,Zql];lia
theorem SkP.q  {q:Pl}(h:SkP c i q)(W:WsOk c):PlQ q:=by
 let nm:∀k:3,jP (jt c k):=λk=>(W.ok _<|W.at_ k).nm;let f:=h.tl;rw[KB]at f;let n:=h.g12;let th:∀x∈q.givens++q.rows.map (·.1),jP x:=λx b=>by
  let(-k,_,rfl):=h.th x b;rw[nm _]
 rw[(?_,λg l=>th g<|Uo _ l,(),(),λr a=>th _<|Uf _<|Jb.mpr (r,a,9),λr a=>?_,λr a=>((h.lo r a).1,by let:=(h.lo r a).2;lia),λr a x b=>h.it r a x b)]
 .let(-j,_,e):=h.nm;rw[e,];rw[nm _]
 .rcases h.hw r a with z|⟨j,z⟩
  .unfold Km at z;rw[UF,decide_eq_true_eq,decide_eq_true_eq]at z;rw[z.imp id .inl]
  .rw[z,];rw[.inr<|.inr<|nm _]
def BT (W:WsOk c) (f:0<=i)(h:i<34)(g:0<=j)(l:j<34)(e:jt c i=jt c j):i=j:=by
 let d:c ≠[]:=λz=>by let:=W.len;ext
 let a:=YI d i;let b:=YI d j;rw[W.len,Vb f ()]at a;rw[W.len,Vb g ()]at b;rw[e,<-b]at a;let:=(Vr (by rw[W.len,];lia) W.nd).mp a;lia
def SkP.fr  {q:Pl}(h:SkP a i q)(W:WsOk a):jt a ((i:3)+1+jB q)∉q.givens++q.rows.map (·.1):=λb=>by
 let(-k,c,e):=h.th _ b;let f:=h.tl;let:=BT W () () () () e;lia
theorem xQ.fr (W:WsOk b):∀{a:List Pl}{i:5},xQ b i a->vX b i a
 |[],_,_=>trivial
 |q::a,i,h=>(λ_=>h.1.fr W,xQ.fr W h.2)
theorem xQ.at_ :∀{a:List Pl}{i j:5}{q:Pl},xQ b i a->a[j]?=!q->SkP b (i+j) q
 |[],i,j,q,_,e=>by cases e
 |p::a,i,j,q,h,e=>by
  cases(j)with
  |zero=>cases e;rw[h.1]
  |succ j=>rw[show i+(j+1)=i+1+j by lia,];rw[xQ.at_ h.2 e]
theorem xQ.set :∀{a:List Pl}{i j:5}{q:Pl},xQ b i a->SkP b (i+j) q->xQ b i (a.set j q)
 |[],i,j,q,_,_=>trivial
 |p::a,i,j,q,h,e=>by
  cases(j)with
  |zero=>rw[(e,h.2)]
  |succ j=>rw[(h.1,xQ.set h.2<|by rwa[show i+1+j=i+(j+1)by lia,])]
def XG{α:Type}{l:List α} {x:α}(h:a<⇑l):x∈l.set a x:=Ua (i:=a)<|Ut h
def wR.bad (h:wR f g)(s:List Pl):¬zB (g++s):=by
 rintro⟨u,v⟩;let p:∀{n:Pl}{i:5},f.set i n=g->i<⇑f->(xT n).Nodup:=λ{n i}e l=>(v n<|Uo _<|by rw[<-e];rw[XG l]).2;obtain⟨j,z,q,B,E,F,rfl⟩|⟨i,q,j,y,l,B,o,rfl⟩|⟨i,q,k,r,y,l,G,o,rfl⟩:=h
 .let c:=u.2;rw[Ud]at c;let c:=(Jf.mp c).1;let H:=(Ja.mp F).1;let a:((f.set (⇑f-1) (z.name,q.givens,q.rows)).map (·.name))[j]?=!z.name:=by
   rw[Zv,Zx (),E];rfl
  let b:((f.set (⇑f-1) (z.name,q.givens,q.rows)).map (·.name))[⇑f-1]?=!z.name:=by
   rw[Zv,Ut H];rfl
  let:=(Vr (by rw[Zql,Uh];lia) c).mp<|a.trans b.symm;lia
 .let c:=p 9 (Ja.mp l).1;unfold xT at c;let c:=(Jf.mp c).1;let a:(q.givens.set (⇑q.givens-1) y)[j]?=!y:=by rw[Zx (),o]
  let b:(q.givens.set (⇑q.givens-1) y)[⇑q.givens-1]?=!y:=Ut ();let:=(Vr (by rw[Uh,];lia) c).mp<|a.trans b.symm;lia
 .let c:=p 9 (Ja.mp l).1;let I:=(Ja.mp G).1;unfold xT at c;let e:(q.rows.set k %[y,r.2.1|r.2.2]).map (·.1)=(q.rows.take k).map (·.1)++y::(q.rows.drop<|k+1).map (·.1):=by
   rw[List.set_eq_take_append_cons_drop,Zd I,Ud,Zl]
  let c:(q.givens++(q.rows.set k %[y,r.2.1|r.2.2]).map (·.1)).Nodup:=c;rw[e,<-Uq]at c;rw[(Jf.mp c).2.2 y o y Zqs 9]
theorem DX{a:List (Str×Str×Js)}  (h:a[k]?=!r)(e:r'.1=r.1):(a.set k r').map (·.1)=a.map (·.1):=by
 rw[List.map_set,];rw[List.ext_getElem? λj=>?_];cases c:j=k
 .subst c;rw[Ut (by rw[Zql,];rw[(Ja.mp h).1]),Zv,h,e];rfl
 .rw[Zx λz=>c z.symm,]
def KJ{α:Type}{l:List α} {x y:α}(h:y∈l.set k x):y∈l\/y=x:=List.mem_or_eq_of_mem_set h
def SkP.row  {q:Pl}(h:SkP g i q)  (l:q.rows[k]?=!r)(e:a.1=r.1)(n:Km a.2.1=6\/∃j:3,a.2.1=jt g j)(lo:1<=⇑a.2.2/\⇑a.2.2<=33)
 (o:∀x∈a.2.2,0<=x.1/\x.1<=jB q/\-1000000000000000000000000000000<x.2/\x.2<1000000000000000000000000000000):SkP g i (q.name,q.givens,q.rows.set k a):=by
 let c:jB (q.name,q.givens,q.rows.set k a)=jB q:=by
  simp_all[jB]
 rw[(by rw[c,];rw[h.tl],h.nm,λx f=>?_,h.g1,h.g12,λz=>h.r1 (),λy b=>?_,λy b=>?_,λy b x f=>?_)]
 .rw[c,];rw[h.th x<|by rwa[<-DX l e]]
 .rcases KJ b with z|rfl
  .rw[h.hw y z]
  .rw[n]
 .rcases KJ b with z|rfl
  .rw[h.lo y z]
  .rw[lo]
 .rw[c,];obtain z|rfl:=KJ b
  .rw[h.it y z x f]
  .rw[o x f]
def SkP.put  {q:Pl}(h:SkP c i q)   {th:3}(b:q.rows[k]?=!r)(e:r.2.2[j]?=!x)(f:0<=th)(g:th<=jB q):SkP c i (q.name,q.givens,q.rows.set k %[r.1,r.2.1|r.2.2.set j %[th|x.2]]):=by
 let a:=Ua b;rw[h.row b 9 (h.hw r a) (by rw[Uh,];rw[h.lo r a]) λy l=>?_];obtain z|rfl:=KJ l
 .rw[h.it r a y z]
 .rw[(f,g,(h.it r a x<|Ua e).2.2)]
def SQ(x:Str):xl x=(not<|Km x):=by
 ext xl Km;cases a:x="all"<;>cases b:x="first"<;>simp[a,b]
def SkP.part  {q:Pl}(h:SkP f i q)   (b:q.rows[k]?=!r)(l:⇑r.2.2<=32):SkP f i (q.name,q.givens,q.rows.set k<|yj f c q r):=by
 let a:=Ua b;let lo:=h.lo r a;ext yj
 split
 .rw[h.row b 9 (h.hw r a) ?_ λy g=>?_]
  .ext
  .rcases Jd.mp g with z|z
   .rw[h.it r a y z]
   .rw[h.it r a y<|UB z]
 .rw[h.row b 9 (.inr ?_) lo<|h.it r a];let(-j,_,e):=h.nm
  split
  .rw[(j,e)]
  .rw[(32,9)]
def xQ.dbl  (h:xQ E 0 F)(d:wR F o):xQ E 0 o:=by
 obtain⟨j,z,q,G,H,I,rfl⟩|⟨i,q,j,y,p,G,u,rfl⟩|⟨i,q,k,r,y,p,J,u,rfl⟩:=d
 .let a:=h.at_ H;let b:=h.at_ I;rw[UK]at a b;rw[h.set<|by
   rw[UK,];let(-m,O,e):=a.nm;rw[(b.tl,(m,(),e),b.th,b.g1,b.g12,b.r1,b.hw,b.lo,b.it)]]
 .let b:=h.at_ p;rw[h.set ?_];let f:jB (q.name,q.givens.set (⇑q.givens-1) y,q.rows)=jB q:=by rw[KB,KB,Uh]
  rw[(by rw[f,];rw[b.tl],b.nm,λx B=>?_,by rw[Uh,];rw[b.g1],by rw[Uh,];rw[b.g12],b.r1,b.hw,b.lo,by rw[f,];rw[b.it])];rw[f,];rw[b.th x ?_];rcases Jd.mp (show x∈q.givens.set (⇑q.givens-1) y++q.rows.map (·.1)from B)with z|z
  .rcases KJ z with z|rfl
   .rw[Uo _ z]
   .rw[Uo _<|Ua u]
  .rw[Uf _ z]
 .let b:=h.at_ p;rw[h.set ?_];let f:jB (q.name,q.givens,q.rows.set k %[y,r.2.1|r.2.2])=jB q:=by rw[KB,KB,Uh]
  let L:=Ua J;let g:∀s∈q.rows.set k %[y,r.2.1|r.2.2],∃l∈q.rows,s.2=l.2:=λs c=>by
   obtain z|rfl:=KJ c
   .rw[(s,z,9)]
   .rw[(r,L,9)]
  rw[(by rw[f,];rw[b.tl],b.nm,λx B=>?_,b.g1,b.g12,λz=>b.r1<|by rw[<-List.length_eq_zero_iff]at z ⊢;rwa[Uh]at z,λs c=>?_,λs c=>?_,λs c=>?_)]
  .rw[f,];rw[b.th x ?_];rcases Jd.mp (show x∈q.givens++(q.rows.set k %[y,r.2.1|r.2.2]).map (·.1)from B)with z|z
   .rw[Uo _ z]
   .let(-s,c,rfl):=Jb.mp z;obtain w|rfl:=KJ c
    .rw[Uf _<|Jb.mpr (s,w,9)]
    .rcases Jd.mp u with w|w
     .rw[Uo _ w]
     .let(-v,M,e):=Jb.mp w;rw[Uf _<|Jb.mpr (v,UB M,e)]
  .let(l,n,e):=g s c;rw[e,];rw[b.hw l n]
  .let(l,n,e):=g s c;rw[e,];rw[b.lo l n]
  .let(l,n,e):=g s c;rw[e,f];rw[b.it l n]
theorem IS  :∀{t:List (Str×3)},(t.map (·.1)).Nodup->%[x|v]∈t->qH t x=!v
 |[],_,h=>nomatch h
 |%[y|w]::t,nd,h=>by
  let(b,a):=Je.mp nd;obtain e|h:=Ux.mp h
  .cases e;rw[Dh _ _ _]
  .let:y≠x:=by grind
   let e:qH (%[y|w]::t) x=qH t x:=by
    simp_all[qH]
   rw[e,];rw[IS a h]
def SR{α:Type}{l:List α} {x:α}(h:l[i]?=!x):l.take (i+1)=l.take i++[x]:=by rw[List.take_add_one,h];rfl
def ku (b:(a.map (·.name)).Nodup)  (h:a[i]?=!p):qH (qS a) p.name=! yC (qS<|a.take i) p:=IS (by rw[Y2,];rw[b])<|by
 let(-u,c):=Di (a.drop<|i+1) (qS<|a.take<|i+1);let e:qS a=qS (a.take<|i+1)++u:=by
  grind[qS,List.foldl_append,List.take_append_drop]
 rw[e,SR h,Bt];simp
def SS(t:List (Str×3))(q:Pl)(r:Str×Str×Js):yC t (q.name,q.givens,q.rows++[r])=yC t q+1+if xl r.2.1 then(qH t r.2.1).getD 0 else 0:=by
 ext yC;rw[List.filter_append,Ud,List.sum_append,Ub]
 induction c:xl r.2.1 with
 |true=>
  rw[List.filter_cons_of_pos (p:=λr:Str×Str×Js=>xl r.2.1) c,];simp;lia
 |false=>
  rw[List.filter_cons_of_neg (by rw[c,];rw[Zj]),];simp;lia
def IT (W:WsOk a){i:5}(h:i<34):a[i]?=! jt a (i:3):=by
 let b:=W.len;ext jt;rw[Vb () (),Uk,Ul,Zqg ()];rfl
def IU (W:WsOk c){i j:5}(l:i<34)(m:j<34)(e:jt c (i:3)=jt c (j:3)):i=j:=by
 let b:=IT W m;rw[<-e]at b;let(d,f):=Ja.mp (IT W l);let(g,h):=Ja.mp b;let a:=W.nd;rw[List.Nodup,Va]at a;obtain z|z|z:=Nat.lt_trichotomy i j
 .rw[Zn (f.trans h.symm)<|a i j d g z]
 .rw[z]
 .rw[Zn (h.trans f.symm)<|a j i g d z]
def BW.nodup   (B:BW l n s)(W:WsOk l)(E:⇑s.ps<33):((s.ps++[s.q]).map (·.name)).Nodup:=by
 let f:∀(i:5)(x:Str),((s.ps++[s.q]).map (·.name))[i]?=!x->x=jt l (i:3)/\i<34:=λi x h=>by
  rw[Zv]at h;cases c:i<⇑s.ps
  .rw[Ui c]at h
   induction g:s.ps[i]? with
   |none=>rw[g]at h;cases h
   |some p=>
    rw[g]at h;obtain rfl:=Zqi h;rw[((B.all i p g).1.nm,())]
  .rw[Us ()]at h;let:i-⇑s.ps=0:=by
    rcases Nat.eq_zero_or_pos (i-⇑s.ps)with z|z
    .rw[z]
    .rw[Vj (by simp;lia)]at h;cases h
   rw[this]at h;obtain rfl:=Zqi h;let o:i=⇑s.ps:=()
   rw[(by rw[o,];rw[B.last.nm],())]
 rw[List.Nodup,Va];intro i j g r u e;let(a,v):=f i _ (Zqg g);let(b,y):=f j _ (Zqg r);let:=IU W v y<|a.symm.trans<|e.trans b;lia
structure GW(n:5)(s:Bst):4 where
 two:2*⇑s.ps<=n/\(s.q.rows ≠[]->2*⇑s.ps+1<=n)
 ld:∀(i:5)(p:Pl),s.ps[i]?=!p->xi s.ld (i:3)=yC (qS<|s.ps.take i) p/\yC (qS<|s.ps.take i) p<=1900+n
 x:s.x=yC (qS s.ps) s.q
 xb:s.x<=1900+n
def GW.row   (G:GW n s)(B:BW e n s)(W:WsOk e)(z:n<=31)(a b:3):GW (n+1) (s.ps,(s.q.name,s.q.givens,s.q.rows++[(qp e s.ps s.q s.ld s.x a b).1]),s.ld,(qp e s.ps s.q s.ld s.x a b).2):=by
 let two:=G.two;let E:=G.xb;rw[((),λi p j=>((G.ld i p j).1,U0 (G.ld i p j).2 ()),?_,?_)]
 .rw[SS,<-G.x];ext qp
  split
  .rename_i c;let(!_,o,_):=c;let pl:=Jh.mpr o;let r:0<=a/04%(⇑s.ps:3):=UC _ ();let u:a/04%(⇑s.ps:3)<(⇑s.ps:3):=UE _ ();have(k,hk):∃k:5,a/04%(⇑s.ps:3)=k:=((a/04%(⇑s.ps:3)).toNat,());rw[hk]at r u ⊢;let v:k<⇑s.ps:=()
   let f:s.ps[k]?=! qr s.ps (k:3):=by
    ext qr;rw[Uk,Ul,Zqg v];rfl
   let l:=B.nodup W ();rw[Ud]at l;let g:xl (qr s.ps (k:3)).name=6:=by
    let y:(qr s.ps (k:3)).name∈e:=by rw[(B.all k _ f).1.nm,];rw[W.at_ _]
    let:=(W.ok _ y).noHow;ext xl;unfold Km at this;rw[this,];rfl
   rw[g,Zd 9,ku (Jf.mp l).1 f,(G.ld k _ f).1];rfl
  .let g:xl (z5 a)=7:=by ext z5;split<;>decide+kernel
   rw[g,];simp
 grind[qp]
def SU(t:List (Str×3))(nm b:Str)(e c:Yg) (h:f.map (·.2.1)=d.map (·.2.1)):yC t (nm,e,f)=yC t (b,c,d):=by
 let a:∀l:List (Str×Str×Js),((l.filter λr=>xl r.2.1).map λr=>(qH t r.2.1).getD 0)=((l.map (·.2.1)).filter xl).map λw=>(qH t w).getD 0:=λl=>by
  rw[List.filter_map,Zw];rfl
 ext yC;rw[a,a,h];let:=Zt List.length h;rw[Zql,Zql]at this;rw[this,]
def GW.up  (G:GW n s)(c:a.ps=s.ps)(f:a.ld=s.ld)(e:a.x=s.x)(g:a.q.rows.map (·.2.1)=s.q.rows.map (·.2.1)):GW (n+1) a:=by
 let two:=G.two;let j:=G.xb;rw[((),λi p b=>?_,?_,by rw[e,];lia)]
 .rw[c]at b ⊢;rw[f,];rw[((G.ld i p b).1,U0 (G.ld i p b).2 ())]
 .rw[e,c,G.x];rw[SU _ _ _ _ _ g.symm]
def SW   (G:GW n s)(B:BW l n s)(W:WsOk l)(m:n<=31)(f g:3):GW (n+1) (Wi l s f g):=by
 ext Wi
 split
 .rename_i c;let two:=G.two.2 c.2;let u:=G.xb;let o:=B.ll;rw[((),λi p d=>?_,?_,by show(0:3)<=_;lia)]
  .let d:=d;cases z:i<⇑s.ps
   .rw[Ui z]at d;have(a,b):=G.ld i p d;let h:(s.ps++[s.q]).take i=s.ps.take i:=by grind
    let j:xi (s.ld++[s.x]) (i:3)=xi s.ld (i:3):=by
     ext xi;rw[Uk,Ul,Ul,Ui ()]
    rw[h,j];rw[(a,U0 b ())]
   .let r:=(Ja.mp d).1;rw[Ub,Uj]at r;let t:i=⇑s.ps:=()
    subst t;rw[Us (Zf _),UY]at d;obtain rfl:=Zqi d;let h:(s.ps++[s.q]).take ⇑s.ps=s.ps:=Ve;let j:xi (s.ld++[s.x]) (⇑s.ps:3)=s.x:=by
     ext xi;rw[Uk,Ul,<-o,Us (Zf _),UY];rfl
    rw[h,j,G.x];rw[(9,by rw[<-G.x];lia)]
  rfl
 .split
  .rw[G.up 9 9 9 9]
  .split
   .rename_i c;rw[G.up 9 9 9 ?_];let e:=B8 c.2.1
    conv=>rhs;rw[e]
    rw[Ud,Ud];rfl
   .rw[G.row B W m _ _]
theorem IV(a:Ye):∀j,j<=31->GW j (Qn a j)
 |0,_=>by
  rw[((Zf _,λh=>Zn 9 h),λi p b=>?_,?_,?_)]
  .let b:([]:List Pl)[i]?=!p:=b;simp at b
  .show(0:3)=yC (qS []) (_,_,[]);ext yC;rfl
  .show(0:3)<=1900+((0:5):3);lia
 |j+1,h=>SW (IV a j ()) (YB a j) (KQ a).2 () _ _
def IW(a:Ye):GW 31 (Kf a):=by
 let c:=BA a;let G:=IV a (Qd a) ();let up:∀{n m:5}{s:Bst},n<=m->GW n s->GW m s:=λ{n m s}h g=>have:=g.two;have:=g.xb;((),λi p b=>((g.ld i p b).1,U0 (g.ld i p b).2 ()),g.x,());ext Kf v9
 split
 .rw[up ()<|G.row (YB a _) (KQ a).2 () 0 0]
 .rw[up () G]
def PlW.pl    (P:PlW j i c 31 q)(W:WsOk j)(l:q.rows ≠[])(F:∀p∈c,⇑p.givens<=12)(fr:∀p∈c,p.name≠q.name)(o:yC (qS c) q<=2000):PL c q:=by
 let sz:=P.sz;let f:=λk=>(W.ok _<|W.at_ k).nm;let G:(q.givens++q.rows.map (·.1)).length=⇑q.givens+⇑q.rows:=by simp
 rw[(by rw[P.nm,];rw[f _],fr,λx s=>?_,?_,P.g1,P.g12,Jh.mpr l,(),λk r g=>?_,λr l=>?_,o)]
 .let(k,g):=Ug s;rw[P.th k x g,];rw[f _]
 .rw[List.Nodup,Va];intro a b u v y e;let H:=P.th a _<|Zqg u;let I:=P.th b _<|Zqg v;let z:jt j ((i+1+a:5):3)=jt j ((i+1+b:5):3):=by
   ext
  let:=IU W () () z;lia
 .let R:=P.rw_ k r g;rw[(R.its,R.low,?_)];obtain⟨_,h⟩|⟨_,p,n,_,h⟩:=R.how
  .omega
  grind
 .have(k,g):=Ug l;rcases(P.rw_ k r g).how with ⟨h,_⟩|⟨_,p,n,B,E⟩
  .unfold Km at h;rw[UF,decide_eq_true_eq,decide_eq_true_eq]at h;rw[h.imp_right .inl]
  .rw[.inr<|.inr ?_];rw[B,E];rw[Jb.mpr (p,n,9)]
def XH(d:Ye):LB (Qf d)/\1<=⇑(Qf d)/\⇑(Qf d)<=20:=by
 let(B,g):=D4 d;let G:=IW d;let W:=(KQ d).2;let two:=G.two.2 g;let o:=B.nodup W ();let nm:=B.names W;ext Qf;generalize Kf d=s at*;rw[(λi p f=>?_,(),())];let r:=(Ja.mp f).1;let fr:∀q∈(s.ps++[s.q]).take i,q.name≠p.name:=λq l e=>by
  let(j,m):=Ug l;let t:=(Ja.mp m).1;rw[Ue]at t;rw[U4 ()]at m;rw[List.Nodup,Va]at o;let a:((s.ps++[s.q]).map (·.name))[j]?=!q.name:=by rw[Zv,m];rfl
  let b:((s.ps++[s.q]).map (·.name))[i]?=!p.name:=by rw[Zv,f];rfl
  let(u,v):=Ja.mp a;let(w,y):=Ja.mp b;rw[o j i u w ()<|v.trans<|e.trans y.symm]
 let h:∀q∈(s.ps++[s.q]).take i,⇑q.givens<=12:=λq l=>(nm q<|UB l).2.2;cases c:i<⇑s.ps
 .let n:(s.ps++[s.q]).take i=s.ps.take i:=by grind
  rw[n]at fr h ⊢;rw[Ui c]at f;let(P,z):=B.all i p f;rw[P.pl W z h fr<|U0 (G.ld i p f).2 ()]
 .rw[Ub,Uj]at r;let A:i=⇑s.ps:=()
  subst A;let n:(s.ps++[s.q]).take ⇑s.ps=s.ps:=Ve;rw[n]at fr h ⊢;rw[Us (Zf _),UY]at f;obtain rfl:=Zqi f;rw[B.last.pl W g h fr<|by rw[<-G.x];let:=G.xb;lia]
def Wl(a:Ye)  (h:(Qf a)[i]?=!q):PlW (qc a) i ((Qf a).take i) 31 q/\q.rows ≠[]:=by
 let(B,b):=D4 a;unfold Qf at h ⊢;let d:=(Ja.mp h).1;rw[Ub,Uj]at d;cases c:i<(Kf a).ps.length
 .rw[Ui c]at h;rw[Vo (),];rw[B.all i q h]
 .let e:i=(Kf a).ps.length:=()
  subst e;rw[Us (Zf _),UY]at h;obtain rfl:=Zqi h;rw[Vo (Zf _),Uy];rw[(B.last,b)]
def SX(a:Ye) (h:p∈Qf a):∃j:5,p.name=jt (qc a) (j:3):=by
 let(j,b):=Ug h;rw[(j,(Wl a b).1.nm)]
def BU(a:Ye){i:5} (h:(Qf a)[i]?=!q) (b:r∈q.rows):⇑r.2.2<=32:=by
 let(P,_):=Wl a h;let(k,c):=Ug b;let R:=P.rw_ k r c;obtain⟨_,z⟩|⟨_,p,d,_,z⟩:=R.how
 .rw[z]
 .let(j,e):=Ug (UB d);let:=(Wl a e).1.g12;lia
theorem IX :∀{a:List Pl}{i:5},(∀(j:5)(q:Pl),a[j]?=!q->SkP b (i+j) q)->xQ b i a
 |[],_,_=>trivial
 |p::a,i,h=>(h 0 p 9,IX λj q c=>by rw[show i+1+j=i+(j+1)by lia,];rw[h (j+1) q c])
def Av(f:Ye):xQ (qc f) 0 (Qf f):=IX λj q h=>by rw[UK,];(
 let(P,d):=Wl f h;let sz:=P.sz;let n:=KB q;rw[((),(j,Zf _,P.nm),λx g=>?_,P.g1,P.g12,d,λr d=>?_,λr d=>(?_,by let:=BU f h d;lia),λr d x g=>?_)]
 .have(k,c):=Ug g;let i:=(Ja.mp c).1;rw[(k,by ext jB;lia,P.th k x c)]
 .have(k,c):=Ug d;rcases(P.rw_ k r c).how with ⟨z,_⟩|⟨_,p,l,e,_⟩
  .rw[.inl z]
  .have(j,m):=SX f (UB l);rw[.inr (j,e.trans m)]
 .have(k,c):=Ug d;rw[(P.rw_ k r c).low]
 .have(k,c):=Ug d;let i:=(Ja.mp c).1;let R:=(P.rw_ k r c).its;let a:=R.rng x g;let b:=R.far x g;lia)
def SY (b:a.Nodup) (c:0<=i)(d:i<(⇑a:3))(f:0<=j)(g:j<(⇑a:3))(e:jM a i=jM a j):i=j:=by
 grind[jM,List.getD_eq_getElem?_getD,Zqg,List.getElem?_inj]
theorem IY (f:c.Nodup):∀{a b:Js},(∀i∈a,0<=i.1/\i.1<(⇑c:3))->(∀i∈b,0<=i.1/\i.1<(⇑c:3))->(a.map λi=>%[jM c i.1|i.2])=(b.map λi=>%[jM c i.1|i.2])->a=b
 |[],[],_,_,_=>9
 |[],_::_,_,_,e=>by cases e
 |_::_,[],_,_,e=>by cases e
 |x::a,y::b,ha,hb,e=>by
  injection e with g l
  let m:=Zt Prod.snd g;let h:=ha x Zqs;let j:=hb y Zqs;let:=SY f h.1 h.2 j.1 j.2<|Zt Prod.fst g;rw[IY f (λi d=>ha i<|Zqm _ d) (λi d=>hb i<|Zqm _ d) l,Prod.ext this m]
theorem IZ (g:c.Nodup):∀{d a:List (Str×Str×Js)}{k:5},(∀r∈d,∀i∈r.2.2,(0<=i.1/\i.1<(⇑c:3))/\jM j i.1=jM c i.1)->y8 c ((KA k d).map<|qL j) a->a=d
 |[],a,k,_,h=>h
 |r::d,a,k,hr,h=>by
  let(t u,rfl,(e,b),m):=h;rw[IZ g (λs n=>hr s<|Zqm _ n) m,];injection e with o f
  injection f with f e3
  let l:=hr r Zqs;let p:(r.2.2.map λi=>%[jM j i.1|i.2])=r.2.2.map λi=>%[jM c i.1|i.2]:=Vq λi b=>by rw[(l i b).2,]
  rw[p]at e3;let:=IY g (λi b=>(l i b).1) b e3;rw[Prod.ext o.symm (Prod.ext f.symm this.symm),]
def SZ   (h:PlQ p)(j:(p.givens++p.rows.map (·.1)).Nodup)(st:∀r∈p.rows,qd (jB p) r=7)(m:PlM (z6 d i k p) q):q=p:=by
 let e:(z6 d i k p).givens++(z6 d i k p).rows.map (·.2.1)=p.givens++p.rows.map (·.1):=Au d i k p;let R:=m.rs;rw[e]at R;let:=IZ j (λr f x g=>by
  let(!a,b,_):=h.it r f x g;let s:=st r f;unfold qd at s;rw[UU]at s;let s:=s x g;let lt:x.1<jB p:=by simpa using s
  rw[((a,lt),IQ a lt)])<|show y8 _ ((KA (k+1+⇑p.givens) p.rows).map<|qL<|xU d i p) q.rows from R
 let(l,n,o):=q;let(t,u,v):=p;let a:l=t:=m.nm;let b:n=u:=m.gs;let c:o=v:=this;rw[a,b,c]
theorem La :∀{a c:List Pl}{i k:5},(∀p∈a,PlQ p)->(∀p∈a,(p.givens++p.rows.map (·.1)).Nodup)->(∀p∈a,∀r∈p.rows,qd (jB p) r=7)->zq (xB f i k a) c->c=a
 |[],c,i,k,_,_,_,m=>m
 |p::a,c,i,k,h,nd,st,m=>by
  let(q r,rfl,d,e):=m;rw[SZ (h p Zqs) (nd p Zqs) (st p Zqs) d,La (λq b=>h q<|Zqm _ b) (λq b=>nd q<|Zqm _ b) (λq b=>st q<|Zqm _ b) e]
theorem Lb :∀{d c:List Pl}{i k:5},zq (xB f i k d) c->c.map (·.name)=d.map (·.name)/\c.map xT=d.map xT
 |[],c,i,k,m=>by rw[m,];rw[(9,9)]
 |p::d,c,i,k,m=>by
  let(q r,rfl,g,h):=m;let(a,b):=Lb h;let e:(z6 f i k p).givens++(z6 f i k p).rows.map (·.2.1)=p.givens++p.rows.map (·.1):=Au f i k p;let t:xT q=xT p:=by
   ext xT;rw[<-e,g.gs,g.rs.out.2.1]
  rw[(by rw[Zl,Zl,a,g.nm];rfl,())]
def Ta (a:f.map (·.name)=g.map (·.name))(b:f.map xT=g.map xT):zB f↔zB g:=by
 let h:∀{d c:List Pl},d.map xT=c.map xT->(∀p∈c,vn (xT p))->∀p∈d,vn (xT p):=λ{d c}e h p i=>by
  let:xT p∈c.map xT:=by rw[<-e];rw[Jb.mpr (p,i,9)]
  let(-q,j,l):=Jb.mp this;rw[<-l];rw[h q j]
 grind[zB]
theorem Lc :∀{d c:List Pl}{i k:5},zq (xB e i k d) c->⇑c=⇑d/\∀q∈c,∃p∈d,∃j m,PlM (z6 e j m p) q
 |[],c,i,k,m=>by rw[m,];simp
 |p::d,c,i,k,m=>by
  let(q r,rfl,f,g):=m;let(a,b):=Lc g;rw[(by rw[Zu,Zu,a],Jp.mpr ((p,Zqs,i,k,f),λy l=>?_))];let(-z,n,(j,m,h)):=b y l;rw[(z,Zqm _ n,j,m,h)]
def Tb   (h:∀p∈v,PlQ p)(L:⇑v<=20)(m:zq (xB c i k v) A):SnB A:=by
 let(a,b):=Lc m;rw[(λq B=>?_,())];let(-p,C,(j,n,l)):=b q B;let g:=h p C;let(!E,M,N,F):=l.rs.out;let G:⇑q.rows=⇑p.rows:=by
  rw[E,];show((KA (n+1+⇑p.givens) p.rows).map<|qL<|xU c j p).length=_;rw[Zql,IC]
 let d:∀r∈q.rows,∃s∈p.rows,r.1=s.1/\r.2.1=s.2.1:=λr f=>by
  let(-z,H,I):=F r f;let(-y,o,rfl):=Jb.mp (show z∈(KA (n+1+⇑p.givens) p.rows).map (qL<|xU c j p)from H);let e:=I.1;let e:%[y.2.1,y.2.2.1|y.2.2.2.map λi=>%[jM (xU c j p) i.1|i.2]]=%[r.1,r.2.1|r.2.2.map λi=>%[jM ((z6 c j n p).givens++(z6 c j n p).rows.map (·.2.1)) i.1|i.2]]:=e;injection e with J t
  injection t with t _
  rw[(y.2,?_,J.symm,t.symm)];rw[<-Ar p.rows (n+1+⇑p.givens)];rw[Jb.mpr (y,o,9)]
 let w:q.givens=p.givens:=l.gs;let nm:q.name=p.name:=l.nm;rw[(by rw[nm,];rw[g.nm.1.mono ()],λy o=>(g.gs y<|by rw[<-w];rw[o]).1.mono (),λr f=>?_,λr f=>?_,?_)]
 .let(s,u,e,_):=d r f;rw[e,];rw[(g.rn s u).1.mono ()]
 .let(s,u,_,e):=d r f;rw[e,];rw[(BS<|g.hw s u).mono ()]
 .rw[w,G];let:=g.gl;let:=g.rl;lia
section
variable   (hw:∀w∈ws,jP w)(hn:ws ≠ [])(h:∀p∈ps,PlQ p)(f:vX ws 0 ps)(ne:ps ≠ [])(hl:⇑ps<=20)
include hw hn h f ne hl
theorem Tc (e:qE 0 ps=!m):Kb [.str (Txt.join "\n"<|Ql ws 0 ps)]=.ex "NoName" [.int m]:=by
 obtain⟨c,b,a⟩|⟨ok,_⟩:=IN hw hn h ne hl
 .rw[DS h f b]at e;rw[a,Zqi e]
 .rw[(DU h f ok).1]at e;cases e
theorem BV(e:qE 0 ps=8):∃a,(a.map (·.name)=ps.map (·.name)/\a.map xT=ps.map xT)/\(zB ps->a=ps)/\SnB a/\Kb [.str (Txt.join "\n"<|Ql ws 0 ps)]=(yK [JL a]).bind λ_=>.ok<|JL a:=by
 obtain⟨g,b,c⟩|⟨ok,a,m,c⟩:=IN hw hn h ne hl
 .rw[DS h f b]at e;cases e
 .rw[(a,Lb m,λn=>La h (λp d=>(n.2 p d).2) (DU h f ok).2 m,Tb h hl m,c)]
theorem Td(e:qE 0 ps=8)(n:¬zB ps):Kb [.str (Txt.join "\n"<|Ql ws 0 ps)]=.ex "BadName" []:=by
 let(-d,(a,b),_,S,g):=BV hw hn h f ne hl e;let c:=D7 S;rw[KZ λz=>n<|(Ta a b).mp z]at c
 simp_all[yK,zF]
theorem Te(e:qE 0 ps=8)(n:zB ps)(p:¬kg ps):Kb [.str (Txt.join "\n"<|Ql ws 0 ps)]=.ex "BadPlan" []:=by
 let(-d,_,a,S,g):=BV hw hn h f ne hl e;obtain rfl:=a n;let c:=D7 S;rw[WT n]at c;let b:=HM S;rw[KZ p]at b
 simp_all[yK,zF]
theorem Tf(e:qE 0 ps=8)(n:zB ps)(p:kg ps)(q:¬mj ps):Kb [.str (Txt.join "\n"<|Ql ws 0 ps)]=.ex "BadPart" []:=by
 let(-g,_,a,S,i):=BV hw hn h f ne hl e;obtain rfl:=a n;let c:=D7 S;rw[WT n]at c;let b:=HM S;rw[WT p]at b;let d:=RJ S n.1.2;rw[KZ q]at d
 simp_all[yK,zF]
theorem Th(e:qE 0 ps=8)(n:zB ps)(L:LB ps)(a:1<=⇑ps):Kb [.str (Txt.join "\n"<|Ql ws 0 ps)]=.ok (JL ps):=by
 let(-d,_,b,S,c):=BV hw hn h f ne hl e;obtain rfl:=b n;rw[c,sK L a hl];rfl
end
theorem Ld :∀{a:List (Str×Str×Js)}{k:5},(∀r∈a,qd t r=7)->Ky t k a=8
 |[],_,_=>9
 |r::a,k,h=>by
  rw[DV,Ze (by rw[h r Zqs,];simp)];rw[Ld λs b=>h s<|Zqm _ b]
theorem Le :∀{a:List (Str×Str×Js)}{k:5}{r:Str×Str×Js},r∈a->qd t r=6->∃m,Ky t k a=!m
 |s::a,k,r,h,e=>by
  rw[DV,];cases c:qd t s=6
  .ext
  .rw[Ze c,];obtain rfl|h:=Ux.mp h
   .rw[Zn e c]
   .rw[Le h e]
theorem Lf:∀{a:List Pl}{k:5},(∀p∈a,∀r∈p.rows,qd (jB p) r=7)->qE k a=8
 |[],_,_=>9
 |p::a,k,h=>by
  rw[DW,Ld (h p Zqs)];rw[Lf λq b=>h q<|Zqm _ b]
theorem Lg:∀{a:List Pl}{k:5}{p:Pl}{r:Str×Str×Js},p∈a->r∈p.rows->qd (jB p) r=6->∃m,qE k a=!m
 |q::a,k,p,r,h,hr,e=>by
  rw[DW,];obtain rfl|h:=Ux.mp h
  .let(-m,b):=Le (k:=k+1+⇑p.givens) hr e
   ext
  .cases(Ky (jB q) (k+1+⇑q.givens) q.rows)with
   |some m=>rw[(m,9)]
   |none=>rw[Lg h hr e]
def uP(a:Yg)(b:List Pl):4:=∀(i:5)(q:Pl),b[i]?=!q->q.name=jt a (i:3)/\∀(k:5)(x:Str),(q.givens++q.rows.map (·.1))[k]?=!x->x=jt a ((i:3)+1+(k:3))
def DY (W:WsOk b)  (m:0<=a)(n:a+(⇑xs:3)<=34)(h:∀(k:5)(x:Str),xs[k]?=!x->x=jt b (a+(k:3))):vn xs:=by
 rw[(λx c=>?_,?_)]
 .let(k,d):=Ug c;rw[h k x d,];rw[(W.ok _<|W.at_ _).nm.2]
 .rw[Va.mpr λi j f g l e=>?_];let:=BT W (i:=a+(i:3)) (j:=a+(j:3)) () () () () (by rwa[<-h i _ (Zqg f),<-h j _ (Zqg g)]);lia
def Lh (W:WsOk a)(k:3):vn [jt a k]:=(λx b=>by rw[Jc.mp b,];rw[(W.ok _<|W.at_ _).nm.2],())
def uP.nmB (W:WsOk f) (h:uP f n)(S:xQ f 0 n)(l:⇑n<=30) (H:B=[]\/∃c,B=[qV f c]):zB (n++B):=by
 let r:∀(k:5)(x:Str),(n.map (·.name))[k]?=!x->x=jt f (0+(k:3)):=λk x b=>by
  rw[Zv]at b
  induction hq:n[k]? with
  |none=>ext
  |some q=>
   rw[hq]at b;rw[<-Zqi b,Int.zero_add];rw[(h k q hq).1]
 let s:=DY W (xs:=n.map (·.name)) (a:=0) () () r;let E:∀p∈n,vn (xT p):=λp u=>by
  let(i,F):=Ug u;let I:=(S.at_ F).tl;rw[UK]at I;rw[DY W (xs:=xT p) (a:=(i:3)+1) () (by grind[jB,xT]) (h i p F).2]
 obtain rfl|⟨c,rfl⟩:=H
 .rw[ZA,];rw[(s,E)]
 .let J:(qV f c).name=jt f 33:=by ext qV;split;rfl;split<;>rfl
  rw[(?_,λp u=>?_)]
  .rw[Ud,List.map_singleton,J];rw[(λx b=>?_,Jf.mpr (s.2,(),λx b y L e=>?_))]
   .rcases Jd.mp b with z|z
    .rw[s.1 x z]
    .rw[Jc.mp z,];rw[(W.ok _<|W.at_ _).nm.2]
   .rw[Jc.mp L]at e;let(k,G):=Ug b;let v:=(Ja.mp G).1;rw[Zql]at v;let:=BT W (i:=0+(k:3)) (j:=33) () () () () (by rw[<-r k x G,e]);lia
  .rcases Jd.mp u with z|z
   .rw[E p z]
   .rw[Jc.mp z,];ext qV xT
    split
    .rw[Lh W _]
    .split
     .rw[DY W (a:=0) () ?_ λk x b=>?_]
      .show(0:3)+(⇑(f.take 13++[jt f 13]):3)<=34;rw[Ub,Ue,W.len];simp
      .let b:(f.take 13++[jt f 13])[k]?=!x:=b;let M:f ≠[]:=λz=>by let:=W.len;rw[z]at this;cases this
       rw[Int.zero_add,];cases o:k<13
       .rw[Ui (by rw[Ue,W.len];lia),U4 o]at b;let g:=YI M (k:3);rw[W.len,Vb () (),Uk,b]at g;rw[Zqi g]
       .let v:=(Ja.mp b).1;rw[Ub,Ue,W.len,Uj]at v;let o:k=13:=()
        subst o;rw[Us (by rw[Ue,W.len];lia),Ue,W.len]at b;rw[(Zqi b).symm]
     .rw[Lh W _]
theorem uP.set  (h:uP g e)  (f:e[i]?=!q)(l:b.name=q.name)(n:b.givens++b.rows.map (·.1)=q.givens++q.rows.map (·.1)):uP g (e.set i b):=λj p a=>by
 cases c:j=i
 .subst c;rw[Ut (Ja.mp f).1]at a;obtain rfl:=Zqi a;rw[l,n];rw[h j q f]
 .rw[Zx λz=>c z.symm]at a;rw[h j p a]
def DZ(a:Ye):uP (qc a) (Qf a):=λi q b=>((Wl a b).1.nm,(Wl a b).1.th)
def Ti  :∀{t:List (Str×3)},qH t x=!v->x∈t.map (·.1):=λ{t}h=>by
 apply Vt;intro z;rw[kn.mpr z]at h;cases h
def Li(a:Ye){i:5} (h:(Qf a)[i]?=!q):tH q:=by
 let(P,c):=Wl a h;let sz:=P.sz;rw[((P.g1,P.g12),(Jh.mpr c,()),λk r b=>?_)];let R:=P.rw_ k r b;let:=BU a h<|Ua b;rw[((R.low,()),R.its)]
structure StG(hp:HP)(p g:Addr)(as bs:List (Addr×Addr×Addr))(ps es:List Pl):4 where
 lp:jc hp p=!(.lst<|(as++bs).map λb=>.adr b.1)
 lg:LsP hp g as ps
 le:jY hp bs es
 nd:(p::g::jI (as++bs)).Nodup
theorem jY.app :∀{e bs:List (Addr×Addr×Addr)}{b c:List Pl},jY f e b->jY f bs c->jY f (e++bs) (b++c)
 |[],bs,b,c,h,k=>by rw[show b=[]from h,];rw[k]
 |a::e,bs,b,c,h,k=>by
  let(q r,rfl,g,i):=h;rw[(q,r++c,9,g,i.app k)]
def StG.plans    (h:StG a p g b bs c e):LsP a p (b++bs) (c++e):=
 (h.lp,h.lg.all.app h.le,h.nd.sublist<|List.Sublist.cons₂ _<|List.sublist_cons_self _ _)
def StG.chg     (h:StG j p g e bs v l)(c:Chg j g e a o):StG o.2 p g e bs a l:=by
 let(n,r):=Je.mp h.nd;let(s,f):=Je.mp r;rw[WR]at n s f;let(!y,B,u):=Jf.mp f;rw[((c.out p ()<|by rw[h.lp,];simp).trans h.lp,c.ls,h.le.mono λb i=>c.out b (λz=>u b z b i 9)<|h.le.has b i,h.nd)]
def Chg.swap     (h:StG b p g e [] j [])(c:Chg b p e a o):Chg b g e a o:=by
 let(l,i):=Je.mp h.nd;let(f,n):=Je.mp i;rw[ZA]at f;rw[(c.non,((c.out g f<|by rw[h.lg.hp_,];simp).trans h.lg.hp_,c.ls.all,h.lg.nd),c.out)]
def StG.apd      (h:StG s p g l [] u [])(c:Apd s p l (u++[X]) o):∃a,StG o.2 p g l [a] u [X]:=by
 let(-a,L,fr):=c.ls;let(v,E):=Je.mp h.nd;let(F,G):=Je.mp E;rw[ZA]at v F G;let has:=h.lg.all.has;let H:jc s g≠8:=by rw[h.lg.hp_,];simp
 let I:g≠p:=λz=>v (by rw[z,];rw[Zqs]);let J:∀b∈jI l,b≠p:=by grind
 let(q,r,e,ha,Q):∃q r,[X]=q::r/\AtP o.2 a q/\r=[]:=by
  let:=L.all;let n:∀{j:List (Addr×Addr×Addr)}{f:List Pl},jY o.2 (j++[a]) (f++[X])->⇑j=⇑f->AtP o.2 a X:=λ{j}=>by
   cases(j)with
   |nil=>
    intro f h e;let:f=[]:=Jk.mp e.symm;subst this;let(q r,e,M,_):=h;injection e with i _
    rw[i,];rw[M]
   |cons c j O=>
    intro f h e
    cases(f)with
    |nil=>cases e
    |cons q f=>
     let(R r,i,_,y):=h;injection i with _ i
     rw[<-i]at y;rw[O y<|by simpa using e]
  rw[(X,[],9,n this h.lg.all.lenA,9)]
 injection e with i _
 rw[(a,L.hp_,((c.out g I H).trans h.lg.hp_,h.lg.all.mono λb B=>c.out b (J b B)<|has b B,h.lg.nd),(X,[],9,by rw[i,];rw[ha],9),?_)];let(S,T):=Je.mp L.nd
 grind[WR]
def Ea       (h:LsP c p e j)(f:e[i]?=!a)(g:AtP c a q)(d:List (Str×Str×Js)):Chg c p e (j.set i (q.name,q.givens,d)) %[.non|JC c a.2.2 (.lst<|d.map jn)]:=
 (9,h.rows f g d,λb l _=>Qa (by rw[g.rw_,];simp) λz=>l<|z ▸(DO f).2.2)
def yL(q:Pl):4:=∀r∈q.rows,∀x∈r.2.2,x.1<jB q
def yL.st (h:yL q):∀r∈q.rows,qd (jB q) r=7:=λr a=>by
 ext qd;rw[UU,];intro x b;let:=h r a x b;simp;lia
def Lj   :jB (q.name,q.givens,q.rows.set k r)=jB q:=by rw[KB,KB,Uh]
def yL.row (h:yL q)  (c:∀x∈a.2.2,x.1<jB q):yL (q.name,q.givens,q.rows.set k a):=λr e x b=>by
 rw[Lj,];rcases KJ (show r∈q.rows.set k a from e)with z|rfl
 .rw[h r z x b]
 .rw[c x b]
def yL.part  (h:yL q)   (e:q.rows[k]?=!r):yL (q.name,q.givens,q.rows.set k<|yj f c q r):=by
 let b:=Ua e;rw[h.row λx a=>?_];unfold yj at a
 split at a
 .rcases Jd.mp a with z|z
  .rw[h r b x z]
  .rw[h r b x<|UB z]
 .rw[h r b x a]
def yL.put (h:yL q)  {x:3×3} (a:q.rows[k]?=!r)(b:th<jB q):yL (q.name,q.givens,q.rows.set k %[r.1,r.2.1|r.2.2.set j %[th|x.2]]):=by
 rw[h.row λy c=>?_];obtain z|rfl:=KJ c
 .rw[h r (Ua a) y z]
 .rw[b]
def yL.dbl (h:∀p∈f,yL p)(d:wR f a):∀p∈a,yL p:=λp b=>by
 obtain⟨j,z,q,g,u,l,rfl⟩|⟨i,q,j,y,c,g,n,rfl⟩|⟨i,q,k,r,y,c,o,n,rfl⟩:=d
 .rcases KJ b with w|rfl
  .rw[h p w]
  .rw[h q<|Ua l]
 .rcases KJ b with w|rfl
  .rw[h p w]
  .intro r s x e;let:=h q (Ua c) r s x e
   simp_all[KB]
 .rcases KJ b with w|rfl
  .rw[h p w]
  .let:=h q<|Ua c;rw[this.row λx e=>this r (Ua o) x e]
def Eb(a:Ye):∀p∈Qf a,yL p:=λp c r d x e=>by
 let(i,f):=Ug c;let(P,_):=Wl a f;let(k,b):=Ug d;let g:=(Ja.mp b).1;let:=(P.rw_ k r b).its.rng x e;rw[KB,];lia
def Tj{q:Pl}   (a:q.rows[k]?=!r)(b:r.2.2[j]?=!x):
 ∃s∈(Pl.mk q.name q.givens<|q.rows.set k %[r.1,r.2.1|r.2.2.set j %[jB q|x.2]]).rows,qd (jB (q.name,q.givens,q.rows.set k %[r.1,r.2.1|r.2.2.set j %[jB q|x.2]])) s=6:=by
 rw[(_,XG (Ja.mp a).1,?_)];rw[Lj,];ext qd;rw[List.any_eq_true,];rw[(%[jB q|x.2],XG (Ja.mp b).1,())]
def Ec (W:WsOk b)(c:3):PlQ (qV b c)/\yL (qV b c)/\((qV b c).rows=[]\/∃nm h t,(qV b c).rows=[%[nm,h|[%[t|0]]]]):=by
 let nm:=λk=>(W.ok _<|W.at_ k).nm;let i:=UC (c/04) (show(13:3)≠0 by lia);ext qV
 split
 .rw[((nm _,λg e=>(),(),(),(),(),(),λr a=>by simp at a),λr a=>by simp at a,.inl 9)]
 .split
  .let f:⇑(b.take 13)=13:=by rw[Ue,W.len];lia
   let j:jB (jt b 33,b.take 13,[%[jt b 13,"all"|[%[c/04%13|0]]]])=14:=by rw[KB,f];rfl
   rw[((nm _,λg e=>(W.ok g<|UB e).nm,by rw[f,];lia,(),λr a=>?_,λr a=>?_,λr a=>?_,λr a x d=>?_),λr a x d=>?_,.inr<|jh _ _ _ 9)]
   .rw[Jc.mp a,];rw[nm _]
   .rw[Jc.mp a,];rw[.inl 9]
   .rw[Jc.mp a,];simp
   .rw[Jc.mp a]at d;rw[Jc.mp d,];let:((b.take 13++[%[jt b 13,("all":Str)|[%[c/04%13|(0:3)]]]].map (·.1)).length:3)=14:=j;rw[(i,?_,(by decide:(-1000000000000000000000000000000:3)<0),(by decide:(0:3)<1000000000000000000000000000000))];rw[this,];lia
   grind
  .rw[((nm _,(),(),(),λr a=>?_,λr a=>?_,λr a=>?_,λr a x d=>?_),λr a x d=>?_,.inr<|jh _ _ _ 9)]
   .rw[Jc.mp a,];rw[nm _]
   .rw[Jc.mp a,];rw[.inr<|.inl 9]
   .rw[Jc.mp a,];simp
   .rw[Jc.mp a]at d;rw[Jc.mp d,];rw[(by decide,(),by decide,by decide)]
   simp_all[KB]
theorem Ed :∀{ps a:List Pl}{i:5},vX b i ps->(∀p∈a,yL p)->vX b i (ps++a)
 |[],[],_,_,_=>trivial
 |[],e::a,i,h,k=>(xg λr=>jD λc z=>Zn z<|by rw[(k e Zqs).st r c,];simp,Ed (ps:=[]) trivial λp d=>k p<|Zqm _ d)
 |p::ps,a,i,h,k=>(h.1,Ed h.2 k)
def fz:qb:=Qk (yM<|Jz<|jd qI (jd j9 (jd JZ (ja 04)<|dC<|.int 08)<|dC<|.int 2)<|dC<|.int 1) (jr (Kk<|Qr B0<|J0 (vL<|ja 03)<|J0 (vL<|ja 1)<|J0 (vL<|jd jf (ja 05)<|dC<|.int 0) j0)<|zL<|j3 06<|dC<|.int 04) QD
def vu:qb:=Qk (yM<|Jz<|jd qI (jd j9 (jd JZ (ja 04)<|dC<|.int 04)<|dC<|.int 2)<|dC<|.int 1) (jr (Kk<|Qr Wh<|J0 (vL<|ja 2)<|J0 (vL<|ja 1)<|J0 (vL<|jd jf (ja 05)<|dC<|.int 1) j0)<|zL<|j3 06<|dC<|.int 03) QD
def vR:qb:=Qk (yM<|Jz<|jd qI (jd j9 (jd JZ (ja 04)<|dC<|.int 2)<|dC<|.int 2)<|dC<|.int 1) (jr (Kk<|Qr X5<|J0 (vL<|ja 03)<|J0 (vL<|jd jv (jd JZ (jd jf (ja 05)<|dC<|.int 0)<|dC<|.int 05)<|jd jf (ja 05)<|dC<|.int 1) j0)<|zL<|j3 06<|dC<|.int 2) QD
def kc:qb:=Qk (yM<|Jz<|jd qI (jd j9 (ja 04)<|dC<|.int 2)<|dC<|.int 1) (jr (Kk<|Qr Xf<|J0 (vL<|ja 03)<|J0 (vL<|jd jv (jd JZ (jd jf (ja 05)<|dC<|.int 1)<|dC<|.int 03)<|jd jf (ja 05)<|dC<|.int 0) j0)<|jr (Qk (yM<|Jz<|jd qI (jd j9 (jd JZ (ja 04)<|dC<|.int 16)<|dC<|.int 2)<|dC<|.int 1) (Kk<|Qr Xf<|J0 (vL<|ja 03)<|J0 (vL<|jd jv (jd jv (jd JZ (jd jf (ja 05)<|dC<|.int 0)<|dC<|.int 07)<|jd jf (ja 05)<|dC<|.int 1)<|dC<|.int 1) j0) QD)<|jr (zL<|j3 06<|dC<|.int 1)<|jV 07<|qG 05 [2]<|J9 Aq<|Ju (ja 2) jb) QD
def s0:qb:=Qk (yM<|Jz<|jd ww (ja 06)<|dC<|.int 09) (qT<|vL<|jd wK (ja 09)<|jH<|Ju (Q2 [8,!06] (vw<|Ju (dC<|.int 09) jb) (.one 0)<|jd qI (ja 0)<|ja 1)<|Ju (ja 07) jb) QD
abbrev xp(ns:Ye)(ws:Yg)(p g:Addr)(bits c0 c1 due:3)(u7 u8 u9:02 SV):SD:=[~~~.scr ns,~~~(.lst<|ws.map .str),~~~.adr p,~~~.adr g,~~~.int bits,~~~.lst [.int c0,.int c1],~~~.int due,u7,u8,u9]
def xQ.ex (W:WsOk a) (h:xQ a 0 c):∀q∈c,q.rows ≠[]/\∀r∈q.rows,r.2.2 ≠[]:=λq e=>by
 let(i,f):=Ug e;let b:=h.at_ f;rw[(b.r1,λr g z=>by let:=(b.lo r g).1;rw[z]at this;cases this)]
def sx  (W:WsOk ws)      (h:StG m p g u [] f [])(ne:f ≠[])(S:xQ ws 0 f):
 ∃l d,fz (xp ns ws p g bits c0 c1 09 u7 u8 u9) m=.ok (.next (xp ns ws p g bits c0 c1 (if bits/08%2=1 then 04 else 09) u7 u8 u9) l)/\StG l p g u [] d []/\(bits/08%2≠1->d=f)/\(bits/08%2=1->∃i k q r,f[i]?=!q/\q.rows[k]?=!r/\d=f.set i (q.name,q.givens,q.rows.set k<|yj ws c0 q r)):=by
 cases t:bits/08%2=1
 .let(i k j q r,Sp):=DM ne (S.ex W) (c0/03);let(-a,n,o):=h.lg.all.at_ Sp.pl;let b:=S.at_ Sp.pl;let s:=Ua Sp.rw_;let e:=S3 (c:=c0) (ws:=ws) h.lg Sp n o (by let:=(b.lo r s).2;lia) (by rw[W.len,];lia) (BS<|(b.q W).hw r s).asc;rw[xh _ _ (?_,h.chg<|Ea h.lg n o _,λz=>Zn t z,λ_=>jX i k q r (Sp.pl,Sp.rw_,9))];rw[Zd t,];generalize JC m a.2.2 _=HQ at*;ext fz;let v:jf (.lst [.int c0,.int c1]) (.int 0)=! .int c0:=9;simp[xp,t,v,e]
 .rw[(m,f,?_,h,λ_=>9,λz=>Zn z t)];rw[Ze t,];ext fz;simp[xp,t]
def tY(f:Yg)(a e:3)(c b d:List Pl):4:=
 a/04%2≠1/\b=c/\d=[]\/(a/04%2=1/\d=[]/\∃(i k j:5)(q:Pl)(r:Str×Str×Js)(x:3×3)(th:3),c[i]?=!q/\q.rows[k]?=!r/\r.2.2[j]?=!x/\((⇑q.givens:3)+k<=th/\th<jB q)/\b=c.set i (q.name,q.givens,q.rows.set k %[r.1,r.2.1|r.2.2.set j %[th|x.2]]))\/a/04%2=1/\e%04≠0/\b=c/\d=[qV f e]
def tP(i:Ye)(e:Yg)(p g:Addr)(j:List (Addr×Addr×Addr))(a l f d:3)(m n r:02 SV)(s:List Pl)(o:Out3):4:=∃b c bs h,o=.next (xp i e p g a l f (if a/04%2=1 then 03 else d) m n r) b/\StG b p g j bs c h/\tY e a f s c h
def sw  (W:WsOk l)      (h:StG m p g C [] A [])(ne:A ≠[])(S:xQ l 0 A)(O:⇑A<=500):
 (vu (xp u l p g c s d f v w y) m).need (tP u l p g C c s d f v w y A) λ_ _=>False:=by
 let I:jf (.lst [.int s,.int d]) (.int 1)=! .int d:=9;let L:LsP m p C A:=by let:=h.plans;ext
 cases t:c/04%2=1
 .let B:∀P:D×HP->4,(Wh [.adr p,.lst (l.map .str),.int d] m).need P (λ_ _=>False)->(∀o,P o->tP u l p g C c s d f v w y A (.next (xp u l p g c s d 03 v w y) o.2))->(vu (xp u l p g c s d f v w y) m).need (tP u l p g C c s d f v w y A) λ_ _=>False:=λP n k=>by
   let J:Qr Wh (J0 (vL<|ja 2)<|J0 (vL<|ja 1)<|J0 (vL<|jd jf (ja 05)<|dC<|.int 1) j0) (xp u l p g c s d f v w y) m=Wh [.adr p,.lst (l.map .str),.int d] m:=by simp[xp,I]
   let e:vu (xp u l p g c s d f v w y) m=jr (Kk<|Qr Wh<|J0 (vL<|ja 2)<|J0 (vL<|ja 1)<|J0 (vL<|jd jf (ja 05)<|dC<|.int 1) j0) (zL<|j3 06<|dC<|.int 03) (xp u l p g c s d f v w y) m:=by
    simp_all[vu,GG,xp]
   rw[e,Bf,GF,J];rw[Wr.need_bind.mpr<|Wr.need_bind.mpr<|n.mono (λo E=>k o E) λ_ _ z=>z]
  cases F:d%04=0
  .let(i k j q r,Sp):=DM ne (S.ex W) (d/04);let(-a,G,H):=L.all.at_ Sp.pl;let b:=S.at_ Sp.pl;let M:=Ua Sp.rw_;let Q:=(Ja.mp Sp.rw_).1;let(x,hx):∃x,r.2.2[j]?=!x:=(_,Zqg Sp.it);let e:=S5 (W:=.lst<|l.map .str) L Sp G H (by let:=(b.lo r M).2;lia) hx F;let R:=UC (d/04/07) (show(⇑q.rows:3)-k≠0 by lia);let T:=UE (d/04/07) (show(0:3)<(⇑q.rows:3)-k by lia);rw[B (λo=>o=%[.non|JC m a.2.2 (.lst<|(q.rows.set k %[r.1,r.2.1|r.2.2.set j %[(⇑q.givens:3)+k+d/04/07%((⇑q.rows:3)-k)|x.2]]).map jn)]) (by rw[e,];rfl) ?_];rintro o rfl;rw[jX _ _ [] [] (by rw[Zd t,],h.chg<|(Ea L G H _).swap h,.inr<|.inl (t,9,i,k,j,q,r,x,_,Sp.pl,Sp.rw_,hx,((),by rw[KB,];lia),9))]
  .rw[B _ (S6 L (by rwa[L.all.lenA,]) W.len F) λo E=>?_];have(a,N):=h.apd E;rw[jX o.2 A [a] [qV l d] (by rw[Zd t,],N,.inr<|.inr (t,F,9,9))]
 .rw[show vu (xp u l p g c s d f v w y) m=.ok (.next (xp u l p g c s d f v w y) m)by ext vu;simp[t]▸ ?_];rw[jX m A [] [] (by rw[Ze t,],h,.inl (t,9,9))]
def c7(f:Ye)(h:Yg)(p g:Addr)(i bs:List (Addr×Addr×Addr))(a j l d:3)(m n r:02 SV)(e s:List Pl)(o:Out3):4:=∃c b,o=.next (xp f h p g a j l (if a/2%2=1 then 2 else d) m n r) c/\StG c p g i bs b s/\(a/2%2≠1/\b=e\/a/2%2=1/\wR e b)
def sv        (h:StG m p g B bs y C)(ne:y ≠[])(S:xQ r 0 y)(E:⇑y<=500):
 (vR (xp s r p g a j l f u v w) m).need (c7 s r p g B bs a j l f u v w y C) λ_ _=>False:=by
 let F:jf (.lst [.int j,.int l]) (.int 0)=! .int j:=9;let G:jf (.lst [.int j,.int l]) (.int 1)=! .int l:=9;cases t:a/2%2=1
 .let n:=S9 h.lg E ne (λq H=>by
   let(i,I):=Ug H;let b:=S.at_ I;let J:=b.tl;rw[KB]at J;let L:=b.g1;rw[(b.r1,(),U1 L,())])<|j/05+l
  let M:Qr X5 (J0 (vL<|ja 03)<|J0 (vL<|jd jv (jd JZ (jd jf (ja 05)<|dC<|.int 0)<|dC<|.int 05)<|jd jf (ja 05)<|dC<|.int 1) j0) (xp s r p g a j l f u v w) m=X5 [.adr g,.int (j/05+l)] m:=by simp[xp,F,G]
  let e:vR (xp s r p g a j l f u v w) m=jr (Kk<|Qr X5<|J0 (vL<|ja 03)<|J0 (vL<|jd jv (jd JZ (jd jf (ja 05)<|dC<|.int 0)<|dC<|.int 05)<|jd jf (ja 05)<|dC<|.int 1) j0) (zL<|j3 06<|dC<|.int 2) (xp s r p g a j l f u v w) m:=by
   simp_all[vR,GG]
  rw[e,Bf,GF,M];rw[Wr.need_bind.mpr<|Wr.need_bind.mpr<|n.mono (λo N=>?_) λ_ _ z=>z];have(A,d,c):=N;rw[(o.2,A,by rw[Zd t,];rfl,h.chg c,.inr (t,d))]
 .rw[show vR (xp s r p g a j l f u v w) m=.ok (.next (xp s r p g a j l f u v w) m)by ext vR;simp[t]▸ ?_];rw[xh m y (by rw[Ze t,],h,.inl (t,9))]
def Lk (W:WsOk n)    (h:StG u p g v bs l w)(ne:l ≠[])(S:xQ n 0 l)(c:3):∃f d,Xf [.adr g,.int c] u=.ok %[.non|f]/\StG f p g v bs d w/\xQ n 0 d/\⇑d=⇑l/\∃q∈d,∃r∈q.rows,qd (jB q) r=6:=by
 let(i k j q r,Sp):=DM ne (S.ex W) c;let(-a,o,t):=h.lg.all.at_ Sp.pl;let b:=S.at_ Sp.pl;let(x,hx):∃x,r.2.2[j]?=!x:=(_,Zqg Sp.it);let e:=S1 h.lg Sp o t (by let:=(b.lo r<|Ua Sp.rw_).2;lia) hx;rw[<-KB]at e;let y:0<=jB q:=by rw[KB,];lia
 have(s,z,m):=Tj Sp.rw_ hx;rw[(_,_,e,h.chg<|Ea h.lg o t _,S.set<|b.put Sp.rw_ hx y<|Int.le_refl _,(),_,XG (Ja.mp Sp.pl).1,s,z,m)]
def su  (W:WsOk d)      (h:StG w p g y bs ps f)(ne:ps ≠[])(S:xQ d 0 ps)(G:∀q∈f,∀r∈q.rows,r.2.2 ≠[]/\⇑r.2.2<=1000):
 ∃j a,kc (xp ns d p g bits c0 c1 due (~~~.int 0) u8 u9) w=.ok (.next (xp ns d p g bits c0 c1 (if bits%2=1 then 1 else due) (~~~(.int<|if bits%2=1 then(qE 0<|a++f).getD 0 else 0)) u8 u9) j)/\StG j p g y bs a f/\xQ d 0 a/\⇑a=⇑ps/\(bits%2≠1->a=ps)/\(bits%2=1->∃q∈a,∃r∈q.rows,qd (jB q) r=6):=by
 let H:jf (.lst [.int c0,.int c1]) (.int 0)=! .int c0:=9;let I:jf (.lst [.int c0,.int c1]) (.int 1)=! .int c1:=9;cases t:bits%2=1
 .let(l a,M,A,B,o,s):=Lk W h ne S (c1/03+c0);let u:a ≠[]:=λz=>ne (by rw[<-List.length_eq_zero_iff,<-o,z];rfl);let(c,b,C,m,n,v,e):∃c b,(Qk (yM<|Jz<|jd qI (jd j9 (jd JZ (ja 04)<|dC<|.int 16)<|dC<|.int 2)<|dC<|.int 1) (Kk<|Qr Xf<|J0 (vL<|ja 03)<|J0 (vL<|jd jv (jd jv (jd JZ (jd jf (ja 05)<|dC<|.int 0)<|dC<|.int 07)<|jd jf (ja 05)<|dC<|.int 1)<|dC<|.int 1) j0) QD) (xp ns d p g bits c0 c1 due (~~~.int 0) u8 u9) l=.ok (.next (xp ns d p g bits c0 c1 due (~~~.int 0) u8 u9) c)/\StG c p g y bs b f/\xQ d 0 b/\⇑b=⇑ps/\∃q∈b,∃r∈q.rows,qd (jB q) r=6:=by
   cases E:bits/16%2=1
   .let(c b,C,m,n,v,e):=Lk W A u B (c0/07+c1+1);rw[(c,b,by simp[xp,E,H,I,C],m,n,v.trans o,e)]
   .rw[(l,a,by simp[xp,E],A,B,o,s)]
  let dp:=m.plans.dp;let N:=SN (ps:=b++f) λq J r F=>by
   obtain z|z:=Jd.mp J
   .let(-i,L):=Ug z;let:=(n.at_ L).lo r F;rw[(U1 (),())]
   .rw[G q z r F]
  rw[xh c b (?_,m,n,v,λz=>Zn t z,λ_=>e)]
  simp_all[kc,xp]
 .rw[(w,ps,?_,h,S,9,λ_=>9,λz=>Zn z t)];rw[Ze t,Ze t];ext kc;simp[xp,t]
def PlQ.of (W:WsOk e) (S:xQ e 0 g)(j:b=[]\/∃c,b=[qV e c]):(∀p∈g++b,PlQ p)/\vX e 0 (g++b)/\∀p∈b,yL p:=by
 let f:∀p∈b,PlQ p/\yL p:=λp a=>by
  obtain rfl|⟨c,rfl⟩:=j
  .cases a
  .rw[Jc.mp a,];rw[((Ec W c).1,(Ec W c).2.1)]
 rw[(λp a=>?_,Ed (S.fr W) λp a=>(f p a).2,λp a=>(f p a).2)];obtain z|z:=Jd.mp a
 .let(i,l):=Ug z;rw[(S.at_ l).q W]
 .rw[(f p z).1]
structure Inv57(ws:Yg)(n:5)(ps:List Pl):4 where
 sk:xQ ws 0 ps
 no:∀p∈ps,yL p
 nx:uP ws ps
 ln:⇑ps=n
def tF(c:Ye)(a d:3)(b:List Pl):4:=(a/08%2≠1->b=Qf c)/\(a/08%2=1->∃i k q r,(Qf c)[i]?=!q/\q.rows[k]?=!r/\b=(Qf c).set i (q.name,q.givens,q.rows.set k<|yj (qc c) d q r))
def Ll   (h:tF a c j e):Inv57 (qc a) ⇑(Qf a) e:=by
 cases t:c/08%2=1
 .let(i k q r,d,f,rfl):=h.2 t;let b:=(Av a).at_ d;rw[((Av a).set<|b.part f<|BU a d<|Ua f,λp g=>?_,(DZ a).set d 9 ?_,by rw[Uh,])]
  .rcases KJ g with z|rfl
   .rw[Eb a p z]
   .rw[(Eb a q<|Ua d).part f]
  grind[yj,DX]
 .rw[h.1 t,];rw[(Av a,Eb a,DZ a,9)]
def Lm    (I:Inv57 a n b)(h:tY a g t b d l):Inv57 a n d/\(l=[]\/∃c,l=[qV a c]):=by
 obtain⟨_,rfl,rfl⟩|⟨_,rfl,i,k,j,q,r,x,th,e,f,m,o,rfl⟩|⟨_,_,rfl,rfl⟩:=h
 .rw[(I,.inl 9)]
 .rw[((I.sk.set<|(I.sk.at_ e).put f m () (),λp s=>?_,I.nx.set e 9 ?_,by rw[Uh,];rw[I.ln]),.inl 9)]
  .rcases KJ s with z|rfl
   .rw[I.no p z]
   .rw[(I.no q<|Ua e).put f o.2]
  .rw[DX (r':=%[r.1,r.2.1|r.2.2.set j %[th|x.2]]) f 9,]
 .rw[(I,.inr (_,9))]
def Xg(a:3):3:=if a%2=1 then 1 else if a/2%2=1 then 2 else if a/04%2=1 then 03 else if a/08%2=1 then 04 else 09
def rp   (Y:tF l f c0 I)(Z:tY (qc l) f T I B n)(U:f/2%2≠1/\u=B\/f/2%2=1/\wR B u)(S4:xQ (qc l) 0 g)(l4:⇑g=⇑u)(hD:(f%2≠1->g=u)/\(f%2=1->∃q∈g,∃r∈q.rows,qd (jB q) r=6))(ll:⇑(Qf l)<=19):
 (Xg f<09->V8 [.str (Txt.join "\n"<|Ql (qc l) 0<|g++n)]=.ok (.tup [.lst ((List.range 09).map λk:5=>.bl<|decide<|(k:3)=Xg f),.int (if f%2=1 then(qE 0<|g++n).getD 0 else 0)]))/\(Xg f=09->Kb [.str (Txt.join "\n"<|Ql (qc l) 0<|g++n)]=.ok (JL<|Qf l)/\g++n=Qf l):=by
 let W:=(KQ l).2;let(!L,b1,b2):=XH l;let I1:=Ll Y;let(C,he):=Lm I1 Z;let l3:⇑u=⇑(Qf l):=by
  obtain⟨_,rfl⟩|⟨_,d⟩:=U
  .rw[C.ln]
  .rcases d with ⟨j,z,q,_,_,_,rfl⟩|⟨i,q,j,y,_,_,_,rfl⟩|⟨i,q,k,r,y,_,_,_,rfl⟩<;>rw[Uh,]<;>rw[C.ln]
 let le:⇑n<=1:=by obtain rfl|⟨c,rfl⟩:=he<;>simp
 let(!J,M,N4):=PlQ.of W S4 he;let E:∀w∈qc l,jP w:=λw E=>(W.ok w E).nm;let N:qc l ≠[]:=λz=>by let:=W.len;ext
 let ne:g++n ≠[]:=λz=>by
  grind
 let O:⇑(g++n)<=20:=by grind
 ext Xg;cases s:f%2=1
 .rw[Zd s,Zd s];rw[(λ_=>?_,λz=>())];let(-q,F,(r,hr,e)):=hD.2 s;let(m,hm):=Lg (k:=0) (Uo n F) hr e;rw[hm,];rw[Ir (Tc E N J M ne O hm) () (.inr (9,9,9,@if_pos _ (Classical.propDecidable _) () _ _ _)) (Kq 9 () ()<|by decide+kernel) (Kq 9 () ()<|by decide+kernel) (Kq 9 () ()<|by decide+kernel) (Kq 9 () ()<|by decide+kernel) (Kq 9 () ()<|by decide+kernel) (Kq 9 () ()<|by decide+kernel) (Kq 9 () ()<|by decide+kernel) (Kq 9 () ()<|by decide+kernel) (Kq 9 () ()<|by decide+kernel)<|GS 9 ()]
 .rw[Ze s,Ze s];obtain rfl:=hD.1 s;let no3:∀p∈g,yL p:=by
   obtain⟨_,rfl⟩|⟨_,d⟩:=U
   .rw[C.no]
   .rw[yL.dbl C.no d]
  let st:qE 0 (g++n)=8:=Lf λp A=>by
   obtain z|z:=Jd.mp A
   .rw[(no3 p z).st]
   .rw[(N4 p z).st]
  cases d:f/2%2=1
  .rw[Zd d,];rw[(λ_=>?_,λz=>())];let nb:¬zB (g++n):=by
    obtain⟨z,_⟩|⟨_,dd⟩:=U
    .rw[Zn d z]
    .rw[dd.bad n]
   rw[DI (j:=2) (.inl (9,9))<|Td E N J M ne O st nb]
  .rw[Ze d,];let(_,rfl):f/2%2≠1/\g=B:=by
    obtain z|⟨z,_⟩:=U
    .rw[z]
    .rw[Zn z d]
   let nb:zB (g++n):=C.nx.nmB W C.sk (by rw[C.ln,];lia) he;cases b:f/04%2=1
   .rw[Zd b,];rw[(λ_=>?_,λz=>())];let np:¬kg (g++n):=by
     obtain⟨z,_⟩|⟨_,rfl,i,k,j,q,r,x,th,F,G,hx,ht,rfl⟩|⟨_,c4,rfl,rfl⟩:=Z
     .rw[Zn b z]
     .rw[λh=>by
       let:=(((h.2 _<|Uo _<|XG ()).2.2 k %[r.1,r.2.1|r.2.2.set j %[th|x.2]]<|Ut (Ja.mp G).1).2.rng %[th|x.2]<|XG (Ja.mp hx).1).2
       grind]
     .rw[λh=>by
       let b:=h.2 (qV (qc l) T)<|Uf _ Zqs;unfold qV at b;let:T%04=1\/T%04=2\/T%04=03:=()
       obtain w|w|w:=this
       .rw[Zd w]at b;rw[Zn b.2.1.1 ()]
       .rw[Ze (),Zd w]at b;let:=b.1.2;rw[Ue,W.len]at this;lia
       .rw[Ze (),Ze ()]at b;rw[Zn b.1.1 ()]]
    rw[DI (j:=03) (.inr<|.inl (9,9))<|Te E N J M ne O st nb np]
   .rw[Ze b,];let(_,rfl,rfl):f/04%2≠1/\g=I/\n=[]:=by
     obtain z|⟨z,_⟩|⟨z,_⟩:=Z
     .rw[z]
     .rw[Zn z b]
     .rw[Zn z b]
    rw[ZA]at*;cases t:f/08%2=1
    .rw[Zd t,];rw[(λ_=>?_,λz=>())];let(i k q r,F,G,rfl):=Y.2 t;rw[DI (j:=04) (.inr<|.inr (9,9))<|Tf E N J M ne O st nb (by
      let(!_,l1,l2):=XH l;rw[((),λp A=>?_)];obtain z|rfl:=KJ A
      .let(j,H):=Ug z;rw[Li l H]
      .let(!a,b,d):=Li l F;rw[(a,(),λm s X=>?_)];cases e:m=k
       .subst e;rw[Ut (Ja.mp G).1]at X;obtain rfl:=Zqi X;let((x1,x2),Q):=d m r G;let len:=BU l F<|Ua G;ext yj
        split
        .rw[(?_,(λy hy=>?_,λy hy=>?_))]
         .rw[Ub,Ue];lia
         .rcases Jd.mp hy with z|z
          .rw[Q.rng y z]
          .rw[Q.rng y<|UB z]
         .rcases Jd.mp hy with z|z
          .rw[Q.far y z]
          .rw[Q.far y<|UB z]
        .rw[((x1,x2),Q)]
       .rw[Zx λz=>e z.symm]at X;rw[d m s X])<|λh=>by
       let W:=(KQ l).2;let(!L,l1,l2):=XH l;let il:=(Ja.mp F).1;let kl:=(Ja.mp G).1;let b:=h i _ (Ut il) (yj (qc l) c0 q r)<|XG kl;rw[List.take_set_of_le (Zf _)]at b;let(P,_):=Wl l F;let R:=P.rw_ k r G;let nmk:∀p∈(Qf l).take i,∃j:5,j<i/\p.name=jt (qc l) (j:3):=λp A=>by
        let(j,H):=Ug A;let jl:=(Ja.mp H).1;rw[Ue]at jl;rw[U4 ()]at H;rw[(j,(),(Wl l H).1.nm)]
       let o:∀(m:5),i<=m->m<34->∀v,qH (QZ<|(Qf l).take i) (jt (qc l) (m:3))≠!v:=λm hm hm2 v e=>by
        let:=Ti e;rw[D6]at this;let(-p,A,e2):=Jb.mp this;let(-j,H,e3):=nmk p A;let:=BT W (i:=(j:3)) (j:=(m:3)) () () () () (by rw[<-e3,<-e2]);lia
       let S:∀m:3,xl (jt (qc l) m)=6:=λm=>by
        let:=((W.ok _<|W.at_ m).nm).ne;ext xl;rw[Zo this.2.1,Zo this.2.2];rfl
       unfold yj wW at b
       split at b
       .rename_i cc;let b:=b cc.2;obtain⟨z,_⟩|⟨_,p,A,e,el⟩:=R.how
        .simp_all[SQ]
        .let nd:(((Qf l).take i).map (·.name)).Nodup:=by
          let:=((DZ l).nmB W (Av l) ()<|.inl 9).1.2;rw[ZA]at this;rw[UZ,];rw[List.Sublist.nodup (List.take_sublist _ _) this]
         let:%[p.name|(⇑p.givens:3)]∈QZ ((Qf l).take i):=by
          ext QZ;rw[Jb.mpr (p,A,9)]
         let lk:=HI nd this;let b:qH (QZ<|(Qf l).take i) r.2.1=!(⇑(r.2.2++r.2.2.take 1):3):=b;rw[e,lk,Ub,Ue]at b;let:=Zqi b;let:=R.low;lia
       .cases c2:c0%2=0
        .rw[Zd c2]at b;let b:=b (by rw[P.nm,];rw[S _]);let b:=b;rw[P.nm]at b;rw[o i (Zf _) () _ b]
        .rw[Ze c2]at b;let b:=b<|S 32;rw[o 32 () () _ b]]
    .rw[Ze t,];rw[((),λ_=>?_)];obtain rfl:=Y.1 t;rw[(Th E N J M ne O st nb L b1,9)]
def Ln(e:Ye):(∀p∈Qf e,PlT p)/\⇑(Qf e)<=32:=by
 let(B,_):=D4 e;let W:=(KQ e).2;let nm:=B.names W;let one:∀(i:5)(l:List Pl)(q:Pl),(∀p∈l,p∈(Kf e).ps)->PlW (qc e) i l 31 q->PlT q:=λi l q s P=>by
  let sz:=P.sz;rw[(by rw[P.nm,];rw[(W.ok _<|W.at_ _).ok],λg t=>?_,P.g12,(),λr o=>?_)]
  .let(k,h):=Ug t;let:(q.givens++q.rows.map (·.1))[k]?=!g:=by rwa[Ui (Ja.mp h).1,]
   rw[P.th k g this,];rw[(W.ok _<|W.at_ _).ok]
  .let(!a,b,c,d):=(P.rowTxt W λp m=>nm p<|Uo _<|s p m) r o;let(k,h):=Ug o;let u:=(Ja.mp h).1;let R:=P.rw_ k r h;rw[(a.ok,b,(),λi j=>?_)];let:=R.its.rng i j;let f:=R.its.far i j;rw[(this.1,(),f.1,f.2)]
 ext Qf;rw[(λp m=>?_,?_)]
 .rcases Jd.mp m with z|z
  .have(i,j):=Ug z;rw[one i _ p (λx n=>UB n) (B.all i p j).1]
  .rw[Jc.mp z,];rw[one _ _ _ (λx n=>n) B.last]
 .let:=B.last.sz;let:=B.last.g1;rw[Ub,Uj];lia
def Tk(a:Ye):⇑(Qf a)<=19:=by
 let:=(IW a).two.1;ext Qf;rw[Ub,Uj];lia
def kb:qb:=jr (jV 08<|qG 05 [2]<|qD WM (dC<|.str "\n")<|J9 Ao<|Ju (ja 2)<|Ju (ja 1) jb)<|jr (zL<|j3 09<|J9 V8<|Ju (ja 08) jb)<|jr s0<|qT<|qG 05 [2]<|W7 (jJ (xN 7)<|ja 09)<|J9 Ap<|Ju (J9 Kb<|Ju (ja 08) jb)<|Ju (ja 2) jb
def ss     (h:dr j 05 (.adr p)=qq P)(Q:∀q∈P,PlQ q)(ne:P ≠[])(s:⇑P<=20)(H:0<=a)(I:a<=09)
 (t:a<09->V8 [.str (Txt.join "\n"<|Ql (qc b) 0 P)]=.ok (.tup [.lst ((List.range 09).map λk:5=>.bl<|decide<|(k:3)=a),.int d]))(u:a=09->Kb [.str (Txt.join "\n"<|Ql (qc b) 0 P)]=.ok (JL<|Qf b)/\P=Qf b):
 kb (xp J (qc b) p g l L M a (~~~.int d) 8 8) j=.ok (.ret (.bl 6) j):=by
 let W:=(KQ b).2;let f:∀w∈qc b,jP w:=λw f=>(W.ok w f).nm;let v:qc b ≠[]:=λz=>by let:=W.len;rw[z]at this;cases this
 let fr:=be (ps:=P) (ws:=qc b) (λq y=>(Q q y).x) () (λw i=>(f w i).1) W.len;let(!N,A,O):=IK f v Q ne s;let m:=Dp A;simp only[xp];generalize Txt.join "\n" (Ql (qc b) 0 P)=T at*;generalize(Ql (qc b) 0 P).map D.str=RX at*;generalize(qc b).map D.str=WX at*;ext kb;cases c:a<09
 .let r:=t c;let B:qB (.one 0) (jd qI (ja 0)<|ja 1) [8,~~~.int a] (Qw 0 09)=.ok (((List.range 09).map λk:5=>decide<|(k:3)=a).map .bl):=by
   rw[Zw,show Qw 0 09=(List.range 09).map λk:5=>D.int (k:3)by simp[Qw]];rw[K5 λk R=>by simp]
  let C:⇑(Qw 0 09)<00:=Qi (by simp[Qw]);let E:Wq [.int 09]=.ok (Qw 0 09):=by rw[XZ () (),];rfl
  let n:=PH ((List.range 09).map λk:5=>decide<|(k:3)=a) ((List.range 09).map λk:5=>decide<|(k:3)=a) d d;let F:(List.range 09).map λk:5=>D.bl<|decide<|(k:3)=a=((List.range 09).map λk:5=>decide<|(k:3)=a).map .bl:=by rw[Zw,];rfl
  rw[F]at r;rw[beq_self_eq_true,beq_self_eq_true]at n;generalize((List.range 09).map λk:5=>decide<|(k:3)=a).map D.bl=BL at*;ext s0;simp[h,fr,qD,m,r,c,E,B,n,QK,C]
 .let o:a=09:=()
  let(r,e):=u o;let G:=Sv r;let fs:=bd (Ln b).1 (Ln b).2;rw[e]at h fr;subst o;ext s0;generalize qq (Qf b)=PD at*;generalize JL (Qf b)=BD at*;simp[h,fr,qD,m,G,r,fs,QK]
def ka(b st i:5)(a:Yg):Str:=match WV [.int ((b+i*st:5):3),.lst (a.map .str)]with
 |.ok (.str w)=>w
 |_=>Str.empty
def y0(b st:5):5->List Str
 |0=>[]
 |i+1=>y0 b st i++[ka b st i (y0 b st i)]
def Lo{b st i:5} (h:b<95060119441637376)(c:st<=1213056)(j:i<40)(l:⇑a=i)(d:∀w∈a,zC w):WV [.int ((b+i*st:5):3),.lst (a.map .str)]=.ok (.str<|ka b st i a)/\zC (ka b st i a)/\ka b st i a∉a:=by
 let f:i*st<=40*1213056:=Nat.mul_le_mul () c;let(-w,e,m,o):=HB (n:=b+i*st) () () λu g=>(d u g).ok.asc
 simp_all[ka]
theorem Lp{b st:5}(e:b<95060119441637376)(f:st<=1213056):∀i,i<=40->⇑(y0 b st i)=i/\(y0 b st i).Nodup/\∀w∈y0 b st i,zC w
 |0,_=>(9,.nil,λw h=>by cases h)
 |i+1,hi=>by
  have(a,c,d):=Lp e f i ();let(!_,l,j):=Lo e f () a d;rw[(by show(y0 b st i++_).length=_;simp_all,?_,λx g=>?_)]
  .rw[Jf.mpr (c,List.pairwise_singleton _ _,λx g y m z=>j ())]
  .rcases Jd.mp g with z|z
   .rw[d x z]
   ext
def Tl(a g:3):∃l:Yg,∀d:D,QH [d,.int 0]=.ok (.int a)->QH [d,.int 1]=.ok (.int g)->V6 [d,.int 34]=.ok (.lst<|l.map .str):=by
 let p:xq (.int 36) (.int 10)=! .int 3656158440062976:=9;let v:xA (.int 26) (.int 3656158440062976)=! .int 95060119441637376:=9;let(b,hb,w,h):∃b:5,a%95060119441637376=(b:3)/\0<=b/\b<95060119441637376:=((a%95060119441637376).toNat,(),(),());let(q,hq,q0,q5):∃q:3,g%05=q/\0<=q/\q<05:=(_,9,(),());let(st,hst,c):∃st:5,qo [D.int 1,D.int 26,D.int 936,D.int 33696,D.int 1213056] q=! .int st/\st<=1213056:=by
  let:q=0\/q=1\/q=2\/q=03\/q=04:=()
  obtain rfl|rfl|rfl|rfl|rfl:=this
  .rw[(1,9,())]
  .rw[(26,9,())]
  .rw[(936,9,())]
  .rw[(33696,9,())]
  .rw[(1213056,9,())]
 let y:Wq [.int 34]=.ok (Qw 0 34):=by rfl
 rw[(y0 b st 34,λd z A=>?_)];let(-sd,e,(f,m)):=K4 (tg:=.one 05) (b:=Ko 04<|zd [04]<|J9 WV<|Ju (jd jv (ja 2)<|jd xA (ja 05)<|ja 03)<|Ju (ja 04) jb) (ds:=Qw 0 34) (sd:=[~~~d,~~~.int 34,~~~.int b,~~~.int st,!(.own 7<|.lst []),8])
  (P:=λi sd=>∃f:02 SV,sd=[~~~d,~~~.int 34,~~~.int b,~~~.int st,!(.own 7<|.lst<|(y0 b st i).map .str),f]) (8,9) (by
   rintro i x sd n ⟨f,rfl⟩;let(rfl,B):=CI n;let o:=Nat.mul_le_mul () c;have(r,_,s):=Lp h c i ();have(e,_,_):=Lo h c () r s;let j:xA (.int (i:3)) (.int st)=! .int ((i*st:5):3):=by
    rw[CF (CG () ()),];simp
   let t:⇑(y0 b st i)<00:=Qi ();let u:y0 b st (i+1)=y0 b st i++[ka b st i (y0 b st i)]:=9;rw[u,];simp[Int.natCast_mul]at e j;simp[j,e,t])
 simp_all[AJ,V6,Ac]
def Tn (d:Qm a 0=Qm c 0)(e:Qm a 1=Qm c 1):V6 [.scr c,.int 34]=.ok (.lst<|(qc a).map .str):=by
 let(f,h):=Tl (Qm c 0) (Qm c 1);let b:=h (.lst<|a.map .int) (by rw[<-d];rw[Ad a 0]) (by rw[<-e];rw[Ad a 1]);rw[(KQ a).1]at b;rw[h (.scr c) (Ab c 0)<|Ab c 1,<-b]
def Tp (l:List α) (f:0<=a)(g:a<=b):Q6 l (!a) (!b) 8=(l.drop a.toNat).take (b.toNat-a.toNat):=by
 let(i,rfl):=UT f;let(j,rfl):=UT (U0 f g);let e:sliceBounds (!(i:3)) (!(j:3)) 8 ⇑l=%[((min i ⇑l:5):3),((min j ⇑l:5):3)|1]:=by
  ext sliceBounds;simp;rw[Ze (Int.not_lt.mpr f),Ze (),Bo,Bo];rw[(Int.max_eq_right<|Int.natCast_nonneg _,Int.max_eq_right<|Int.natCast_nonneg _)]
 ext Q6;rw[e,];rw[sliceRange_one,];let h:(λx:5=>l[x]?)=λx:5=>l.toArray[x]?:=by simp
 rw[h,pick_run l.toArray (min i ⇑l)<|min j ⇑l-min i ⇑l];simp;cases c:i<=⇑l
 .rw[U9 c,];cases d:j<=⇑l
  .rw[U9 d,]
  .rw[Vl (),UJ (),UJ (by simp;lia)]
 .rw[show min i ⇑l=⇑l from Vl (),Vm (Zf _),Vm ()];simp
def xk(a:Ye):Ye:=a.take 2++(a.drop 05).take 54
def Lq(c:Ye):Qm (xk c) 0=Qm c 0/\Qm (xk c) 1=Qm c 1:=by
 match c with
 |[]=>rw[(9,9)]
 |[a]=>rw[(9,9)]
 |a::b::r=>rw[(9,9)]
def Tq(a:Ye)(h:⇑a<=63):vz (.scr a) 8 (!2) 8=!(.lst<|(a.take 2).map .int)/\vz (.scr a) (!05) (!59) 8=!(.lst<|((a.drop 05).take 54).map .int)/\jv (.lst<|(a.take 2).map .int) (.lst<|((a.drop 05).take 54).map .int)=!(.lst<|(xk a).map .int):=by
 rw[(?_,?_,?_)]
 .show some (D.lst<|(Q6 a 8 (!2) 8).map .int)=_;rw[Df _ (),];rfl
 .show some (D.lst<|(Q6 a (!05) (!59) 8).map .int)=_;rw[Tp _ () (),];rfl
 .show(if((a.take 2).map D.int).length+⇑(((a.drop 05).take 54).map D.int)<=00 then !(D.lst<|(a.take 2).map D.int++((a.drop 05).take 54).map D.int)else 8)=_;rw[Zd (small<|by rw[Zql,Zql,Ue,Ue];lia),<-Ud];rfl
def VL     (h:(a sd b).need (λo=>(zK c o).need P Q) Q):(jr a c sd b).need P Q:=Wr.need_bind.mpr h
def mn(o:Out3):4:=(qi o).need (λp=>dr p.2 1 p.1=.bl 6) λ_ _=>False
def Tr     (h:StG Q p g as [] (Qf<|xk ns) []):
 (jr fz (jr vu<|jr vR<|jr (zL<|j3 07<|dC<|.int 0)<|jr kc kb) (xp ns (qc<|xk ns) p g bits c0 c1 09 8 8 8) Q).need mn λ_ _=>False:=by
 let(a,hms):∃a,a=xk ns:=(_,9);rw[<-hms]at h ⊢;let W:=(KQ a).2;let s:=Tk a;let ne:Qf a ≠[]:=U1 (by let:=(XH a).2.1;lia);let(u f,R,S,T,U):=sx (ns:=ns) (u7:=8) (u8:=8) (u9:=8) (bits:=bits) (c0:=c0) (c1:=c1) W h ne (Av a);let J:tF a bits c0 f:=(T,U);let n:=Ll J;let v:f ≠[]:=U1 (by rw[n.ln,];let:=(XH a).2.1;lia);rw[VL ?_];rw[R,];show(jr vu _ _ u).need _ _;rw[VL<|(sw W S v n.sk<|by rw[n.ln,];lia).mono (λo w=>?_) λ_ _ z=>z];let(A B bs L,rfl,X,M):=w;let(!b,C):=Lm n M;let E:B ≠[]:=U1 (by rw[b.ln,];let:=(XH a).2.1;lia);show(jr vR _ _ A).need _ _;rw[VL<|(sv X E b.sk<|by rw[b.ln,];lia).mono (λo w=>?_) λ_ _ z=>z];let(l,e,rfl,Y,F):=w;let Z:xQ (qc a) 0 e:=by
  obtain⟨_,rfl⟩|⟨_,d⟩:=F
  .rw[b.sk]
  .rw[b.sk.dbl d]
 let l3:⇑e=⇑(Qf a):=by
  obtain⟨_,rfl⟩|⟨_,d⟩:=F
  .rw[b.ln]
  .rcases d with ⟨j,z,q,_,_,_,rfl⟩|⟨i,q,j,y,_,_,_,rfl⟩|⟨i,q,k,r,y,_,_,_,rfl⟩<;>rw[Uh,]<;>rw[b.ln]
 let G:e ≠[]:=by grind
 let H:∀q∈L,∀r∈q.rows,r.2.2 ≠[]/\⇑r.2.2<=1000:=λq N r m=>by
  obtain rfl|⟨c,rfl⟩:=C
  .cases N
  .rw[Jc.mp N]at m;rcases(Ec W c).2.2 with z|⟨nm,hh,t,z⟩
   .rw[z]at m;cases m
   .rw[z]at m;rw[Jc.mp m,];simp
 show(jr (zL<|j3 07<|dC<|.int 0) _ _ l).need _ _;rw[VL ?_];show(jr kc kb (xp ns (qc a) p g bits c0 c1 _ (~~~.int 0) 8 8) l).need _ _;let(I ps4,e4,h4,O,l4,D1,D2):=su (ns:=ns) (u8:=8) (u9:=8) (bits:=bits) (c0:=c0) (c1:=c1) (due:=if bits/2%2=1 then 2 else if bits/04%2=1 then 03 else if bits/08%2=1 then 04 else 09) W Y G Z H;rw[VL ?_];rw[e4,];show(kb _ I).need _ _;let(!T1,T2):=rp J M F O l4 (D1,D2) s;let ed:(if bits%2=1 then 1 else if bits/2%2=1 then 2 else if bits/04%2=1 then 03 else if bits/08%2=1 then 04 else 09)=Xg bits:=9;rw[ed,];let P:0<=Xg bits/\Xg bits<=09:=by ext Xg;split;lia;split;lia;split;lia;split<;>lia
 let le:⇑L<=1:=by obtain rfl|⟨c,rfl⟩:=C<;>simp
 rw[ss h4.plans.dp (PlQ.of W O C).1 (U1<|by rw[Ub,];let:=(XH a).2.1;lia) (by rw[Ub,];lia) P.1 P.2 T1 T2,];rw[9]
def ux:qb:=zL<|j3 1<|J9 V6<|Ju (ja 0)<|Ju (dC<|.int 34) jb
def vt:qb:=jV 2<|Qr YA<|J0 (vL<|jd jv (wM (ja 0) QX (Kw<|dC<|.int 2) QX)<|wM (ja 0) (Kw<|dC<|.int 05) (Kw<|dC<|.int 59) QX) j0
def vr:qb:=jV 03<|Bl<|vL<|ja 2
def vq:qb:=zL<|j3 04<|jd j9 (J9 QH<|Ju (ja 0)<|Ju (dC<|.int 2) jb)<|dC<|.int 32
def vp:qb:=zL<|j3 05<|qm<|Ju (jd j9 (J9 QH<|Ju (ja 0)<|Ju (dC<|.int 03) jb)<|jd xq (dC<|.int 10)<|dC<|.int 09)<|Ju (jd j9 (J9 QH<|Ju (ja 0)<|Ju (dC<|.int 04) jb)<|jd xq (dC<|.int 10)<|dC<|.int 09) jb
def sy:qb:=zL<|j3 06<|dC<|.int 09
def Ts:YF=jr ux (jr vt<|jr vr<|jr vq<|jr vp<|jr sy<|jr fz<|jr vu<|jr vR<|jr (zL<|j3 07<|dC<|.int 0)<|jr kc kb):=rfl
def StB.ls      {ld:Ye}(h:StB b p l c a e q ld):LsP b p (c++[a]) (e++[q]):=
 (h.hp_,h.all.snoc h.at_,h.nd.sublist<|List.Sublist.cons₂ _<|List.sublist_cons_self _ _)
def LsP.two    (h:LsP a p c i)(e:jc a g=8):StG (%[g|.lst (c.map λb=>D.adr b.1)]::a) p g c [] i []:=by
 let f:∀b,jc a b≠8->jc (%[g|.lst (c.map λb=>D.adr b.1)]::a) b=jc a b:=λb j=>by
  rw[JK,Ze λz=>j<|by rwa[z,]]
 let L:=h.mono f;let(n,l):=Je.mp h.nd;let has:=h.all.has;let o:g≠p:=λz=>by rw[z,h.hp_]at e;cases e
 rw[(by rw[ZA,];rw[L.hp_],(by rw[JK,Zd 9],L.all,Je.mpr (λz=>has g z e,l)),9,?_)]
 grind
def Tt(c:Ye)(h:⇑c<=63):(YF (JN 10 [.scr c]) []).need mn λ_ _=>False:=by
 let(!s,t,i):=Tq c h;let u:=Tn (Lq c).1 (Lq c).2;let j:=Ab c 2;let m:=Ab c 03;let r:=Ab c 04;let v:xq (.int 10) (.int 09)=! .int 1000000000:=9;let n:=R9<|xk c;rw[Ts,];rw[VL ?_];let E0:ux (JN 10 [.scr c]) []=.ok (.next [~~~.scr c,~~~(.lst<|(qc<|xk c).map .str),8,8,8,8,8,8,8,8] []):=by
  ext ux;simp[JN,u]
 rw[E0,];show(jr vt _ _ []).need _ _;rw[VL ?_];let w:vt [~~~.scr c,~~~(.lst<|(qc<|xk c).map .str),8,8,8,8,8,8,8,8] []=(YA [.lst ((xk c).map .int)] []).bind λo=>.ok<|.next [~~~.scr c,~~~(.lst<|(qc<|xk c).map .str),~~~o.1,8,8,8,8,8,8,8] o.2:=by
  generalize(c.take 2).map D.int=A1 at s i;generalize((c.drop 05).take 54).map D.int=A2 at t i;ext vt;simp[s,t,i]
 rw[w,];rw[Wr.need_bind.mpr<|n.mono (λo y=>?_) λ_ _ z=>z];let(p l f a,e,st):=y;rw[e,];let L:LsP o.2 p (f++[a]) (Qf<|xk c):=st.ls;generalize o.2=d at*;show(jr vr _ _ d).need _ _;rw[VL ?_];let A:vr [~~~.scr c,~~~(.lst<|(qc<|xk c).map .str),~~~.adr p,8,8,8,8,8,8,8] d=.new d λg=>.ok<|.next [~~~.scr c,~~~(.lst<|(qc<|xk c).map .str),~~~.adr p,~~~.adr g,8,8,8,8,8,8]<|%[g|.lst ((f++[a]).map λb=>D.adr b.1)]::d:=by
  ext vr;let:ZU %[.adr p|d]=.new d λg=>.ok %[.adr g|%[g|.lst ((f++[a]).map λb=>D.adr b.1)]::d]:=by
   let B:uy %[.adr p|d]=!(f++[a]).map λb=>D.adr b.1:=by
    show(match jc d p with
     |some (.lst C)=>!C
     |_=>8)=_
    rw[L.hp_,]
   ext ZU;rw[B,]
  ext
 rw[A,];intro g E;let G:=L.two E;show(jr vq _ _<|%[g|.lst ((f++[a]).map λb=>D.adr b.1)]::d).need _ _;let(hp2,eh):∃h:HP,h=%[g|.lst ((f++[a]).map λb=>D.adr b.1)]::d:=(_,9);rw[<-eh]at G ⊢;rw[VL ?_];let F:vq [~~~.scr c,~~~(.lst<|(qc<|xk c).map .str),~~~.adr p,~~~.adr g,8,8,8,8,8,8] hp2=.ok (.next [~~~.scr c,~~~(.lst<|(qc<|xk c).map .str),~~~.adr p,~~~.adr g,~~~(.int<|Qm c 2%32),8,8,8,8,8] hp2):=by
  ext vq;let j:QH [.scr c,.int 2]=.ok (.int<|Qm c 2):=j;simp[j]
 rw[F,];show(jr vp _ _ hp2).need _ _;rw[VL ?_];let H:vp [~~~.scr c,~~~(.lst<|(qc<|xk c).map .str),~~~.adr p,~~~.adr g,~~~(.int<|Qm c 2%32),8,8,8,8,8] hp2=.ok (.next [~~~.scr c,~~~(.lst<|(qc<|xk c).map .str),~~~.adr p,~~~.adr g,~~~(.int<|Qm c 2%32),~~~.lst [.int (Qm c 03%1000000000),.int (Qm c 04%1000000000)],8,8,8,8] hp2):=by
  ext vp;let m:QH [.scr c,.int 03]=.ok (.int<|Qm c 03):=m;let r:QH [.scr c,.int 04]=.ok (.int<|Qm c 04):=r;simp[m,r,v]
 rw[H,];rw[VL<|Tr G]
def tO(a:Yq)(d:D):4:=⇑a=1/\((YF (JN 10 a) []).bind qi).need (λp=>dr p.2 1 p.1=d) λ_ _=>False
open Classical in
def wy:Yq->Res D:=λa=>if h:∃d,tO a d then .ok (choose h)else .no
def k8:∀a d,wy a=.ok d->⇑a=1/\((YF (JN 10 a) []).bind qi).need (λp=>dr p.2 1 p.1=d) λ_ _=>False:=λa d h=>by
 unfold wy at h
 split at h
 .rename_i e;let:=Vd e;cases h;rw[this]
 .cases h
def kt:∀a,∀c fs,wy a ≠ .ex c fs:=λa c fs h=>by
 unfold wy at h
 split at h<;>cases h
def wH(c:Ye)(h:⇑c<=63):wy [.scr c]=.ok (.bl 6):=by
 let b:tO [.scr c] (.bl 6):=(9,Wr.need_bind.mpr<|Tt c h);ext wy;rw[dif_pos (_,b),];let(-a,e,f):=DG (Vd ((_,b):∃d,tO [.scr c] d)).2 b.2;rw[<-e,f]
end My
set_option maxHeartbeats 4000000
namespace My
open PySem L2 L2.DL
def zI(i:5):Stmt:=PySem.Challenge.pw_allfirst_k57_names_plans_and_parts.main.body.getD i<|.Pass (0,0,0,0)
abbrev tbl:List (Str×5):=List.zip (List.map Str.ofString ["_law_spot","_law_bad_part","_law_item_put","_law_bad_plan","_law_cell_at","_law_double","_law_name_by","_law_names_by","_law_number_by","_law_item","_law_row_by","_law_grow","_law_plans_by","is_name","name_behind","are_figures","item_of","with_items","made_thing","takes_thing","takes_row","drafts_of","are_names","look_at_names","is_part","look_at_parts","look_at_items","look_at_plans","weights","look_at_weights","looked","numbered","numbers_of","plan_of","read","_law_refusal","_law_item_text","_law_rows","_law_alike","_law_same","_law_strange","_law_strange_row"]) [55,60,56,59,43,58,44,45,46,47,48,49,50,18,34,38,37,36,35,33,32,31,21,20,27,24,23,22,26,25,19,41,40,39,30,62,51,52,53,54,57,61]
abbrev bl:Yg:=List.map Str.ofString ["ValueError","abs","all","bool","enumerate","int","isinstance","len","list","max","min","range","set","str","sum","tuple"]
structure All(e:Ev):4 extends Al e zI tbl bl where
 x_AllError:Exc e.K e.mg "AllError" (e.C 0)
 x_BadName:Exc e.K e.mg "BadName" (e.C 1)
 x_BadPart:Exc e.K e.mg "BadPart" (e.C 2)
 x_BadPlan:Exc e.K e.mg "BadPlan" (e.C 03)
 x_BadRow:ExcI e.K e.mg "BadRow" (e.C 04) (e.C 05) "row"
 f_BadRow:∃fd,Fun e.K "__init__" "BadRow.__init__" (VN (zI 09) 0) (e.C 05) fd
 x_NoName:ExcI e.K e.mg "NoName" (e.C 06) (e.C 07) "row"
 f_NoName:∃fd,Fun e.K "__init__" "NoName.__init__" (VN (zI 10) 0) (e.C 07) fd
 x_NoPlan:Exc e.K e.mg "NoPlan" (e.C 08)
 x_TooLong:Exc e.K e.mg "TooLong" (e.C 09)
 x_TooMany:Exc e.K e.mg "TooMany" (e.C 10)
 x_Unlike:Exc e.K e.mg "Unlike" (e.C 11)
 o_BadName:Ucl e.K e.mg "BadName" (e.C 12)
 o_BadPart:Ucl e.K e.mg "BadPart" (e.C 13)
 o_BadPlan:Ucl e.K e.mg "BadPlan" (e.C 14)
 o_BadRow:Ucl e.K e.mg "BadRow" (e.C 15)
 o_NoName:Ucl e.K e.mg "NoName" (e.C 16)
 o_NoPlan:Ucl e.K e.mg "NoPlan" (e.C 17)
 o_TooLong:Ucl e.K e.mg "TooLong" (e.C 18)
 o_TooMany:Ucl e.K e.mg "TooMany" (e.C 19)
 o_Unlike:Ucl e.K e.mg "Unlike" (e.C 20)
 e_BadName:ExcCl e.K (e.C 1)
 e_BadPart:ExcCl e.K (e.C 2)
 e_BadPlan:ExcCl e.K (e.C 03)
 e_BadRow:ExcCl e.K (e.C 04)
 e_NoName:ExcCl e.K (e.C 06)
 e_TooLong:ExcCl e.K (e.C 09)
 n_BadName_BadPart:NoSub e.K (e.C 1) (e.C 13)
 n_BadName_BadPlan:NoSub e.K (e.C 1) (e.C 14)
 n_BadName_BadRow:NoSub e.K (e.C 1) (e.C 15)
 n_BadName_NoName:NoSub e.K (e.C 1) (e.C 16)
 n_BadName_NoPlan:NoSub e.K (e.C 1) (e.C 17)
 n_BadName_TooLong:NoSub e.K (e.C 1) (e.C 18)
 n_BadName_TooMany:NoSub e.K (e.C 1) (e.C 19)
 n_BadName_Unlike:NoSub e.K (e.C 1) (e.C 20)
 n_BadPart_BadName:NoSub e.K (e.C 2) (e.C 12)
 n_BadPart_BadPlan:NoSub e.K (e.C 2) (e.C 14)
 n_BadPart_BadRow:NoSub e.K (e.C 2) (e.C 15)
 n_BadPart_NoName:NoSub e.K (e.C 2) (e.C 16)
 n_BadPart_NoPlan:NoSub e.K (e.C 2) (e.C 17)
 n_BadPart_TooLong:NoSub e.K (e.C 2) (e.C 18)
 n_BadPart_TooMany:NoSub e.K (e.C 2) (e.C 19)
 n_BadPart_Unlike:NoSub e.K (e.C 2) (e.C 20)
 n_BadPlan_BadName:NoSub e.K (e.C 03) (e.C 12)
 n_BadPlan_BadPart:NoSub e.K (e.C 03) (e.C 13)
 n_BadPlan_BadRow:NoSub e.K (e.C 03) (e.C 15)
 n_BadPlan_NoName:NoSub e.K (e.C 03) (e.C 16)
 n_BadPlan_NoPlan:NoSub e.K (e.C 03) (e.C 17)
 n_BadPlan_TooLong:NoSub e.K (e.C 03) (e.C 18)
 n_BadPlan_TooMany:NoSub e.K (e.C 03) (e.C 19)
 n_BadPlan_Unlike:NoSub e.K (e.C 03) (e.C 20)
 n_BadRow_BadName:NoSub e.K (e.C 04) (e.C 12)
 n_BadRow_BadPart:NoSub e.K (e.C 04) (e.C 13)
 n_BadRow_BadPlan:NoSub e.K (e.C 04) (e.C 14)
 n_BadRow_NoName:NoSub e.K (e.C 04) (e.C 16)
 n_BadRow_NoPlan:NoSub e.K (e.C 04) (e.C 17)
 n_BadRow_TooLong:NoSub e.K (e.C 04) (e.C 18)
 n_BadRow_TooMany:NoSub e.K (e.C 04) (e.C 19)
 n_BadRow_Unlike:NoSub e.K (e.C 04) (e.C 20)
 n_NoName_BadName:NoSub e.K (e.C 06) (e.C 12)
 n_NoName_BadPart:NoSub e.K (e.C 06) (e.C 13)
 n_NoName_BadPlan:NoSub e.K (e.C 06) (e.C 14)
 n_NoName_BadRow:NoSub e.K (e.C 06) (e.C 15)
 n_NoName_NoPlan:NoSub e.K (e.C 06) (e.C 17)
 n_NoName_TooLong:NoSub e.K (e.C 06) (e.C 18)
 n_NoName_TooMany:NoSub e.K (e.C 06) (e.C 19)
 n_NoName_Unlike:NoSub e.K (e.C 06) (e.C 20)
 n_TooLong_BadName:NoSub e.K (e.C 09) (e.C 12)
 n_TooLong_BadPart:NoSub e.K (e.C 09) (e.C 13)
 n_TooLong_BadPlan:NoSub e.K (e.C 09) (e.C 14)
 n_TooLong_BadRow:NoSub e.K (e.C 09) (e.C 15)
 n_TooLong_NoName:NoSub e.K (e.C 09) (e.C 16)
 n_TooLong_NoPlan:NoSub e.K (e.C 09) (e.C 17)
 n_TooLong_TooMany:NoSub e.K (e.C 09) (e.C 19)
 n_TooLong_Unlike:NoSub e.K (e.C 09) (e.C 20)
 u_BadName_AllError:W.subIn e.K (.ref<|e.C 1) (.ref<|e.C 0)=!6
 u_BadPart_AllError:W.subIn e.K (.ref<|e.C 2) (.ref<|e.C 0)=!6
 u_BadPlan_AllError:W.subIn e.K (.ref<|e.C 03) (.ref<|e.C 0)=!6
 u_BadRow_AllError:W.subIn e.K (.ref<|e.C 04) (.ref<|e.C 0)=!6
 u_NoName_AllError:W.subIn e.K (.ref<|e.C 06) (.ref<|e.C 0)=!6
 u_TooLong_AllError:W.subIn e.K (.ref<|e.C 09) (.ref<|e.C 0)=!6
 v_BadName:W.subIn e.K (.ref<|e.C 1) (.type "ValueError")=!6
 v_BadPart:W.subIn e.K (.ref<|e.C 2) (.type "ValueError")=!6
 v_BadPlan:W.subIn e.K (.ref<|e.C 03) (.type "ValueError")=!6
 v_BadRow:W.subIn e.K (.ref<|e.C 04) (.type "ValueError")=!6
 v_NoName:W.subIn e.K (.ref<|e.C 06) (.type "ValueError")=!6
 v_TooLong:W.subIn e.K (.ref<|e.C 09) (.type "ValueError")=!6
 z_Book:ZP e.K "Book"
 z_Plan:ZP e.K "Plan"
 w_FIGURES:e.mg "FIGURES"=!(.str "0123456789"<|e.t 0)
 y_KEPT_WORDS:KTup e.K e.mg "KEPT_WORDS" ["plan","given","all","first","part"]
 w_LETTERS:e.mg "LETTERS"=!(.str "abcdefghijklmnopqrstuvwxyz"<|e.t 1)
 k_Book:ClsD e.K e.mg "Book" (e.C 21) ["plans"]
 l_Book:∃f fd,Mk e.K (e.C 21) f/\Fun e.K "__init__" "Book.__init__" (VN (zI 13) 0) f fd
 k_Draft:ClsD e.K e.mg "Draft" (e.C 22) ["name","givens","rows"]
 l_Draft:∃f fd,Mk e.K (e.C 22) f/\Fun e.K "__init__" "Draft.__init__" (VN (zI 29) 0) f fd
 k_Plan:ClsD e.K e.mg "Plan" (e.C 23) ["name","givens","rows"]
 l_Plan:∃f fd,Mk e.K (e.C 23) f/\Fun e.K "__init__" "Plan.__init__" (VN (zI 12) 0) f fd
def Tu(a:All e):tN e.P e.w e.K e.mg e.base "Book" ["plans"] 1 ["self","plans"] Dw:=by
 let(f,d,c,b):=a.l_Book;let m:=a.m;let k:=a.k_Book;rw[(_,_,_,k,c,hX (k:=0) (N:=["plans"]) (g:=Ju (jj Wp<|Ju (ja 1) jb) jb) b (JO (N:=["self","plans"])) (by decide) (by decide) λ_ _ _ _ _ _ h=>AV k (by decide) (pv 0) (j7<|Cz (x:="list") CA 9 (J5 m) W4<|Jv (qv 1) Jx) Gu,b.binds λ_ _ _ _ _ _=>uV λ_ _=>9)]
def Tv(a:All e):dD e.P e.w e.K e.mg e.base "Draft" ["name","givens","rows"] 1 ["self","name"] Bx:=by
 let(f,d,c,b):=a.l_Draft;let m:=a.m;let k:=a.k_Draft;rw[(_,_,_,k,c,y7 (k:=0) (N:=["self","name"]) (g:=Aa) b (JO (N:=["self","name"])) λ_ _ _ _ _ _ h=>by
  ext Aa;rw[JD (CY k (by decide) (J3<|qv 0)<|J3<|qv 1)<|JD (CY k (by decide) (J3<|qv 0)<|Ki Qg)<|JD (CY k (by decide) (J3<|qv 0)<|Ki Qg) KO],b.binds λ_ _ _ _ _ _=>uV λ_ _=>9)]
def Tw(a:All e):tN e.P e.w e.K e.mg e.base "Plan" ["name","givens","rows"] 1 ["self","name","givens","rows"] Dx:=by
 let(f,d,c,b):=a.l_Plan;let m:=a.m;let k:=a.k_Plan;rw[(_,_,_,k,c,hX (k:=0) (N:=["name","givens","rows"]) (g:=Ju (ja 1)<|Ju (jj Wp<|Ju (ja 2) jb)<|Ju (jj Wp<|Ju (ja 03) jb) jb) b (JO (N:=["self","name","givens","rows"])) (by decide) (by decide) λ_ _ _ _ _ _ h=>AV k (by decide) (pv 0) (qv 1)<|AV k (by decide) (pv 0) (j7<|Cz (x:="list") CA 9 (J5 m) W4<|Jv (qv 2) Jx)<|AV k (by decide) (pv 0) (j7<|Cz (x:="list") CA 9 (J5 m) W4<|Jv (qv 03) Jx) Gu,b.binds λ_ _ _ _ _ _=>rj λ_ _ _ _=>9)]
def Tx(a:All e):XI e.P e.w e.K e.mg e.base "BadRow":=by
 let(b,h):=a.f_BadRow;rw[(_,_,b,["self","row"],a.x_BadRow,GN h (JO (N:=["self","row"])) λ_ _ _ _ _ _=>Ax<|GM a.x_BadRow (pv 0) (pv 1) 9,h.binds λ_ _ _ _ _ _=>uV λ_ _=>9)]
def Tz(a:All e):XI e.P e.w e.K e.mg e.base "NoName":=by
 let(b,h):=a.f_NoName;rw[(_,_,b,["self","row"],a.x_NoName,GN h (JO (N:=["self","row"])) λ_ _ _ _ _ _=>Ax<|GM a.x_NoName (pv 0) (pv 1) 9,h.binds λ_ _ _ _ _ _=>uV λ_ _=>9)]
def BX(a:All e):Ca e "_law_spot" 1 ["plans","cell"] (zj e.K Y4):=
 xz a.toAl 0 55 λF=>y7 (N:=["plans","cell","plan","at"]) (g:=Bz) F JO λ_ _ _ _ _ _ b=>by
 let m:=a.m;ext Bz;rw[JD (QL j6 9 (.inl 9)<|K6 (J3<|qv 0) (Qx 05 [0]<|jo Qc (qv 1)<|J7 (x:="len") JI 9 (J5 m) JG<|Jv (qv 0) Jx)<|λ_ _=>9)<|JD (QL j6 9 (.inl 9)<|Qx 05 [2]<|jo Qc (jo QF (qv 1) Jw)<|J7 (x:="len") JI 9 (J5 m) JG<|Jv (J1 (Jy b) (qv 2) Jw (λ_ _=>9)<|λ_ _=>9) Jx)<|JW<|V1<|PK<|JB (J3<|qv 2)<|JB (J3<|qv 03)<|JB (Qx 05 [2]<|jo Qc (jo QF (qv 1) Jw)<|J7 (x:="len") JI 9 (J5 m) JG<|Jv (J1 (Jy b) (J1 (Jy b) (J1 (Jy b) (qv 2) Jw (λ_ _=>9)<|λ_ _=>9) (qv 03) (λ_ _=>9)<|λ_ _=>9) Jw (λ_ _=>9)<|λ_ _=>9) Jx) Qg]
def T4(a:All e):Ca e "_law_bad_part" 2 ["plans","names","cell"] (zj e.K B0):=
 xz a.toAl 1 60 λF=>y7 (N:=["plans","names","cell","plan","at","place","row"]) (g:=Y5) F JO λ_ _ _ _ _ _ b=>by
 let c:=(BX a).mono (k:=1) ();ext Y5;rw[JD (Dd (K7 c b 9<|JB (J3<|qv 0)<|JB (J3<|jo QF (qv 2) Jw) Qg)<|Kv [03,04,05]<|Ks 9<|Qb (JY j6 9<|.inl 9)<|Qb (JY j6 9<|.inl 9)<|Qb (JY j6 9<|.inl 9) Kr)<|JD (QL j6 9 (.inl 9)<|Qx 05 [03]<|J1 (Jy b) (J1 (Jy b) (qv 03) Jw (λ_ _=>9)<|λ_ _=>9) (qv 04) (λ_ _=>9)<|λ_ _=>9)<|JW<|QY (V0<|jW<|Ku (JV (qA b.units) (jo Qc (qv 2) Jw) Jw<|JM _)<|KM<|AF b.units (J1 (Jy b) (qv 06) Jw (λ_ _=>9)<|λ_ _=>9)<|Qs<|Jv JQ<|Jv JQ Jx) (JW<|Wu (K6 (J3<|qv 03) (J3 Jw)<|λ_ _=>9) (J3<|qv 04)<|J3<|Qs<|Jv (J1 (Jy b) (qv 06) Jw (λ_ _=>9)<|λ_ _=>9)<|Jv (J1 (Jy b) (qv 06) Jw (λ_ _=>9)<|λ_ _=>9)<|Jv (jo AL (J1 (Jy b) (qv 06) Jw (λ_ _=>9)<|λ_ _=>9)<|Dc (J1 (Jy b) (qv 06) Jw (λ_ _=>9)<|λ_ _=>9) KD<|VD Jw) Jx)<|JW<|Wu (K6 (J3<|qv 03) (J3 Jw)<|λ_ _=>9) (J3<|qv 04)<|Qx 05 [03]<|Qs<|Jv (J1 (Jy b) (qv 06) Jw (λ_ _=>9)<|λ_ _=>9)<|Jv (J1 (Jy b) (j7<|Kh<|Jv (J1 (Jy b) (qv 03) Jw (λ_ _=>9)<|λ_ _=>9)<|Jv (J1 (Jy b) (qv 1) Jw (λ_ _=>9)<|λ_ _=>9) Jx) (jo Qc (qv 2) Jw) (λ_ _=>9)<|λ_ _=>9)<|Jv (J1 (Jy b) (qv 06) Jw (λ_ _=>9)<|λ_ _=>9) Jx]
def Lr(a:All e):Ca e "_law_item_put" 2 ["plans","cell","thing"] (zj e.K B5):=
 xz a.toAl 2 56 λF=>y7 (N:=["plans","cell","thing","plan","at","place","row","items"]) (g:=B4) F JO λ_ _ _ _ _ _ b=>by
 let c:=(BX a).mono (k:=1) ();ext B4;rw[JD (Dd (K7 c b 9<|JB (J3<|qv 0)<|JB (J3<|qv 1) Qg)<|Kv [03,04,05]<|Ks 9<|Qb (JY j6 9<|.inl 9)<|Qb (JY j6 9<|.inl 9)<|Qb (JY j6 9<|.inl 9) Kr)<|JD (QL j6 9 (.inl 9)<|Qx 05 [03]<|J1 (Jy b) (J1 (Jy b) (qv 03) Jw (λ_ _=>9)<|λ_ _=>9) (qv 04) (λ_ _=>9)<|λ_ _=>9)<|JD (Kj (m:=!7)<|JR j6 9 (.inl 9)<|jo AL (jo AL (Dc (J1 (Jy b) (qv 06) Jw (λ_ _=>9)<|λ_ _=>9) KD<|VD<|qv 05)<|Qs<|Jv (Qs<|Jv (qv 2)<|Jv (J1 (Jy b) (J1 (Jy b) (J1 (Jy b) (qv 06) Jw (λ_ _=>9)<|λ_ _=>9) (qv 05) (λ_ _=>9)<|λ_ _=>9) Jw (λ_ _=>9)<|λ_ _=>9) Jx) Jx)<|Dc (J1 (Jy b) (qv 06) Jw (λ_ _=>9)<|λ_ _=>9) (VD<|jo JT (qv 05) Jw) KD)<|JW<|Wu (K6 (J3<|qv 03) (J3 Jw)<|λ_ _=>9) (J3<|qv 04)<|J3<|Qs<|Jv (J1 (Jy b) (qv 06) Jw (λ_ _=>9)<|λ_ _=>9)<|Jv (J1 (Jy b) (qv 06) Jw (λ_ _=>9)<|λ_ _=>9)<|Jv (qv 07) Jx]
def T5(a:All e):Ca e "_law_bad_plan" 03 ["plans","names","cell"] (zj e.K Wh):=
 xz a.toAl 03 59 λF=>y7 (N:=["plans","names","cell","way","plan","at","place","own"]) (g:=WU) F JO λ_ _ _ _ _ _ b=>by
 let m:=a.m;let c:=(Lr a).mono (k:=2) ();let d:=(BX a).mono (k:=2) ();ext WU
 rw[JD (Kj (m:=!7)<|JR j6 9 (.inl 9)<|jo Qc (qv 2) Jw)<|JD (Kj (m:=!7)<|JR j6 9 (.inl 9)<|jo QF (qv 2) Jw)<|JW<|QY (V0<|JV (qA b.units) (qv 03) Jw<|JM _) (JD (Dd (K7 d b 9<|JB (J3<|qv 0)<|JB (J3<|qv 2) Qg)<|Kv [04,05,06]<|Ks 9<|Qb (JY j6 9<|.inl 9)<|Qb (JY j6 9<|.inl 9)<|Qb (JY j6 9<|.inl 9) Kr)<|JD (QL j6 9 (.inl 9)<|Qx 05 [04]<|jo JT (J7 (x:="len") JI 9 (J5 m) JG<|Jv (J1 (Jy b) (qv 04) Jw (λ_ _=>9)<|λ_ _=>9) Jx)<|qv 05)<|JW<|WJ<|K7 c b 9<|JB (J3<|qv 0)<|JB (J3<|qv 2)<|JB (Qx 05 [04]<|jo JT (qv 07)<|jo Qc (jo QF (qv 2) Jw)<|jo XT (jo JT (J7 (x:="len") JI 9 (J5 m) JG<|Jv (J1 (Jy b) (qv 04) Jw (λ_ _=>9)<|λ_ _=>9) Jx)<|J7 (x:="len") JI 9 (J5 m) JG<|Jv (J1 (Jy b) (qv 04) Jw (λ_ _=>9)<|λ_ _=>9) Jx)<|qv 07) Qg)<|JW<|QY (V0<|JV (qA b.units) (qv 03) Jw<|JM _) (JW<|VG (J3<|qv 0) (Ki<|JB (J3<|J1 (Jy b) (qv 1) Jw (λ_ _=>9)<|λ_ _=>9)<|JB (Ki<|JB (J3<|J1 (Jy b) (qv 1) (jo Qc (qv 2) Jw) (λ_ _=>9)<|λ_ _=>9) Qg)<|JB (Ki Qg) Qg)<|λf h=>Q4 Yl Ym Yn Kt f h)<|JW<|QY (V0<|JV (qA b.units) (qv 03) Jw<|JM _) (JW<|VG (J3<|qv 0) (Ki<|JB (J3<|J1 (Jy b) (qv 1) Jw (λ_ _=>9)<|λ_ _=>9)<|JB (GX 05 []<|Yv (qv 1) KD (VD Jw) KD)<|JB (Ki<|JB (J3<|Qs<|Jv (J1 (Jy b) (qv 1) Jw (λ_ _=>9)<|λ_ _=>9)<|Jv JQ<|Jv (Qs<|Jv (Qs<|Jv (jo Qc (qv 2) Jw)<|Jv Jw Jx) Jx) Jx) Qg) Qg)<|λf h=>Q4 Yl Ym Yn Kt f h)<|JW<|VG (J3<|qv 0) (Ki<|JB (J3<|J1 (Jy b) (qv 1) Jw (λ_ _=>9)<|λ_ _=>9)<|JB (Ki Qg)<|JB (Ki<|JB (J3<|Qs<|Jv (J1 (Jy b) (qv 1) (jo Qc (qv 2) Jw) (λ_ _=>9)<|λ_ _=>9)<|Jv JQ<|Jv (Qs<|Jv (Qs<|Jv Jw<|Jv Jw Jx) Jx) Jx) Qg) Qg)<|λf h=>Q4 Yl Ym Yn Kt f h]
def Ee(a:All e):Ca e "_law_cell_at" 1 ["script","k"] (xZ e.K QH):=
 xz a.toAl 04 43 λF=>xt (N:=["script","k"]) (g:=X4) F JO λ_ _ _ _ _ _ b=>by
 let m:=a.m;ext X4;rw[JA (Qq (JV wG (qv 1) (J7 (x:="len") JI 9 (J5 m) JG<|Jv (qv 0) Jx)<|JM _) (J8<|Qh<|J1 (Jy b) (qv 0) (qv 1) (λ_ _=>9)<|λ_ _=>9) Qp)<|J8<|Qh Jw]
def T6(a:All e):Ca e "_law_double" 1 ["plans","cell"] (zj e.K X5):=
 xz a.toAl 05 58 λF=>y7 (N:=["plans","cell","plan","at","some"]) (g:=V5) F JO λ_ _ _ _ _ _ b=>by
 let m:=a.m;ext V5
 rw[JD (QL j6 9 (.inl 9)<|K6 (J3<|qv 0) (Qx 05 [0]<|jo Qc (qv 1)<|J7 (x:="len") JI 9 (J5 m) JG<|Jv (qv 0) Jx)<|λ_ _=>9)<|JW<|QY (Wt 05 [0]<|jW<|Ku (JV (qA b.units) (jo Qc (jo QF (qv 1) Jw) Jw) Jw<|JM _)<|KM<|JV z3 (J7 (x:="len") JI 9 (J5 m) JG<|Jv (qv 0) Jx) Jw<|JM _) (JW<|Wu (K6 (J3<|qv 0) (J3<|x9 K3 Jw)<|λ_ _=>9) (J3 Jw)<|Qx 05 [0]<|J1 (Jy b) (J1 (Jy b) (qv 0) (jo Qc (jo QF (qv 1) Jw)<|jo XT (J7 (x:="len") JI 9 (J5 m) JG<|Jv (qv 0) Jx) Jw) (λ_ _=>9)<|λ_ _=>9) Jw (λ_ _=>9)<|λ_ _=>9)<|JW<|QY (Wt 05 [2]<|jW<|Ku (JV (qA b.units) (jo Qc (jo QF (qv 1) Jw) Jw) Jw<|JM _)<|KM<|JV z3 (J7 (x:="len") JI 9 (J5 m) JG<|Jv (J1 (Jy b) (qv 2) Jw (λ_ _=>9)<|λ_ _=>9) Jx) Jw<|JM _) (JW<|Wu (K6 (J3<|qv 2) (J3 Jw)<|λ_ _=>9) (J3<|x9 K3 Jw)<|Qx 05 [2]<|J1 (Jy b) (J1 (Jy b) (qv 2) Jw (λ_ _=>9)<|λ_ _=>9) (jo Qc (jo QF (qv 1) Jw)<|jo XT (J7 (x:="len") JI 9 (J5 m) JG<|Jv (J1 (Jy b) (qv 2) Jw (λ_ _=>9)<|λ_ _=>9) Jx) Jw) (λ_ _=>9)<|λ_ _=>9)<|JD (QL j6 9 (.inl 9)<|Qx 05 [2]<|jo Qc (jo QF (qv 1) Jw)<|J7 (x:="len") JI 9 (J5 m) JG<|Jv (J1 (Jy b) (qv 2) Jw (λ_ _=>9)<|λ_ _=>9) Jx)<|JD (QL j6 9 (.inl 9)<|GX 05 [2]<|Fj Gk (J1 (Jy b) (qv 2) Jw (λ_ _=>9)<|λ_ _=>9)<|j7<|KN ["row"] [8] 9 9 (Q5<|j7<|Yv (J1 (Jy b) (qv 2) Jw (λ_ _=>9)<|λ_ _=>9) KD (VD<|qv 03) KD) (λ_ _ _ _ _=>QC<|yA 0 j6)<|λ_ _ _ _ _=>J1 (Jy b) (qv 0) Jw (λ_ _=>9)<|λ_ _=>9)<|JW<|Wu (K6 (J3<|qv 2) (J3 Jw)<|λ_ _=>9) (J3<|qv 03)<|Qx 05 [2,04]<|Qs<|Jv (J1 (Jy b) (qv 04) (jo Qc (jo QF (qv 1) Jw)<|J7 (x:="len") JI 9 (J5 m) JG<|Jv (qv 04) Jx) (λ_ _=>9)<|λ_ _=>9)<|Jv (J1 (Jy b) (J1 (Jy b) (J1 (Jy b) (qv 2) Jw (λ_ _=>9)<|λ_ _=>9) (qv 03) (λ_ _=>9)<|λ_ _=>9) Jw (λ_ _=>9)<|λ_ _=>9)<|Jv (J1 (Jy b) (J1 (Jy b) (J1 (Jy b) (qv 2) Jw (λ_ _=>9)<|λ_ _=>9) (qv 03) (λ_ _=>9)<|λ_ _=>9) Jw (λ_ _=>9)<|λ_ _=>9) Jx]
def T7(a:All e):Ca e "_law_name_by" 1 ["number","used"] (xZ e.K WV):=
 xz a.toAl 06 44 λF=>xt (N:=["number","used","letters","words","more","name","rest"]) (g:=B6) F JO λ_ _ _ _ _ _ b=>by
 let m:=a.m;ext B6;rw[JA (JR j6 9 (.inl 9) JQ)<|JA (JR j6 9 (.inl 9)<|j7<|Kh<|Jv JQ<|Jv JQ<|Jv JQ<|Jv JQ<|Jv JQ Jx)<|JA (Kc PassesOwn.never 9 (XY 9 (J5 m)<|Jv (jo JT (J7 (x:="len") JI 9 (J5 m) JG<|Jv (qv 1) Jx) Jw) Jx) (QC<|JY j6 9<|.inl 9)<|JA (JR j6 9 (.inl 9)<|J1 (Jy b) (qv 2) (jo Qc (jo JT (qv 0)<|qv 04) Jw) (λ_ _=>9)<|λ_ _=>9)<|JA (JR j6 9 (.inl 9)<|jo QF (jo JT (qv 0)<|qv 04) Jw)<|JA (OV 60 PassesOwn.never (JV z3 (qv 06) Jw<|JM _)<|JA (JR j6 9 (.inl 9)<|jo JT (qv 05)<|J1 (Jy b) (qv 2) (jo Qc (qv 06) Jw) (λ_ _=>9)<|λ_ _=>9)<|J8<|JR j6 9 (.inl 9)<|jo QF (qv 06) Jw)<|J8<|Qq (jW<|Ku (AF b.units (qv 05)<|qv 1)<|KM<|AF b.units (qv 05)<|qv 03) (J8<|Qh<|qv 05) Qp)<|J8<|Qh JQ]
def Ls(a:All e):Ca e "_law_names_by" 2 ["script","many"] (vG e.K V6):=
 xz a.toAl 07 45 λF=>v7 (N:=["script","many","base","step","found","k"]) (g:=Ac) F JO λ_ _ _ _ _ _ d=>by
 let m:=a.m;let b:=(Ee a).mono (k:=1) ();let c:=(T7 a).mono (k:=1) ();ext Ac;rw[JA (JR j6 9 (.inl 9)<|jo Qc (qg b d 9<|Jv (qv 0)<|Jv Jw Jx)<|jo AE Jw<|jo YY Jw Jw)<|JA (JR j6 9 (.inl 9)<|J1 (Jy d) (j7<|Kh<|Jv Jw<|Jv Jw<|Jv Jw<|Jv Jw<|Jv Jw Jx) (jo Qc (qg b d 9<|Jv (qv 0)<|Jv Jw Jx) Jw) (λ_ _=>9)<|λ_ _=>9)<|JA (Xq j6 9 (.inl 9)<|Kh Jx)<|JA (Kc PassesOwn.never 9 (XY 9 (J5 m)<|Jv (qv 1) Jx) (QC<|JY j6 9<|.inl 9)<|J8<|XR (pv 04) (C0 [04]<|qg c d 9<|Jv (jo JT (qv 2)<|jo AE (qv 05)<|qv 03)<|Jv (qv 04) Jx)<|λf h=>Q4 Yl Ym Yn Kt f h)<|J8<|AB<|pv 04]
def T8(a:All e):Ca e "_law_number_by" 1 ["cell"] (xZ e.K Y7):=
 xz a.toAl 08 46 λF=>xt (N:=["cell","size"]) (g:=Y6) F JO λ_ _ _ _ _ _ b=>by
 ext Y6;rw[JA (JR j6 9 (.inl 9)<|jo Qc (jo QF (qv 0) Jw)<|jo YY Jw Jw)<|JA (Qq (JV (qA b.units) (jo Qc (qv 0) Jw) Jw<|JM _) (J8<|Qh Jw) Qp)<|JA (Qq (JV (qA b.units) (jo Qc (qv 0) Jw) Jw<|JM _) (J8<|Qh<|qv 1) Qp)<|J8<|Qh<|jo XT Jw<|qv 1]
def Lu(a:All e):Ca e "_law_item" 2 ["cell","ahead"] (xZ e.K WW):=
 xz a.toAl 09 47 λF=>xt (N:=["cell","ahead"]) (g:=B7) F JO λ_ _ _ _ _ _ c=>by
 let b:=(T8 a).mono (k:=1) ();ext B7;rw[J8<|Qh<|Qs<|Jv (jo Qc (qv 0)<|qv 1)<|Jv (qg b c 9<|Jv (jo QF (qv 0)<|qv 1) Jx) Jx]
def Lv(a:All e):Ca e "_law_row_by" 03 ["plans","loads","names","what","cell"] (zj e.K Y8):=
 xz a.toAl 10 48 λF=>y7 (N:=["plans","loads","names","what","cell","plan","ahead","name","part","many"]) (g:=WY) F JO λ_ _ _ _ _ _ b=>by
 let m:=a.m;let c:=(Lu a).mono (k:=2) ();ext WY
 rw[JD (QL j6 9 (.inl 9)<|K6 (J3<|qv 0) (J3<|x9 K3 Jw)<|λ_ _=>9)<|JD (QL j6 9 (.inr 9)<|Qx 05 [05]<|jo JT (J7 (x:="len") JI 9 (J5 m) JG<|Jv (J1 (Jy b) (qv 05) Jw (λ_ _=>9)<|λ_ _=>9) Jx)<|J7 (x:="len") JI 9 (J5 m) JG<|Jv (J1 (Jy b) (qv 05) Jw (λ_ _=>9)<|λ_ _=>9) Jx)<|JD (QL j6 9 (.inl 9)<|Qx 05 [0]<|J1 (Jy b) (qv 2) (jo Qc (jo JT (J7 (x:="len") JI 9 (J5 m) JG<|Jv (qv 0) Jx)<|qv 06)<|J7 (x:="len") JI 9 (J5 m) JG<|Jv (qv 2) Jx) (λ_ _=>9)<|λ_ _=>9)<|JD (Wu (J3<|qv 1) (J3<|x9 K3 Jw)<|Qx 05 [1]<|jo JT (J1 (Jy b) (qv 1) (x9 K3 Jw) (λ_ _=>9)<|λ_ _=>9) Jw)<|JD (QY (Wt 05 [0]<|jW<|Ku (JV (qA b.units) (jo Qc (qv 03) Jw) Jw<|JM _)<|KM<|JV z3 (J7 (x:="len") JI 9 (J5 m) JG<|Jv (qv 0) Jx) Jw<|JM _) (JD (QL j6 9 (.inl 9)<|Qx 05 [0]<|jo Qc (jo QF (qv 03) Jw)<|jo XT (J7 (x:="len") JI 9 (J5 m) JG<|Jv (qv 0) Jx) Jw)<|JW<|QY (Wt 05 [1]<|JV xW (jo JT (J1 (Jy b) (qv 1) (x9 K3 Jw) (λ_ _=>9)<|λ_ _=>9)<|J1 (Jy b) (qv 1) (qv 08) (λ_ _=>9)<|λ_ _=>9) Jw<|JM _) (JD (Wu (J3<|qv 1) (J3<|x9 K3 Jw)<|Qx 05 [1]<|jo JT (J1 (Jy b) (qv 1) (x9 K3 Jw) (λ_ _=>9)<|λ_ _=>9)<|J1 (Jy b) (qv 1) (qv 08) (λ_ _=>9)<|λ_ _=>9)<|JD (QL j6 9 (.inl 9)<|Qx 05 [0]<|J7 (x:="len") JI 9 (J5 m) JG<|Jv (J1 (Jy b) (J1 (Jy b) (qv 0) (qv 08) (λ_ _=>9)<|λ_ _=>9) Jw (λ_ _=>9)<|λ_ _=>9) Jx)<|JW<|V1<|Qx 05 [0]<|Qs<|Jv (qv 07)<|Jv (J1 (Jy b) (J1 (Jy b) (qv 0) (qv 08) (λ_ _=>9)<|λ_ _=>9) Jw (λ_ _=>9)<|λ_ _=>9)<|Jv (YT (x:="tuple") Fz 9 (J5 m) YP<|Jv (j7<|KN ["j","cell","ahead"] [8,!04,!06] 9 9 (XY 9 (J5 m)<|Jv (qv 09) Jx) (λ_ _ _ _ _=>QC<|yA 0 j6)<|λ_ _ _ _ _=>qg c b 9<|Jv (jo JT (qv 1)<|jo AE (jo AE Jw<|qv 0)<|qv 0)<|Jv (qv 2) Jx) Jx) Jx) KO) KO)<|JW<|V1<|J3<|Qs<|Jv (qv 07)<|Jv (J1 (Jy b) (j7<|Kh<|Jv JQ<|Jv JQ Jx) (jo Qc (qv 03) Jw) (λ_ _=>9)<|λ_ _=>9)<|Jv (Qs<|Jv (qg c b 9<|Jv (qv 04)<|Jv (qv 06) Jx) Jx) Jx]
def T9(a:All e):Ca e "_law_grow" 04 ["plans","loads","names","what","cell"] (zj e.K Ae):=
 xz a.toAl 11 49 λF=>y7 (N:=["plans","loads","names","what","cell","plan","kind","row"]) (g:=Y9) F JO λ_ _ _ _ _ _ b=>by
 let m:=a.m;let c:=(Lu a).mono (k:=03) ();let d:=(Lv a).mono (k:=03) ();ext Y9
 rw[JD (QL j6 9 (.inl 9)<|K6 (J3<|qv 0) (J3<|x9 K3 Jw)<|λ_ _=>9)<|JD (Kj (m:=!7)<|JR j6 9 (.inl 9)<|jo Qc (qv 03) Jw)<|JW<|QY (Wt 05 [05]<|jW<|Ku (JV (qA b.units) (qv 06) Jw<|JM _)<|KM<|JV (yE b.units) (J1 (Jy b) (qv 05) Jw (λ_ _=>9)<|λ_ _=>9) (j7<|Kh Jx)<|JM _) (JD (VG (J3<|qv 0) (Ki<|JB (Qx 05 [0]<|J1 (Jy b) (qv 2) (J7 (x:="len") JI 9 (J5 m) JG<|Jv (qv 0) Jx) (λ_ _=>9)<|λ_ _=>9)<|JB (Ki<|JB (Qx 05 [0]<|J1 (Jy b) (qv 2) (jo JT (J7 (x:="len") JI 9 (J5 m) JG<|Jv (qv 0) Jx) Jw) (λ_ _=>9)<|λ_ _=>9) Qg)<|JB (Ki Qg) Qg)<|λf h=>Q4 Yl Ym Yn Kt f h)<|JW<|VG (J3<|qv 1) (J3 Jw)<|λf h=>Q4 Yl Ym Yn Kt f h)<|JW<|QY (Wt 05 [05]<|jW<|Ku (JV (qA b.units) (qv 06) Jw<|JM _)<|Ku (JV (qA b.units) (J1 (Jy b) (qv 05) Jw (λ_ _=>9)<|λ_ _=>9) (j7<|Kh Jx)<|JM _)<|KM<|JV wG (J7 (x:="len") JI 9 (J5 m) JG<|Jv (J1 (Jy b) (qv 05) Jw (λ_ _=>9)<|λ_ _=>9) Jx) Jw<|JM _) (JW<|VG (K6 (J3<|qv 05) (J3 Jw)<|λ_ _=>9) (Qx 05 [0,05]<|J1 (Jy b) (qv 2) (jo Qc (jo JT (J7 (x:="len") JI 9 (J5 m) JG<|Jv (qv 0) Jx)<|J7 (x:="len") JI 9 (J5 m) JG<|Jv (J1 (Jy b) (qv 05) Jw (λ_ _=>9)<|λ_ _=>9) Jx)<|J7 (x:="len") JI 9 (J5 m) JG<|Jv (qv 2) Jx) (λ_ _=>9)<|λ_ _=>9)<|λf h=>Q4 Yl Ym Yn Kt f h)<|JW<|QY (Wt 05 [05]<|jW<|Ku (JV z3 (qv 06) Jw<|JM _)<|Ku (JV (yE b.units) (J1 (Jy b) (qv 05) Jw (λ_ _=>9)<|λ_ _=>9) (j7<|Kh Jx)<|JM _)<|KM<|C9 b.units (J1 (Jy b) (J1 (Jy b) (J1 (Jy b) (qv 05) Jw (λ_ _=>9)<|λ_ _=>9) (x9 K3 Jw) (λ_ _=>9)<|λ_ _=>9) Jw (λ_ _=>9)<|λ_ _=>9)<|Qs<|Jv JQ<|Jv JQ Jx) (JD (QL j6 9 (.inl 9)<|Qx 05 [05]<|J1 (Jy b) (J1 (Jy b) (qv 05) Jw (λ_ _=>9)<|λ_ _=>9) (x9 K3 Jw) (λ_ _=>9)<|λ_ _=>9)<|JW<|Wu (K6 (J3<|qv 05) (J3 Jw)<|λ_ _=>9) (J3<|x9 K3 Jw)<|Qx 05 [05]<|Qs<|Jv (J1 (Jy b) (qv 07) Jw (λ_ _=>9)<|λ_ _=>9)<|Jv (J1 (Jy b) (qv 07) Jw (λ_ _=>9)<|λ_ _=>9)<|Jv (jo AL (J1 (Jy b) (qv 07) Jw (λ_ _=>9)<|λ_ _=>9)<|Qs<|Jv (qg c b 9<|Jv (qv 04)<|Jv (jo XT (jo JT (J7 (x:="len") JI 9 (J5 m) JG<|Jv (J1 (Jy b) (qv 05) Jw (λ_ _=>9)<|λ_ _=>9) Jx)<|J7 (x:="len") JI 9 (J5 m) JG<|Jv (J1 (Jy b) (qv 05) Jw (λ_ _=>9)<|λ_ _=>9) Jx) Jw) Jx) Jx) Jx)<|JW<|VG (K6 (J3<|qv 05) (J3 Jw)<|λ_ _=>9) (K7 d b 9<|JB (J3<|qv 0)<|JB (J3<|qv 1)<|JB (J3<|qv 2)<|JB (J3<|jo QF (qv 03) Jw)<|JB (J3<|qv 04) Qg)<|λf h=>Q4 Yl Ym Yn Kt f h]
def TC(a:All e):Ca e "_law_plans_by" 05 ["script"] (zj e.K YA):=
 xz a.toAl 12 50 λF=>y7 (N:=["script","names","plans","loads","k"]) (g:=Af) F JO λ_ _ _ _ _ _ b=>by
 let m:=a.m;let c:=(Ee a).mono (k:=04) ();let d:=(T9 a).mono (k:=04) ();let f:=(Ls a).mono (k:=04) ();let h:=(Lv a).mono (k:=04) ();ext Af
 rw[JD (Kj (m:=!7)<|JR j6 9 (.inl 9)<|j7<|Cy f b 9<|Jv (qv 0)<|Jv Jw Jx)<|JD (QL j6 9 (.inl 9)<|Ki<|JB (Ki<|JB (J3<|J1 (Jy b) (qv 1) Jw (λ_ _=>9)<|λ_ _=>9)<|JB (Ki<|JB (J3<|J1 (Jy b) (qv 1) Jw (λ_ _=>9)<|λ_ _=>9) Qg)<|JB (Ki Qg) Qg) Qg)<|JD (QL j6 9 (.inl 9)<|Ki<|JB (J3 Jw) Qg)<|JD (G8 PassesOwn.never 9 (OU 9 (J5 m)<|Jv Jw<|Jv (J7 (x:="min") (No 9) 9 (J5 m) MT<|Jv (J7 (x:="len") JI 9 (J5 m) JG<|Jv (qv 0) Jx)<|Jv Jw Jx)<|Jv Jw Jx) (QC<|JY j6 9<|.inl 9)<|JW<|WJ<|K7 d b 9<|JB (J3<|qv 2)<|JB (J3<|qv 03)<|JB (J3<|qv 1)<|JB (J3<|J1 (Jy b) (qv 0) (qv 04) (λ_ _=>9)<|λ_ _=>9)<|JB (J3<|qg c b 9<|Jv (qv 0)<|Jv (jo JT (qv 04) Jw) Jx) Qg)<|JD (QY (Wt 05 [2]<|JV (qA b.units) (J1 (Jy b) (J1 (Jy b) (qv 2) (x9 K3 Jw) (λ_ _=>9)<|λ_ _=>9) Jw (λ_ _=>9)<|λ_ _=>9) (j7<|Kh Jx)<|JM _) (JW<|VG (K6 (K6 (J3<|qv 2) (J3<|x9 K3 Jw)<|λ_ _=>9) (J3 Jw)<|λ_ _=>9) (K7 h b 9<|JB (J3<|qv 2)<|JB (J3<|qv 03)<|JB (J3<|qv 1)<|JB (J3 Jw)<|JB (J3 Jw) Qg)<|λi j=>Q4 Yl Ym Yn Kt i j) KO)<|JW<|V1<|J3<|qv 2]
def BY(a:All e):Ca e "is_name" 1 ["text"] (xZ e.K xc):=
 xz a.toAl 13 18 λF=>xt (N:=["text"]) (g:=zr) F JO λ_ _ _ _ _ _ f=>by
 let m:=a.m;let d:=a.w_FIGURES;let c:=a.y_KEPT_WORDS;let b:=a.w_LETTERS;ext zr;rw[JA (Qq (jW<|Vw (KC<|Yx xW xW Jw (J7 (x:="len") JI 9 (J5 m) JG<|Jv (qv 0) Jx) Jw)<|Vw (Oz (ws:=["plan","given","all","first","part"]) f.units c 9<|qv 0)<|W6<|JV Ow (J1 (Jy f) (qv 0) Jw (λ_ _=>9)<|λ_ _=>9) (AU b 9) 9) (J8<|Qh VO) Qp)<|J8<|Qh<|J7 (x:="all") (AK 9) 9 (J5 m) AN<|Jv (j7<|KN ["sign"] [8] 9 9 (Gr<|qv 0) (λ_ _ _ _ _=>QC<|yA 0 j6)<|λ_ _ _ _ _=>sh (VP CO (qv 0) (AU b 9) 9)<|YR<|VP CO (qv 0) (AU d 9) 9) Jx]
def Lw(a:All e):Ca e "name_behind" 2 ["start","row"] (xZ e.K X6):=
 xz a.toAl 14 34 λF=>xt (N:=["start","row","name"]) (g:=Ag) F JO λ_ _ _ _ _ _ c=>by
 let m:=a.m;let b:=(BY a).mono (k:=1) ();ext Ag;rw[JA (JR j6 9 (.inl 9)<|Ox (qv 1) (VD<|J7 (x:="len") JI 9 (J5 m) JG<|Jv (qv 0) Jx) KD)<|J8<|Qh<|Fk (jW<|Ku (QQ<|Bb (id:="str.startswith") (qv 1) (qv 0)<|λd f=>Q4 PySem.F.plainAttrs_str PySem.F.slot_str_startswith PySem.F.type_str_startswith OW d f)<|KM<|QQ<|qg b c 9<|Jv (qv 2) Jx) (qv 2) W5]
def TD(a:All e):Ca e "are_figures" 1 ["text"] (xZ e.K BE):=
 xz a.toAl 15 38 λF=>xt (N:=["text"]) (g:=BC) F JO λ_ _ _ _ _ _ c=>by
 let m:=a.m;let b:=a.w_FIGURES;ext BC;rw[J8<|Qh<|YS (NZ xW xW Jw (J7 (x:="len") JI 9 (J5 m) JG<|Jv (qv 0) Jx) Jw)<|YS (VP (yE c.units) (J1 (Jy c) (qv 0) Jw (λ_ _=>9)<|λ_ _=>9) JQ<|JM _)<|YR<|J7 (x:="all") (AK 9) 9 (J5 m) AN<|Jv (j7<|KN ["sign"] [8] 9 9 (Gr<|qv 0) (λ_ _ _ _ _=>QC<|yA 0 j6)<|λ_ _ _ _ _=>VP CO (qv 0) (AU b 9) 9) Jx]
def TF(a:All e):Ca e "item_of" 2 ["text"] (xZ e.K Xa):=
 xz a.toAl 16 37 λF=>xt (N:=["text","sign","sides"]) (g:=YC) F JO λ_ _ _ _ _ _ b=>by
 let m:=a.m;let d:=(TD a).mono (k:=1) ();let c:=(BY a).mono (k:=1) ();ext YC;rw[JA (Qq (QQ<|qg c b 9<|Jv (qv 0) Jx) (J8<|Qh<|Qs<|Jv (qv 0)<|Jv Jw Jx) Qp)<|JA (Kc PassesOwn.never 9 (Q5<|Qs<|Jv JQ<|Jv JQ Jx) (QC<|JY j6 9<|.inl 9)<|JA (JR j6 9 (.inl 9)<|j7<|Bc (id:="str.split") (qv 0) (qv 1)<|λf h=>Q4 PySem.F.plainAttrs_str PySem.F.slot_str_split PySem.F.type_str_split Be f h)<|J8<|Qq (jW<|Ku (JV (qA b.units) (J7 (x:="len") JI 9 (J5 m) JG<|Jv (qv 2) Jx) Jw<|JM _)<|Ku (QQ<|qg c b 9<|Jv (J1 (Jy b) (qv 2) Jw (λ_ _=>9)<|λ_ _=>9) Jx)<|KM<|QQ<|qg d b 9<|Jv (J1 (Jy b) (qv 2) Jw (λ_ _=>9)<|λ_ _=>9) Jx) (J8<|Qh<|Qs<|Jv (J1 (Jy b) (qv 2) Jw (λ_ _=>9)<|λ_ _=>9)<|Jv (YT (x:="int") Pw 9 (J5 m) Ct<|Jv (jo JT (qv 1)<|J1 (Jy b) (qv 2) Jw (λ_ _=>9)<|λ_ _=>9) Jx) Jx) Qp)<|J8<|Qh W5]
def TJ(a:All e):Ca e "with_items" 03 ["name","how","words"] (xZ e.K Ah):=
 xz a.toAl 17 36 λF=>xt (N:=["name","how","words","items"]) (g:=BF) F JO λ_ _ _ _ _ _ f=>by
 let m:=a.m;let b:=(TF a).mono (k:=2) ();ext BF;rw[JA (N6 ["text"] [8] j6 9 (.inl 9) 9 9 (Q5<|j7<|Bc (id:="str.split") (Bb (id:="str.join") JQ (qv 2)<|λc d=>Q4 PySem.F.plainAttrs_str PySem.F.slot_str_join PySem.F.type_str_join CW c d) JQ<|λc d=>Q4 PySem.F.plainAttrs_str PySem.F.slot_str_split PySem.F.type_str_split Be c d) (λ_ _ _ _ _=>QC<|yA 0 j6)<|λ_ _ _ _ _=>qg b f 9<|Jv (qv 0) Jx)<|J8<|Qh<|Fk (C9 f.units W5<|qv 03) W5<|Qs<|Jv (qv 0)<|Jv (qv 1)<|Jv (qv 03) Jx]
def TK(a:All e):Ca e "made_thing" 04 ["row"] (xZ e.K X7):=
 xz a.toAl 18 35 λF=>xt (N:=["row","words"]) (g:=YD) F JO λ_ _ _ _ _ _ b=>by
 let m:=a.m;let d:=(BY a).mono (k:=03) ();let c:=(TJ a).mono (k:=03) ();ext YD;rw[JA (JR j6 9 (.inl 9)<|j7<|Bc (id:="str.split") (qv 0) JQ<|λf h=>Q4 PySem.F.plainAttrs_str PySem.F.slot_str_split PySem.F.type_str_split Be f h)<|JA (Qq (jW<|Vw (JV wG (J7 (x:="len") JI 9 (J5 m) JG<|Jv (qv 1) Jx) Jw<|JM _)<|Vw (JV (yE b.units) (J1 (Jy b) (qv 1) Jw (λ_ _=>9)<|λ_ _=>9) JQ<|JM _)<|W6<|KC<|QQ<|qg d b 9<|Jv (J1 (Jy b) (qv 1) Jw (λ_ _=>9)<|λ_ _=>9) Jx) (J8<|Qh W5) Qp)<|JA (Qq (C9 b.units (J1 (Jy b) (qv 1) Jw (λ_ _=>9)<|λ_ _=>9)<|Qs<|Jv JQ<|Jv JQ Jx) (J8<|Qh<|qg c b 9<|Jv (J1 (Jy b) (qv 1) Jw (λ_ _=>9)<|λ_ _=>9)<|Jv (J1 (Jy b) (qv 1) Jw (λ_ _=>9)<|λ_ _=>9)<|Jv (j7<|Yv (qv 1) (VD Jw) KD KD) Jx) Qp)<|JA (Qq (jW<|Ku (JV (qA b.units) (J1 (Jy b) (qv 1) Jw (λ_ _=>9)<|λ_ _=>9) JQ<|JM _)<|KM<|QQ<|qg d b 9<|Jv (J1 (Jy b) (qv 1) Jw (λ_ _=>9)<|λ_ _=>9) Jx) (J8<|Qh<|qg c b 9<|Jv (J1 (Jy b) (qv 1) Jw (λ_ _=>9)<|λ_ _=>9)<|Jv (J1 (Jy b) (qv 1) Jw (λ_ _=>9)<|λ_ _=>9)<|Jv (j7<|Yv (qv 1) (VD Jw) KD KD) Jx) Qp)<|J8<|Qh W5]
def TL(a:All e):Ca e "takes_thing" 05 ["draft","number","row"] (zj e.K Ai):=
 xz a.toAl 19 33 λF=>y7 (N:=["draft","number","row","given","made"]) (g:=X8) F JO λ_ _ _ _ _ _ f=>by
 let m:=a.m;let c:=(TK a).mono (k:=04) ();let d:=(Lw a).mono (k:=04) ();let b:=a.k_Draft;ext X8;rw[JD (Kj (m:=!7)<|JR j6 9 (.inl 9)<|qg d f 9<|Jv JQ<|Jv (qv 2) Jx)<|JD (Kj (m:=!7)<|JR j6 9 (.inl 9)<|qg c f 9<|Jv (qv 2) Jx)<|JD (QY (Wt 06 [0]<|jW<|Ku (CD<|qv 03)<|KM<|JV (qA f.units) (Qu b (by decide)<|qv 0) (j7<|Kh Jx)<|JM _) (JD (VG (G7 b (by decide)<|J3<|qv 0) (J3<|qv 03)<|λh i=>Q4 Yl Ym Yn Kt h i)<|JW<|V1<|J3 VO) KO)<|JD (QY (V0<|CD<|qv 04) (JD (VG (G7 b (by decide)<|J3<|qv 0) (J3<|Qs<|Jv (qv 1)<|Jv (qv 04) Jx)<|λh i=>Q4 Yl Ym Yn Kt h i)<|JW<|V1<|J3 VO) KO)<|JW<|V1<|J3 VO]
def TM(a:All e):Ca e "takes_row" 06 ["drafts","number","row"] (zj e.K VI):=
 xz a.toAl 20 32 λF=>y7 (N:=["drafts","number","row","name"]) (g:=X9) F JO λ_ _ _ _ _ _ f=>by
 let m:=a.m;let c:=(Lw a).mono (k:=05) ();let d:=(TL a).mono (k:=05) ();let b:=Tv a;ext X9;rw[JD (Kj (m:=!7)<|JR j6 9 (.inl 9)<|qg c f 9<|Jv JQ<|Jv (qv 2) Jx)<|JD (QY (V0<|CD<|qv 03) (JD (VG (J3<|qv 0) (Po b (f.mono ()) 9<|JB (J3<|qv 03) Qg)<|λh i=>Q4 Yl Ym Yn Kt h i)<|JW<|V1<|J3 VO) KO)<|JW<|V1<|Pr (Qx 06 [0]<|VP (fg f.units) (qv 0) (j7<|Kh Jx)<|JM _)<|Ps<|K7 d f 9<|JB (K6 (J3<|qv 0) (J3<|x9 K3 Jw)<|λ_ _=>9)<|JB (J3<|qv 1)<|JB (J3<|qv 2) Qg]
def TQ(a:All e):wT e "drafts_of" 07 ["text"] (xY e.K Xb):=
 yN a.toAl 21 31 λF=>P6 (kk:=06) (hw:=k7) (hx:=kr) (N:=["text","drafts","number","row"]) (g:=XA) F JO λ_ _ _ _ _ _ f=>by
 let m:=a.m;let c:=(TM a).mono (k:=06) ();let d:=a.x_BadRow;let b:=Tx a;ext XA;rw[JD (QL j6 9 (.inl 9)<|Ki Qg)<|JD (G8 VY 9 (Pn 9 (J5 m)<|Jv (j7<|Bc (id:="str.split") (qv 0) JQ<|λh i=>Q4 PySem.F.plainAttrs_str PySem.F.slot_str_split PySem.F.type_str_split Be h i) Jx) (Kv [2,03]<|Ks 9<|Qb (JY j6 9<|.inl 9)<|Qb (JY j6 9<|.inl 9) Kr)<|JW<|QY (Pq<|Pp<|P5 c f 9<|JB (J3<|qv 1)<|JB (J3<|qv 2)<|JB (J3<|qv 03) Qg) (JW<|Kj (m:=!7)<|GQ GP b (f.mono ()) 9 9<|qv 2) KO)<|JW<|V1<|J3<|qv 1]
def gX(a:All e):Ca e "are_names" 2 ["texts"] (xZ e.K yV):=
 xz a.toAl 22 21 λF=>xt (N:=["texts"]) (g:=wh) F JO λ_ _ _ _ _ _ c=>by
 let m:=a.m;let b:=(BY a).mono (k:=1) ();ext wh;rw[J8<|Qh<|YS (J7 (x:="all") (AK 9) 9 (J5 m) AN<|Jv (j7<|KN ["text"] [8] 9 9 (Q5<|qv 0) (λ_ _ _ _ _=>QC<|yA 0 j6)<|λ_ _ _ _ _=>qg b c 9<|Jv (qv 0) Jx) Jx)<|YR<|VP (qA c.units) (O7 (λh=>EL L2.ST.call_lenK 9 (J5 m) JG<|Xj (A4 (L2.ST.call_setK 9) 9 (J5 m) L2.bt_set h) Xi)<|Jv (qv 0) Jx) (J7 (x:="len") JI 9 (J5 m) JG<|Jv (qv 0) Jx)<|JM _]
def gY(a:All e):wT e "look_at_names" 03 ["book"] (xY e.K zG):=
 yN a.toAl 23 20 λF=>WF (N:=["book","plan"]) (g:=wj) F JO λ_ _ _ _ _ _ h=>by
 let f:=(gX a).mono (k:=2) ();let b:=a.x_BadName;let d:=a.k_Book;let c:=a.k_Plan;ext wj;rw[JA (Qq (KC<|QQ<|CM f h 9<|Jv (j7<|KN ["plan"] [8] 9 9 (Q5<|Qu d (by decide)<|qv 0) (λ_ _ _ _ _=>QC<|yA 0 j6)<|λ_ _ _ _ _=>Qu c (by decide)<|qv 0) Jx) (J8<|VX VW b 9 9 JQ) Qp)<|J8<|Kc VY 9 (Q5<|Qu d (by decide)<|qv 0) (QC<|JY j6 9<|.inl 9)<|J8<|Qq (KC<|QQ<|CM f h 9<|Jv (jo JT (Qu c (by decide)<|qv 1)<|j7<|KN ["name","how","items"] [8,8,8] 9 9 (Q5<|Qu c (by decide)<|qv 1) (λ_ _ _ _ _=>Kv [0,1,2]<|Ks 9<|Qb (yA 0 j6)<|Qb (yA 1 j6)<|Qb (yA 2 j6) Kr)<|λ_ _ _ _ _=>qv 0) Jx) (J8<|VX VW b 9 9 JQ) Qp]
def Lx(a:All e):Ca e "is_part" 1 ["how"] (xZ e.K yU):=
 xz a.toAl 24 27 λF=>xt (N:=["how"]) (g:=vJ) F JO λ_ _ _ _ _ _ b=>by
 ext vJ;rw[J8<|Qh<|Nk b.units (qv 0)<|Qs<|Jv JQ<|Jv JQ Jx]
def gU(a:All e):wT e "look_at_parts" 2 ["book"] (xY e.K wl):=
 yN a.toAl 25 24 λF=>WF (N:=["book","givens","plan","name","how","items"]) (g:=wP) F JO λ_ _ _ _ _ _ h=>by
 let m:=a.m;let f:=(Lx a).mono (k:=1) ();let c:=a.x_BadPart;let d:=a.k_Book;let b:=a.k_Plan;ext wP;rw[JA (Xq j6 9 (.inl 9) CB)<|J8<|Kc VY 9 (Q5<|Qu d (by decide)<|qv 0) (QC<|JY j6 9<|.inl 9)<|JA (Kc VY 9 (Q5<|Qu b (by decide)<|qv 2) (Kv [03,04,05]<|Ks 9<|Qb (JY j6 9<|.inl 9)<|Qb (JY j6 9<|.inl 9)<|Qb (JY j6 9<|.inl 9) Kr)<|J8<|Qq (jW<|Ku (QQ<|CM f h 9<|Jv (qv 04) Jx)<|KM<|JV (yE h.units) (OH [1]<|O1 (Jy h) (qv 1) (qv 04) (9,9,9,9)) (J7 (x:="len") JI 9 (J5 m) JG<|Jv (qv 05) Jx)<|JM _) (J8<|VX VW c 9 9<|ZL<|ZK (qv 03)<|WI ZJ) Qp)<|J8<|F6 (Jy h) (pv 1) (Qu b (by decide)<|qv 2)<|J7 (x:="len") JI 9 (J5 m) JG<|Jv (Qu b (by decide)<|qv 2) Jx]
def gV(a:All e):wT e "look_at_items" 1 ["plan"] (xY e.K zt):=
 yN a.toAl 26 23 λF=>WF (N:=["plan","ahead","name","how","items","thing","wait"]) (g:=wQ) F JO λ_ _ _ _ _ _ d=>by
 let m:=a.m;let b:=a.x_BadPlan;let c:=a.k_Plan;ext wQ;rw[JA (JR j6 9 (.inl 9)<|J7 (x:="len") JI 9 (J5 m) JG<|Jv (Qu c (by decide)<|qv 0) Jx)<|J8<|Kc VY 9 (Q5<|Qu c (by decide)<|qv 0) (Kv [2,03,04]<|Ks 9<|Qb (JY j6 9<|.inl 9)<|Qb (JY j6 9<|.inl 9)<|Qb (JY j6 9<|.inl 9) Kr)<|JA (Qq (KC<|Yx xW xW Jw (J7 (x:="len") JI 9 (J5 m) JG<|Jv (qv 04) Jx) Jw) (J8<|VX VW b 9 9<|ZL<|ZK (qv 2)<|WI ZJ) Qp)<|JA (Kc VY 9 (Q5<|qv 04) (Kv [05,06]<|Ks 9<|Qb (JY j6 9<|.inl 9)<|Qb (JY j6 9<|.inl 9) Kr)<|JA (Qq (KC<|Yx xW wG Jw (qv 05)<|qv 1) (J8<|VX VW b 9 9<|ZL<|WI<|ZK (qv 2)<|WI ZJ) Qp)<|J8<|Qq (JV fk (J7 (x:="abs") FW 9 (J5 m) FX<|Jv (qv 06) Jx) (jo YY Jw Jw)<|JM _) (J8<|VX VW b 9 9<|ZL<|WI<|ZK (qv 2)<|WI ZJ) Qp)<|J8<|OG j6 9 (.inl 9) Jw]
def gW(a:All e):wT e "look_at_plans" 2 ["book"] (xY e.K zu):=
 yN a.toAl 27 22 λF=>WF (N:=["book","plan"]) (g:=zE) F JO λ_ _ _ _ _ _ h=>by
 let m:=a.m;let f:=(gV a).mono (k:=1) ();let b:=a.x_BadPlan;let c:=a.k_Book;let d:=a.k_Plan;ext zE;rw[JA (Qq (KC<|Yx xW xW Jw (J7 (x:="len") JI 9 (J5 m) JG<|Jv (Qu c (by decide)<|qv 0) Jx) Jw) (J8<|VX VW b 9 9 JQ) Qp)<|J8<|Kc VY 9 (Q5<|Qu c (by decide)<|qv 0) (QC<|JY j6 9<|.inl 9)<|JA (Qq (KC<|Yx xW xW Jw (J7 (x:="len") JI 9 (J5 m) JG<|Jv (Qu d (by decide)<|qv 1) Jx) Jw) (J8<|VX VW b 9 9 JQ) Qp)<|JA (Qq (KC<|Yx xW xW Jw (J7 (x:="len") JI 9 (J5 m) JG<|Jv (Qu d (by decide)<|qv 1) Jx) Jw) (J8<|VX VW b 9 9 JQ) Qp)<|J8<|XQ<|Ws f WE h 9<|Jv (qv 1) Jx]
def gR(a:All e):Ca e "weights" 2 ["book"] (vG e.K vN):=
 xz a.toAl 28 26 λF=>v7 (N:=["book","told","plan","parts"]) (g:=vK) F JO λ_ _ _ _ _ _ f=>by
 let m:=a.m;let d:=(Lx a).mono (k:=1) ();let c:=a.k_Book;let b:=a.k_Plan;ext vK;rw[JA (Xq j6 9 (.inr 9) CB)<|JA (Kc PassesOwn.never 9 (Q5<|Qu c (by decide)<|qv 0) (QC<|JY j6 9<|.inl 9)<|JA (O0 [1] ["name","how","items","told"] [8,8,8,!1] j6 9 (.inl 9) 9 9 (Q5<|Qu b (by decide)<|qv 2) (λ_ _ _ _ _=>Kv [0,1,2]<|Ks 9<|Qb (yA 0 j6)<|Qb (yA 1 j6)<|Qb (yA 2 j6) Kr) (λ_ _ _ _ _=>QQ<|qg d f 9<|Jv (qv 1) Jx)<|λ_ _ _ _ _=>J1 (Jy f) (qv 03) (qv 1) (λ_ _=>9)<|λ_ _=>9)<|J8<|F6 (Jy f) (pv 1) (Qu b (by decide)<|qv 2)<|jo JT (J7 (x:="len") JI 9 (J5 m) JG<|Jv (Qu b (by decide)<|qv 2) Jx)<|C0 [03]<|J7 (x:="sum") (bU 9) 9 (J5 m) MU<|Jv (qv 03) Jx)<|J8<|AB<|pv 1]
def gS(a:All e):wT e "look_at_weights" 03 ["book"] (xY e.K vO):=
 yN a.toAl 29 25 λF=>WF (N:=["book","name","own"]) (g:=vM) F JO λ_ _ _ _ _ _ d=>by
 let c:=(gR a).mono (k:=2) ();let b:=a.x_TooLong;ext vM;rw[J8<|Kc VY 9 (OF<|Gh c d 9<|Jv (qv 0) Jx) (Kv [1,2]<|Ks 9<|Qb (JY j6 9<|.inl 9)<|Qb (JY j6 9<|.inl 9) Kr)<|J8<|Qq (JV z3 (qv 2) Jw<|JM _) (J8<|VX VW b 9 9<|ZL<|WI<|ZK (qv 1)<|WI ZJ) Qp]
def gZ(a:All e):wT e "looked" 04 ["book"] (xY e.K yK):=
 yN a.toAl 30 19 λF=>WF (N:=["book"]) (g:=zF) F JO λ_ _ _ _ _ _ h=>by
 let b:=(gY a).mono (k:=03) ();let c:=(gU a).mono (k:=03) ();let d:=(gW a).mono (k:=03) ();let f:=(gS a).mono (k:=03) ();ext zF;rw[JA (XQ<|Ws b WE h 9<|Jv (qv 0) Jx)<|JA (XQ<|Ws d WE h 9<|Jv (qv 0) Jx)<|JA (XQ<|Ws c WE h 9<|Jv (qv 0) Jx)<|J8<|XQ<|Ws f WE h 9<|Jv (qv 0) Jx]
def TU(a:All e):wT e "numbered" 03 ["items","numbers","row"] (xY e.K Xc):=
 yN a.toAl 31 41 λF=>WF (N:=["items","numbers","row","name","wait"]) (g:=Aj) F JO λ_ _ _ _ _ _ d=>by
 let m:=a.m;let c:=a.x_NoName;let b:=Tz a;ext Aj;rw[JA (Kc VY 9 (Q5<|qv 0) (Kv [03,04]<|Ks 9<|Qb (JY j6 9<|.inl 9)<|Qb (JY j6 9<|.inl 9) Kr)<|J8<|Qq (AF d.units (qv 03)<|qv 1) (J8<|GQ GP b (d.mono ()) 9 9<|qv 2) Qp)<|J8<|Qh<|YT (x:="tuple") Fz 9 (J5 m) YP<|Jv (j7<|KN ["name","wait","numbers"] [8,8,!1] 9 9 (Q5<|qv 0) (λ_ _ _ _ _=>Kv [0,1]<|Ks 9<|Qb (yA 0 j6)<|Qb (yA 1 j6) Kr)<|λ_ _ _ _ _=>Qs<|Jv (J1 (Jy d) (qv 2) (qv 0) (λ_ _=>9)<|λ_ _=>9)<|Jv (qv 1) Jx) Jx]
def TV(a:All e):Ca e "numbers_of" 1 ["names"] (vG e.K BH):=
 xz a.toAl 32 40 λF=>v7 (N:=["names","numbers","number","name"]) (g:=BG) F JO λ_ _ _ _ _ _ d=>by
 let m:=a.m;ext BG;rw[JA (Xq j6 9 (.inl 9) CB)<|JA (Kc PassesOwn.never 9 (FU 9 (J5 m)<|Jv (qv 0) Jx) (Kv [2,03]<|Ks 9<|Qb (JY j6 9<|.inl 9)<|Qb (JY j6 9<|.inl 9) Kr)<|J8<|Pv (pv 1) (qv 03) (qv 2)<|λb c=>Q4 PySem.F.plainAttrs_dict PySem.F.slot_dict_setdefault PySem.F.type_dict_setdefault Pu b c)<|J8<|AB<|pv 1]
def TW(a:All e):wT e "plan_of" 04 ["draft"] (vF e.K VJ):=
 yN a.toAl 33 39 λF=>hW (N:=["draft","numbers","rows","number","made"]) (g:=Ak) F JO λ_ _ _ _ _ _ d=>by
 let m:=a.m;let f:=(TU a).mono (k:=03) ();let h:=(TV a).mono (k:=03) ();let b:=a.k_Draft;let c:=Tw a;ext Ak;rw[JA (JR j6 9 (.inl 9)<|j7<|Gh h d 9<|Jv (jo JT (Qu b (by decide)<|qv 0)<|j7<|KN ["number","made"] [8,8] 9 9 (Q5<|Qu b (by decide)<|qv 0) (λ_ _ _ _ _=>Kv [0,1]<|Ks 9<|Qb (yA 0 j6)<|Qb (yA 1 j6) Kr)<|λ_ _ _ _ _=>J1 (Jy d) (qv 1) Jw (λ_ _=>9)<|λ_ _=>9) Jx)<|JA (Xq j6 9 (.inl 9)<|Kh Jx)<|JA (Kc VY 9 (Q5<|Qu b (by decide)<|qv 0) (Kv [03,04]<|Ks 9<|Qb (JY j6 9<|.inl 9)<|Qb (JY j6 9<|.inl 9) Kr)<|J8<|XR (pv 2) (Qs<|Jv (J1 (Jy d) (qv 04) Jw (λ_ _=>9)<|λ_ _=>9)<|Jv (J1 (Jy d) (qv 04) Jw (λ_ _=>9)<|λ_ _=>9)<|Jv (Ws f WE d 9<|Jv (J1 (Jy d) (qv 04) Jw (λ_ _=>9)<|λ_ _=>9)<|Jv (qv 1)<|Jv (qv 03) Jx) Jx)<|λi j=>Q4 Yl Ym Yn Kt i j)<|J8<|Fl [2]<|MX<|GR c (d.mono ()) 9<|Jv (Qu b (by decide)<|qv 0)<|Jv (Qu b (by decide)<|qv 0)<|Jv (qv 2) Jx]
def Ly(a:All e):wT e "read" 08 ["text"] (xY e.K Kb):=
 yN a.toAl 34 30 λF=>WF (N:=["text","book"]) (g:=Am) F JO λ_ _ _ _ _ _ h=>by
 let c:=(TQ a).mono (k:=07) ();let f:=(gZ a).mono (k:=07) ();let d:=(TW a).mono (k:=07) ();let b:=Tu a;ext Am;rw[JA (JR j6 9 (.inl 9)<|j7<|GR b (h.mono ()) 9<|Jv (j7<|OO ["draft"] [8] 9 9 (Q5<|Ws c WE h 9<|Jv (qv 0) Jx) (λ_ _ _ _ _=>QC<|yA 0 j6)<|λ_ _ _ _ _ i=>j7<|NU d (ON 9 9 9 OM i) h 9<|Jv (qv 0) Jx) Jx)<|JA (XQ<|Ws f WE h 9<|Jv (qv 1) Jx)<|J8<|Qh<|qv 1]
def TX(a:All e):Ca e "_law_refusal" 09 ["text"] (xZ e.K V8):=
 xz a.toAl 35 62 λF=>xt (N:=["text","error","e","marks","row"]) (g:=XE) F JO λ_ _ _ _ _ _ X=>by
 let m:=a.m;let T:=(Ly a).mono (k:=08) ();let Q:∀c∈(["BadName","BadPart","BadPlan","BadRow","NoName","TooLong"]:Yg),∀C,W.nsIn e.K 000 c=! ! .ref C->ExcCl e.K C:=λc h C H=>by
  cases a;simp only[Ux,UA,or_false]at h;obtain rfl|rfl|rfl|rfl|rfl|rfl:=h<;>(first|cases(Exc.ns<|by assumption).symm.trans H|cases(ExcI.ns<|by assumption).symm.trans H)<;>assumption
 let R:∀c∈(["BadName","BadPart","BadPlan","BadRow","NoName","TooLong"]:Yg),∀C,W.nsIn e.K 000 c=! ! .ref C->∀u∈(["BadRow","NoName","BadName","BadPlan","BadPart","TooLong","NoPlan","TooMany","Unlike"]:Yg),∀U,W.nsIn e.K 000 u=! ! .ref U->W.kitOne e.K (.ref C) (.ref U)=!(decide<|c=u):=λc h C H u Y U Z=>by
  cases a;simp only[Ux,UA,or_false]at h Y;obtain rfl|rfl|rfl|rfl|rfl|rfl:=h<;>(first|cases(Exc.ns<|by assumption).symm.trans H|cases(ExcI.ns<|by assumption).symm.trans H)<;>obtain rfl|rfl|rfl|rfl|rfl|rfl|rfl|rfl|rfl:=Y<;>cases(Ucl.ns<|by assumption).symm.trans Z<;>first|rw[NoSub.one<|by assumption]|rw[P8 (by first|rw[Exc.ns<|by assumption]|rw[ExcI.ns<|by assumption])<|Ucl.ns<|by assumption]
 let S:∀c∈(["BadName","BadPart","BadPlan","BadRow","NoName","TooLong"]:Yg),∀C,W.nsIn e.K 000 c=! ! .ref C->W.subIn e.K (.ref C) (.type "ValueError")=!6:=λc h C H=>by
  cases a;simp only[Ux,UA,or_false]at h;obtain rfl|rfl|rfl|rfl|rfl|rfl:=h<;>(first|cases(Exc.ns<|by assumption).symm.trans H|cases(ExcI.ns<|by assumption).symm.trans H)<;>assumption
 let G:=a.x_AllError;let I:=a.x_BadName;let J:=a.x_BadPart;let L:=a.x_BadPlan;let p:=a.x_BadRow;let r:=a.x_NoName;let M:=a.x_TooLong;let s:=a.o_BadName;let t:=a.o_BadPart;let v:=a.o_BadPlan;let z:=a.o_BadRow;let A:=a.o_NoName;let B:=a.o_NoPlan;let w:=a.o_TooLong;let y:=a.o_TooMany;let E:=a.o_Unlike;let O:=a.e_BadRow;let P:=a.e_NoName;let b:=a.u_BadName_AllError;let d:=a.u_BadPart_AllError;let f:=a.u_BadPlan_AllError;let l:=a.u_BadRow_AllError;let o:=a.u_NoName_AllError;let i:=a.u_TooLong_AllError;ext XE
 rw[JA (JR j6 9 (.inl 9) W5)<|JA (Oj (j:=2) (cs:=["BadName","BadPart","BadPlan","BadRow","NoName","TooLong"]) 9 9 9 (Oc T X 9<|Jv (qv 0) Jx) G 9 j6 9 9 (λ_=>J8<|JR j6 9 (.inl 9)<|qv 2)<|λc' h=>by obtain rfl|h:=Ux.mp h;(rw[(_,I.ns,b)]);obtain rfl|h:=Ux.mp h;(rw[(_,J.ns,d)]);obtain rfl|h:=Ux.mp h;(rw[(_,L.ns,f)]);obtain rfl|h:=Ux.mp h;(rw[(_,p.ns,l)]);obtain rfl|h:=Ux.mp h;(rw[(_,r.ns,o)]);obtain rfl|h:=Ux.mp h;(rw[(_,M.ns,i)]);cases h)<|JA (Qq (N1<|qv 1) (J8<|Qh W5) Qp)<|JA (JR j6 9 (.inl 9)<|j7<|Kh<|Jv (J7 (x:="isinstance") (Wc Q R S) 9 (J5 m) QP<|Jv (qv 1)<|Jv (VE z.ns z.mgc 9) Jx)<|Jv (J7 (x:="isinstance") (Wc Q R S) 9 (J5 m) QP<|Jv (qv 1)<|Jv (VE A.ns A.mgc 9) Jx)<|Jv (J7 (x:="isinstance") (Wc Q R S) 9 (J5 m) QP<|Jv (qv 1)<|Jv (VE s.ns s.mgc 9) Jx) Jx)<|JA (JR j6 9 (.inl 9)<|jo JT (qv 03)<|j7<|Kh<|Jv (J7 (x:="isinstance") (Wc Q R S) 9 (J5 m) QP<|Jv (qv 1)<|Jv (VE v.ns v.mgc 9) Jx)<|Jv (J7 (x:="isinstance") (Wc Q R S) 9 (J5 m) QP<|Jv (qv 1)<|Jv (VE t.ns t.mgc 9) Jx)<|Jv (J7 (x:="isinstance") (Wc Q R S) 9 (J5 m) QP<|Jv (qv 1)<|Jv (VE w.ns w.mgc 9) Jx) Jx)<|JA (JR j6 9 (.inl 9)<|jo JT (qv 03)<|j7<|Kh<|Jv (J7 (x:="isinstance") (Wc Q R S) 9 (J5 m) QP<|Jv (qv 1)<|Jv (VE B.ns B.mgc 9) Jx)<|Jv (J7 (x:="isinstance") (Wc Q R S) 9 (J5 m) QP<|Jv (qv 1)<|Jv (VE y.ns y.mgc 9) Jx)<|Jv (J7 (x:="isinstance") (Wc Q R S) 9 (J5 m) QP<|Jv (qv 1)<|Jv (VE E.ns E.mgc 9) Jx) Jx)<|JA (JR j6 9 (.inl 9) Jw)<|JA (Qq (jW<|Vw (QQ<|J1 (Jy X) (qv 03) Jw (λ_ _=>9)<|λ_ _=>9)<|W6<|QQ<|J1 (Jy X) (qv 03) Jw (λ_ _=>9)<|λ_ _=>9) (J8<|JR j6 9 (.inl 9)<|gp (cs:=["BadRow","NoName"]) (λc' h C H=>by obtain rfl|h:=Ux.mp h;(let H:=p.ns.symm.trans H;cases H;rw[(O,p.no)]);obtain rfl|h:=Ux.mp h;(let H:=r.ns.symm.trans H;cases H;rw[(P,r.no)]);cases h)<|qv 1) Qp)<|JA (Qq (jW<|Vw (KC<|QQ<|J7 (x:="isinstance") (Wc Q R S) 9 (J5 m) QP<|Jv (qv 1)<|Jv (VC (n:="ValueError") (x:="ValueError") 9 (J5 m) Om 9) Jx)<|Vw (KC<|QQ<|J7 (x:="isinstance") VT 9 (J5 m) QP<|Jv (qv 04)<|Jv (VC (n:="int") (x:="int") 9 (J5 m) Ct 9) Jx)<|W6<|QQ<|J7 (x:="isinstance") VT 9 (J5 m) QP<|Jv (qv 04)<|Jv (VC (n:="bool") (x:="bool") 9 (J5 m) Fh 9) Jx) (J8<|JR j6 9 (.inl 9)<|x9 K3 Jw) Qp)<|J8<|Qh<|Qs<|Jv (qv 03)<|Jv (qv 04) Jx]
def TY(a:All e):Ca e "_law_item_text" 1 ["names","item"] (xZ e.K Xe):=
 xz a.toAl 36 51 λF=>xt (N:=["names","item"]) (g:=YE) F JO λ_ _ _ _ _ _ b=>by
 let m:=a.m;ext YE;rw[JA (Qq (JV (qA b.units) (J1 (Jy b) (qv 1) Jw (λ_ _=>9)<|λ_ _=>9) Jw<|JM _) (J8<|Qh<|J1 (Jy b) (qv 0) (J1 (Jy b) (qv 1) Jw (λ_ _=>9)<|λ_ _=>9) (λ_ _=>9)<|λ_ _=>9) Qp)<|J8<|Qh<|jo JT (jo JT (J1 (Jy b) (qv 0) (J1 (Jy b) (qv 1) Jw (λ_ _=>9)<|λ_ _=>9) (λ_ _=>9)<|λ_ _=>9)<|J1 (Jy b) (j7<|Kh<|Jv JQ<|Jv JQ Jx) (YT (x:="int") bW 9 (J5 m) Ct<|Jv (VP z3 (J1 (Jy b) (qv 1) Jw (λ_ _=>9)<|λ_ _=>9) Jw<|JM _) Jx) (λ_ _=>9)<|λ_ _=>9)<|YT (x:="str") bV 9 (J5 m) MV<|Jv (J7 (x:="abs") FW 9 (J5 m) FX<|Jv (J1 (Jy b) (qv 1) Jw (λ_ _=>9)<|λ_ _=>9) Jx) Jx]
def TZ(a:All e):Ca e "_law_rows" 2 ["plans","extra"] (vG e.K Ao):=
 xz a.toAl 37 52 λF=>v7 (N:=["plans","extra","rows","number","plan","names","name","row","how"]) (g:=BM) F JO λ_ _ _ _ _ _ b=>by
 let m:=a.m;let f:=(TY a).mono (k:=1) ();ext BM
 rw[JA (Xq j6 9 (.inl 9)<|Kh Jx)<|JA (Kc PassesOwn.never 9 (FU 9 (J5 m)<|Jv (qv 0) Jx) (Kv [03,04]<|Ks 9<|Qb (JY j6 9<|.inl 9)<|Qb (JY j6 9<|.inl 9) Kr)<|JA (Xq j6 9 (.inr 9)<|Fj Gk (J1 (Jy b) (qv 04) Jw (λ_ _=>9)<|λ_ _=>9)<|j7<|KN ["row"] [8] 9 9 (Q5<|J1 (Jy b) (qv 04) Jw (λ_ _=>9)<|λ_ _=>9) (λ_ _ _ _ _=>QC<|yA 0 j6)<|λ_ _ _ _ _=>J1 (Jy b) (qv 0) Jw (λ_ _=>9)<|λ_ _=>9)<|JA (XR (pv 05) (J1 (Jy b) (qv 1) (jo Qc (jo JT (jo JT (qv 03) Jw)<|C0 [05]<|J7 (x:="len") JI 9 (J5 m) JG<|Jv (qv 05) Jx)<|J7 (x:="len") JI 9 (J5 m) JG<|Jv (qv 1) Jx) (λ_ _=>9)<|λ_ _=>9)<|λc d=>Q4 Yl Ym Yn Kt c d)<|JA (XR (pv 2) (jo JT JQ<|J1 (Jy b) (qv 04) Jw (λ_ _=>9)<|λ_ _=>9)<|λc d=>Q4 Yl Ym Yn Kt c d)<|JA (Kc PassesOwn.never 9 (Q5<|J1 (Jy b) (qv 04) Jw (λ_ _=>9)<|λ_ _=>9) (QC<|JY j6 9<|.inl 9)<|J8<|XR (pv 2) (jo JT JQ<|qv 06)<|λc d=>Q4 Yl Ym Yn Kt c d)<|J8<|Kc PassesOwn.never 9 (Q5<|J1 (Jy b) (qv 04) Jw (λ_ _=>9)<|λ_ _=>9) (QC<|JY j6 9<|.inl 9)<|JA (JR j6 9 (.inl 9)<|J1 (Jy b) (qv 07) Jw (λ_ _=>9)<|λ_ _=>9)<|JA (Qq (jW<|Ku (JV (yE b.units) (qv 08) JQ<|JM _)<|KM<|JV (yE b.units) (qv 08) JQ<|JM _) (J8<|JR j6 9 (.inl 9)<|jo JT JQ<|qv 08) Qp)<|J8<|Fl [05]<|XR (pv 2) (jo JT (jo JT (jo JT (jo JT (jo JT JQ<|J1 (Jy b) (qv 07) Jw (λ_ _=>9)<|λ_ _=>9) JQ)<|qv 08) JQ)<|Bb (id:="str.join") JQ (j7<|KN ["item","names"] [8,!05] 9 9 (Q5<|J1 (Jy b) (qv 07) Jw (λ_ _=>9)<|λ_ _=>9) (λ_ _ _ _ _=>QC<|yA 0 j6)<|λ_ _ _ _ _=>qg f b 9<|Jv (qv 1)<|Jv (qv 0) Jx)<|λc d=>Q4 PySem.F.plainAttrs_str PySem.F.slot_str_join PySem.F.type_str_join CW c d)<|λc d=>Q4 Yl Ym Yn Kt c d)<|J8<|AB<|pv 2]
def dR(a:All e)(b:Ca e "_law_alike" (0+k) ["found","due"] (xZ e.K<|KI j)):Ca e "_law_alike" (0+k+1) ["found","due"] (xZ e.K<|KI<|j+1):=
 xz a.toAl 38 53 λF=>xt (N:=["found","due"]) (g:=XF<|KI j) F JO λ_ _ _ _ _ _ c=>by
 let m:=a.m;ext XF
 rw[JA (Qq (jW<|Vw (QQ<|J7 (x:="isinstance") VT 9 (J5 m) QP<|Jv (qv 1)<|Jv (VC (n:="tuple") (x:="tuple") 9 (J5 m) YP 9) Jx)<|W6<|QQ<|J7 (x:="isinstance") VT 9 (J5 m) QP<|Jv (qv 1)<|Jv (VC (n:="list") (x:="list") 9 (J5 m) W4 9) Jx) (JA (Qq (jW<|Vw (JV (yE c.units) (J7 (x:="isinstance") VT 9 (J5 m) QP<|Jv (qv 0)<|Jv (VC (n:="tuple") (x:="tuple") 9 (J5 m) YP 9) Jx) (J7 (x:="isinstance") VT 9 (J5 m) QP<|Jv (qv 1)<|Jv (VC (n:="tuple") (x:="tuple") 9 (J5 m) YP 9) Jx)<|JM _)<|W6<|JV (yE c.units) (J7 (x:="isinstance") VT 9 (J5 m) QP<|Jv (qv 0)<|Jv (VC (n:="list") (x:="list") 9 (J5 m) W4 9) Jx) (J7 (x:="isinstance") VT 9 (J5 m) QP<|Jv (qv 1)<|Jv (VC (n:="list") (x:="list") 9 (J5 m) W4 9) Jx)<|JM _) (J8<|Qh VO) Qp)<|JA (Qq (JV (yE c.units) (J7 (x:="len") JI 9 (J5 m) JG<|Jv (qv 0) Jx) (J7 (x:="len") JI 9 (J5 m) JG<|Jv (qv 1) Jx)<|JM _) (J8<|Qh VO) Qp)<|J8<|Qh<|J7 (x:="all") (AK 9) 9 (J5 m) AN<|Jv (j7<|KN ["k","found","due"] [8,!0,!1] 9 9 (XY 9 (J5 m)<|Jv (J7 (x:="len") JI 9 (J5 m) JG<|Jv (qv 1) Jx) Jx) (λ_ _ _ _ _=>QC<|yA 0 j6)<|λ_ _ _ _ _=>qg b c 9<|Jv (J1 (Jy c) (qv 1) (qv 0) (λ_ _=>9)<|λ_ _=>9)<|Jv (J1 (Jy c) (qv 2) (qv 0) (λ_ _=>9)<|λ_ _=>9) Jx) Jx) Qp)<|J8<|Qh<|YS (gq<|J7 (x:="isinstance") VT 9 (J5 m) QP<|Jv (qv 0)<|Jv (VC (n:="bool") (x:="bool") 9 (J5 m) Fh 9) Jx)<|YR<|VP (qA c.units) (qv 0) (qv 1)<|JM _]
theorem Lz(a:All e):∀j,Ca e "_law_alike" (0+j) ["found","due"] (xZ e.K<|KI j)
 |0=>xz a.toAl 38 53 λ_=>hV
 |j+1=>dR (k:=j) a (Lz a j)
def dI(a:All e):Ca e "_law_alike" 08 ["found","due"] (xZ e.K<|KI 08):=Lz a 08
def dO(a:All e):Ca e "_law_same" 09 ["book","plans"] (xZ e.K Ap):=
 xz a.toAl 39 54 λF=>xt (N:=["book","plans","k","plan"]) (g:=BN) F JO λ_ _ _ _ _ _ i=>by
 let m:=a.m;let h:=(dI a).mono (k:=08) ();let d:=a.z_Book;let f:=a.z_Plan;let b:=a.k_Book;let c:=a.k_Plan;ext BN;rw[JA (Qq (jW<|Vw (KC<|QQ<|J7 (x:="isinstance") (GE b d) 9 (J5 m) QP<|Jv (qv 0)<|Jv (VE b.ns b.mgc 9) Jx)<|Vw (KC<|QQ<|J7 (x:="isinstance") VT 9 (J5 m) QP<|Jv (Qu b (by decide)<|qv 0)<|Jv (VC (n:="list") (x:="list") 9 (J5 m) W4 9) Jx)<|W6<|JV (yE i.units) (J7 (x:="len") JI 9 (J5 m) JG<|Jv (Qu b (by decide)<|qv 0) Jx) (J7 (x:="len") JI 9 (J5 m) JG<|Jv (qv 1) Jx)<|JM _) (J8<|Qh VO) Qp)<|JA (Kc PassesOwn.never 9 (XY 9 (J5 m)<|Jv (J7 (x:="len") JI 9 (J5 m) JG<|Jv (qv 1) Jx) Jx) (QC<|JY j6 9<|.inl 9)<|JA (JR j6 9 (.inl 9)<|J1 (Jy i) (Qu b (by decide)<|qv 0) (qv 2) (λ_ _=>9)<|λ_ _=>9)<|J8<|Qq (jW<|Vw (KC<|QQ<|J7 (x:="isinstance") (GE c f) 9 (J5 m) QP<|Jv (qv 03)<|Jv (VE c.ns c.mgc 9) Jx)<|W6<|KC<|QQ<|qg h i 9<|Jv (j7<|Kh<|Jv (Qu c (by decide)<|qv 03)<|Jv (Qu c (by decide)<|qv 03)<|Jv (Qu c (by decide)<|qv 03) Jx)<|Jv (J1 (Jy i) (qv 1) (qv 2) (λ_ _=>9)<|λ_ _=>9) Jx) (J8<|Qh VO) Qp)<|J8<|Qh VO]
def dP(a:All e):Ca e "_law_strange" 03 ["plans","cell"] (zj e.K Xf):=
 xz a.toAl 40 57 λF=>y7 (N:=["plans","cell","plan"]) (g:=BO) F JO λ_ _ _ _ _ _ d=>by
 let m:=a.m;let b:=(Lr a).mono (k:=2) ();let c:=(BX a).mono (k:=2) ();ext BO;rw[JD (QL j6 9 (.inl 9)<|PM (K7 c d 9<|JB (J3<|qv 0)<|JB (J3<|qv 1) Qg) (J3 Jw)<|λ_ _=>9)<|JW<|WJ<|K7 b d 9<|JB (J3<|qv 0)<|JB (J3<|qv 1)<|JB (Qx 05 [2]<|jo JT (J7 (x:="len") JI 9 (J5 m) JG<|Jv (J1 (Jy d) (qv 2) Jw (λ_ _=>9)<|λ_ _=>9) Jx)<|J7 (x:="len") JI 9 (J5 m) JG<|Jv (J1 (Jy d) (qv 2) Jw (λ_ _=>9)<|λ_ _=>9) Jx) Qg]
def dM(a:All e):Ca e "_law_strange_row" 1 ["plans"] (xZ e.K Aq):=
 xz a.toAl 41 61 λF=>xt (N:=["plans","number","plan","row"]) (g:=BP) F JO λ_ _ _ _ _ _ b=>by
 let m:=a.m;ext BP;rw[JA (JR j6 9 (.inl 9) Jw)<|JA (Kc PassesOwn.never 9 (Q5<|qv 0) (QC<|JY j6 9<|.inl 9)<|JA (JR j6 9 (.inl 9)<|jo JT (jo JT (qv 1) Jw)<|J7 (x:="len") JI 9 (J5 m) JG<|Jv (J1 (Jy b) (qv 2) Jw (λ_ _=>9)<|λ_ _=>9) Jx)<|J8<|Kc PassesOwn.never 9 (Q5<|J1 (Jy b) (qv 2) Jw (λ_ _=>9)<|λ_ _=>9) (QC<|JY j6 9<|.inl 9)<|JA (JR j6 9 (.inl 9)<|jo JT (qv 1) Jw)<|J8<|Qq (JV fk (J7 (x:="max") (Np 9) 9 (J5 m) MS<|Jv (j7<|KN ["thing","wait"] [8,8] 9 9 (Q5<|J1 (Jy b) (qv 03) Jw (λ_ _=>9)<|λ_ _=>9) (λ_ _ _ _ _=>Kv [0,1]<|Ks 9<|Qb (yA 0 j6)<|Qb (yA 1 j6) Kr)<|λ_ _ _ _ _=>qv 0) Jx) (jo JT (J7 (x:="len") JI 9 (J5 m) JG<|Jv (J1 (Jy b) (qv 2) Jw (λ_ _=>9)<|λ_ _=>9) Jx)<|J7 (x:="len") JI 9 (J5 m) JG<|Jv (J1 (Jy b) (qv 2) Jw (λ_ _=>9)<|λ_ _=>9) Jx)<|JM _) (J8<|Qh<|qv 1) Qp)<|J8<|Qh Jw]
def dL(a:All e)  (F:Fun e.K "law" "law" (zI 63) f u):FnOk e.P e.w e.K e.mg e.base yt 10 f u ["script"] (xZ e.K wy):=
 hU (kk:=1) (hw:=k8) (hx:=kt) (N:=["script","names","plans","good","bits","cells","due","number","text","found"]) (g:=YF) F JO λ_ _ _ _ _ _ b=>by
 let m:=a.m;let h:=(T4 a).mono (k:=09) ();let i:=(T5 a).mono (k:=09) ();let c:=(Ee a).mono (k:=09) ();let j:=(T6 a).mono (k:=09) ();let l:=(Ls a).mono (k:=09) ();let n:=(TC a).mono (k:=09) ();let o:=(TX a).mono (k:=09) ();let p:=(TZ a).mono (k:=09) ();let r:=(dO a).mono (k:=09) ();let d:=(dP a).mono (k:=09) ();let s:=(dM a).mono (k:=09) ();let t:=(Ly a).mono (k:=09) ();ext YF
 rw[JD (Kj (m:=!7)<|JR j6 9 (.inl 9)<|j7<|Cy l b 9<|Jv (qv 0)<|Jv Jw Jx)<|JD (QL j6 9 (.inl 9)<|K7 n b 9<|JB (J3<|jo JT (j7<|Yv (qv 0) KD (VD Jw) KD)<|j7<|Yv (qv 0) (VD Jw) (VD Jw) KD) Qg)<|JD (QL j6 9 (.inl 9)<|Px (J3<|qv 2) 9 (J5 m) W4)<|JD (Kj (m:=!7)<|JR j6 9 (.inl 9)<|jo Qc (qg c b 9<|Jv (qv 0)<|Jv Jw Jx) Jw)<|JD (Kj (m:=!7)<|JR j6 9 (.inl 9)<|j7<|Kh<|Jv (jo Qc (qg c b 9<|Jv (qv 0)<|Jv Jw Jx)<|jo YY Jw Jw)<|Jv (jo Qc (qg c b 9<|Jv (qv 0)<|Jv Jw Jx)<|jo YY Jw Jw) Jx)<|JD (Kj (m:=!7)<|JR j6 9 (.inr 9) Jw)<|JD (QY (V0<|JV (qA b.units) (jo Qc (jo QF (qv 04) Jw) Jw) Jw<|JM _) (JD (WJ<|K7 h b 9<|JB (J3<|qv 03)<|JB (J3<|qv 1)<|JB (J3<|J1 (Jy b) (qv 05) Jw (λ_ _=>9)<|λ_ _=>9) Qg)<|JW<|Kj (m:=!7)<|JR j6 9 (.inr 9) Jw) KO)<|JD (QY (V0<|JV (qA b.units) (jo Qc (jo QF (qv 04) Jw) Jw) Jw<|JM _) (JD (WJ<|K7 i b 9<|JB (J3<|qv 2)<|JB (J3<|qv 1)<|JB (J3<|J1 (Jy b) (qv 05) Jw (λ_ _=>9)<|λ_ _=>9) Qg)<|JW<|Kj (m:=!7)<|JR j6 9 (.inr 9) Jw) KO)<|JD (QY (V0<|JV (qA b.units) (jo Qc (jo QF (qv 04) Jw) Jw) Jw<|JM _) (JD (WJ<|K7 j b 9<|JB (J3<|qv 03)<|JB (J3<|jo JT (jo QF (J1 (Jy b) (qv 05) Jw (λ_ _=>9)<|λ_ _=>9) Jw)<|J1 (Jy b) (qv 05) Jw (λ_ _=>9)<|λ_ _=>9) Qg)<|JW<|Kj (m:=!7)<|JR j6 9 (.inr 9) Jw) KO)<|JD (Kj (m:=!7)<|JR j6 9 (.inl 9) Jw)<|JD (QY (V0<|JV (qA b.units) (jo Qc (qv 04) Jw) Jw<|JM _) (JD (WJ<|K7 d b 9<|JB (J3<|qv 03)<|JB (J3<|jo JT (jo QF (J1 (Jy b) (qv 05) Jw (λ_ _=>9)<|λ_ _=>9) Jw)<|J1 (Jy b) (qv 05) Jw (λ_ _=>9)<|λ_ _=>9) Qg)<|JD (QY (V0<|JV (qA b.units) (jo Qc (jo QF (qv 04) Jw) Jw) Jw<|JM _) (JW<|WJ<|K7 d b 9<|JB (J3<|qv 03)<|JB (J3<|jo JT (jo JT (jo QF (J1 (Jy b) (qv 05) Jw (λ_ _=>9)<|λ_ _=>9) Jw)<|J1 (Jy b) (qv 05) Jw (λ_ _=>9)<|λ_ _=>9) Jw) Qg) KO)<|JD (Kj (m:=!7)<|JR j6 9 (.inr 9) Jw)<|JW<|QL j6 9 (.inl 9)<|Qx 05 [2]<|qg s b 9<|Jv (qv 2) Jx) KO)<|JD (QL j6 9 (.inl 9)<|Qx 05 [2]<|Bb (id:="str.join") JQ (j7<|Cy p b 9<|Jv (qv 2)<|Jv (qv 1) Jx)<|λv w=>Q4 PySem.F.plainAttrs_str PySem.F.slot_str_join PySem.F.type_str_join CW v w)<|JD (Kj (m:=!7)<|JR j6 9 (.inl 9)<|qg o b 9<|Jv (qv 08) Jx)<|JD (QY (V0<|JV wG (qv 06) Jw<|JM _) (JW<|V1<|J3<|VP (fm b.units) (qv 09) (Qs<|Jv (j7<|KN ["k","due"] [8,!06] 9 9 (XY 9 (J5 m)<|Jv Jw Jx) (λ_ _ _ _ _=>QC<|yA 0 j6)<|λ_ _ _ _ _=>VP (qA b.units) (qv 0) (qv 1)<|JM _)<|Jv (qv 07) Jx)<|JM _) KO)<|JW<|V1<|Qx 05 [2]<|YS (gr<|qv 09)<|YR<|qg r b 9<|Jv (Ws t NT b 9<|Jv (qv 08) Jx)<|Jv (qv 2) Jx]
def BZ(K:aa):Sp:=λc H Q _=>∃(a:Addr)(b:Ye),c=[.ref a]/\qX K H a (b.map V.int)/\⇑b<=63/\∀d,Q (.bl 6) d
def dQ(K:aa)(b:Yp)(H:Hp)(Q:VK)(E:XK)(h:BZ K b H Q E):xZ K wy b H Q E:=by
 let(a c,rfl,d,f,q):=h;rw[(H,[.scr c],ju.refl _,IsDs.mk (qO.mpr (a,9,d)) .nil,?_)];rw[wH c f,];intro v j g e i;rw[jp.mp i,];rw[q g]
def all_mk{l:W.OpenLaw} {K:aa}   (X:K.In h)(G:h.Ns 000 mg)(hfa:mg "law"=! .ref fa)
 (d:km K zI tbl)(z:Nn K bl)(dl:vQ K "law" (zI 63))
 (a_AllError:W.nsIn K 000 "AllError"=! ! .ref j)(q_AllError:W.excIn K j [.type "ValueError",.type "Exception",.type "BaseException",.type "object"] "ValueError.__new__"=6)
 (a_BadName:W.nsIn K 000 "BadName"=! ! .ref a)(q_BadName:W.excIn K a [.type "ValueError",.type "Exception",.type "BaseException",.type "object"] "ValueError.__new__"=6)
 (a_BadPart:W.nsIn K 000 "BadPart"=! ! .ref b)(q_BadPart:W.excIn K b [.type "ValueError",.type "Exception",.type "BaseException",.type "object"] "ValueError.__new__"=6)
 (a_BadPlan:W.nsIn K 000 "BadPlan"=! ! .ref c)(q_BadPlan:W.excIn K c [.type "ValueError",.type "Exception",.type "BaseException",.type "object"] "ValueError.__new__"=6)
 (x_BadRow:Db K "BadRow" "BadRow.__init__" "row" (VN (zI 09) 0) g I_BadRow)
 (x_NoName:Db K "NoName" "NoName.__init__" "row" (VN (zI 10) 0) i I_NoName)
 (a_NoPlan:W.nsIn K 000 "NoPlan"=! ! .ref C_NoPlan)(q_NoPlan:W.excIn K C_NoPlan [.type "ValueError",.type "Exception",.type "BaseException",.type "object"] "ValueError.__new__"=6)
 (a_TooLong:W.nsIn K 000 "TooLong"=! ! .ref f)(q_TooLong:W.excIn K f [.type "ValueError",.type "Exception",.type "BaseException",.type "object"] "ValueError.__new__"=6)
 (a_TooMany:W.nsIn K 000 "TooMany"=! ! .ref C_TooMany)(q_TooMany:W.excIn K C_TooMany [.type "ValueError",.type "Exception",.type "BaseException",.type "object"] "ValueError.__new__"=6)
 (a_Unlike:W.nsIn K 000 "Unlike"=! ! .ref C_Unlike)(q_Unlike:W.excIn K C_Unlike [.type "ValueError",.type "Exception",.type "BaseException",.type "object"] "ValueError.__new__"=6)
 (b_BadName:W.nsIn K 000 "BadName"=! ! .ref o)
 (b_BadPart:W.nsIn K 000 "BadPart"=! ! .ref p)
 (b_BadPlan:W.nsIn K 000 "BadPlan"=! ! .ref r)
 (b_BadRow:W.nsIn K 000 "BadRow"=! ! .ref A)
 (b_NoName:W.nsIn K 000 "NoName"=! ! .ref B)
 (b_NoPlan:W.nsIn K 000 "NoPlan"=! ! .ref t)
 (b_TooLong:W.nsIn K 000 "TooLong"=! ! .ref u)
 (b_TooMany:W.nsIn K 000 "TooMany"=! ! .ref m)
 (b_Unlike:W.nsIn K 000 "Unlike"=! ! .ref y)
 (e_BadName:ExcCl K a)
 (e_BadPart:ExcCl K b)
 (e_BadPlan:ExcCl K c)
 (e_BadRow:ExcCl K g)
 (e_NoName:ExcCl K i)
 (e_TooLong:ExcCl K f)
 (J:NoSub K a p)
 (L:NoSub K a r)
 (n_BadName_BadRow:NoSub K a A)
 (n_BadName_NoName:NoSub K a B)
 (n_BadName_NoPlan:NoSub K a t)
 (M:NoSub K a u)
 (N:NoSub K a m)
 (n_BadName_Unlike:NoSub K a y)
 (O:NoSub K b o)
 (P:NoSub K b r)
 (n_BadPart_BadRow:NoSub K b A)
 (n_BadPart_NoName:NoSub K b B)
 (n_BadPart_NoPlan:NoSub K b t)
 (Q:NoSub K b u)
 (R:NoSub K b m)
 (n_BadPart_Unlike:NoSub K b y)
 (S:NoSub K c o)
 (T:NoSub K c p)
 (n_BadPlan_BadRow:NoSub K c A)
 (n_BadPlan_NoName:NoSub K c B)
 (n_BadPlan_NoPlan:NoSub K c t)
 (U:NoSub K c u)
 (Y:NoSub K c m)
 (n_BadPlan_Unlike:NoSub K c y)
 (n_BadRow_BadName:NoSub K g o)
 (n_BadRow_BadPart:NoSub K g p)
 (n_BadRow_BadPlan:NoSub K g r)
 (n_BadRow_NoName:NoSub K g B)
 (n_BadRow_NoPlan:NoSub K g t)
 (n_BadRow_TooLong:NoSub K g u)
 (n_BadRow_TooMany:NoSub K g m)
 (n_BadRow_Unlike:NoSub K g y)
 (n_NoName_BadName:NoSub K i o)
 (n_NoName_BadPart:NoSub K i p)
 (n_NoName_BadPlan:NoSub K i r)
 (n_NoName_BadRow:NoSub K i A)
 (n_NoName_NoPlan:NoSub K i t)
 (n_NoName_TooLong:NoSub K i u)
 (n_NoName_TooMany:NoSub K i m)
 (n_NoName_Unlike:NoSub K i y)
 (Z:NoSub K f o)
 (n_TooLong_BadPart:NoSub K f p)
 (n_TooLong_BadPlan:NoSub K f r)
 (n_TooLong_BadRow:NoSub K f A)
 (n_TooLong_NoName:NoSub K f B)
 (n_TooLong_NoPlan:NoSub K f t)
 (n_TooLong_TooMany:NoSub K f m)
 (n_TooLong_Unlike:NoSub K f y)
 (C:W.subIn K (.ref a) (.ref j)=!6)
 (E:W.subIn K (.ref b) (.ref j)=!6)
 (F:W.subIn K (.ref c) (.ref j)=!6)
 (u_BadRow_AllError:W.subIn K (.ref g) (.ref j)=!6)
 (u_NoName_AllError:W.subIn K (.ref i) (.ref j)=!6)
 (I:W.subIn K (.ref f) (.ref j)=!6)
 (v_BadName:W.subIn K (.ref a) (.type "ValueError")=!6)
 (v_BadPart:W.subIn K (.ref b) (.type "ValueError")=!6)
 (v_BadPlan:W.subIn K (.ref c) (.type "ValueError")=!6)
 (v_BadRow:W.subIn K (.ref g) (.type "ValueError")=!6)
 (v_NoName:W.subIn K (.ref i) (.type "ValueError")=!6)
 (v_TooLong:W.subIn K (.ref f) (.type "ValueError")=!6)
 (z_Book:ZP K "Book")
 (z_Plan:ZP K "Plan")
 (g_FIGURES:W.nsIn K 000 "FIGURES"=! ! .str "0123456789" t_FIGURES)
 (g_KEPT_WORDS:W.nsIn K 000 "KEPT_WORDS"=! ! .ref p_KEPT_WORDS)(h_KEPT_WORDS:K.lookup p_KEPT_WORDS=!(.type "tuple",dd_KEPT_WORDS,.seq #[.str "plan" t0_KEPT_WORDS,.str "given" t1_KEPT_WORDS,.str "all" t2_KEPT_WORDS,.str "first" t3_KEPT_WORDS,.str "part" t4_KEPT_WORDS] n_KEPT_WORDS,sl_KEPT_WORDS))
 (g_LETTERS:W.nsIn K 000 "LETTERS"=! ! .str "abcdefghijklmnopqrstuvwxyz" t_LETTERS)
 (l_Book:CS K "Book" "Book.__init__" ["plans"] (VN (zI 13) 0))
 (l_Draft:CS K "Draft" "Draft.__init__" ["name","givens","rows"] (VN (zI 29) 0))
 (l_Plan:CS K "Plan" "Plan.__init__" ["name","givens","rows"] (VN (zI 12) 0)):
 ∃fd:FuncData,(∀(s:Shared)(v:Value),BindsTo s fd ([v],[]) [%["script"|v]])/\∀base:Heap,K.In base->base.Ns 000 mg->FnOk l.prog w K mg base yt 10 fa fd ["script"] (BZ K):=by
 let(f_law,fd_law,a_law,wy):=dl;cases hfa.symm.trans (W.mg_of X G a_law);let(D_Book,fI_Book,fdI_Book,l1_Book,l2_Book,l3_Book,l4_Book,l5_Book):=l_Book;let(D_Draft,fI_Draft,fdI_Draft,l1_Draft,l2_Draft,l3_Draft,l4_Draft,l5_Draft):=l_Draft;let(D_Plan,fI_Plan,fdI_Plan,l1_Plan,l2_Plan,l3_Plan,l4_Plan,l5_Plan):=l_Plan
 rw[(fd_law,by let(_,_,_,_,_,_,_,_,_,rfl,_,_):=id wy.ex;rw[λs v=>.of_eq 9],λbase _ _=>(dL (e:=(l.prog,w,K,mg,base,λn=>[j,a,b,c,g,I_BadRow,i,I_NoName,C_NoPlan,f,C_TooMany,C_Unlike,o,p,r,A,B,t,u,m,y,D_Book,D_Draft,D_Plan].getD n 0,λn=>[t_FIGURES,t_LETTERS].getD n t_FIGURES)) (((h,X,G),d,G5 X G z),(a_AllError,W.mg_of X G a_AllError,q_AllError),(a_BadName,W.mg_of X G a_BadName,q_BadName),(a_BadPart,W.mg_of X G a_BadPart,q_BadPart),(a_BadPlan,W.mg_of X G a_BadPlan,q_BadPlan),x_BadRow.1 X G,x_BadRow.2,x_NoName.1 X G,x_NoName.2,(a_NoPlan,W.mg_of X G a_NoPlan,q_NoPlan),(a_TooLong,W.mg_of X G a_TooLong,q_TooLong),(a_TooMany,W.mg_of X G a_TooMany,q_TooMany),(a_Unlike,W.mg_of X G a_Unlike,q_Unlike),(b_BadName,W.mg_of X G b_BadName),(b_BadPart,W.mg_of X G b_BadPart),(b_BadPlan,W.mg_of X G b_BadPlan),(b_BadRow,W.mg_of X G b_BadRow),(b_NoName,W.mg_of X G b_NoName),(b_NoPlan,W.mg_of X G b_NoPlan),(b_TooLong,W.mg_of X G b_TooLong),(b_TooMany,W.mg_of X G b_TooMany),(b_Unlike,W.mg_of X G b_Unlike),e_BadName,e_BadPart,e_BadPlan,e_BadRow,e_NoName,e_TooLong,J,L,n_BadName_BadRow,n_BadName_NoName,n_BadName_NoPlan,M,N,n_BadName_Unlike,O,P,n_BadPart_BadRow,n_BadPart_NoName,n_BadPart_NoPlan,Q,R,n_BadPart_Unlike,S,T,n_BadPlan_BadRow,n_BadPlan_NoName,n_BadPlan_NoPlan,U,Y,n_BadPlan_Unlike,n_BadRow_BadName,n_BadRow_BadPart,n_BadRow_BadPlan,n_BadRow_NoName,n_BadRow_NoPlan,n_BadRow_TooLong,n_BadRow_TooMany,n_BadRow_Unlike,n_NoName_BadName,n_NoName_BadPart,n_NoName_BadPlan,n_NoName_BadRow,n_NoName_NoPlan,n_NoName_TooLong,n_NoName_TooMany,n_NoName_Unlike,Z,n_TooLong_BadPart,n_TooLong_BadPlan,n_TooLong_BadRow,n_TooLong_NoName,n_TooLong_NoPlan,n_TooLong_TooMany,n_TooLong_Unlike,C,E,F,u_BadRow_AllError,u_NoName_AllError,I,v_BadName,v_BadPart,v_BadPlan,v_BadRow,v_NoName,v_TooLong,z_Book,z_Plan,W.mg_of X G g_FIGURES,(_,W.mg_of X G g_KEPT_WORDS,λH=>.inr (_,_,_,h_KEPT_WORDS,9,9,by show 05<=00;decide,.cons (_,9)<|.cons (_,9)<|.cons (_,9)<|.cons (_,9)<|.cons (_,9) .nil)),W.mg_of X G g_LETTERS,(l1_Book,W.mg_of X G l1_Book,l2_Book,l3_Book),(_,_,l4_Book,l5_Book),(l1_Draft,W.mg_of X G l1_Draft,l2_Draft,l3_Draft),(_,_,l4_Draft,l5_Draft),(l1_Plan,W.mg_of X G l1_Plan,l2_Plan,l3_Plan),(_,_,l4_Plan,l5_Plan)) wy).imp<|dQ K)]
def walk{l:W.OpenLaw}     {K:Params->aa}(m:l.most=!63)(e:d.params.defaults=[])
 (o:∀(w:World)(h:Heap),p w h->(K w.params).In h)
 (F:∀(w:World)(c:Yc)(i:Addr)(h:Heap),(K w.params).In h->h.Ns 000 c->c d.name=! .ref i->
  ∃j:FuncData,(∀(s:Shared)(u:Value),BindsTo s j ([u],[]) [%["script"|u]])/\∀b:Heap,(K w.params).In b->b.Ns 000 c->FnOk l.prog w (K w.params) c b yt 10 i j ["script"] (BZ<|K w.params)):
 W.WalkO q g A p l.row.toRowW d [] λf r=>PySem.call f r:=
 L2.walk_of (n:=63) (k:=10) (x:="script") (CX:=λ_=>yt) (sp:=λw=>BZ<|K w.params) m (by decide) e (9,by decide,by decide) o F (λ_ _ a t v _ y=>(a,t,9,y,v,λ_=>9)) λ_ _ _ _ _ z=>z
end My
end
open PySem PySem.W PyProof.Rows
structure PySem.W.Fast:Prop where(tw18275055649613642044 tw9369559288824137325 tw1753976479130762217 tw9366512949251218240 tw16549671282371249640 tw5170089542152606011 tw8130940644538310234 tw14469394284935715133 tw6103963855199610741 tw17759424686695140543 tw16680868412934785433 tw14318224482777260924 tw196068887618039899 tw9810984528562700299 tw15274241456825940937 tw3713925063749521020 tw17630672065735046444 tw5515588579791076552 tw17054828415250462354 tw10967669651100474647 tw3310234726937763860 tw14433912207295781387 tw4651811683823306711 tw12890055460071671239 tw4920032234120618084 tw15226896891683239708 tw10214667595892024251 tw13276370524230237574 tw12958837011956618714 tw6186264623417541877 tw8692984585766680489 tw1690632031080961545 tw4969698714270359140 tw12107143081183061356 tw5179805450895004023 tw14667436471682627581 tw9966895964873221741 tw8851513318279148189 tw10615706336915355052 tw15668761455530712555 tw2237839432497352949 tw14537193073858761552 tw16913040125029106751 tw639613460271054210 tw10545589645751323519 tw18194063491954861102 tw10977607211454793432 tw175281315341926201 tw3023237925702244493 tw7491564363798001927 tw12362832401704623376 tw12273141672683473530 tw6167866152752078255 tw3010482093331183312 tw5852150256606044615 tw6232681226949875458 tw4765536676925663011 tw1933463665498659914 tw14827799237648021710 tw11828154568398552992 tw10458977125880983782 tw17271628451197816290 tw137882610903514896 tw3843407444429401789 tw132529994386637560 tw5501940303119743318 tw8512949242561101242 tw10153728454767074171 tw15039424093195217743 tw2911122234662266332 tw6541456168055839059 tw9155085512995533227 tw17910392942690700758 tw2369066027839990697 tw8688475710861230204 tw1345522350585825069 tw3971565722107384001 tw5056697290597506698 tw8749111957626825447 tw6437004388910912736 tw5716324402422094910 tw9339460787055201386 tw17827972574139559087 tw16616157595609986401 tw4091591003538231172 tw9570537545227938645 tw6955547259669636359 tw6729290008268560056 tw13541202668296205583 tw13927726684688408979 tw12236611896432334085 tw4189662307161785312 tw13546516236511629075 tw4560004608692394808 tw6445778193602955240 tw4054830141751708257 tw2776377538812526346 tw16403587233046756978 tw12369433805896494150 tw1237198183482918934 tw1921657038445821932 tw15726347452944247709 tw8530555353747423664 tw10225478670613004129 tw8502595305920776511 tw6508305839370995837 tw9470189921545015473 tw5798872115873710954 tw11959285256731579846 tw2524831183656579544 tw13405984092646056486 tw18203241013975022409 tw12998916257161512262 tw5428664475578940000 tw4727189588740740042 tw458453850003108192 tw13822233184202127963 tw12038010737016581361 tw3189923956631150506 tw9722357529064753336 tw206267881851627085 tw13939906550716545662 tw18419647321423149804 tw8187595959592585672 tw2990543466991740141 tw4211167641121511567 tw13571797909115311881 tw18295972133602106394 tw3806509416946702424 tw3019465726831766185 tw17219374125046371650 tw14591916325945992596 tw4262537101635283241 tw2544994770883321085 tw6445325506208628523 tw7049303899508448081 tw622344483601864940 tw10680888135797788687 tw13757023463233139241 tw16926555095702618827 tw9321974079942533874 tw5985893527223901464 tw1428097163182063168 tw1298794942155302326 tw8172338492791202815 tw8476440684637910958 tw12558347614163927783 tw10357155283531125360 tw12139702525518891014 tw9854230847389277483 tw10726875457000285107 tw15379063917898802241 tw692854449627891773 tw15761128157788669676 tw2141675855824540165 tw3759088814214480881 tw14366473539381478097 tw8884689216125386880 tw11278007779809640490 tw6092906174592843662 tw12650064649140732852 tw7509174867819750532 tw9743526163344043841 tw3308241680534878863 tw8863340306070245913 tw4079267372783366055 tw8952402771445396633 tw17825168445482685821 tw17290938653858789721 tw4900578852678772422 tw7839119757863785606 tw12646423685293731438 tw1033124899880656632 tw18319753643169881302 tw752615535148185153 tw5488351398696176704 tw15034534951658106123 tw7386904334841342268 tw12938516565074607026 tw14684572529629668294 tw13170564358552569291 tw12361125496258125060 tw2283597832540059892 tw262764640952385592 tw788563234808185689 tw2110454033567897245 tw8156520932838469340 tw2901539129967943545 tw17939761547595943464 tw17549653914134233576 tw3513277712782676872 tw3911779792215064056 tw12550055535671792720 tw11602723013730059798 tw4587363613342859096 tw1060059948186939879 tw1760820416059417995 tw16596065519490230828 tw2922923711639821228 tw1547397775117880707 tw16358030547872359144 tw5144112524028103213 tw3896342459755584083 tw3290847276273512079 tw486521089295553778 tw3175357898877346021 tw11000981688969547480 tw10331243735745412376 tw14261927313265362807 tw5730118462389587280 tw12257526546166889878 tw11421078811829923341 tw11566745519263316339 tw18698607666595085 tw14601408140984172012 tw12152569168415822654 tw9771502366623816999 tw10236102191433592920 tw14946448360730715668 tw17672925082117955943 tw11940756313113186921 tw11807826845628051718 tw9474073260565238233 tw5892429455496529109 tw11505100280348646614 tw5455293728369909533 tw10707675062617849701 tw15069178536574015225 tw15312744827698687653 tw14003294209147720593 tw14160021223875405965 tw10832617224939090272 tw3772221253602104660 tw15109673941235817070 tw7023660145885725713 tw7896305285069648333 tw3643475929815130785 tw7381030354719002270 tw16237224923351039897 tw12841778616946569904 tw3375177604288169414 tw17680250986319293018 tw4841684425546835613 tw9648437070017493300 tw10312618945813987428 tw12898713121336287324 tw7617811696175318135 tw14696537546678317336 tw8803868254430410072 tw1377986788056526177 tw9194305873142265841 tw4077292540065209834 tw10724136680143949583 tw12333779116481422877 tw6205677570679398890 tw15338307507915588349 tw17807409037642979264 tw12081009245238343907 tw14676409843928446969 tw5000131340831668593 tw17802709618494275157 tw6104814478879436794 tw7505252071836754102 tw937627774364221157 tw16840008414896538088 tw8613696578548515564 tw14056931673817785087 tw2296570785535441114 tw12745358414528373706 tw12495779763397802922 tw5989125811364082443 tw7035842527490657573:True)
set_option maxRecDepth 100000 in
set_option maxHeartbeats 0 in
theorem PySem.Challenge.cw_allfirst_k57_names_plans_and_parts_holds : PySem.Challenge.rw_allfirst_k57_names_plans_and_parts.Holds := by
 w_on;o_law;k_head;(case hw=>w_witness2)
 k_fill
 refine My.walk (l:=PySem.Challenge.rw_allfirst_k57_names_plans_and_parts) rfl rfl (fun w h Y=>PySem.W.kIn_of Y) ?F
 case F =>
  intro w mg fa h KX G hmg
  refine' My.all_mk KX G hmg ?d ?z ?dl ?a_AllError ?q_AllError ?a_BadName ?q_BadName ?a_BadPart ?q_BadPart ?a_BadPlan ?q_BadPlan ?x_BadRow ?x_NoName ?a_NoPlan ?q_NoPlan ?a_TooLong ?q_TooLong ?a_TooMany ?q_TooMany ?a_Unlike ?q_Unlike ?b_BadName ?b_BadPart ?b_BadPlan ?b_BadRow ?b_NoName ?b_NoPlan ?b_TooLong ?b_TooMany ?b_Unlike ?e_BadName ?e_BadPart ?e_BadPlan ?e_BadRow ?e_NoName ?e_TooLong ?n_BadName_BadPart ?n_BadName_BadPlan ?n_BadName_BadRow ?n_BadName_NoName ?n_BadName_NoPlan ?n_BadName_TooLong ?n_BadName_TooMany ?n_BadName_Unlike ?n_BadPart_BadName ?n_BadPart_BadPlan ?n_BadPart_BadRow ?n_BadPart_NoName ?n_BadPart_NoPlan ?n_BadPart_TooLong ?n_BadPart_TooMany ?n_BadPart_Unlike ?n_BadPlan_BadName ?n_BadPlan_BadPart ?n_BadPlan_BadRow ?n_BadPlan_NoName ?n_BadPlan_NoPlan ?n_BadPlan_TooLong ?n_BadPlan_TooMany ?n_BadPlan_Unlike ?n_BadRow_BadName ?n_BadRow_BadPart ?n_BadRow_BadPlan ?n_BadRow_NoName ?n_BadRow_NoPlan ?n_BadRow_TooLong ?n_BadRow_TooMany ?n_BadRow_Unlike ?n_NoName_BadName ?n_NoName_BadPart ?n_NoName_BadPlan ?n_NoName_BadRow ?n_NoName_NoPlan ?n_NoName_TooLong ?n_NoName_TooMany ?n_NoName_Unlike ?n_TooLong_BadName ?n_TooLong_BadPart ?n_TooLong_BadPlan ?n_TooLong_BadRow ?n_TooLong_NoName ?n_TooLong_NoPlan ?n_TooLong_TooMany ?n_TooLong_Unlike ?u_BadName_AllError ?u_BadPart_AllError ?u_BadPlan_AllError ?u_BadRow_AllError ?u_NoName_AllError ?u_TooLong_AllError ?v_BadName ?v_BadPart ?v_BadPlan ?v_BadRow ?v_NoName ?v_TooLong ?z_Book ?z_Plan ?g_FIGURES ?g_KEPT_WORDS ?h_KEPT_WORDS ?g_LETTERS ?l_Book ?l_Draft ?l_Plan
  (case d =>
   repeat (apply L2.DL.dfs_cons;focus (refine' ⟨_,_,?a,L2.fun_mk ?l ?c ?k⟩;(case a=>k_is);(case l=>k_is);(case c=>k_is);(case k=>k_is)))
   exact True.intro)
  (case z =>
   repeat (apply L2.DL.nn_cons;focus k_is)
   exact True.intro)
  (case dl=>refine' ⟨_,_,?a,L2.fun_mk ?l ?c ?k⟩;(case a=>k_is);(case l=>k_is);(case c=>k_is);(case k=>k_is))
  (case a_AllError=>k_is)
  (case q_AllError=>k_exc)
  (case a_BadName=>k_is)
  (case q_BadName=>k_exc)
  (case a_BadPart=>k_is)
  (case q_BadPart=>k_exc)
  (case a_BadPlan=>k_is)
  (case q_BadPlan=>k_exc)
  (case x_BadRow=>refine' L2.excI_mk ?ua ?ul ?um ?ud ?uh ?ue ?ui ?un ?uo ?us (L2.fun_mk ?uf ?uc ?uk);(case ua=>k_is);(case ul=>k_is);(case um=>rfl);(case ud=>rfl);(case uh=>rfl);(case ue=>k_exc);(case ui=>k_is);(case un=>k_is);(case uo=>show PySem.W.findIn _ _ _=_;k_is);(case us=>k_is);(case uf=>k_is);(case uc=>k_is);(case uk=>k_is))
  (case x_NoName=>refine' L2.excI_mk ?ua ?ul ?um ?ud ?uh ?ue ?ui ?un ?uo ?us (L2.fun_mk ?uf ?uc ?uk);(case ua=>k_is);(case ul=>k_is);(case um=>rfl);(case ud=>rfl);(case uh=>rfl);(case ue=>k_exc);(case ui=>k_is);(case un=>k_is);(case uo=>show PySem.W.findIn _ _ _=_;k_is);(case us=>k_is);(case uf=>k_is);(case uc=>k_is);(case uk=>k_is))
  (case a_NoPlan=>k_is)
  (case q_NoPlan=>k_exc)
  (case a_TooLong=>k_is)
  (case q_TooLong=>k_exc)
  (case a_TooMany=>k_is)
  (case q_TooMany=>k_exc)
  (case a_Unlike=>k_is)
  (case q_Unlike=>k_exc)
  (case b_BadName|b_BadPart|b_BadPlan|b_BadRow|b_NoName|b_NoPlan|b_TooLong|b_TooMany|b_Unlike=>k_is)
  (case e_BadName=>refine' ⟨?e0,?e1,?e2,?e3,?e4,?e5,?e6,?e7⟩;(case e0=>k_is);(case e1=>k_is);(case e2=>k_is);(case e3=>k_is);(case e4=>k_is);(case e5=>k_is);(case e6=>k_is);(case e7=>k_is))
  (case e_BadPart=>refine' ⟨?e0,?e1,?e2,?e3,?e4,?e5,?e6,?e7⟩;(case e0=>k_is);(case e1=>k_is);(case e2=>k_is);(case e3=>k_is);(case e4=>k_is);(case e5=>k_is);(case e6=>k_is);(case e7=>k_is))
  (case e_BadPlan=>refine' ⟨?e0,?e1,?e2,?e3,?e4,?e5,?e6,?e7⟩;(case e0=>k_is);(case e1=>k_is);(case e2=>k_is);(case e3=>k_is);(case e4=>k_is);(case e5=>k_is);(case e6=>k_is);(case e7=>k_is))
  (case e_BadRow=>refine' ⟨?e0,?e1,?e2,?e3,?e4,?e5,?e6,?e7⟩;(case e0=>k_is);(case e1=>k_is);(case e2=>k_is);(case e3=>k_is);(case e4=>k_is);(case e5=>k_is);(case e6=>k_is);(case e7=>k_is))
  (case e_NoName=>refine' ⟨?e0,?e1,?e2,?e3,?e4,?e5,?e6,?e7⟩;(case e0=>k_is);(case e1=>k_is);(case e2=>k_is);(case e3=>k_is);(case e4=>k_is);(case e5=>k_is);(case e6=>k_is);(case e7=>k_is))
  (case e_TooLong=>refine' ⟨?e0,?e1,?e2,?e3,?e4,?e5,?e6,?e7⟩;(case e0=>k_is);(case e1=>k_is);(case e2=>k_is);(case e3=>k_is);(case e4=>k_is);(case e5=>k_is);(case e6=>k_is);(case e7=>k_is))
  (case n_BadName_BadPart|n_BadName_BadPlan|n_BadName_BadRow|n_BadName_NoName|n_BadName_NoPlan|n_BadName_TooLong|n_BadName_TooMany|n_BadName_Unlike|n_BadPart_BadName|n_BadPart_BadPlan|n_BadPart_BadRow|n_BadPart_NoName|n_BadPart_NoPlan|n_BadPart_TooLong|n_BadPart_TooMany|n_BadPart_Unlike|n_BadPlan_BadName|n_BadPlan_BadPart|n_BadPlan_BadRow|n_BadPlan_NoName|n_BadPlan_NoPlan|n_BadPlan_TooLong|n_BadPlan_TooMany|n_BadPlan_Unlike|n_BadRow_BadName|n_BadRow_BadPart|n_BadRow_BadPlan|n_BadRow_NoName|n_BadRow_NoPlan|n_BadRow_TooLong|n_BadRow_TooMany|n_BadRow_Unlike|n_NoName_BadName|n_NoName_BadPart|n_NoName_BadPlan|n_NoName_BadRow|n_NoName_NoPlan|n_NoName_TooLong|n_NoName_TooMany|n_NoName_Unlike|n_TooLong_BadName|n_TooLong_BadPart|n_TooLong_BadPlan|n_TooLong_BadRow|n_TooLong_NoName|n_TooLong_NoPlan|n_TooLong_TooMany|n_TooLong_Unlike=>refine' ⟨?n0,?n1,?n2,?n3⟩;(case n0=>rfl);(case n1=>k_is);(case n2=>k_is);(case n3=>k_is))
  (case u_BadName_AllError|u_BadPart_AllError|u_BadPlan_AllError|u_BadRow_AllError|u_NoName_AllError|u_TooLong_AllError|v_BadName|v_BadPart|v_BadPlan|v_BadRow|v_NoName|v_TooLong=>k_is)
  (case z_Book=>refine' ⟨_,?ua,⟨?ub,?uc,?ud,?ue⟩⟩;(case ua=>k_is);(case ub=>k_is);(case uc=>k_is);(case ud=>k_is);(case ue=>k_is))
  (case z_Plan=>refine' ⟨_,?ua,⟨?ub,?uc,?ud,?ue⟩⟩;(case ua=>k_is);(case ub=>k_is);(case uc=>k_is);(case ud=>k_is);(case ue=>k_is))
  (case g_FIGURES|g_KEPT_WORDS|h_KEPT_WORDS|g_LETTERS=>k_is)
  (case l_Book=>refine' ⟨_,_,_,?ua,⟨?up,?uh,?uo,?us⟩,List.forall_mem_cons.mpr ⟨?uf0,List.forall_mem_nil _⟩,⟨?um,?ui,?un,?ue⟩,L2.fun_mk ?ul ?uc ?uk⟩;(case ua=>k_is);(case ui=>k_is);(case ul=>k_is);(case uc=>k_is);(case uk=>k_is);(case up=>k_is);(case uh=>k_is);(case uo=>k_is);(case us=>k_is);(case um=>k_is);(case un=>k_is);(case ue=>k_is);(case uf0=>show PySem.W.findIn _ _ _=_;k_is))
  (case l_Draft=>refine' ⟨_,_,_,?ua,⟨?up,?uh,?uo,?us⟩,List.forall_mem_cons.mpr ⟨?uf0,List.forall_mem_cons.mpr ⟨?uf1,List.forall_mem_cons.mpr ⟨?uf2,List.forall_mem_nil _⟩⟩⟩,⟨?um,?ui,?un,?ue⟩,L2.fun_mk ?ul ?uc ?uk⟩;(case ua=>k_is);(case ui=>k_is);(case ul=>k_is);(case uc=>k_is);(case uk=>k_is);(case up=>k_is);(case uh=>k_is);(case uo=>k_is);(case us=>k_is);(case um=>k_is);(case un=>k_is);(case ue=>k_is);(case uf0=>show PySem.W.findIn _ _ _=_;k_is);(case uf1=>show PySem.W.findIn _ _ _=_;k_is);(case uf2=>show PySem.W.findIn _ _ _=_;k_is))
  (case l_Plan=>refine' ⟨_,_,_,?ua,⟨?up,?uh,?uo,?us⟩,List.forall_mem_cons.mpr ⟨?uf0,List.forall_mem_cons.mpr ⟨?uf1,List.forall_mem_cons.mpr ⟨?uf2,List.forall_mem_nil _⟩⟩⟩,⟨?um,?ui,?un,?ue⟩,L2.fun_mk ?ul ?uc ?uk⟩;(case ua=>k_is);(case ui=>k_is);(case ul=>k_is);(case uc=>k_is);(case uk=>k_is);(case up=>k_is);(case uh=>k_is);(case uo=>k_is);(case us=>k_is);(case um=>k_is);(case un=>k_is);(case ue=>k_is);(case uf0=>show PySem.W.findIn _ _ _=_;k_is);(case uf1=>show PySem.W.findIn _ _ _=_;k_is);(case uf2=>show PySem.W.findIn _ _ _=_;k_is))
