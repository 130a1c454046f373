import PyProof.Rows.All
import Wide.All
import OpenK.AllK
import Wide.FinOn
import Lean
import PyProof.EqAt
import PyProof.EqKinds
import PyProof.TupleCall
import PyProof.P3Eq
import PyProof.NeData
import PySem.Challenge.RW_allfirst_k50_forms_of_plans
set_option autoImplicit true
set_option relaxedAutoImplicit true
set_option Elab.async false
set_option linter.all false
set_option maxRecDepth 100000
open PySem PySem.Spec PyProof.Rows
noncomputable section
local macro_rules | `(tactic| trivial) => `(tactic| first|exact .inl rfl|exact .inr rfl|assumption)
local macro_rules | `(()) => `(by first|lia|omega|(simp;done)|grind|simp_all)
local macro_rules | `(~~~$x) => `(some (.val $x))
set_option compiler.extract_closed false
set_option bootstrap.genMatcherCode false
def zPat:Nat->Lean.Syntax->Lean.MacroM (Lean.TSyntax `rcasesPat)
 |0,_=>Lean.Macro.throwUnsupported
 |f+1,s=>match s with
  |`(_)=>`(rcasesPat|_)
  |`($x:ident)=>`(rcasesPat|$x:ident)
  |`(($x,$xs,*))=>do
   let y<-(#[x]++xs.getElems).mapM λt=>zPat f t
   `(rcasesPat|⟨$[$y],*⟩)
  |_=>Lean.Macro.throwUnsupported
local macro_rules
|`(tactic|let ($x,$xs,*) : $t := $e)=>do
 let y<-(#[x]++xs.getElems).mapM λt=>zPat 9 t
 `(tactic|obtain ⟨$[$y],*⟩ : $t := $e)
|`(tactic|let ($x,$xs,*) := $e)=>do
 let y<-(#[x]++xs.getElems).mapM λt=>zPat 9 t
 `(tactic|obtain ⟨$[$y],*⟩ := $e)
|`(tactic|let $d:letDecl)=>`(tactic|have $d:letDecl)
local macro_rules|`(tactic|let ($x,$xs,*) := $e)=>do
 let(k,v)<-match x with
  |`(-$a)=>pure (1,#[a])
  |`(!$a)=>pure (0,#[a])
  |`($f $a*)=>pure (a.size+1,#[f]++a)
  |_=>Lean.Macro.throwUnsupported
 let v:=v++xs.getElems
 let mut b:Array Lean.Term:=#[]
 let mut p:=#[]
 for y in v do
  let z:=Lean.mkIdent (.mkSimple s!"z{(y.raw.getPos?.getD 0).1}")
  match y with
  |`(_)=>b:=b.push y
  |`($i:ident)=>
   if i.getId=`rfl then
    p:=p.push (<-`(tactic|subst $z:ident))
    b:=b.push z
   else b:=b.push y
  |`(($c,$d,*))=>
   p:=p.push (<-`(tactic|let ($c,$d,*) := $z))
   b:=b.push z
  |_=>Lean.Macro.throwUnsupported
 let n:=v.size-k
 let g(s:String)(i:Nat):=Lean.mkIdent (.mkSimple s!"{s}{i}")
 let A:=g "za" n
 let X:=g "zx" k
 let u:=b.extract 0 k
 let w:=b.extract k v.size
 let mut t<-if k=0 then `(tactic|refine $A (fun $b* => ?_) $e) else if n=1 then `(tactic|refine $X $e fun $b* => ?_) else `(tactic|refine $X $e fun $u* => $A fun $w* => ?_)
 for q in p do t<-`(tactic|($t:tactic; $q:tactic))
 return t
local macro_rules|`(tactic|calc $e:term)=>`(tactic|refine $e)
local macro_rules|`(%[$x,*|$y])=>do
 if y.raw.getId.hasMacroScopes then Lean.Macro.throwUnsupported
 let r:Lean.Term<-x.getElems.foldrM (λa b=>`(Prod.mk $a $b)) y
 return r
local macro_rules|`(($x,$xs,*))=>`(⟨$x,$xs,*⟩)
local macro_rules|`(!$x)=>`(some $x)
local macro_rules|`(9)=>`(rfl)|`(8)=>`(none)|`(7)=>`(false)|`(6)=>`(true)|`(5)=>`(Nat)|`(4)=>`(Prop)|`(3)=>`(Int)
theorem zx1{P:a->Prop}{G:Prop}(e:∃x,P x)(c:∀x,P x->G):G:=e.elim c
theorem zx2{P:a->b->Prop}{G:Prop}(e:∃x y,P x y)(c:∀x y,P x y->G):G:=e.elim λx h=>zx1 h (c x)
theorem zx3{P:a->b->d->Prop}{G:Prop}(e:∃x y z,P x y z)(c:∀x y z,P x y z->G):G:=e.elim λx h=>zx2 h (c x)
theorem zx4{P:a->b->d->f->Prop}{G:Prop}(e:∃x y z u,P x y z u)(c:∀x y z u,P x y z u->G):G:=e.elim λx h=>zx3 h (c x)
theorem zx5{P:a->b->d->f->g->Prop}{G:Prop}(e:∃x y z u v,P x y z u v)(c:∀x y z u v,P x y z u v->G):G:=e.elim λx h=>zx4 h (c x)
theorem zx6{P:a->b->d->f->g->h->Prop}{G:Prop}(e:∃x y z u v w,P x y z u v w)(c:∀x y z u v w,P x y z u v w->G):G:=e.elim λx h=>zx5 h (c x)
theorem za2{p q G:Prop}(c:p->q->G)(e:p/\q):G:=c e.1 e.2
theorem za3{p q r G:Prop}(c:p->q->r->G)(e:p/\q/\r):G:=za2 (c e.1) e.2
theorem za4{p q r s G:Prop}(c:p->q->r->s->G)(e:p/\q/\r/\s):G:=za3 (c e.1) e.2
theorem za5{p q r s t G:Prop}(c:p->q->r->s->t->G)(e:p/\q/\r/\s/\t):G:=za4 (c e.1) e.2
theorem za6{p q r s t u G:Prop}(c:p->q->r->s->t->u->G)(e:p/\q/\r/\s/\t/\u):G:=za5 (c e.1) e.2
theorem za7{p q r s t u v G:Prop}(c:p->q->r->s->t->u->v->G)(e:p/\q/\r/\s/\t/\u/\v):G:=za6 (c e.1) e.2
theorem za8{p q r s t u v w G:Prop}(c:p->q->r->s->t->u->v->w->G)(e:p/\q/\r/\s/\t/\u/\v/\w):G:=za7 (c e.1) e.2
theorem Zqi.{u}{α:Type u}{a b:α}(h:some a=!b):a=b:=Option.some.inj h
theorem Zqg.{u}{α:Type u}{l:List α}{i:5}(h:i<l.length):l[i]?=!l[i]:=List.getElem?_eq_getElem h
theorem Zqs.{u}{α:Type u}{a:α}{l:List α}:a∈a::l:=List.mem_cons_self
theorem Zqm.{u}{α:Type u}(y:α){a:α}{l:List α}(h:a∈l):a∈y::l:=List.mem_cons_of_mem y h
theorem Zql.{u,v}{α:Type u}{β:Type v}{l:List α}(f:α->β):(l.map f).length=l.length:=List.length_map f
abbrev Za:=@wpAny_bind
abbrev Zb:=@wpAny_pure
abbrev Zc:=@wpAny_mono
abbrev Zd:=@if_pos
abbrev Ze:=@if_neg
abbrev Zf:=@Nat.le_refl
abbrev Zg:=@Nat.lt_of_lt_of_le
abbrev Zh:=@Nat.le_trans
abbrev Zi:=@Nat.ne_of_lt
abbrev Zj:=@Bool.false_ne_true
abbrev Zk:=@Heap.lt_size
abbrev Zl:=@List.map_cons
abbrev Zm:=@List.size_toArray
abbrev Zn:=@absurd
abbrev Zo:=@decide_eq_false
abbrev Zp:=@decide_eq_true
abbrev Zq:=@Heap.get?_push_of_some
abbrev Zr:=@Heap.get?_push_size
abbrev Zs:=@iff_of_false
abbrev Zt:=@congrArg
abbrev Zu:=@List.length_cons
abbrev Zv:=@List.getElem?_map
abbrev Zw:=@List.map_map
abbrev Zx:=@List.getElem?_set_ne
abbrev Zy:=@Nat.lt_irrefl
abbrev Zz:=@Nat.le_of_lt
abbrev ZA:=@List.append_nil
abbrev ZB:=@List.length_range
abbrev ZC:=@List.length_nil
set_option maxHeartbeats 4000000
abbrev Ya:=PySem.Value->PySem.Shared->4
abbrev Yb:=List<|PySem.Addr×PySem.Obj
abbrev Yc:=5->5->Bool
abbrev Yd:=PySem.Str->Option PySem.Value
abbrev Ye:=List PySem.Value
abbrev Yf:=List 3
abbrev Yg:=Array 5
abbrev Yh:=List 5
abbrev Yi:=List PySem.Str
abbrev Yj:=List PySem.Addr
abbrev Yk:=Array PySem.Value
abbrev Yl:=@PyProof.Rows.wpS_bind
abbrev Ym:=@PyProof.Rows.wpS_pure
abbrev Yn:=@PyProof.Rows.wpS_mono
abbrev Yo:=@PyProof.Rows.wpS_forRange
abbrev Yp:=@beq_iff_eq
abbrev Yq:=@Unit.unit
abbrev Yr:=@Bool.eq_false_iff
abbrev Ys:=@Nat.lt_of_not_le
abbrev Yt:=@Nat.one_pos
abbrev Yu:=@Nat.le_of_eq
abbrev Yv:=@PySem.F.plainAttrs_list
abbrev Yw:=@PySem.F.slot_list_append
abbrev Yx:=@PySem.F.type_list_append
abbrev Yy:=PyProof.Rows.SortSt->4
abbrev Yz:=PySem.Shared->4
abbrev YA:=PySem.SetTable
abbrev Ua:=@List.length_append
abbrev Ub:=@List.length_singleton
abbrev Uc:=@Nat.zero_le
abbrev Ud:=@List.map_append
abbrev Ue:=@List.mem_append_right
abbrev Uf:=@List.mem_of_getElem?
abbrev Ug:=@List.append_assoc
abbrev Uh:=@Sum.inl
abbrev Ui:=@Bool.and_eq_true
abbrev Uj:=@List.drop_eq_getElem_cons
abbrev Ul:=@Nat.lt_trans
abbrev Uo:=@Nat.le_add_right
abbrev Uq:=@List.length_take
abbrev Ur:=@Array.size_map
abbrev Ut:=@List.getD_eq_getElem?_getD
abbrev Uu:=@Nat.le_of_lt_succ
abbrev Uv:=@Nat.blt
abbrev Uw:=@Nat.lt_succ_of_lt
abbrev Uy:=@Array.length_toList
abbrev Uz:=@Nat.le_of_succ_le
abbrev UA:=@Array.getElem?_eq_getElem
abbrev UB:=@List.getElem_of_mem
abbrev UC:=@Sum.inr
abbrev UD:=@Nat.lt_of_le_of_lt
abbrev UE:=@List.getElem_mem
abbrev UF:=@Nat.mod_lt
abbrev UG:=@Nat.lt_succ_self
abbrev UH:=@Nat.lt_of_le_of_ne
abbrev UI:=@List.take_append_drop
abbrev UJ:=@Bool.false_eq_true
abbrev UK:=@List.getElem?_append_right
abbrev UL:=@Nat.succ.inj
abbrev UM:=@List.map_congr_left
abbrev UN:=@List.filterMap_cons
abbrev UO:=@List.getElem?_set_self
abbrev UP:=@List.all_eq_true
abbrev UQ:=@Array.getElem?_map
abbrev UR:=@List.take_of_length_le
abbrev US:=@Nat.lt_of_succ_lt
abbrev UT:=@List.drop_length
abbrev UU:=@Nat.blt_eq
abbrev UV:=@Nat.mod_eq_of_lt
abbrev UW:=@Nat.ne_of_gt
abbrev UX:=@Nat.not_lt_zero
abbrev UY:=@List.getElem?_append_left
abbrev UZ:=@List.nodup_nil
abbrev U0:=@List.all_cons
abbrev U4:=@List.mem_cons
abbrev U5:=@List.pairwise_map
abbrev U6:=@Nat.mul_le_mul
abbrev U7:=@Nat.sub_le
abbrev U8:=@Nat.exists_eq_add_of_le
abbrev U9:=@List.length_set
abbrev Va:=@List.not_mem_nil
abbrev Vb:=@Nat.succ_pos
abbrev Vc:=@Nat.lt_trichotomy
abbrev Vd:=@Classical.choose_spec
abbrev Ve:=@List.all_map
abbrev Vf:=@Bool.eq_iff_iff
abbrev Vg:=@List.drop_eq_nil_of_le
abbrev Vh:=@List.foldl_cons
abbrev Vi:=@Nat.sub_self
abbrev Vj:=@Nat.min_eq_left
abbrev Vk:=@Array.ext'
abbrev Vl:=@Nat.le_succ_of_le
abbrev Vm:=@Array.getElem?_toList
abbrev Vn:=@List.any_eq_true
abbrev Vo:=@Nat.eq_zero_or_pos
abbrev Vp:=@Array.forIn_toList
abbrev Vq:=@List.foldl_append
abbrev Vr:=@List.length_filter_le
abbrev Vs:=@List.take_length
abbrev Vt:=@List.getElem?_take_of_lt
abbrev Vu:=@List.zip_cons_cons
abbrev Vv:=@Bool.or_eq_true
abbrev Vw:=@List.mem_append_left
abbrev Vx:=@Nat.add_sub_of_le
abbrev Vy:=@List.Perm.trans
abbrev Vz:=@Nat.succ_le_succ
abbrev VA:=@List.Perm.refl
abbrev VB:=@Nat.lt_of_add_lt_add_left
abbrev VC:=@Nat.le_of_ble_eq_true
abbrev VD:=@Array.getD_eq_getD_getElem?
abbrev VE:=@List.getElem?_eq_none
abbrev VF:=@List.cons.inj
abbrev VG:=@List.getLastD_concat
abbrev VH:=@Nat.add_le_add_left
abbrev VI:=@Array.swapIfInBounds_def
abbrev VJ:=@List.pairwise_append
abbrev VL:=@List.length_drop
abbrev VM:=@Nat.eq_zero_of_not_pos
abbrev VN:=@Array.size_extract
abbrev VO:=@Nat.add_sub_cancel_left
abbrev VP:=@List.getElem_map
abbrev VQ:=@Array.mem_toList_iff
abbrev VR:=@Array.getElem_mem
abbrev VT:=@List.getElem?_zip_eq_some
abbrev VU:=@List.extract_eq_drop_take
abbrev VV:=@Nat.le_of_add_le_add_left
abbrev VW:=@Array.getElem?_eq_none
abbrev VX:=@List.pairwise_singleton
abbrev VY:=@List.Nodup.length_le_of_subset
abbrev Ja:=@List.mem_map
abbrev Jb:=@List.mem_append
abbrev Jc:=@List.mem_singleton
abbrev Jd:=@List.getElem?_eq_some_iff
abbrev Je:=@List.mem_range
abbrev Jf:=@Option.bind_eq_some_iff
abbrev Jg:=@List.mem_filter
abbrev Jh:=@List.mem_iff_getElem?
abbrev Ji:=@List.map_eq_nil_iff
abbrev Jj:=@Option.map_eq_some_iff
abbrev Jk:=@List.nodup_cons
abbrev Jl:=@List.pairwise_cons
abbrev Jm:=@List.pairwise_iff_getElem
abbrev Jn:=@List.length_eq_zero_iff
abbrev Jo:=@Array.getElem?_eq_some_iff
abbrev Jp:=@Nat.lt_succ_iff
abbrev Jq:=@List.append_eq_nil_iff
abbrev Jr:=@Bool.and_eq_true_iff
abbrev Js:=@Array.perm_iff_toList_perm
abbrev Jt:=@List.mem_filterMap
abbrev Ju:=@Option.isSome_iff_exists
abbrev Jv:=@List.mem_iff_getElem
abbrev Jw:=@List.find?_eq_none
abbrev Jx:=@List.length_pos_iff
abbrev Jy:=@List.find?_range_eq_none
abbrev Jz:=List<|3×3
abbrev J0:=List Jz
namespace L2
def yf {P:b->4}{G:4}(c:∀a,P a->G)(e:∃a,P a):G:=match e with|(a,h)=>c a h
def j8  {P:d->f->4}{G:4}(c:∀a b,P a b->G)(e:∃a b,P a b):G:=match e with|(a,b,h)=>c a b h
def jI  {P:c->d->4}(a:c)(b:d)(h:P a b):∃a b,P a b:=(a,b,h)
def qy   {P:f->g->i->4}{G:4}(c:∀a b d,P a b d->G)(e:∃a b d,P a b d):G:=match e with|(a,b,d,h)=>c a b d h
def ji   {P:d->e->f->4}(a:d)(b:e)(c:f)(h:P a b c):∃a b c,P a b c:=(a,b,c,h)
def rK    {P:g->i->j->l->4}{G:4}(c:∀a b d f,P a b d f->G)(e:∃a b d f,P a b d f):G:=match e with|(a,b,d,f,h)=>c a b d f h
def qb    {P:e->f->g->i->4}(a:e)(b:f)(c:g)(d:i)(h:P a b c d):∃a b c d,P a b c d:=(a,b,c,d,h)
def qV     {P:i->j->l->m->n->4}{G:4}(c:∀a b d f g,P a b d f g->G)(e:∃a b d f g,P a b d f g):G:=match e with|(a,b,d,f,g,h)=>c a b d f g h
def j0     {P:f->g->i->j->l->4}(a:f)(b:g)(c:i)(d:j)(e:l)(h:P a b c d e):∃a b c d e,P a b c d e:=(a,b,c,d,e,h)
def gD      {P:j->l->m->n->o->p->4}{G:4}(c:∀a b d f g i,P a b d f g i->G)(e:∃a b d f g i,P a b d f g i):G:=match e with|(a,b,d,f,g,i,h)=>c a b d f g i h
def wS      {P:g->i->j->l->m->n->4}(a:g)(b:i)(c:j)(d:l)(e:m)(f:n)(h:P a b c d e f):∃a b c d e f,P a b c d e f:=(a,b,c,d,e,f,h)
def zx       {P:i->j->l->m->n->o->p->4}(a:i)(b:j)(c:l)(d:m)(e:n)(f:o)(g:p)(h:P a b c d e f g):∃a b c d e f g,P a b c d e f g:=(a,b,c,d,e,f,g,h)
def jF{a b G:4}(c:a->b->G)(e:a/\b):G:=match e with|(h0,d)=>c h0 d
def jC{a b d G:4}(c:a->b->d->G)(e:a/\b/\d):G:=match e with|(h0,f,h2)=>c h0 f h2
def xm{a b d f G:4}(c:a->b->d->f->G)(e:a/\b/\d/\f):G:=match e with|(h0,g,h2,h3)=>c h0 g h2 h3
def gF{a b d f g G:4}(c:a->b->d->f->g->G)(e:a/\b/\d/\f/\g):G:=match e with|(h0,h,h2,h3,h4)=>c h0 h h2 h3 h4
def gE{a b d f g h i G:4}(c:a->b->d->f->g->h->i->G)(e:a/\b/\d/\f/\g/\h/\i):G:=match e with|(h0,j,h2,h3,h4,h5,h6)=>c h0 j h2 h3 h4 h5 h6
abbrev jT:=Sum 3 Str
noncomputable def Xn:jT->Value->Bool
 |.inl k,v=>Value.isInt k v
 |.inr x,v=>Value.isStrOf x v
def rY(w:World):jT->3
 |.inl k=>hashInt k
 |.inr x=>hashStr w x
def Ws:∀{k:jT}{v:Value},Xn k v=6->(∃i t,k=Uh i/\v=Value.int i t)\/∃x t,k=UC x/\v=Value.str x t
 |.inl i,v,h=>by
  let(t,e):=Value.isInt_shape h;calc .inl (i,t,9,e)
 |.inr x,v,h=>by
  let(t,e):=Value.isStrOf_shape h;exact .inr (x,t,9,e)
def Gd(i)(t):Xn (.inl i) (.int i t)=6:=by simp[Xn,Value.isInt]
def Og(x)(t):Xn (.inr x) (.str x t)=6:=by simp[Xn,Value.isStrOf]
def Oh(a b):decide ((Uh a:jT)=Uh b)=(a==b):=()
def Oi(a b):decide ((UC a:jT)=UC b)=decide (a=b):=()
def Oj(a)(b):decide ((Uh a:jT)=UC b)=7:=rfl
def Ol(a)(b):decide ((UC a:jT)=Uh b)=7:=rfl
def Ka(c:Program)(w:World):PySem.KeyKind c w jT where
 is:=Xn
 hash:=rY w
 inj:=λv a b l g=>by
  rcases Ws l with ⟨i,t,rfl,rfl⟩|⟨x,t,rfl,rfl⟩
  .rcases Ws g with ⟨j,u,rfl,e⟩|⟨y,u,rfl,e⟩
   .injection e with d _;rw[d]
   .exact nomatch e
  .rcases Ws g with ⟨j,u,rfl,e⟩|⟨y,u,rfl,e⟩
   .exact nomatch e
   .injection e with d _;rw[d]
 byValue:=λk v h=>by
  rcases Ws h with ⟨i,t,rfl,rfl⟩|⟨x,t,rfl,rfl⟩<;>rfl
 pyHash:=λf h=>by
  rcases Ws f with ⟨i,t,rfl,rfl⟩|⟨x,t,rfl,rfl⟩
  .exact wpAny_pyHash_int h
  .exact wpAny_pyHash_str h
 eqBool:=λm f h=>by
  rcases Ws m with ⟨i,t,rfl,rfl⟩|⟨x,t,rfl,rfl⟩
  .rcases Ws f with ⟨j,u,rfl,rfl⟩|⟨y,u,rfl,rfl⟩
   .rw[Oh]at h;exact wpAny_eqBool_int h
   .rw[Oj]at h;exact SeqAt.EqAt.int_str i t y u _ _ _ _ h
  .rcases Ws f with ⟨j,u,rfl,rfl⟩|⟨y,u,rfl,rfl⟩
   .rw[Ol]at h;exact SeqAt.EqAt.str_int x t j u _ _ _ _ h
   .rw[Oi]at h;exact wpAny_eqBool_str h
 «strs»:=λk x t v h=>by
  rcases Ws h with ⟨i,u,rfl,e⟩|⟨y,u,rfl,e⟩
  .exact nomatch e
  .injection e with d _
   subst d;cases v<;>rfl
inductive V where
 |non|bl(b:Bool)|int(i:Int)|str(x:Str)|byt(b:Array UInt8)|flt(b:UInt64)|ref(a:Addr)|ty(n:String)
 deriving DecidableEq
abbrev _root_.YB:=List V
def j4:V->Value->4
 |.non,u=>u=Value.none
 |.bl b,u=>u=Value.bool b
 |.int i,u=>∃t,u=Value.int i t
 |.str x,u=>∃t,u=Value.str x t
 |.byt b,u=>∃t,u=Value.bytes b t
 |.flt b,u=>∃t,u=Value.float b t
 |.ref a,u=>u=Value.ref a
 |.ty n,u=>u=Value.type n
abbrev j1:YB->List Value->4:=Paired j4
theorem j1.length  (r:j1 c e):c.length=e.length:=Paired.length r
theorem j1.get:∀{c:YB}{f:Ye}{i:5}{x:V},j1 c f->c[i]?=!x->∃u,f[i]?=!u/\j4 x u
 |_,_,_,_,.nil,e=>by simp at e
 |_,_,0,_,.cons r _,e=>by simp_all
 |_,_,i+1,x,.cons _ t,e=>by
  let(u,j,l):=j1.get t (by simpa using e)
  simp_all
theorem j1.set  (r:j4 x u):∀{c:YB}{e:Ye}i,j1 c e->j1 (c.set i x) (e.set i u)
 |_,_,_,.nil=>.nil
 |_,_,0,.cons _ t=>.cons r t
 |_,_,i+1,.cons q t=>.cons q (j1.set r i t)
def j1.append:∀{c e:YB}{f i:Ye},j1 c f->j1 e i->j1 (c++e) (f++i):=λh s=>by
 induction h with
 |nil=>calc s
 |cons r _ j=>exact .cons r j
def j1.none_of:∀{c:YB}{f:Ye}{i:5},j1 c f->c[i]?=8->f[i]?=8:=λ{c f i}r e=>by
 let j:=r.length
 simp_all
def xM:Option V->Option Value->4
 |some v,some u=>j4 v u
 |none,none=>True
 |_,_=>False
def KV{κ:Type}:List (κ × V)->List (κ × Value)->4:=Paired λ(p:κ × V)(q:κ × Value)=>p.1=q.1/\j4 p.2 q.2
def kV:jT->V
 |.inl i=>.int i
 |.inr x=>.str x
inductive HO where
 |lst(xs:YB)
 |tup(xs:YB)
 |dK(kvs:List (jT×V))|dT(kvs:List (List jT×V))
 |set(S:Int->Bool)(n:Nat)
 |ins(C dx:Addr)(fs:List (Str×V))
 |own(x:Addr)
 |xd(fs:List (Str×V))
 |met(f x:Addr)
 |rng(lo hi:Int)
 |frz(o:Obj)(u:HO)
 |tbl(ps:Yk)
 |ext(φ:Heap->Prop)
abbrev Hp:=Addr->Option HO
def jD(H:Hp)(a:Addr)(o:HO):Hp:=λb=>if b=a then !o else H b
theorem JL   :jD H a o a=!o:=by simp_all[jD]
theorem JI   (h:b≠a):jD H a o b=H b:=by simp_all[jD]
def db{H:Hp}  (h:H a=!o)(c:H b=!u)(d:o≠u):a≠b:=()
def KD{H:Hp}  (h:H a=!o)(c:H b=8):a≠b:=()
section
variable (P:Program)(w:World)
def yq(H:Hp)(h:Heap)(a:Addr):HO->4
 |.lst d=>d.length<=sizeLine/\∃(b:Ye)(n:5),j1 d b/\h.get? a=!{cls:=.type "list",data:=.seq b.toArray n}
 |.tup d=>(d.length<=sizeLine/\∃o,h.get? a=!o/\o.dict=8)/\∃b:Ye,j1 d b/\IsTup h a b.toArray
 |.dK c=>c.length<=sizeLine/\(a==sysModules)=7/\∃g,KV c g/\h.DictOf (Ka P w) a g
 |.dT c=>c.length<=sizeLine/\(a==sysModules)=7/\∃d:List (List jT×Addr×Value),
  Paired (λ(p:List jT×V)(q:List jT×Addr×Value)=>p.1=q.1/\H q.2.1=!(.tup<|p.1.map kV)/\j4 p.2 q.2.2) c d/\
  ∃o i m,h.get? a=!o/\o.ExactDict/\o.data=.dict i m/\i.toList=d.map (entryOfKey<|tupleKind<|Ka P w)/\(d.map (·.1)).Nodup
 |.set S n=>h.SetOf (intKind P w) a S n
 |.ins C e fs=>H e=! .own a/\fs.length<=1000/\e≠a/\h.get? a=! W.instObj C e/\
  ∃mA,h.Ns1 e mA/\(∀f,xM (fs.lookup f) (mA f))/\PySem.Within mA (fs.map (·.1))
 |.own _=>∃o,h.get? a=!o
 |.xd fs=>∃mA,h.Ns1 a mA/\∀f,xM (fs.lookup f) (mA f)
 |.rng lo r=>∃t u v,h.get? a=!{cls:=.type "range",data:=.fields #[.int lo t,.int r u,.int 1 v]}
 |.frz o u=>h.get? a=!o/\yq H h a u
 |.tbl s=>h.get? a=!{cls:=.none,data:=.fields s}
 |.met f x=>h.get? a=!(W.methodObj (.ref f)<|.ref x)
 |.ext φ=>φ h/\(∃o,h.get? a=!o)/\∀j l:Heap,φ j->(∀o,j.get? a=!o->l.get? a=!o)->φ l
def xp(H:Hp)(h:Heap):4:=∀a o,H a=!o->yq P w H h a o
end
section
variable     {a:Addr}
theorem yq.lt(x:yq P w H h a o):a<h.objs.size:=by
 cases o with
 |lst i=>let(_,_,_,_,e):=x;calc Zk e
 |tup i=>let(_,_,_,p):=x;calc p.lt
 |dK c=>let(_,_,_,_,o,_,_,e,_):=x;calc Zk e
 |dT c=>let(_,_,_,_,o,_,_,e,_):=x;calc Zk e
 |set S n=>let(o _ _ _,e,_):=x;calc Zk e
 |ins C j fs=>calc Zk x.2.2.2.1
 |own y=>let(_,e):=x;calc Zk e
 |xd fs=>let(_,(_,_,_,e,_),_):=x;calc Zk e
 |rng lo l=>let(_ _ _,e):=x;calc Zk e
 |frz q u=>calc Zk x.1
 |tbl r=>calc Zk<|x
 |met f y=>calc Zk<|x
 |ext φ=>let(_,(_,e),_):=x;exact Zk e
def xW  :∀{l₁:List α}{l₂:List β},Paired F l₁ l₂->(∀a b,F a b->G a b)->Paired G l₁ l₂:=λh f=>by
 induction h with
 |nil=>calc .nil
 |cons r _ c=>exact .cons (f _ _ r) c
def yq.stay(x:yq P w H h a o)(k:∀b u,b=a\/H b=! .own a->h.get? b=!u->F.get? b=!u)
 (O:∀b,H b=! .own a->I b=! .own a)(Q:∀b B,H b=! .tup B->I b=! .tup B):yq P w I F a o:=by
 induction o with
 |lst B=>let(z,s,n,r,e):=x;calc(z,s,n,r,k _ _ (.inl 9) e)
 |tup B=>let((z,E,R,T),s,r,i,e,c):=x;calc((z,E,k _ _ (.inl 9) R,T),s,r,i,k _ _ (.inl 9) e,c)
 |dK G=>let(z,y,U,r,i,j,l,e,c):=x;calc(z,y,U,r,i,j,l,k _ _ (.inl 9) e,c)
 |dT G=>
  let(z,y,B,r,i,j,l,e,c):=x;calc(z,y,B,xW r λp q z=>(z.1,Q _ _ z.2.1,z.2.2),i,j,l,k _ _ (.inl 9) e,c)
 |set S n=>let(i j l t,e,c):=x;calc qb i j l t (k _ _ (.inl 9) e,c)
 |ins C Z fs=>
  let(!d,z,ne,e,(mA,(E,j,l,X,c),r)):=x;calc(O _ d,z,ne,k _ _ (.inl 9) e,mA,(E,j,l,k _ _ (.inr d) X,c),r)
 |own y=>let(i,e):=x;calc(i,k _ _ (.inl 9) e)
 |xd fs=>let(mA,(E,j,l,e,c),r):=x;calc(mA,ji E j l (k _ _ (.inl 9) e,c),r)
 |rng lo hi=>let(t u v,e):=x;calc ji t u v<|k _ _ (.inl 9) e
 |frz i u Y=>let(e,q):=x;calc(k _ _ (.inl 9) e,Y q)
 |tbl J=>
  let e:h.get? a=!{cls:=.none,data:=.fields J}:=x;show F.get? a=!{cls:=.none,data:=.fields J};calc k a _ (.inl 9) e
 |met f y=>
  let e:h.get? a=!(W.methodObj (.ref f)<|.ref y):=x;show F.get? a=!(W.methodObj (.ref f)<|.ref y);calc k a _ (.inl 9) e
 |ext φ=>let(p,(o,e),L):=x;exact(L _ _ p λo q=>k _ _ (.inl 9) q,(o,k _ _ (.inl 9) e),L)
theorem xp.lt(x:xp P w H h)(e:H a=!o):a<h.objs.size:=(x a o e).lt
def xp.fresh(x:xp P w H h)(e:h.objs.size<=a):H a=8:=by
 cases q:H a with
 |none=>rfl
 |some u=>exact Zn (Zg (x.lt q) e)<|Zy _
def xp.kept(x:xp P w H h)(k:∀b u,h.get? b=!u->c.get? b=!u):xp P w H c:=λa o e=>
 (x a o e).stay () (λ_ q=>q) λ_ _ q=>q
def xp.laid(x:xp P w H h)(k:∀b u,h.get? b=!u->f.get? b=!u)(j:h.objs.size<=a)(new:yq P w (jD H a o) f a o):xp P w (jD H a o) f:=λb u e=>by
 let i:=x.fresh j;by_cases l:b=a
 .simp_all[JL]
 .rw[JI l]at e;exact(x b u e).stay () λc q=>by rwa[JI (KD q i)] λc n q=>by rwa[JI (KD q i)]
end
def Rd(H:Hp)(a:Addr)(u:HO):4:=H a=!u\/∃o,H a=! .frz o u
def Rd.ok      (r:Rd H a u)(x:xp P w H h):yq P w H h a u:=by
 rcases r with r|⟨o,r⟩
 .exact x a u r
 .let(_,q):=x a _ r;exact q
def bU:Option HO->4
 |some (.lst _)=>True
 |some (.dK _)=>True
 |some (.dT _)=>True
 |some (.set _ _)=>True
 |some (.ins _ _ _)=>True
 |some (.ext _)=>True
 |_=>False
def xp.write(ok:xp P w H h)(p:bU (H x))(F:e=x\/H e=! .own x)(k:∀b u,b≠e->h.get? b=!u->l.get? b=!u)(n:∃u,l.get? e=!u)
 (new:yq P w (jD H x s) l x s):xp P w (jD H x s) l:=λb u q=>by
 let f:∀c y,H c=! .own y->c≠x:=λc y r z=>by subst z;rwa[r]at p
 let i:∀c j,H c=! .tup j->c≠x:=λc j r z=>by subst z;rwa[r]at p
 by_cases E:b=x
 .simp_all[JL]
 .rw[JI E]at q;by_cases o:b=e
  .let B:H b=! .own x:=by
    simp_all
   rw[q]at B;cases B;let(v,G):=n;exact(v,by rwa[o])
  .refine(ok b u q).stay (λc v I r=>k c v ?_ r) λc r=>by rwa[JI (f c b r)] λc j r=>by rwa[JI (i c j r)]
   grind
structure Un(fs ex:Yj)(H H':Hp)(h h':Heap):4 where
 keep:∀b o,h.get? b=!o->H b=8->b∉fs->b∉ex->h'.get? b=!o
 slot:∀b o,h.get? b=!o->H b=8->b∈fs->b∉ex->∃sl,h'.get? b=!{o with slots:=sl}
 free:∀b o,h.get? b=!o->H b=8->b∉ex->H' b=8
 there:∀b o,h.get? b=!o->b∉ex->∃o',h'.get? b=!o'
 tups:∀b xs,H b=! .tup xs->H' b=! .tup xs
 frzs:∀b o u,H b=! .frz o u->H' b=! .frz o u
 tbls:∀b ps,H b=! .tbl ps->∃more,H' b=!(.tbl<|ps++more)
section
variable   {h h1 h2 h':Heap}{a x e:Addr}
def Un.any(u:Un fs j H o h h1)  (q:h.get? b=!c)(n:H b=8)(f:b∉j):∃l,h1.get? b=!{c with slots:=l}:=by
 by_cases i:b∈fs
 .exact u.slot b c q n i f
 .exact(c.slots,u.keep b c q n i f)
def Un.kept(k:∀b u,h.get? b=!u->h'.get? b=!u):Un fs f H H h h':=
 ((),λb c q _ _ _=>(c.slots,k b c q),λ_ _ _ n _=>n,(),λ_ _ q=>q,λ_ _ _ q=>q,λ_ i q=>(#[],by rw[q];simp))
theorem Un.refl:Un fs c H H h h:=Un.kept λ_ _ q=>q
def Un.laid(k:∀b u,h.get? b=!u->h'.get? b=!u)(f:h.objs.size<=a)(c:H a=8):Un fs j H (jD H a o) h h' where
 keep:=by grind
 slot:=λb u q _ _ _=>(u.slots,k b u q)
 free:=λb u q n _=>by rwa[JI (Zi<|Zg (Zk q) f)]
 there:=by grind
 tups:=λb i q=>by rwa[JI (KD q c)]
 frzs:=λb u i q=>by rwa[JI (KD q c)]
 tbls:=λb l q=>(#[],by rw[JI (KD q c),q];simp)
def Un.write(f:bU (H x))(r:e=x\/H e=! .own x)(k:∀b u,b≠e->h.get? b=!u->h'.get? b=!u)(i:∃u,h'.get? e=!u):Un fs s H (jD H x o) h h':=by
 let j:∀b,H b=8->b≠x:=λb n z=>by subst z;rwa[n]at f
 let l:∀b,H b=8->b≠e:=by grind
 let c:∀b u,H b=!u->¬bU !u->b≠x:=by grind
 refine((),λb u q n _ _=>(u.slots,k b u (l b n) q),λb u q n _=>by rwa[JI (j b n)],λb u q _=>?_,
  λb p q=>by rwa[JI (c b _ q λz=>z)],λb u p q=>by rwa[JI (c b _ q λz=>z)],λb v q=>(#[],by rw[JI (c b _ q λz=>z),q];simp))
 grind
end
noncomputable def trk(h:Heap)(H:Hp):Yj:=(List.range h.objs.size).filter λa=>(H a).isSome
def wo(h:Heap)(H:Hp):Heap:=W.hideAll h<|trk h H
structure Mod(K:W.Frag)(mg:Yd)(base:Heap):4 where
 kin:K.In base
 glob:base.Ns mainGlobals mg
 blt:∃mb,base.Ns builtinsNs mb/\∀x:Str,x ≠"__name__"->mb x=bootBuiltins x
 nolimit:base.NoLimit
structure Cx where
 prog:Program
 w:World
 K:W.Frag
 mg:Yd
 base:Heap
 A:Around
 N:Yi
 s₀:Shared
 H₀:Hp
 env:Env
 outer:List Env
 stack:List Env
 ex:Yj
 fn:Str->Bool
 calm:Bool
 pn:Yb
 xe:Ya
abbrev _root_.YE(X:Cx){α:Type}(m:Sem α):=wpAny (model X.prog X.w) X.A m
abbrev _root_.YF(P:Program)(w:World)(A:Around){α:Type}(m:Sem α):=wpAny (model P w) A m
abbrev _root_.YG(P:Program)(w:World)(A:Around)(E:Value->Shared->4)(s:Shared){α:Type}(m:StateT PyProof.Rows.SortSt Sem α):=PyProof.Rows.wpS (model P w) A E s m
noncomputable def frs(l:List Env):Yj:=l.filterMap (·.frame)
abbrev Cx.fs(X:Cx):Yj:=frs X.outer
def tm(a:Scope)(x:Str):4:=a.names.lookup x=!.local\/a.names.lookup x=!.cell\/a.names.lookup x=!.free
def zr(a:Scope)(x:Str):4:=a.names.lookup x=!.local\/a.names.lookup x=!.cell
def t7(a:Env)(h:Heap)(m:Yd)(x:Str)(u:Value):4:=
 a.kindOf x=!.local/\m x=!u\/(a.kindOf x=!.cell\/a.kindOf x=!.free)/\∃c,a.cells.lookup x=!c/\h.IsCell c !u
structure Cx.Ok(X:Cx):4 where
 mod:Mod X.K X.mg X.base
 kind:X.env.scope.kind=.function
 glob:X.env.globals=mainGlobals
 blt:X.env.builtins=builtinsNs
 above:X.s₀.heap.objs.size<=X.env.locals
 inj:∀x y c,X.env.cells.lookup x=!c->X.env.cells.lookup y=!c->x=y
 has:∀x,X.env.kindOf x=!.cell\/X.env.kindOf x=!.free->∃c,X.env.cells.lookup x=!c
 cab:∀x c,X.fn x=6->X.env.cells.lookup x=!c->X.s₀.heap.objs.size<=c
 hd:X.calm=6->X.A.handled=8
 frames:X.A.frames=!X.stack
 stk:X.stack=X.outer\/X.stack=X.env::X.outer/\X.env.frame=!X.env.locals
 exf:∀b∈X.ex,b≠X.env.locals/\∀x c,X.env.cells.lookup x=!c->c≠b
 bs:∀b o,X.base.get? b=!o->X.s₀.heap.get? b=!o/\X.H₀ b=8
 bsz:X.base.objs.size<=X.s₀.heap.objs.size
 noex:∀b o,X.base.get? b=!o->b∉X.ex
 exfs:∀b∈X.ex,b∉X.fs
 funs:X.s₀.heap.FunFrames X.base X.outer
 frf:∀b∈X.fs,X.H₀ b=8
structure Inv(X:Cx)(Y:Yb)(Z:List (Option V))(H:Hp)(s:Shared):4 where
 ok:X.Ok
 os:s.os=X.s₀.os
 bare:AllBare s.gens
 base:Un X.fs X.ex X.H₀ H X.s₀.heap s.heap
 loc:∃m,s.heap.Ns X.env.locals m/\∀(i:5)(x:Str)(v:V),X.N[i]?=!x->Z[i]?=! !v->tm X.env.scope x->∃u,j4 v u/\t7 X.env s.heap m x u
 cell:∀x c,X.env.cells.lookup x=!c->∃v,s.heap.IsCell c v
 free:H X.env.locals=8
 freeC:∀x c,X.env.cells.lookup x=!c->H c=8
 pin:∀p∈X.pn++Y,s.heap.get? p.1=!p.2/\H p.1=8/\p.1≠X.env.locals/\p.1∉X.fs/\∀v,p.2.data ≠ .cell v
 hok:xp X.prog X.w H s.heap
 len:Z.length=X.N.length
section
variable {X:Cx}
def Cx.Ok.nofr(ok:X.Ok)  (e:X.base.get? b=!o):b∉X.fs:=λc=>by
 let:=(ok.funs.mem c).1
 simp_all
theorem Inv.bs(I:Inv X Y Z H s):∀b o,X.base.get? b=!o->s.heap.get? b=!o/\H b=8:=λb o e=>
 (I.base.keep b o (I.ok.bs b o e).1 (I.ok.bs b o e).2 (I.ok.nofr e)<|I.ok.noex b o e,I.base.free b o (I.ok.bs b o e).1 (I.ok.bs b o e).2<|I.ok.noex b o e)
def Inv.bk(I:Inv X Y Z H s):∀b o,X.base.get? b=!o->s.heap.get? b=!o:=λb o e=>(I.bs b o e).1
theorem Inv.mod(I:Inv X Y Z H s):Mod X.K X.mg X.base:=I.ok.mod
def Inv.kIn(I:Inv X Y Z H s):X.K.In s.heap:=I.ok.mod.kin.keeps I.bk
theorem Inv.lt(I:Inv X Y Z H s):X.env.locals<s.heap.objs.size:=let(_,hn,_):=I.loc;hn.lt
theorem Inv.sz(I:Inv X Y Z H s):X.s₀.heap.objs.size<=s.heap.objs.size:=Zh I.ok.above<|Zz I.lt
def Inv.nofs(I:Inv X Y Z H s){a:Addr}(h:s.heap.objs.size<=a):a∉X.fs:=λc=>by
 let(_,o,e,_):=I.ok.funs.mem c;exact Zn (Zg (Zk e)<|Zh I.sz h)<|Zy _
def Inv.cne(I:Inv X Y Z H s):∀x c,X.env.cells.lookup x=!c->c≠X.env.locals:=λx c e z=>by
 let(v,o,j,l):=I.cell x c e;let(m,(n,p,q,f,i,_),_):=I.loc
 simp_all
theorem Inv.funs(I:Inv X Y Z H s):s.heap.FunFrames X.base X.outer:=by
 let all:∀l,(∀b∈frs l,b∈X.fs)->X.s₀.heap.FunFrames X.base l->s.heap.FunFrames X.base l:=by
  intro l
  induction l with
  |nil=>intro _ _;trivial
  |cons j r n=>
   intro f p;let(q,(L,o,u,v,x,y),B):=p;let c:L∈X.fs:=f L (by simp_all[frs,UN]);let(E,e):=I.base.slot L o x (I.ok.frf L c) c λz=>I.ok.exfs L z c;exact(q,(L,_,u,v,e,y),n λb i=>f b<|by simp_all[frs,UN] B)
 exact all X.outer (λ_ i=>i) I.ok.funs
theorem Inv.stack(I:Inv X Y Z H s):s.heap.FunFrames X.base X.stack:=by
 rcases I.ok.stk with e|⟨e,hf⟩
 .rw[e];exact I.funs
 .rw[e];let(m,c,_):=I.loc;calc .cons (by rw[I.ok.kind];decide) hf c ?_ I.funs;exact Heap.get?_none_of_le<|Zh I.ok.bsz I.ok.above
def Inv.stkSub(I:Inv X Y Z H s):∀b∈frs X.stack,b∈X.env.locals::X.fs:=λb c=>by
 rcases I.ok.stk with e|⟨e,hf⟩
 .simp_all
 simp_all[frs]
def Inv.stkFree(I:Inv X Y Z H s):∀b∈frs X.stack,H b=8:=λb hb=>by
 rcases U4.mp (I.stkSub b hb)with e|hb
 .rw[e];exact I.free
 .let(_,o,c,_):=I.ok.funs.mem hb;exact I.base.free b o c (I.ok.frf b hb) λz=>I.ok.exfs b z hb
def Inv.step   {ch:Yj}(I:Inv X Y Z H s)
 (J:∀b∈ch,(b∈X.ex\/X.s₀.heap.objs.size<=b)/\b≠X.env.locals/\(∀x c,X.env.cells.lookup x=!c->c≠b)/\∀p∈X.pn++Y,p.1≠b)
 (keep:∀b o,b≠X.env.locals->b∉X.fs->b∉ch->s.heap.get? b=!o->H b=8->Q.get? b=!o)
 (E:∀b o,b≠X.env.locals->b∈X.fs->b∉ch->s.heap.get? b=!o->H b=8->∃sl,Q.get? b=!{o with slots:=sl})(free:∀b o,b∉ch->s.heap.get? b=!o->H b=8->S b=8)
 (L:∀b o,b∉ch->s.heap.get? b=!o->∃T,Q.get? b=!T)
 (U:∀b F,H b=! .tup F->S b=! .tup F)(frzs:∀b o u,H b=! .frz o u->S b=! .frz o u)(tbls:∀b ps,H b=! .tbl ps->∃more,S b=!(.tbl<|ps++more))
 (ns:∀m,s.heap.Ns X.env.locals m->Q.Ns X.env.locals m)(hok:xp X.prog X.w S Q)(hg:AllBare g'):
 Inv X Y Z S {s with heap:=Q,gens:=g',drawn:=d',toks:=t'}:=by
 let neL:∀b o,X.s₀.heap.get? b=!o->b≠X.env.locals:=λb o e=>Zi<|Zg (Zk e) I.ok.above;let B:∀b o,X.s₀.heap.get? b=!o->b∉X.ex->b∉ch:=λb o e f O=>by
  rcases(J b O).1 with z|z
  .exact f z
  .exact Zn (Zg (Zk e) z)<|Zy _
 let j:∀x c,X.env.cells.lookup x=!c->∀v,s.heap.IsCell c v->Q.IsCell c v:=λx c e v zh=>by
  let(o,R,hd):=zh;let y:c∉ch:=by grind
  by_cases hc:c∈X.fs
  .let(sl,q):=E c o (I.cne x c e) hc y R (I.freeC x c e);exact(_,q,hd)
  .exact(o,keep c o (I.cne x c e) hc y R<|I.freeC x c e,hd)
 refine(I.ok,I.os,hg,(λb o e n O f=>?_,λb o e n O f=>?_,λb o e n f=>?_,λb o e f=>?_,λb F e=>U b F<|I.base.tups b F e,λb o F e=>frzs b o F<|I.base.frzs b o F e,λb ps e=>?_),?_,λx c e=>?_,?_,λx c e=>?_,λp hp=>?_,hok,I.len)
 .exact keep b o (neL b o e) O (B b o e f) (I.base.keep b o e n O f)<|I.base.free b o e n f
 .let(sl,G):=I.base.slot b o e n O f;let(sl',e2):=E b _ (neL b o e) O (B b o e f) G (I.base.free b o e n f);exact(sl',e2)
 .let(T,G):=I.base.there b o e f;exact free b T (B b o e f) G<|I.base.free b o e n f
 .let(T,G):=I.base.there b o e f;exact L b T (B b o e f) G
 .let(m1,G):=I.base.tbls b ps e
  grind
 .let(m,hn,hl):=I.loc;calc(m,ns m hn,λi x v G e2 e3=>?_);let(u,r,l):=hl i x v G e2 e3;calc(u,r,?_);rcases l with l|⟨k,c,e,z⟩
  .exact .inl l
  .exact .inr (k,c,e,j x c e _ z)
 .let(v,z):=I.cell x c e;exact(v,j x c e v z)
 .let(m,(o,_,_,R,_),_):=I.loc;exact free _ o (λz=>(J _ z).2.1 9) R I.free
 .let(v,o,R,hd):=I.cell x c e;exact free c o () R<|I.freeC x c e
 .let(!e,n,ne,nf,d):=I.pin p hp;let y:=λz=>(J p.1 z).2.2.2 p hp 9;exact(keep p.1 p.2 ne nf y e n,free p.1 p.2 y e n,ne,nf,d)
def Inv.un (I:Inv X Y Z H s)(u:Un X.fs [] H p s.heap q)(f:xp X.prog X.w p q):Inv X Y Z p {s with heap:=q,toks:=E}:=by
 let(m,(o,F,G,v,r),_):=id I.loc;let(J,x):=u.any v I.free ();exact I.step (g':=s.gens) (d':=s.drawn) (ch:=[]) (λ_ z=>nomatch z) (λb o _ i _ e n=>u.keep b o e n i ()) (λb o _ i _ e n=>u.slot b o e n i ()) (λb o _ e n=>u.free b o e n ()) (λb o _ e=>u.there b o e ()) u.tups u.frzs u.tbls (λL y=>by
  let(O j l,c,B):=y;rw[v]at c;cases c;calc ji _ j l (x,B)) f I.bare
def Inv.call    (I:Inv X Y Z H s)(u:Un (frs X.stack) ch H B s.heap E)(l:xp X.prog X.w B E)(G:AllBare J)
 (i:∀b∈ch,(b∈X.ex\/X.s₀.heap.objs.size<=b)/\b≠X.env.locals/\(∀x c,X.env.cells.lookup x=!c->c≠b)/\∀p∈X.pn++Y,p.1≠b):
 Inv X Y Z B {s with heap:=E,gens:=J,drawn:=R,toks:=S}:=by
 let(m,(o,T,U,F,r),_):=id I.loc;let(sl,q):=u.any F I.free λz=>(i _ z).2.1 9;exact I.step (ch:=ch) i (λb o q L f e n=>u.keep b o e n (λz=>(U4.mp<|I.stkSub b z).elim q L) f) (λb o _ _ f e n=>u.any e n f) (λb o f e n=>u.free b o e n f) (λb o f e=>u.there b o e f) u.tups u.frzs u.tbls (λm' O=>by
  let(o' v y,j,Q):=O;rw[F]at j;cases j;calc ji _ v y (q,Q)) l G
def Inv.turned  (I:Inv X Y Z H s)(k:∀b o,b≠it->s.heap.get? b=!o->l.get? b=!o)(y:H it=8)(j:it≠X.env.locals)
 (B:it∈X.ex\/X.s₀.heap.objs.size<=it)(E:∀x c,X.env.cells.lookup x=!c->c≠it)(F:∀p∈X.pn++Y,p.1≠it):Inv X Y Z H {s with heap:=l,toks:=t'}:=by
 let i:∀b u,H b=!u->b≠it:=λb u e z=>by rw[z,y]at e;cases e
 refine I.step (g':=s.gens) (d':=s.drawn) (ch:=[it]) (λb G=>?_) (λb o _ _ f e _=>k b o λz=>f<|by simp[z] e) (λb o _ _ f e _=>(o.slots,k b o λz=>f<|by simp[z] e)) (λ_ _ _ _ n=>n)
  (λb o f e=>(o,k b o λz=>f<|by simp[z] e)) (λ_ _ e=>e) (λ_ _ _ e=>e) (λb R e=>(#[],by rw[e];simp)) (λm J=>?_) (λb u e=>?_) I.bare
 .let e:b=it:=by simpa using G
  subst e;exact(B,j,E,F)
 .let(o L O,Q,r):=J;exact ji o L O (k _ o (Ne.symm j) Q,r)
 .calc(I.hok b u e).stay (λc v f q=>k c v ?_ q) (λ_ q=>q) λ_ _ q=>q;rcases f with z|z
  .rw[z];exact i b u e
  .exact i c _ z
def Inv.tok(I:Inv X Y Z H s)(t):Inv X Y Z H {s with toks:=t}:=I.un Un.refl I.hok
theorem Inv.kept (I:Inv X Y Z H s)(k:∀b u,s.heap.get? b=!u->c.get? b=!u):Inv X Y Z H {s with heap:=c,toks:=t'}:=I.un (Un.kept k)<|I.hok.kept k
theorem Inv.laid{a:Addr}  (I:Inv X Y Z H s)(k:∀b u,s.heap.get? b=!u->e.get? b=!u)(c:s.heap.objs.size<=a)(new:yq X.prog X.w (jD H a o) e a o):
 Inv X Y Z (jD H a o) {s with heap:=e,toks:=t'}:=I.un (Un.laid k c<|I.hok.fresh c)<|I.hok.laid k c new
theorem Inv.write   (I:Inv X Y Z H s)(i:bU (H x))(j:e=x\/H e=! .own x)(k:∀b u,b≠e->s.heap.get? b=!u->f.get? b=!u)(c:∃u,f.get? e=!u)
 (new:yq X.prog X.w (jD H x o) f x o):Inv X Y Z (jD H x o) {s with heap:=f,toks:=l}:=I.un (Un.write i j k c)<|I.hok.write i j k c new
def Inv.pins_of (I:Inv X Y Z H s)(h:∀p∈Y',s.heap.get? p.1=!p.2/\H p.1=8/\p.1≠X.env.locals/\p.1∉X.fs/\∀v,p.2.data ≠ .cell v):Inv X Y' Z H s:=
 (I.ok,I.os,I.bare,I.base,I.loc,I.cell,I.free,I.freeC,λp c=>(Jb.mp c).elim (λz=>I.pin p ())<|h p,I.hok,I.len)
def Ge{N:Yi}(c:N.Nodup){i j:5} (a:N[i]?=!x)(b:N[j]?=!x):i=j:=by
 let(f,d):=Jd.mp a;let(g,e):=Jd.mp b;exact(List.getElem_inj c).mp<|d.trans e.symm
def Om        (I:Inv X Y Z H s)(hN:X.N.Nodup)(C:X.N[i]?=!x)(t:zr X.env.scope x)(r:j4 v u)
 (h:∀U,Inv X Y (Z.set i<|!v) H U->(∃a,Heap.SameBut a s.heap U.heap/\(a=X.env.locals\/X.env.cells.lookup x=!a))->Q Yq U)(hf:X.fn x=6\/X.env.scope.names.lookup x=!.local:=by trivial):wpAny M A (storeName X.env x u) Q E s:=by
 let(m,hn,hl):=id I.loc;let N:(X.env.scope.kind==.class||X.env.scope.kind==.module&&X.env.locals !=X.env.globals)=7:=by rw[I.ok.kind];rfl
 let hiσ:i<Z.length:=by rw[I.len];exact(Jd.mp C).1
 let cne:=I.cne;let g:∀{a:Addr}{L:Heap},(∃o,s.heap.get? a=!o/\H a=8)->Heap.SameBut a s.heap L->xp X.prog X.w H L:=λ{a L}ha f b ob e=>by
  let(_,_,hfree):=ha;refine(I.hok b ob e).stay (λc S w q=>(f.2 c ?_).trans q) (λ_ q=>q) λ_ _ q=>q
  grind
 rcases t with hk|hk
 .calc wpAny_storeName_local hk hn (λL hn' f=>?_) N;let(oL,_,_,hoL,_):=id hn;refine h _ (I.ok,I.os,I.bare,(λb o e n F t=>?_,λb o e n F t=>?_,I.base.free,λb o e t=>?_,I.base.tups,I.base.frzs,I.base.tbls),(_,hn',λj y v' l B e3=>?_),λy c e=>?_,I.free,I.freeC,λp hp=>?_,g (oL,hoL,I.free) f,by simpa using I.len) (_,f,.inl 9)
  .exact(f.2 b<|Zi<|Zg (Zk e) I.ok.above).trans<|I.base.keep b o e n F t
  .let(sl,l):=I.base.slot b o e n F t;exact(sl,(f.2 b<|Zi<|Zg (Zk e) I.ok.above).trans l)
  .let(o',l):=I.base.there b o e t;exact(o',(f.2 b<|Zi<|Zg (Zk e) I.ok.above).trans l)
  .by_cases G:j=i
   .subst G;rw[C]at l;cases l;rw[UO hiσ]at B;cases B;exact(u,r,.inl (hk,()))
   .rw[Zx (Ne.symm G)]at B;let(u',r',q):=hl j y v' l B e3;calc(u',r',?_);rcases q with ⟨k,e⟩|⟨k,c,e,z⟩
    .calc .inl (k,?_);let:y≠x:=λe=>G<|Ge hN l<|e ▸ C;simp[this,e]
    .exact .inr (k,c,e,z.sameBut f<|cne y c e)
  .let(S,z):=I.cell y c e;exact(S,z.sameBut f<|cne y c e)
  .let(!e,n,ne,nf,d):=I.pin p hp;exact((f.2 p.1 ne).trans e,n,ne,nf,d)
 .let J:X.fn x=6:=by
   rcases hf with z|z
   .exact z
   .rw[z]at hk;cases hk
  let(c,w):=I.ok.has x (.inl hk);let(S,z):=I.cell x c w;calc wpAny_storeName_cell I.ok.kind hk w z<|λL O f=>?_;let(-oc,P,hocd):=id z;refine h {s with heap:=L} (I.ok,I.os,I.bare,(λb o e n F t=>?_,λb o e n F t=>?_,I.base.free,λb o e t=>?_,I.base.tups,I.base.frzs,I.base.tbls),(m,hn.sameBut f<|Ne.symm<|cne x c w,λj y v' l B e3=>?_),λy T e=>?_,I.free,I.freeC,λp hp=>?_,g (oc,P,I.freeC x c w) f,by simpa using I.len) (c,f,.inr w)
  .exact(f.2 b<|Zi<|Zg (Zk e)<|I.ok.cab x c J w).trans<|I.base.keep b o e n F t
  .let(sl,l):=I.base.slot b o e n F t;exact(sl,(f.2 b<|Zi<|Zg (Zk e)<|I.ok.cab x c J w).trans l)
  .let(o',l):=I.base.there b o e t;exact(o',(f.2 b<|Zi<|Zg (Zk e)<|I.ok.cab x c J w).trans l)
  .by_cases G:j=i
   .subst G;rw[C]at l;cases l;rw[UO hiσ]at B;cases B;exact(u,r,.inr (.inl hk,c,w,O))
   .rw[Zx (Ne.symm G)]at B;let(u',r',q):=hl j y v' l B e3;calc(u',r',?_);rcases q with q|⟨k,T,e,z'⟩
    .exact .inl q
    .calc .inr (k,T,e,z'.sameBut f ?_);rintro rfl;exact G<|Ge hN l<|I.ok.inj _ _ _ e w ▸ C
  .by_cases R:T=c
   .subst R;exact(_,O)
   .let(w2,z2):=I.cell y T e;exact(w2,z2.sameBut f R)
  .let(!e,n,ne,nf,d):=I.pin p hp;calc((f.2 p.1 ?_).trans e,n,ne,nf,d);intro q;rw[q,P]at e;let q':=Zqi e;exact d S<|by rwa[<-q']
def Dh        (I:Inv X Y Z H s)(b:X.N.Nodup)(c:X.N[i]?=!x)(d:zr X.env.scope x)(r:j4 v u)
 (h:∀a,Inv X Y (Z.set i<|!v) H a->Q Yq a)(e:X.fn x=6\/X.env.scope.names.lookup x=!.local:=by trivial):wpAny M A (storeName X.env x u) Q E s:=
 Om I b c d r (λa f _=>h a f) e
def Inv.call'  (I:Inv X Y Z H s)(j:s'.os=s.os)(u:Un (frs X.stack) ch H i s.heap s'.heap)(e:xp X.prog X.w i s'.heap)(l:AllBare s'.gens)
 (f:∀b∈ch,(b∈X.ex\/X.s₀.heap.objs.size<=b)/\b≠X.env.locals/\(∀x c,X.env.cells.lookup x=!c->c≠b)/\∀p∈X.pn++Y,p.1≠b):Inv X Y Z i s':=by
 let(n,o,q,r,v):=s';subst j;exact I.call u e l f
end
abbrev XK:=Value->Option Addr->Hp->4
abbrev St:=List<|Option V
abbrev VK:=V->Hp->4
abbrev TE:=St->Hp->VK->4
abbrev TT:=St->Hp->(Bool->Hp->4)->4
abbrev TA:=St->Hp->(YB->Hp->4)->4
structure Ends where
 nx:St->Hp->4
 rt:VK
 bk:St->Hp->4:=λ_ _=>False
 ct:St->Hp->4:=λ_ _=>False
abbrev TS:=Ends->St->Hp->4
def EP(X:Cx)(Y:Yb)(Z:St)(Q:VK)(u:Value)(b:Shared):4:=∃v a,Inv X Y Z a b/\j4 v u/\Q v a
def TP(X:Cx)(Y:Yb)(Z:St)(Q:Bool->Hp->4)(b:Bool)(c:Shared):4:=∃a,Inv X Y Z a c/\Q b a
def AP(X:Cx)(Y:Yb)(Z:St)(Q:YB->Hp->4)(c:Ye)(d:Shared):4:=∃a b,Inv X Y Z b d/\j1 a c/\Q a b
def SP(X:Cx)(Y:Yb)(D:Ends)(f:Flow)(c:Shared):4:=
 match f with
 |.next=>∃b a,Inv X Y b a c/\D.nx b a
 |.brk=>∃b a,Inv X Y b a c/\D.bk b a
 |.cont=>∃b a,Inv X Y b a c/\D.ct b a
 |.ret u=>∃v b a,Inv X Y b a c/\j4 v u/\D.rt v a
def PE(X:Cx)(e:Expr)(t:TE):4:=
 ∀(Y:Yb)(s:Shared)(Z:St)(H:Hp)(Q:VK),Inv X Y Z H s->t Z H Q->YE X (eval e X.env) (EP X Y Z Q) X.xe s
def PT(X:Cx)(e:Expr)(t:TT):4:=
 ∀(Y:Yb)(s:Shared)(Z:St)(H:Hp)(Q:Bool->Hp->4),Inv X Y Z H s->t Z H Q->YE X (isTrue e X.env<|eval e X.env) (TP X Y Z Q) X.xe s
def PW(X:Cx)(e:Expr)(t:TT):4:=
 ∀(a:Sem Value)(Y:Yb)(s:Shared)(Z:St)(H:Hp)(Q:Bool->Hp->4),Inv X Y Z H s->t Z H Q->YE X (isTrue e X.env a) (TP X Y Z Q) X.xe s
def bR   (h:PW X e t):PT X e t:=h _
def PA(X:Cx)(b:List Expr)(t:TA):4:=
 ∀(a:Pos)(Y:Yb)(s:Shared)(Z:St)(H:Hp)(Q:YB->Hp->4),Inv X Y Z H s->t Z H Q->YE X (spliced<|backTo a<|starEach b X.env) (AP X Y Z Q) X.xe s
def PS(X:Cx)(a:Stmt)(t:TS):4:=
 ∀(Y:Yb)(s:Shared)(Z:St)(H:Hp)(D:Ends),Inv X Y Z H s->t D Z H->YE X (exec a X.env) (SP X Y D) X.xe s
def xh(X:Cx)(a:List Stmt)(t:TS):4:=
 ∀(Y:Yb)(s:Shared)(Z:St)(H:Hp)(D:Ends),Inv X Y Z H s->t D Z H->YE X (execs a X.env) (SP X Y D) X.xe s
def jS       (h:wpAny M A t Q E s)(b:∀a s,Q a s->c a s):wpAny M A t c E s:=Zc h b λ_ _ x=>x
section
variable {X:Cx}
def yI(i:5):TE:=λZ H Q=>∃v,Z[i]?=! !v/\Q v H
def tC(v:V):TE:=λ_ H Q=>Q v H
def Di :PE X (.Constant (.str x) j a) (tC<|.str x):=λ_ _ _ H _ I h=>Calls.Constant_str (.str x,H,I.tok _,(_,9),h)
def Gl(X:Cx)(x:Str):4:=X.env.kindOf x=!.globalImplicit
def XM   {Z:St}     (I:Inv X Y Z H s)(a:Gl X x)(b:X.mg x=!u)(h:Q u s)
 (c:(x==("__debug__":Str))=7:=by decide):YE X (eval (.Name x d) X.env) Q E s:=
 Calls.Name_function_global I.ok.kind a (Calls.loadGlobal_global (by rw[I.ok.glob];calc I.mod.glob.keeps I.bk) b h) c
def XN   {Z:St}     (I:Inv X Y Z H s)(a:Gl X x)(b:X.mg x=8)(c:bootBuiltins x=!u)(h:Q u s)
 (d:x ≠"__name__":=by decide)(e:(x==("__debug__":Str))=7:=by decide):YE X (eval (.Name x f) X.env) Q E s:=by
 let(j,g,i):=I.mod.blt;exact Calls.Name_function_global I.ok.kind a (Calls.loadGlobal_builtin (by rw[I.ok.glob];calc I.mod.glob.keeps I.bk) b (by rw[I.ok.blt];calc g.keeps I.bk) ((i x d).trans c) h) e
variable {a b:Expr}{ta tb:TE}
def PC(X:Cx)(c:CmpOp)(a b:Expr)(t:TE):4:=
 ∀(Y:Yb)(s:Shared)(Z:St)(H:Hp)(Q:VK),Inv X Y Z H s->t Z H Q->
  YE X (eval a X.env) (λv s₁=>YE X (eval b X.env) (λu s₂=>YE X (compareOp c v u) (EP X Y Z Q) X.xe s₂) X.xe s₁) X.xe s
def tB(t:TE):TT:=λZ H Q=>t Z H λx d=>∃c,x=.bl c/\Q c d
def Oo  (h:PC X f a b t)(e:behindInMarks f b=7:=by first|calc nobehind _ (by decide)<|by decide|rfl):PT X (.Compare a [f] [b] g) (tB t):=by
 intro Y s Z H Q I i;calc wpAny_isTrue_Compare1 (jS (h Y s Z H _ I i) λv p e=>jS e λu r j=>jS j λc w=>j8 λx l=>jC λm n o=>?_) e;let(d,rfl,q):=o;cases n;exact wpAny_truthy_bool (l,m,q)
def rf(t u:TT):TT:=λZ H Q=>t Z H λc d=>if c=6 then u Z d Q else Q 7 d
def aJ(t u:TT):TT:=λZ H Q=>t Z H λc d=>if c=6 then Q 6 d else u Z d Q
def aK(t:TT):TT:=λZ H Q=>t Z H λc d=>Q (not c) d
def Op(j:PT X a l)(m:PW X (.BoolOp .And (b::rest) d) e):PW X (.BoolOp .And (a::b::rest) d) (rf l e):=by
 intro n Y s Z H Q I h;calc isTrue_and<|jS (j Y s Z H _ I h) λc o=>yf λf=>jF λg i=>?_;cases c with
 |true=>calc m n Y o Z f Q g i
 |false=>exact(f,g,i)
def kZ(j:PT X a l)(m:PW X (.BoolOp .Or (b::rest) d) e):PW X (.BoolOp .Or (a::b::rest) d) (aJ l e):=by
 intro n Y s Z H Q I h;calc isTrue_or<|jS (j Y s Z H _ I h) λc o=>yf λf=>jF λg i=>?_;cases c with
 |true=>calc(f,g,i)
 |false=>exact m n Y o Z f Q g i
def kB(ta tb:TE):TE:=λZ H Q=>ta Z H λx d=>∃c,x=.bl c/\if c=6 then tb Z d Q else Q (.bl 7) d
def tR(ta:TE):TE:=λZ H Q=>ta Z H λx d=>∃c,x=.bl c/\Q (.bl<|not c) d
def Oq(i:PE X a ta)(j:PE X (.BoolOp .And (b::rest) e) tb):PE X (.BoolOp .And (a::b::rest) e) (kB ta tb):=by
 intro Y s Z H Q I h;calc BoolOp_and<|jS (i Y s Z H _ I h) λv l=>j8 λx f=>jC λg m d=>?_;let(c,rfl,d):=d;cases m;calc wpAny_truthy_bool ?_;cases c with
 |true=>calc j Y l Z f Q g d
 |false=>exact(.bl 7,f,g,9,d)
end
def xo(K:W.Frag)(H:Hp)(a:Addr)(c:YB):4:=
 Rd H a (.lst c)\/
  ∃(o:Obj)(b:Yk)(n:5),K.lookup a=!o/\o.cls=.type "list"/\o.dict=8/\o.data=.seq b n/\b.size<=sizeLine/\j1 c b.toList
def zk(K:W.Frag)(H:Hp)(a:Addr)(c:YB):4:=
 Rd H a (.tup c)\/
  ∃(o:Obj)(b:Yk)(n:5),K.lookup a=!o/\o.cls=.type "tuple"/\o.data=.seq b n/\b.size<=sizeLine/\j1 c b.toList
def tj:Value->Option V
 |.none=>!.non
 |.bool b=>! .bl b
 |.int i _=>! .int i
 |.str x _=>! .str x
 |.bytes b _=>! .byt b
 |.float b _=>! .flt b
 |.ref a=>! .ref a
 |.type n=>! .ty n
 |_=>8
def j4.abs  (r:j4 x u):tj u=!x:=by
 cases x with
 |non=>cases r;rfl
 |bl _=>cases r;rfl
 |int _=>let(t,rfl):=r;rfl
 |str _=>let(t,rfl):=r;rfl
 |byt _=>let(t,rfl):=r;rfl
 |flt _=>let(t,rfl):=r;rfl
 |ref _=>cases r;rfl
 |ty _=>cases r;rfl
def j4.inj  (r:j4 x u)(q:j4 y u):x=y:=Zqi<|r.abs.symm.trans q.abs
theorem j1.inj:∀{e c:YB}{f:Ye},j1 e f->j1 c f->e=c:=λ{e c f}g h=>by
 induction g generalizing c with
 |nil=>cases h;rfl
 |cons r _ i=>
  cases h with
  |cons j l=>rw[r.inj j,i l]
section
variable   {Z: St}
def xo.of{K:W.Frag}(h:H a=! .lst c):xo K H a c:=.inl<|.inl h
def zk.of{K:W.Frag}(h:H a=! .tup c):zk K H a c:=.inl<|.inl h
def Inv.list(I:Inv X Y Z H s)(h:xo X.K H a f):∃c:Ye,j1 f c/\PlainL s.heap a c.toArray/\f.length<=sizeLine:=by
 rcases h with h|⟨o,c,n,hk,hc,hd,i,hz,r⟩
 .let(z,c,n,r,e):=h.ok I.hok;exact(c,r,(_,n,e,9,9,9),z)
 .calc(c.toList,r,(o,n,I.kIn a o hk,hc,hd,()),?_);let e:=r.length
  simp_all
def Inv.tuple(I:Inv X Y Z H s)(h:zk X.K H a f):∃c:Ye,j1 f c/\IsTup s.heap a c.toArray/\f.length<=sizeLine:=by
 rcases h with h|⟨o,c,n,hk,hc,i,hz,r⟩
 .let(z,c,r,p):=h.ok I.hok;exact(c,r,p,z.1)
 .calc(c.toList,r,(o,I.kIn a o hk,hc,n,()),?_);let e:=r.length
  simp_all
def Inv.list_inj(I:Inv X Y Z H s)(h:xo X.K H a i)(j:xo X.K H a l):i=l:=by
 let(f,r,(o,n,e,_,_,d),_):=I.list h;let(c,p,(q,u,v,_,_,x),_):=I.list j;let:f=c:=by simp_all
 subst this;exact r.inj p
def Inv.tuple_inj(I:Inv X Y Z H s)(h:zk X.K H a i)(j:zk X.K H a l):i=l:=by
 let(f,r,(o,e,_,n,d),_):=I.tuple h;let(c,p,(q,u,_,v,x),_):=I.tuple j;let:f=c:=by simp_all
 subst this;exact r.inj p
end
noncomputable abbrev Cx.wish(X:Cx)(E:Ya):Cx:={X with xe:=E}
abbrev Cx.nox(X:Cx):Cx:=X.wish λ_ _=>False
theorem Cx.Ok.wish{X:Cx}(ok:X.Ok)(E:Ya):(X.wish E).Ok:=
 (ok.mod,ok.kind,ok.glob,ok.blt,ok.above,ok.inj,ok.has,ok.cab,ok.hd,ok.frames,ok.stk,ok.exf,ok.bs,ok.bsz,ok.noex,ok.exfs,ok.funs,ok.frf)
def Cx.Ok.unwish{X:Cx} (ok:(X.wish E).Ok):X.Ok:=
 (ok.mod,ok.kind,ok.glob,ok.blt,ok.above,ok.inj,ok.has,ok.cab,ok.hd,ok.frames,ok.stk,ok.exf,ok.bs,ok.bsz,ok.noex,ok.exfs,ok.funs,ok.frf)
section
variable   {Z: St}
theorem Inv.wish(I:Inv X Y Z H s)(E):Inv (X.wish E) Y Z H s:=(I.ok.wish E,I.os,I.bare,I.base,I.loc,I.cell,I.free,I.freeC,I.pin,I.hok,I.len)
theorem Inv.unwish(I:Inv (X.wish E) Y Z H s):Inv X Y Z H s:=(I.ok.unwish,I.os,I.bare,I.base,I.loc,I.cell,I.free,I.freeC,I.pin,I.hok,I.len)
theorem SP.unwish   (h:SP (X.wish E) Y D f i):SP X Y D f i:=by
 cases f with
 |next=>let(c,e,I,q):=h;calc(c,e,I.unwish,q)
 |brk=>let(c,e,I,q):=h;calc(c,e,I.unwish,q)
 |cont=>let(c,e,I,q):=h;calc(c,e,I.unwish,q)
 |ret u=>let(v c e,I,r,q):=h;exact ji v c e (I.unwish,r,q)
theorem xh.nox{c:List Stmt} (h:xh X.nox c t):xh X c t:=λY s Z H D I e=>
 Zc (h Y s Z H D (I.wish _) e) (λ_ _ q=>q.unwish) ()
end
section
variable  {st:Stmt}  {t u:TS}  {te:TE}
def ku:TS:=λD Z H=>D.nx Z H
def nR(t u:TS):TS:=λD Z H=>t {D with nx:=u D} Z H
def ZQ:xh X [] ku:=λ_ _ Z H _ I h=>wpAny_execs_nil (Z,H,I,h)
def XO(a:PS X st t)(b:xh X rest u):xh X (st::rest) (nR t u):=by
 intro Y s Z H D I h;calc wpAny_execs_cons<|jS (a Y s Z H {D with nx:=u D} I h) λf c q=>?_;cases f with
 |next=>
  let(d e,g,q):=q;calc b Y c d e D g q
 |ret v=>calc q
 |brk=>calc q
 |cont=>exact q
def Bm(a:PS X st t):xh X [st] t:=by
 intro Y s Z H D I h;refine wpAny_execs_cons<|jS (a Y s Z H D I h) λf b q=>?_
 grind[wpAny_execs_nil]
def re:TS:=λD Z H=>D.bk Z H
def Inv.quiet {Z:St}  (I:Inv X Y Z H s):interactive X.env=7:=by simp[interactive,I.ok.kind]
def kw(te:TE):TS:=λD Z H=>te Z H λ_ a=>D.nx Z a
def XP(b:PE X e te)(c:swapsWith e 8 a.line X.env=pure 7:=by rfl):PS X (.Expr e a) (kw te):=λY s Z H D I h=>wpAny_Expr_any (jS (b Y s Z H _ I h) λv i=>j8 λx d=>jC λf j g=>(Z,d,f,g)) I.quiet c
def nS(te:TE):TS:=λD Z H=>te Z H D.rt
def ZR(a:PE X e te):PS X (.Return (!e) b) (nS te):=λY s Z H D I h=>wpAny_Return_some<|jS (a Y s Z H _ I h) λv i=>j8 λx c=>jC λd f g=>ji x Z c (d,f,g)
def nU(c:TT)(t u:TS):TS:=λD Z H=>c Z H λb a=>if b=6 then t D Z a else u D Z a
def Bn   (j:PT X c l)(m:xh X a t)(n:xh X b u):PS X (.If c a b o) (nU l t u):=by
 intro Y s Z H D I h;calc wpAny_If<|jS (j Y s Z H _ I h) λd e=>yf λf=>jF λg i=>?_;cases d with
 |true=>calc m Y e Z f D g i
 |false=>exact n Y e Z f D g i
end
abbrev TG:=V->St->Hp->(St->Hp->4)->4
abbrev uR:=YB->St->Hp->(St->Hp->4)->4
def PG(X:Cx)(a:Expr)(t:TG):4:=
 ∀(Y:Yb)(s:Shared)(Z:St)(H:Hp)(v:V)(u:Value)(Q:St->Hp->4),Inv X Y Z H s->j4 v u->t v Z H Q->
  YE X (assign a X.env u) (λ_ d=>∃b c,Inv X Y b c d/\Q b c) X.xe s
def n7(X:Cx)(e:List Expr)(t:uR):4:=
 ∀(Y:Yb)(s:Shared)(Z:St)(H:Hp)(a:YB)(b:Ye)(Q:St->Hp->4),Inv X Y Z H s->j1 a b->t a Z H Q->
  YE X (assignInOrder ((assignEach e X.env).map (·.2)) b) (λ_ f=>∃c d,Inv X Y c d f/\Q c d) X.xe s
abbrev bP:=V->V->V->Hp->(Hp->4)->4
def tu(X:Cx)(t:bP):4:=
 ∀(Y:Yb)(s:Shared)(Z:St)(H:Hp)(o i v:V)(a b u:Value)(Q:Hp->4),Inv X Y Z H s->j4 o a->j4 i b->j4 v u->t o i v H Q->
  YE X (setItem a b u) (λ_ d=>∃c,Inv X Y Z c d/\Q c) X.xe s
def V7(i:5):TG:=λv Z H Q=>Q (Z.set i<|!v) H
def Qh  (a:X.N.Nodup)(b:X.N[i]?=!x)(c:zr X.env.scope x)(d:X.fn x=6\/X.env.scope.names.lookup x=!.local:=by trivial):PG X (.Name x e) (V7 i):=λY s Z H v u Q I r h=>wpAny_assign_Name<|Dh I a b c r (λg f=>(_,H,f,h)) d
def f5:uR:=λa Z H Q=>a=[]/\Q Z H
def Gf(t:TG)(u:uR):uR:=λa Z H Q=>∃v r,a=v::r/\t v Z H λb c=>u r b c Q
def V8:n7 X [] f5:=λY s Z H a b Q I r h=>have(e,h):=h;assignInOrder_nil (Z,H,I,h)
def Qx    (b:PG X e t)(c:n7 X a u)
 (d:(assignEach (e::a) X.env).map (·.2)=assign e X.env::(assignEach a X.env).map (·.2):=by rfl):n7 X (e::a) (Gf t u):=by
 intro Y s Z H o p Q I r h;let(v,q,f,h):=h;subst f;cases r with
 |cons r g=>
  rw[d];exact assignInOrder_cons<|jS (b Y s Z H _ _ _ I r h) λ_ i=>j8 λj l=>jF λm n=>c Y i j l _ _ Q m g n
def fu(K:W.Frag)(n:5)(t:uR):TG:=λv Z H Q=>∃a b,v=.ref a/\zk K H a b/\b.length=n/\t b Z H Q
def V9    (g:X.calm=6)(h:n7 X c t)
 (i:(assignEach c X.env).length=n:=by rfl)(d:(assignEach c X.env).findIdx? (·.1)=8:=by rfl):PG X (.Tuple c k j) (fu X.K n t):=by
 intro Y s Z H v u Q I r f;let(a,l,m,p,q,f):=f;subst m;cases r;let(-w,x,y,C):=I.tuple p;calc assign_Tuple_tuple (I.ok.hd g) y (by simp[i,<-q,x.length]) d λz A=>?_;let B:Inv X Y Z H {s with heap:=z}:=I.kept λb o e=>A b o (Zi<|Zk e) e;exact h Y _ Z H l _ Q B () f
def za(a b:TE)(t:bP):TG:=λv Z H Q=>a Z H λo c=>b Z c λi d=>t o i v d λe=>Q Z e
def zO(a:TE)(g:TG):TS:=λD Z H=>a Z H λx b=>g x Z b D.nx
def Ot   (c:PE X e d)(f:PG X a g)(i:swapsWithSole [a] e b.line X.env=pure 7:=by rfl)(j:swappedStores [a] e X.env=pure 8:=by rfl)
 (l:(assignEach [a] X.env).map (·.2)=[assign a X.env]:=by rfl):PS X (.Assign [a] e b) (zO d g):=by
 intro Y s Z H D I h;calc wpAny_Assign_stores (jS (c Y s Z H _ I h) λv m=>j8 λx n=>jC λo p r=>?_) i j;rw[l];exact jS (f Y m Z n x v _ o p r) λ_ t q=>q
def XQ     (c:X.N.Nodup)(d:X.N[i]?=!x)(f:zr X.env.scope x)(g:PE X e j)(l:swapsWith e (! .Name x a) b.line X.env=pure 7:=by rfl)(m:X.fn x=6\/X.env.scope.names.lookup x=!.local:=by trivial):
 PS X (.Assign [.Name x a] e b) (zO j<|V7 i):=λY s Z H D I h=>wpAny_Assign_Name (jS (g Y s Z H _ I h) λv t=>j8 λy n=>jC λo p q=>Dh o c d f p (λu r=>(_,n,r,q)) m) l
structure It where
 go:5->Hp->4
 yld:5->Hp->V->Hp->4
 stop:5->Hp->4
def yQ(X:Cx)(Y:Yb)(H:Hp)(b:Addr):4:=
 H b=8/\b≠X.env.locals/\b∉X.fs/\(b∈X.ex\/X.s₀.heap.objs.size<=b)/\(∀x c,X.env.cells.lookup x=!c->c≠b)/\∀p∈X.pn++Y,p.1≠b
def Inv.fpOk  {Z:St}  {b:Addr}(I:Inv X Y Z H s)(f:s.heap.objs.size<=b)(i:j b=8):yQ X Y j b:=by
 refine(i,UW<|Zg I.lt f,I.nofs f,.inr<|Zh I.sz f,λx c e z=>?_,λp l z=>?_)
 .let(v,q):=I.cell x c e;exact Zn (Zg q.lt<|by rwa[z])<|Zy _
 .exact Zn (Zg (Zk (I.pin p l).1)<|by rwa[z])<|Zy _
structure Turn(P:Program)(w:World)(K:W.Frag)(tg:Expr)(J:It)(fp:Yj)(it:Addr)(tn:5->Heap->4):4 where
 mem:it∈fp
 obj:∀i h,tn i h->∀b∈fp,∃o,h.get? b=!o/\∀v,o.data ≠ .cell v
 keep:∀i h h',tn i h->(∀b∈fp,∀o,h.get? b=!o->h'.get? b=!o)->tn i h'
 item:∀(X:Cx),X.prog=P->X.w=w->X.K=K->X.calm=6->∀(i:5)(Y:Yb)(s:Shared)(Z:St)(H:Hp)(E:Ya),Inv X Y Z H s->(∀b∈fp,yQ X Y H b)->tn i s.heap->J.go i H->
  wpAny (model P w) X.A (pyNext<|.ref it) (λr s1=>∃u,r=!u/\
   wpAny (model P w) X.A (letOwnedTupleGo tg (.ref it) u) (λ_ s2=>∃x H',Inv X Y Z H' s2/\j4 x u/\J.yld i H x H'/\tn (i+1) s2.heap/\∀b∈fp,H' b=8) E s1) E s
 done:∀(X:Cx),X.prog=P->X.w=w->X.K=K->X.calm=6->∀(i:5)(Y:Yb)(s:Shared)(Z:St)(H:Hp)(E:Ya),Inv X Y Z H s->(∀b∈fp,yQ X Y H b)->tn i s.heap->J.stop i H->
  wpAny (model P w) X.A (pyNext<|.ref it) (λr s1=>r=8/\Inv X Y Z H s1) E s
 self:∀(A:Around)(i:5)(s:Shared)(Q:Ya)(E:Ya),tn i s.heap->Q (.ref it) s->wpAny (model P w) A (pyIter<|.ref it) Q E s
abbrev TI:=St->Hp->(It->Hp->4)->4
def eB(X:Cx)(Y:Yb)(Z:St)(h:Expr)(R:It->Hp->4)(a:Value)(d:Shared):4:=
 ∃(e:Addr)(f:Yj)(g:5->Heap->4)(J:It)(c:Hp),a=.ref e/\Inv X Y Z c d/\Turn X.prog X.w X.K h J f e g/\g 0 d.heap/\(∀b∈f,yQ X Y c b)/\R J c
def PI(X:Cx)(b a:Expr)(wi:TI):4:=
 ∀(Y:Yb)(s:Shared)(Z:St)(H:Hp)(R:It->Hp->4),Inv X Y Z H s->wi Z H R->
  YE X (eval a X.env) (λv c=>YE X (pyIter v) (eB X Y Z b R) X.xe c) X.xe s
def Dj           (b:s.heap.get? c=!o)(d:o.cls=.type n)(e:o.data=.fields f)
 (g:["enumerate","zip","dict_itemiterator","dict_reverseitemiterator","odict_iterator","itertools.zip_longest","itertools.pairwise"].contains n=7)(a:Q Yq s):wpAny M A (letOwnedTupleGo i (.ref c) u) Q E s:=by
 cases i<;>first
  |calc Zb a
  |(cases u<;>first
   |calc Zb a
   |(
    calc Za<|wpAny_load b ?_;rw[d,e];show wpAny M A (if(["enumerate","zip","dict_itemiterator","dict_reverseitemiterator","odict_iterator","itertools.zip_longest","itertools.pairwise"].contains n&&f[0]?==! rawInt _)=6 then _ else _) Q E s;rw[Ze (by intro h;rw[g,Bool.false_and]at h;cases h)];calc Zb a))
def dO(K:W.Frag)(a:Addr):It:=
 (λi H=>∃b x,xo K H a b/\b[i]?=!x,λi H x c=>c=H/\∀b,xo K H a b->b[i]?=!x,λi H=>∃b,xo K H a b/\b.length<=i)
def dN(K:W.Frag)(a:Addr):It:=
 (λi H=>∃b x,zk K H a b/\b[i]?=!x,λi H x c=>c=H/\∀b,zk K H a b->b[i]?=!x,λi H=>∃b,zk K H a b/\b.length<=i)
def tA(lo:3)(n:5):It:=(λi _=>i<n,λi H x a=>a=H/\x=.int (lo+i),λi _=>n<=i)
def Ou  {K:W.Frag} (a g):Turn P w K tg (dO K a) [g] g λi h=>h.IsListIter g a i where
 mem:=by simp
 obj:=λi h f b j=>by
  let(-o,e,c,d):=f
  simp_all
 keep:=λi h q f k=>f.at λo e=>k g () o e
 item:=by
  intro X r t v L i Y s Z H E I m f y;subst r t v;let(N x,n,M):=y;let(-z,A,p,O):=I.list n;let(-u,hu,Q):=A.get M;let(!B,C,R,F,G,J):=m g ();calc wpAny_pyNext_list_item f p.isList (x:=u) () λq l S=>?_;let T:Inv X Y Z H {s with heap:=q}:=I.turned (λb o j e=>(S.2 b j).trans e) B C F G J;let(-o,e,c,d):=id l;exact(u,9,Dj e c d (by decide) (x,H,T,Q,(9,λys U=>by rwa[I.list_inj U n]),l,λb j=>(m b j).1))
 done:=by
  intro X r t v L i Y s Z H E I m f y;subst r t v;let(N,n,M):=y;let(z,A,p,O):=I.list n;let(!B,C,R,F,G,J):=m g ();let hl:=A.length;exact wpAny_pyNext_list_end (I.ok.hd L) f p.isList (by simp;lia) λq eb=>(9,I.turned (λb o j e=>eb b o j e) B C F G J)
 self:=λ_ _ _ _ _ f h=>wpAny_pyIter_listiter f h
def Ov  {K:W.Frag} (a g:Addr):Turn P w K tg (dN K a) [g] g λi h=>h.IsTupleIter g a i where
 mem:=by simp
 obj:=λi h f b j=>by
  let e:b=g:=by simpa using j
  subst e;let(-o,e,c,d):=f;exact(o,e,λv z=>by rw[d]at z;cases z)
 keep:=λi h n f k=>f.at λo e=>k g () o e
 item:=by
  intro X t y A O i Y s Z H E I q f B;subst t y A;let(Q x,r,C):=B;let(-l,F,p,R):=I.tuple r;let(-u,S,T):=F.get C;let(!G,J,U,L,M,N):=q g ();calc wpAny_pyNext_tuple_item f (show s.heap.IsTuple a l.toArray from p) (x:=u) (by simpa using S) λn m sb=>?_;let I1:Inv X Y Z H {s with heap:=n}:=I.turned (t':=s.toks) (λb o j e=>(sb.2 b j).trans e) G J L M N;let(-o,e,c,d):=id m;exact(u,9,Dj (s:={s with heap:=n}) e c d (by decide) (x,H,I1,T,(9,λys hy=>by rw[I.tuple_inj hy r];calc C),m,λb j=>(q b j).1))
 done:=by
  intro X t y A O i Y s Z H E I q f B;subst t y A;let(Q,r,C):=B;let(l,F,p,R):=I.tuple r;let(!G,J,U,L,M,N):=q g ();let hl:=F.length;exact wpAny_pyNext_tuple_end (I.ok.hd O) f (show s.heap.IsTuple a l.toArray from p) (by simp;lia) λn eb=>(9,I.turned (t':=s.toks) (λb o j e=>eb b o j e) G J L M N)
 self:=λ_ _ _ _ _ f h=>wpAny_pyIter_tupleiter f h
def Ow  {K:W.Frag} (a)(lo)(n):Turn P w K L (tA lo n) [a] a λi h=>IsRangeIter h a (lo+(i:5)*1) ((n:3)-(i:5)) 1 where
 mem:=by simp
 obj:=by grind
 keep:=by grind
 item:=by
  intro X x y z f i Y s Z H E I g c j;let(!l,m,A,p,q,r):=g a ();calc(Walks.range (I.ok.hd f) a lo 1 n).item i s _ _ j c λv u B C d M=>?_;let(t,rfl):=C;let F:Inv X Y Z H {s with heap:=u,toks:=B}:=I.turned () l m p q r;calc(_,9,Dj d 9 9 (by decide)<|jI (.int<|lo+i) H (F,(t,?_),(9,9),d,()));simp
 done:=by
  intro X x y z f i Y s Z H E I g c j;let(!l,m,A,p,q,r):=g a ();exact wpAny_pyNext_range_end (I.ok.hd f) c (by let:n<=i:=j;lia) λu G=>(9,I.turned (λb o J e=>G b o J e) l m p q r)
 self:=λ_ _ _ _ _ c h=>wpAny_pyIter_rangeiter c h
def gW(K:W.Frag)(c:TE):TI:=λZ H R=>c Z H λx b=>∃a,x=.ref a/\(∃d,xo K b a d)/\R (dO K a) b
def sg(K:W.Frag)(c:TE):TI:=λZ H R=>c Z H λx b=>∃a,x=.ref a/\(∃d,zk K b a d)/\R (dN K a) b
def Ox  (f:PE X l g):PI X u l (gW X.K g):=by
 intro Y s Z H R I h;calc jS (f Y s Z H _ I h) λv d=>j8 λx i=>jC λc j m=>?_;let(a,e,(w,n),q):=m;subst e;cases j;let(-r,y,p,z):=c.list n;calc wpAny_pyIter_list p.isList<|j0 d.heap.objs.size [d.heap.objs.size] _ _ i (9,c.kept λb o e=>Zq _ e,Ou a _,(_,Zr _ 9,9,9),λb t=>?_,q);let e:b=d.heap.objs.size:=by simpa using t
 subst e;exact c.fpOk (Zf _)<|c.hok.fresh<|Zf _
def Oy  (f:PE X l g):PI X u l (sg X.K g):=by
 intro Y s Z H R I h;calc jS (f Y s Z H _ I h) λv d=>j8 λx i=>jC λc j m=>?_;let(a,e,(w,n),q):=m;subst e;cases j;let(-r,y,p,z):=c.tuple n;calc wpAny_pyIter_tuple p<|j0 d.heap.objs.size [d.heap.objs.size] _ _ i (9,c.kept λb o e=>Zq _ e,Ov a _,(_,Zr _ 9,9,9),λb t=>?_,q);let e:b=d.heap.objs.size:=by simpa using t
 subst e;exact c.fpOk (Zf _)<|c.hok.fresh<|Zf _
def gV(a:TA):TI:=λZ H R=>a Z H λb c=>∃j:3,b=[.int j]/\-2^62<=j/\j<2^62/\R (tA 0 j.toNat) c
def Gg   (l:Gl X "range")(m:X.mg "range"=8)(n:PA X [a] u)(v:starEach [a] X.env=[%[7|eval a X.env]]:=by rfl):PI X B (.Call (.Name "range" p) [a] [] f) (gV u):=by
 intro Y s Z H R I h;calc Call_<|XN I l m boot_range<|PyProof.Rows.callWith_type1 (jS (n f Y s Z H _ I h) λC c=>j8 λE i=>jC λd w g=>?_) v 9;let(j,e,g,x,q):=g;subst e;cases w with
 |cons r y=>
  cases y;let(t,rfl):=r;exact call_range_1<|by
   calc wpAny_pyIter_range (IsRange.new ..) (small_one () () g x) ?_;let d:Inv X Y Z i {c with heap:=c.heap.push {cls:=.type "range",data:=.fields #[.int 0 c.toks,.int j t,.int 1 (c.toks+1)]},toks:=c.toks+1+1}:=d.kept λb o e=>Zq _ e;refine j0 (c.heap.push {cls:=.type "range",data:=.fields #[.int 0 c.toks,.int j t,.int 1 (c.toks+1)]}).objs.size [(c.heap.push {cls:=.type "range",data:=.fields #[.int 0 c.toks,.int j t,.int 1 (c.toks+1)]}).objs.size] _ _ i (9,
    d.kept λb o e=>Zq _ e,Ow _ 0 (j-0).toNat,?_,λb F=>?_,by simpa using q)
   .let z:0+((0:5):3)*1=0:=by simp
    let A:(((j-0).toNat:5):3)-((0:5):3)=Builtin.Range.rangeSize 0 j 1:=by grind[rangeSize_one]
    rw[z,A];exact Zr _ 9
   .let e:b=(c.heap.push {cls:=.type "range",data:=.fields #[.int 0 c.toks,.int j t,.int 1 (c.toks+1)]}).objs.size:=by simp_all
    subst e;exact d.fpOk (Zf _)<|d.hok.fresh<|Zf _
def nV(wi:TI)(g:TG)(d:TS):TS:=λD Z H=>wi Z H λJ e=>∃W:5->5->St->Hp->4,(∃m,W 0 m Z e)/\∀i m Z H,W i m Z H->
 J.stop i H/\D.nx Z H\/J.go i H/\∃N:St->Hp->4,(∀b a,N b a->∃c,c<m/\W (i+1) c b a)/\∀x a,J.yld i H x a->g x Z a λf h=>d {D with nx:=N,ct:=N,bk:=D.nx} f h
def ZS(a:Yj)(h:Heap):Yb:=a.filterMap λb=>(h.get? b).map λo=>%[b|o]
def Bo    (a:b∈c)(e:h.get? b=!o):%[b|o]∈ZS c h:=Jt.mpr (b,a,by rw[e];rfl)
def Oz   (a:p∈ZS c h):p.1∈c/\h.get? p.1=!p.2:=by
 let(b,d,e):=Jt.mp a;cases q:h.get? b with
 |none=>simp_all
 |some o=>
  grind
def Inv.pinned {Z:St}   (I:Inv X Y Z H s)(f:∀b∈c,yQ X Y H b)(l:∀b∈c,∃o,s.heap.get? b=!o/\∀v,o.data ≠ .cell v):Inv X (Y++ZS c s.heap) Z H s:=
 I.pins_of λp i=>(Jb.mp i).elim (λz=>I.pin p ()) λz=>by
  let(j,e):=Oz z;let(!n,q,r,_):=f p.1 j
  grind
def Inv.unpinned {Z:St}  (I:Inv X (Y++c) Z H s):Inv X Y Z H s:=I.pins_of λp e=>I.pin p ()
def Bp  {wi:TI}   (y:PassesOwn (model X.prog X.w) X.A X.env X.xe)(hc:X.calm=6)(hi:PI X tg q wi)(hg:PG X tg g)(a:xh X z tb)
 (hs:∀x,foldedSetIterable q X.env x=pure x:=by intro _;rfl):PS X (.For tg q z [] pos) (nV wi g tb):=by
 intro Y s Z H D I h;calc wpAny_For (jS (hi Y s Z H _ I h) λv s1 h1=>jS h1 λitv s2 h2=>?_) hs;let(it A tn J H2,e,I2,T,P,f2,(W,(m0,w0),B)):=h2;subst e;let c:∀{p:Hp},(∀b∈A,p b=8)->∀b∈A,yQ X Y p b:=λhn b a=>(hn b a,(f2 b a).2);calc codeAny_forLoop_any (λn s'=>∃i C p,Inv X Y C p s'/\tn i s'.heap/\(∀b∈A,p b=8)/\W i n C p) ?_ m0<|ji 0 Z H2 (I2,P,λb a=>(f2 b a).1,w0);rintro n s3 ⟨i,E,O,I3,F,G,w3⟩;rcases B i n E O w3 with ⟨L,qn⟩|⟨go,N,hN,step⟩
 .calc wpAny_passesOwn y<|jS (T.done X 9 9 9 hc i Y s3 E O X.xe I3 (c G) F L) λr s4=>jF λQ I4=>?_;subst Q;exact wpAny_execs_nil (E,O,I4,qn)
 .calc wpAny_passesOwn y<|jS (T.item X 9 9 9 hc i Y s3 E O X.xe I3 (c G) F go) λr s4=>yf λu=>jF λQ h4=>?_;subst Q;calc wpAny_passesOwn y<|jS h4 λ_ s5=>j8 λx H5=>gF λI5 r5 y5 w R=>?_;let S:=I5.pinned (c R)<|T.obj _ _ w;calc wpAny_passesOwn y<|jS (hg _ s5 E H5 x u _ S r5<|step x H5 y5) λ_ s6=>j8 λZ6 H6=>jF λI6 q6=>?_;calc wpAny_passesOwn y<|jS (a _ s6 Z6 H6 _ I6 q6) λf U t=>?_;let again:∀{j:St}{H7:Hp},Inv X (Y++ZS A s5.heap) j H7 U->N j H7->∃m,m<n/\∃i C p,Inv X Y C p U/\tn i U.heap/\(∀b∈A,p b=8)/\W i m C p:=λ{j H7}l M=>by
   let(m',hm,w7):=hN j H7 M;calc(m',hm,i+1,j,H7,l.unpinned,T.keep _ _ _ w λb a o e=>(l.pin %[b|o]<|Ue _<|Ue _<|Bo a e).1,λb a=>?_,w7);let(o,e,d):=T.obj _ _ w b a;exact(l.pin %[b|o]<|Ue _<|Ue _<|Bo a e).2.1
  cases f with
  |next=>let(j,H7,l,M):=t;calc again l M
  |cont=>let(j,H7,l,M):=t;calc again l M
  |brk=>let(j,H7,l,t):=t;calc(j,H7,l.unpinned,t)
  |ret v=>let(x7 j H7,l,r7,t):=t;exact ji x7 j H7 (l.unpinned,r7,t)
abbrev R2:=V->V->Hp->VK->4
def yj(X:Cx)(f:Value->Value->Sem Value)(r:R2):4:=
 ∀(Y:Yb)(s:Shared)(Z:St)(H:Hp)(x y:V)(v u:Value)(Q:VK),Inv X Y Z H s->j4 x v->j4 y u->r x y H Q->
  YE X (f v u) (EP X Y Z Q) X.xe s
def u7(X:Cx)(f:Value->Sem Value)(r:V->Hp->VK->4):4:=
 ∀(Y:Yb)(s:Shared)(Z:St)(H:Hp)(x:V)(v:Value)(Q:VK),Inv X Y Z H s->j4 x v->r x H Q->
  YE X (f v) (EP X Y Z Q) X.xe s
def qq(X:Cx)(f:Value)(r:YB->Hp->VK->4):4:=
 ∀(Y:Yb)(s:Shared)(Z:St)(H:Hp)(a:YB)(b:Ye)(Q:VK),Inv X Y Z H s->j1 a b->r a H Q->
  YE X (call f b) (EP X Y Z Q) X.xe s
def kt(r:R2)(a b:TE):TE:=λZ H Q=>a Z H λx c=>b Z c λy d=>r x y d Q
def iK(r:V->Hp->VK->4)(a:TE):TE:=λZ H Q=>a Z H λx b=>r x b Q
def rI(C:3->3->4)(g:3->3->V):R2:=λx y H Q=>∃i j,x=.int i/\y=.int j/\C i j/\Q (g i j) H
def rF(g:3->3->V):R2:=λx y H Q=>∃i j,x=.int i/\y=.int j/\Q (g i j) H
def rU(g:3->V):V->Hp->VK->4:=λx H Q=>∃i,x=.int i/\Q (g i) H
def u6(g:PE X a i)(j:PE X b l)  {Z:St} {R:V->V->Hp->4}(I:Inv X Y Z H s)
 (h:i Z H λx e=>l Z e λy c=>R x y c) {f:Value->Value->Sem Value}
 (m:∀v u d x y c,Inv X Y Z c d->j4 x v->j4 y u->R x y c->YE X (f v u) Q X.xe d):
 YE X (eval a X.env) (λv s₁=>YE X (eval b X.env) (λu s₂=>YE X (f v u) Q X.xe s₂) X.xe s₁) X.xe s:=jS (g Y s Z H _ I h) λv n=>j8 λx e=>jC λo p q=>jS (j Y n Z e _ o q) λu d=>j8 λy c=>jC λr t w=>m v u d x y c r p t w
def Dk  (c:yj X (binaryOp d) r)(e:PE X a f)(g:PE X b i):PE X (.BinOp a d b j) (kt r f i):=λY s Z H Q I h=>wpAny_BinOp<|u6 e g I h λv u l x y m n o p q=>c Y l Z m x y v u Q n o p q
def gv  {g:3->3->3}
 (rule:∀i j t u s Q E,C i j->Q (.int (g i j) s.toks) {s with toks:=s.toks+1}->YE X (f (.int i t)<|.int j u) Q E s):
 yj X f (rI C λi j=>.int<|g i j):=by
 intro Y s Z H x y v u Q I a b h;let(i,j,rfl,rfl,c,q):=h;let(t,rfl):=a;let(d,rfl):=b;exact rule i j t d s _ _ c (.int<|g i j,H,I.tok _,(_,9),q)
def gu {g:3->3->3}
 (rule:∀i j t u s Q E,Q (.int (g i j) s.toks) {s with toks:=s.toks+1}->YE X (f (.int i t)<|.int j u) Q E s):
 yj X f (rF λi j=>.int<|g i j):=by
 intro Y s Z H x y v u Q I a b h;let(i,j,rfl,rfl,q):=h;let(t,rfl):=a;let(c,rfl):=b;exact rule i j t c s _ _ (.int<|g i j,H,I.tok _,(_,9),q)
def u0 {g:3->3->Bool}
 (rule:∀i j t u s Q E,Q (.bool<|g i j) s->YE X (f (.int i t)<|.int j u) Q E s):
 yj X f (rF λi j=>.bl<|g i j):=by
 intro Y s Z H x y v u Q I a b h;let(i,j,rfl,rfl,q):=h;let(t,rfl):=a;let(c,rfl):=b;exact rule i j t c s _ _ (.bl<|g i j,H,I,9,q)
def me(i j:3):4:=0<j/\j<1073741824
def ma(i j:3):4:=0<=j/\j<=1000000/\i.natAbs<2^64
def O0:yj X (binaryOp .FloorDiv) (rI me λi j=>.int<|i/j):=gv λi j _ _ _ _ _ a q=>have b:=a.1;have c:=a.2;floordiv_int () (by rwa[Int.fdiv_eq_ediv_of_nonneg i ()]) (.inl<|PyProof.noPylong_small ())
def O1:yj X (binaryOp .Mod) (rI (λ_ j=>0<j) λi j=>.int<|i%j):=gv λi j _ _ _ _ _ a q=>mod_int' ()<|by rwa[Int.fmod_eq_emod_of_nonneg i ()]
def O2:yj X (binaryOp .Pow) (rI ma λi j=>.int<|i^j.toNat):=gv λ_ _ _ _ _ _ _ a q=>pow_int_small a.1 a.2.1 a.2.2 q
def aI {g:3->3}
 (rule:∀i t s Q E,Q (.int (g i) s.toks) {s with toks:=s.toks+1}->YE X (f<|.int i t) Q E s):
 u7 X f (rU λi=>.int<|g i):=by
 intro Y s Z H x v Q I a h;let(i,rfl,q):=h;let(t,rfl):=a;exact rule i t s _ _ (.int<|g i,H,I.tok _,(_,9),q)
def scal:V->V->Bool
 |.non,.non=>6|.non,.int _=>6|.int _,.non=>6|.non,.bl _=>6|.bl _,.non=>6|.non,.str _=>6|.str _,.non=>6
 |.int _,.int _=>6|.bl _,.bl _=>6|.str _,.str _=>6|.byt _,.byt _=>6
 |.int _,.str _=>6|.str _,.int _=>6|.bl _,.str _=>6|.str _,.bl _=>6
 |_,_=>7
def aW:R2:=λx y H Q=>scal x y=6/\Q (.bl<|decide<|x=y) H
def aU:R2:=λx y H Q=>scal x y=6/\Q (.bl<|not<|decide<|x=y) H
def Gh :decide (V.int i=V.int j)=(i==j):=by
 rw[Vf];simp
def Gi :decide (V.bl i=V.bl j)=(i==j):=by
 rw[Vf];simp
def Gj :decide (V.str i=V.str j)=(i==j):=by
 rw[Vf];simp
def Gk :decide (V.byt i=V.byt j)=(i.toList==j.toList):=by
 rw[Vf];simp
def Qj {Z:St}    (I:Inv X Y Z H s)(q:Q (.bl k) H)(e:k=a):EP X Y Z Q (.bool a) s:=by
 subst e;exact(.bl k,H,I,9,q)
def gt:yj X (compareOp .Eq) aW:=by
 intro Y s Z H x y v u Q I d a h;let(c,q):=h;cases x with
 |non=>
  cases d;cases y with
  |non=>cases a;calc PySem.EqNone.eq_none_none<|Qj I q ()
  |bl j=>cases a;calc PySem.EqNone.eq_none_bool<|Qj I q ()
  |int j=>let(b,rfl):=a;calc PySem.EqNone.eq_none_int<|Qj I q ()
  |str j=>let(b,rfl):=a;calc PySem.EqNone.eq_none_str<|Qj I q ()
  |_=>calc Zn (show 7=6 from c) Zj
 |bl i=>
  cases d;cases y with
  |non=>cases a;calc PySem.EqNone.eq_bool_none<|Qj I q ()
  |bl j=>cases a;calc eq_bool<|Qj I q Gi
  |str j=>let(b,rfl):=a;calc PySem.EqMixed.eq_bool_str<|Qj I q ()
  |_=>calc Zn (show 7=6 from c) Zj
 |int i=>
  let(t,rfl):=d;cases y with
  |non=>cases a;calc PySem.EqNone.eq_int_none<|Qj I q ()
  |int j=>let(b,rfl):=a;calc eq_int<|Qj I q Gh
  |str j=>let(b,rfl):=a;calc PySem.EqMixed.eq_int_str<|Qj I q ()
  |_=>calc Zn (show 7=6 from c) Zj
 |str i=>
  let(t,rfl):=d;cases y with
  |non=>cases a;calc PySem.EqNone.eq_str_none<|Qj I q ()
  |bl j=>cases a;calc PySem.EqMixed.eq_str_bool<|Qj I q ()
  |int j=>let(b,rfl):=a;calc PySem.EqMixed.eq_str_int<|Qj I q ()
  |str j=>let(b,rfl):=a;calc eq_str<|Qj I q Gj
  |_=>calc Zn c Zj
 |byt i=>
  let(t,rfl):=d;cases y with
  |byt j=>let(b,rfl):=a;calc W.eq_bytes<|Qj I q Gk
  |_=>calc Zn (show 7=6 from c) Zj
 |_=>cases y<;>exact Zn (show 7=6 from c) Zj
def gr:yj X (compareOp .NotEq) aU:=by
 intro Y s Z H x y v u Q I d a h;let(c,q):=h;cases x with
 |non=>
  cases d;cases y with
  |non=>cases a;calc PySem.EqNone.ne_none_none<|Qj I q ()
  |bl j=>cases a;calc PySem.EqNone.ne_none_bool<|Qj I q ()
  |int j=>let(b,rfl):=a;calc PySem.EqNone.ne_none_int<|Qj I q ()
  |str j=>let(b,rfl):=a;calc PySem.EqNone.ne_none_str<|Qj I q ()
  |_=>calc Zn (show 7=6 from c) Zj
 |bl i=>
  cases d;cases y with
  |non=>cases a;calc PySem.EqNone.ne_bool_none<|Qj I q ()
  |bl j=>cases a;calc ne_bool<|Qj I q<|Zt not Gi
  |str j=>let(b,rfl):=a;calc PySem.EqMixed.ne_bool_str<|Qj I q ()
  |_=>calc Zn (show 7=6 from c) Zj
 |int i=>
  let(t,rfl):=d;cases y with
  |non=>cases a;calc PySem.EqNone.ne_int_none<|Qj I q ()
  |int j=>let(b,rfl):=a;calc ne_int<|Qj I q<|Zt not Gh
  |str j=>let(b,rfl):=a;calc PySem.EqMixed.ne_int_str<|Qj I q ()
  |_=>calc Zn (show 7=6 from c) Zj
 |str i=>
  let(t,rfl):=d;cases y with
  |non=>cases a;calc PySem.EqNone.ne_str_none<|Qj I q ()
  |bl j=>cases a;calc PySem.EqMixed.ne_str_bool<|Qj I q ()
  |int j=>let(b,rfl):=a;calc PySem.EqMixed.ne_str_int<|Qj I q ()
  |str j=>let(b,rfl):=a;calc ne_str<|Qj I q<|Zt not Gj
  |_=>calc Zn (show 7=6 from c) Zj
 |byt i=>
  let(t,rfl):=d;cases y with
  |byt j=>let(b,rfl):=a;calc W.ne_bytes<|Qj I q<|Zt not Gk
  |_=>calc Zn c Zj
 |_=>cases y<;>exact Zn (show 7=6 from c) Zj
def Qi(b) (h:a ≠ .In:=by decide)(c:a ≠ .NotIn:=by decide):behindInMarks a b=7:=by
 cases b<;>first|rfl|(show(_&&(_||_)&&_)=7;simp_all)
def kq(t:TE):TT:=λZ H Q=>t Z H λx a=>∃k,x=.bl k/\Q k a
def Dl  (f:yj X (compareOp d) r)(g:PE X a i)(j:PE X b l)(m:behindInMarks d b=7):PT X (.Compare a [d] [b] n) (kq<|kt r i l):=by
 intro Y s Z H Q I h;refine wpAny_isTrue_Compare1 (jS (g Y s Z H _ I h) λv o=>j8 λx p=>jC λq t w=>jS (j Y o Z p _ q w) λu A=>j8 λy B=>jC λC E F=>
  jS (f Y A Z B x y v u _ C t E F) λc N(z,G,J,L,k,e,M)=>?_) m
 subst e;cases L;exact wpAny_truthy_bool (G,J,M)
def XR:(sizeLine:5)<2^63:=by decide
def O3:yj X (binaryOp .Add) λx y H Q=>∃i j,x=.str i/\y=.str j/\i.length+j.length<=sizeLine/\Q (.str<|i++j) H:=by
 intro Y s Z H x y v u Q I a b h;let(i,j,rfl,rfl,c,q):=h;let(t,rfl):=a;let(d,rfl):=b;exact add_str (λd e=>(.str<|i++j,H,I.tok _,(_,9),q)) c
def K2  (r:j1 [x] a):∃u,a=[u]/\j4 x u:=by
 cases r with
 |cons b c=>cases c;exact(_,9,b)
def ZT  (r:j1 [x,y] b):∃u a,b=[u,a]/\j4 x u/\j4 y a:=by
 cases r with
 |cons c d=>
  cases d with
  |cons e f=>cases f;exact(_,_,9,c,e)
def O4(c:X.calm=6):qq X (.builtin "max") λb H Q=>∃i j,b=[.int i,.int j]/\Q (.int<|if j>i then j else i) H:=by
 intro Y s Z H b d Q I r h;let(i,j,rfl,q):=h;let(u,e,rfl,(t,rfl),(f,rfl)):=ZT r;calc max_two_ints (I.ok.hd c) λg l k=>(_,H,I.kept k,?_,q);by_cases a:j>i
 .rw[Zd a,Zd a];exact(_,9)
 .rw[Ze a,Ze a];exact(_,9)
def O5(c:X.calm=6):qq X (.builtin "min") λb H Q=>∃i j,b=[.int i,.int j]/\Q (.int<|if j<i then j else i) H:=by
 intro Y s Z H b d Q I r h;let(i,j,rfl,q):=h;let(u,e,rfl,(t,rfl),(f,rfl)):=ZT r;calc min_two_ints (I.ok.hd c) λg l k=>(_,H,I.kept k,?_,q);by_cases a:j<i
 .rw[Zd a,Zd a];exact(_,9)
 .rw[Ze a,Ze a];exact(_,9)
def O6:qq X (.type "str") λa H Q=>∃i,a=[.int i]/\i.natAbs.log2<1920/\Q (.str<|toString i) H:=by
 intro Y s Z H a c Q I r h;let(i,rfl,b,q):=h;let(u,rfl,t,rfl):=K2 r;exact PySem.P.str_of_int b (.str _,H,I.tok _,(_,9),q)
structure ObjM(h:Heap)(x dx C:Addr)(mA:Yd):4 where
 obj:h.get? x=! W.instObj C dx
 ns:h.Ns1 dx mA
 ne:dx≠x
def O7{h:Heap} {mA:Yd}(n:h.Ns1 f mA):∃d,h.get? f=!d/\∀b,W.lookIn b d=! mA b:=by
 let(o g p,i,j,l,_,m):=n;calc(o,i,λb=>?_);let e:=m b;unfold nsFind findBy at e;rw[<-Array.find?_toList]at e;unfold W.lookIn;rw[j];dsimp only
 split
 .simp_all
 .let a:g.toList.any (·.refKey)=7:=by
   rw[List.any_eq_false];intro y q;have(z,t,c):=l y ();simp[DictEntry.refKey,c]
  simp_all
def ObjM.look  {mA:Yd}(I:ObjM h x f C mA):∃e,W.InstAt h x (W.instObj C f) C !e/\∀c,W.lookIn c e=! mA c:=
 let(e,ho,hl):=O7 I.ns
 (e,(I.obj,9,9,ho),hl)
section
variable      {K:W.Frag}  {mA:Yd}
def O8  (X:K.In s.heap)(I:ObjM s.heap x j C mA)
 (m:W.findIn K (.ref C) "__setattr__"=! ! .builtin "object.__setattr__")(n:W.plainOver K C=6)(o:W.takerIn K C a=!8)(p:W.hasDictIn K C=6)
 (q:PySem.Within mA r)(t:r.length<=sizeLine)
 (h:∀e,ObjM e x j C (λy=>if y=a then !v else mA y)->Heap.SameBut j s.heap e->Q Yq {s with heap:=e,toks:=s.toks+2}):
 YF l w A (setAttr (.ref x) a v) Q E s:=by
 let(G,J,H):=I.look;calc W.set_plain X J m<|W.osa_open X J n o λb=>?_;let(L,u,f):=W.any_some p;calc Za<|Zb<|Za<|Za<|wpAny_loadPart I.obj<|Za<|W.Looks.here (W.looks_clsIn X u) ?_;rw[f];calc Zb<|Za<|Zb<|Za<|wpAny_nsSet1 I.ns λe c d=>?_;let(M z B,g,i,F):=c.count (PySem.Within.cons a v q);exact Za<|wpAny_lookBehind g (by rw[i];calc pastItsLine_dict ())<|Zb<|h _ ((d.2 _<|Ne.symm I.ne).trans I.obj,c,I.ne) d
end
noncomputable def xu(f:Str)(v:V):List (Str×V)->List (Str×V)
 |[]=>[%[f|v]]
 |%[g|x]::r=>if g=f then%[g|v]::r else%[g|x]::xu f v r
theorem Gm(f g)(v):∀fs:List (Str×V),(xu f v fs).lookup g=if g=f then !v else fs.lookup g
 |[]=>by
  show List.lookup g [%[f|v]]=_
  grind
 |%[k|x]::r=>by
  let a:=Gm f g v r;rw[show xu f v (%[k|x]::r)=if k=f then%[k|v]::r else%[k|x]::xu f v r from 9]
  grind
theorem Dm(f)(v):∀fs:List (Str×V),f∈(xu f v fs).map (·.1)/\∀g,g∈fs.map (·.1)->g∈(xu f v fs).map (·.1)
 |[]=>(by simp[xu],())
 |%[k|x]::r=>by
  have(a,b):=Dm f v r;rw[show xu f v (%[k|x]::r)=if k=f then%[k|v]::r else%[k|x]::xu f v r from 9]
  grind
theorem Gn(f)(v):∀fs:List (Str×V),(xu f v fs).length<=fs.length+1
 |[]=>by simp[xu]
 |%[k|x]::r=>by
  let a:=Gn f v r;rw[show xu f v (%[k|x]::r)=if k=f then%[k|v]::r else%[k|x]::xu f v r from 9]
  grind
def xg  (r:xM (!v) o):∃u,o=!u/\j4 v u:=by
 cases o with
 |none=>calc(r).elim
 |some u=>exact(u,9,r)
def Dn(b:xp P w H h)(e:H a=! .ins C c fs):∃mA,ObjM h a c C mA/\(∀f,xM (fs.lookup f) (mA f))/\PySem.Within mA (fs.map (·.1))/\fs.length<=1000/\H c=! .own a:=by
 let(!d,z,ne,g,(mA,n,r,q)):=show yq P w H h a (.ins C c fs)from b a _ e;exact(mA,(g,n,ne),r,q,z,d)
structure Cls(K:W.Frag)(C:Addr):4 where
 pg:W.plainGet K C Str.empty=6
 hd:W.hasDictIn K C=6
 po:W.plainOver K C=6
 sa:W.findIn K (.ref C) "__setattr__"=! ! .builtin "object.__setattr__"
def Cls.get{K:W.Frag} (c:Cls K C)(f):W.plainGet K C f=6:=c.pg
def vV(K:W.Frag)(C:Addr)(f:Str):4:=W.findIn K (.ref C) f=!8
def vV.taker{K:W.Frag}  (n:vV K C f):W.takerIn K C f=!8:=by
 unfold W.takerIn;rw[n];rfl
section
variable   {Z: St}
def O9  (I:Inv X Y Z H s)(e:H a=! .ins C o fs)(c:Cls X.K C)(n:vV X.K C f)(l:fs.lookup f=!v)
 (h:∀u g,Inv X Y Z H g->j4 v u->Q u g):wpAny (model X.prog X.w) A (getAttr (.ref a) f b) Q E s:=by
 let(-mA,O,r,_,_,_):=Dn I.hok e;let(u,j,d):=xg (by rw[<-l];calc r f);let(p,J,m):=O.look;exact W.get_value I.kIn J (W.plainGet_of<|c.get f).1 (W.findObj_own c.hd n 9<|by rw[m,j]) (by
  cases v with
  |non=>cases d;rfl
  |bl b=>cases d;rfl
  |int i=>have(t,e):=d;cases e;rfl
  |str x=>have(t,e):=d;cases e;rfl
  |byt b=>have(t,e):=d;cases e;rfl
  |flt b=>have(t,e):=d;cases e;rfl
  |ref a=>cases d;rfl
  |ty n=>cases d;rfl)<|h u _ (I.tok _) d
def OA   (I:Inv X Y Z H s)(e:H a=! .ins C i fs)(c:Cls X.K C)(n:vV X.K C f)(B:fs.length<1000)(F:j4 y u)
 (h:∀j,Inv X Y Z (jD H a<|.ins C i<|xu f y fs) j->Q Yq j):wpAny (model X.prog X.w) A (setAttr (.ref a) f u) Q E s:=by
 let(-mA,O,r,wi,_,l):=Dn I.hok e;let m:(fs.map (·.1)).length<=sizeLine:=by rw[Zql,sizeLine_eq];lia
 calc O8 I.kIn O c.sa c.po n.taker c.hd wi m λp d t=>h _ ?_;let v:∃o,p.get? i=!o:=let(o,_,_,e',_):=d.ns;(o,e')
 refine I.write (by rw[e];calc True.intro) (.inr l) (λb q w z=>(t.2 b w).trans z) v (by rwa[JI O.ne],?_,O.ne,d.obj,_,d.ns,λg=>?_,λg x=>?_)
 .let:=Gn f y fs;lia
 .rw[Gm];by_cases q:g=f
  .rwa[Zd q,Zd q]
  simp_all
 .by_cases q:g=f
  .rw[q];exact(Dm f y fs).1
  .refine(Dm f y fs).2 g<|wi g λz=>x ?_
   simp_all
def Inv.made(I:Inv X Y Z H s):Inv X Y Z (jD (jD H s.heap.objs.size<|.own<|s.heap.objs.size+1) (s.heap.objs.size+1)<|.ins C s.heap.objs.size [])
 {s with heap:=(s.heap.push W.emptyDict).push (W.instObj C s.heap.objs.size)}:=by
 let c:(s.heap.push W.emptyDict).get? s.heap.objs.size=!W.emptyDict:=Zr s.heap 9;let f:((s.heap.push W.emptyDict).push<|W.instObj C s.heap.objs.size).get? (s.heap.objs.size+1)=! W.instObj C s.heap.objs.size:=by
  let:=Zr (s.heap.push W.emptyDict) (o:=W.instObj C s.heap.objs.size) 9
  simp_all
 let i:(s.heap.push W.emptyDict).Ns s.heap.objs.size λ_=>8:=(W.emptyDict,#[],_,c,9,λe j=>Zn j (),λ_=>9);calc(I.laid (o:=.own<|s.heap.objs.size+1) (t':=s.toks) (λb u q=>Zq _ q) (Zf _) (_,c)).laid (λb u q=>Zq _ q) () ?_;let ne:s.heap.objs.size≠s.heap.objs.size+1:=()
 refine(by rw[JI ne,JL],Uc _,ne,f,λ_=>8,(Heap.Ns1.of_empty i).at λo q=>Zq _ q,λ_=>True.intro,λy l=>Zn 9 l)
end
def nX(K:W.Frag)(c:TE)(f:Str):TE:=λZ H Q=>c Z H λx b=>∃a C d fs v,x=.ref a/\b a=! .ins C d fs/\Cls K C/\vV K C f/\fs.lookup f=!v/\Q v b
def rm(K:W.Frag)(d e:TE)(f:Str):TS:=λD Z H=>e Z H λy g=>d Z g λx b=>∃a C c fs,x=.ref a/\b a=! .ins C c fs/\Cls K C/\vV K C f/\fs.length<1000/\
 D.nx Z (jD b a<|.ins C c<|xu f y fs)
def OB(b:PE X e d)(g:attributeBase e f X.env (eval e X.env)=eval e X.env):PE X (.Attribute e f i) (nX X.K d f):=by
 intro Y s Z H Q I h;calc(Attribute_any_ (jS (b Y s Z H _ I h) λu y(x,j,m,o,a,C,z,fs,v,p,r,c,n,l,q)=>?_)<|by rw[arm_eval_Attribute,g]);subst p;obtain rfl:=o;exact O9 m r c n l λA B t w=>(v,j,t,w,q)
def OC(g:PE X o i)(j:PE X b m)(p:swapsWith b (! .Attribute o f d) e.line X.env=pure 7):PS X (.Assign [.Attribute o f d] b e) (rm X.K i m f):=by
 intro Y s Z H D I h;calc plainObj_wpAny_Assign_Attribute (jS (j Y s Z H _ I h) λu r=>j8 λy t=>jC λv w q=>jS (g Y r Z t _ v q) λJ L(x,M,z,A,a,C,N,fs,B,E,c,n,l,F)=>?_) p;subst B;obtain rfl:=A;exact OA z E c n l w λO G=>(Z,_,G,F)
section
variable   {Z: St}
inductive TyOf(K:W.Frag)(H:Hp):V->Value->Prop where
 |non:TyOf K H .non (.type "NoneType")
 |bl(x:Bool):TyOf K H (.bl x) (.type "bool")
 |int(i:Int):TyOf K H (.int i) (.type "int")
 |str(x:Str):TyOf K H (.str x) (.type "str")
 |flt(x:UInt64):TyOf K H (.flt x) (.type "float")
 |lst{a:Addr}{xs:YB}(e:H a=! .lst xs):TyOf K H (.ref a) (.type "list")
 |frz{a:Addr}{o:Obj}{xs:YB}(e:H a=!(.frz o<|.lst xs)):TyOf K H (.ref a) (.type "list")
 |tup{a:Addr}{xs:YB}(e:H a=! .tup xs):TyOf K H (.ref a) (.type "tuple")
 |dK{a:Addr}{kvs:List (jT×V)}(e:H a=! .dK kvs):TyOf K H (.ref a) (.type "dict")
 |dT{a:Addr}{kvs:List (List jT×V)}(e:H a=! .dT kvs):TyOf K H (.ref a) (.type "dict")
 |ins{a C dx:Addr}{fs:List (Str×V)}(e:H a=! .ins C dx fs)(cl:Cls K C)(ha:W.findIn K (.ref C) "__class__"=! ! .builtin "object.__class__")
  (hn:W.specialIn K (.builtin "object.__class__") "__get__"=! ! .builtin "getset_descriptor.__get__")(htk:W.takesIn K (.builtin "object.__class__")=!true)
  (hm:W.mroIn K C (.type "object")=!true):TyOf K H (.ref a) (.ref C)
def OD  (I:Inv X Y Z H s)(d:j4 x u)(w:TyOf X.K H x t)(e:W.kitOne X.K t c=!b)(h:∀B,Q (.bool b) {s with toks:=B}):
 wpAny (model X.prog X.w) A (call (.builtin "isinstance") [u,c]) Q E s:=by
 cases w with
 |non=>cases d;calc W.kia_one W.kitx_none I.kIn True.intro e (λz=>nomatch z) h
 |bl y=>cases d;calc W.kia_one W.kitx_bool I.kIn True.intro e (λz=>nomatch z) h
 |int i=>have(t,q):=d;cases q;calc W.kia_one W.kitx_int I.kIn True.intro e (λz=>nomatch z) h
 |str y=>have(t,q):=d;cases q;calc W.kia_one W.kitx_str I.kIn True.intro e (λz=>nomatch z) h
 |flt y=>have(t,q):=d;cases q;calc W.kia_one W.kitx_float I.kIn True.intro e (λz=>nomatch z) h
 |@lst a l f=>
  cases d;let(_,_,n,_,g):=I.hok a _ f;calc W.kia_one W.kitx_list I.kIn (_,g,9) e (λz=>nomatch z) h
 |@frz a P l f=>
  cases d;let(_,_,_,n,_,g):=I.hok a _ f;calc W.kia_one W.kitx_list I.kIn (_,g,9) e (λz=>nomatch z) h
 |@tup a l f=>
  cases d;let(_,_,_,p):=I.hok a _ f;let(o,g,j,_):=p;calc W.kia_one W.kitx_tuple I.kIn (o,g,j) e (λz=>nomatch z) h
 |@dK a m f=>
  cases d;let(_,_,R,_,p):=I.hok a _ f;let(o F G,g,j,_):=p;calc W.kia_one W.kitx_dict I.kIn (o,g,j.1) e (λz=>nomatch z) h
 |@dT a m f=>
  cases d;let(_,_,l,_,o,F,G,g,j,_):=I.hok a _ f;calc W.kia_one W.kitx_dict I.kIn (o,g,j.1) e (λz=>nomatch z) h
 |@ins a C S fs f v L M r N=>
  cases d;let(-mA,O,_):=Dn I.hok f;let(T,J,_):=O.look;exact W.kia_one (W.kitx_own (v.get _) v.hd L M r N) I.kIn J e (λz=>nomatch z) h
end
structure Room(k:5)(A:Around):4 where
 hd:A.handled=8
 dp:A.depth+03*k+05<recursionLimit
 un:A.units+16*k+200<cLine
def Room.mono  (r:Room k A)(h:j<=k):Room j A:=(r.hd,by let:=r.dp;lia,by let:=r.un;lia)
theorem Room.deeper  (r:Room (k+1) A)(c):Room k (A.deeper c):=
 (r.hd,by let:=r.dp;show A.depth+1+03*k+05<_;lia,by let:=r.un;show A.units+03+16*k+200<_;lia)
def OE{A:Around}   :(A.under<|.builtin "type.__call__" (.ref C::a,b)).depth=A.depth+1:=by
 rfl
def OF{A:Around}   :(A.under<|.builtin "type.__call__" (.ref C::a,b)).units=A.units+1:=by
 rfl
def Room.make  (r:Room (k+1) A)(C)(c)(e):Room k (A.under<|.builtin "type.__call__" (.ref C::c,e)):=
 (r.hd,by let:=r.dp;rw[OE];lia,by let:=r.un;rw[OF];lia)
theorem Room.depth  (r:Room k A):A.depth<recursionLimit:=by let:=r.dp;lia
theorem Room.units  (r:Room k A):A.units+64<cLine:=by let:=r.un;lia
def uq:TA:=λ_ H Q=>Q [] H
def Dp(a:TE)(b:TA):TA:=λZ H Q=>a Z H λx c=>b Z c λd e=>Q (x::d) e
section
variable     {t:TA}
def VZ:PA X [] uq:=λ_ _ _ _ H Q I h=>Calls.spliced_nil ([],H,I,.nil,h)
def Wa(c:PE X e d)(f:PA X a t)(g:starEach (e::a) X.env=%[7|eval e X.env]::starEach a X.env:=by rfl):PA X (e::a) (Dp d t):=by
 intro b Y s Z H Q I h;rw[g];exact Calls.spliced_cons<|jS (c Y s Z H _ I h) λu i=>j8 λx j=>jC λl m n=>jS (f b Y i Z j _ l n) λw y=>j8 λo p=>jC λq r v=>(x::o,p,q,.cons m r,v)
def nP(t:TA):TE:=λZ H Q=>t Z H λa b=>a.length<=sizeLine/\∀p,b p=8->Q (.ref p) (jD b p<|.tup a)
def nT(t:TA):TE:=λZ H Q=>t Z H λa b=>a.length<=sizeLine/\∀p,b p=8->Q (.ref p) (jD b p<|.lst a)
def Go (h:PA X f t):PE X (.Tuple f m a) (nP t):=λY s Z H Q I g=>wpAny_Tuple_spliced<|jS (h a Y s Z H _ I g) λi c=>j8 λj l=>xm λd r z q=>(by rwa[<-r.length],(.ref c.heap.objs.size,jD l c.heap.objs.size<|.tup j,d.laid (λb u e=>Zq _ e) (Zf _)<|((z,(_,Zr _ 9,9)),i,r,(_,Zr _ 9,9,_,9)),9,q _<|d.hok.fresh<|Zf _))
def Dq(h:PA X f t):PE X (.List f a) (nT t):=λY s Z H Q I g=>wpAny_List_spliced<|jS (h a Y s Z H _ I g) λi c=>j8 λj l=>xm λd r z q=>(by rwa[<-r.length],(.ref c.heap.objs.size,jD l c.heap.objs.size<|.lst j,d.laid (λb u e=>Zq _ e) (Zf _) (z,i,0,r,Zr _ 9),9,q _<|d.hok.fresh<|Zf _))
end
abbrev Sp:=YB->Hp->VK->XK->4
abbrev uF:=List Env->Hp->Shared->XK->Ya
structure Env0(P:Program)(w:World)(K:W.Frag)(mg:Yd)(base:Heap)(A:Around)(outer:List Env)(s:Shared)(H:Hp):4 where
 frames:A.frames=!outer
 mod:Mod K mg base
 bs:∀b o,base.get? b=!o->s.heap.get? b=!o/\H b=8
 bsz:base.objs.size<=s.heap.objs.size
 funs:s.heap.FunFrames base outer
 frf:∀b∈frs outer,H b=8
 hok:xp P w H s.heap
 bare:AllBare s.gens
def CE(a:List Env)(P:Program)(w:World)(H:Hp)(s:Shared)(Q:VK)(u:Value)(b:Shared):4:=
 ∃v c,b.os=s.os/\AllBare b.gens/\Un (frs a) [] H c s.heap b.heap/\xp P w c b.heap/\j4 v u/\Q v c
def CR(c:uF)(a:List Env)(P:Program)(w:World)(H:Hp)(s:Shared)(Q:VK)(E:XK)(r:Result)(b:Shared):4:=
 match r with
 |.ok (.ret u)=>CE a P w H s Q u b
 |.ok _=>False
 |.error e=>c a H s E e b
structure FnOk(P:Program)(w:World)(K:W.Frag)(mg:Yd)(base:Heap)(CX:uF)(k:5)(f:Addr)(fd:FuncData)(ps:Yi)(sp:Sp):4 where
 len:∀vs H Q E,sp vs H Q E->vs.length=ps.length
 run:∀(A:Around)(outer:List Env)(s:Shared)(H:Hp)(args:Args)(us:Ye)(vs:YB)(Q:VK)(E:XK),Room k A->Env0 P w K mg base A outer s H->BindsTo s fd args (ps.zip us)->j1 vs us->sp vs H Q E->
  codeAny (model P w) A (.call (.ref f) args) (CR CX outer P w H s Q E) s
theorem FnOk.mono  {K:W.Frag}        (F:FnOk P w K l e n j f o p q)(h:j<=k):
 FnOk P w K l e n k f o p q:=(F.len,λA c s H i r u Q E v=>F.run A c s H i r u Q E<|v.mono h)
def FnOk.imp  {K:W.Frag}        (F:FnOk P w K n i o k f p r u)
 (h:∀e H Q E,l e H Q E->u e H Q E):FnOk P w K n i o k f p r l:=
 (λe H Q E q=>F.len e H Q E<|h _ _ _ _ q,λA c s H j v e Q E x y z B G=>F.run A c s H j v e Q E x y z B<|h _ _ _ _ G)
def Env0.make  {K:W.Frag}      (e:Env0 P w K i f A c s H)(C)(j)(l):
 Env0 P w K i f (A.under<|.builtin "type.__call__" (.ref C::j,l)) c s H:=(by first|calc e.frames|(simpa using e.frames),e.mod,e.bs,e.bsz,e.funs,e.frf,e.hok,e.bare)
section
variable   {Z: St}
def Inv.env0(I:Inv X Y Z H s):Env0 X.prog X.w X.K X.mg X.base X.A X.stack s H:=
 (I.ok.frames,I.ok.mod,I.bs,Zh I.ok.bsz I.sz,I.stack,I.stkFree,I.hok,I.bare)
def Inv.after  (I:Inv X Y Z H s)(h:CE X.stack X.prog X.w H s Q u e):EP X Y Z Q u e:=by
 let(v f,os,bare,un,c,r,q):=h;let(j,g,d,t,i):=e;obtain rfl:=os;exact(v,f,I.call un c bare<|λb z=>Zn z (),r,q)
end
def Dr(b:Sp)(a:YB)(E:XK)(t:TA):TE:=λZ H Q=>t Z H λc d=>b (c++a) d Q E
def tS(C:Addr)(d:Sp)(b:YB)(E:XK)(t:TA):TE:=λZ H Q=>t Z H λe c=>∀x a,c x=8->c a=8->a≠x->
 d (.ref x::(e++b)) (jD (jD c a<|.own x) x<|.ins C a []) (λv f=>v=.non/\Q (.ref x) f) E
def vo(K:W.Frag)(d:FuncData)(b:Yi)(c:Ye):4:=
 ∀(s:Shared)(a:Ye),K.In s.heap->(a++c).length=b.length->BindsTo s d (a,[]) (b.zip<|a++c)
def vo.all{K:W.Frag}  (h:∀c:Ye,c.length=e.length->bindArgs i (c,[])=pure (e.zip c)):vo K i e []:=λs c _ f=>by
 rw[ZA]at f ⊢;exact .of_eq<|h c f
def ZU(b:uF)(X:Cx)(E:XK):4:=∀(Y:Yb)(Z:St)(H:Hp)(s:Shared)(e:Value)(a:Shared),Inv X Y Z H s->b X.stack H s E e a->X.xe e a
def OG {Z:St}     (F:FnOk X.prog X.w X.K X.mg X.base l k f m g n)(o:Room k X.A)(p:vo X.K m g d)(q:j1 a d)(t:ZU l X E)
 (I:Inv X Y Z H s)(r:j1 i b)(h:n (i++a) H Q E):YE X (call (.ref f) b) (EP X Y Z Q) X.xe s:=by
 let j:=r.append q;let v:(b++d).length=g.length:=by rw[<-j.length];exact F.len _ _ _ _ h
 calc wpAny_call<|codeAny_mono (F.run X.A X.stack s H (b,[]) (b++d) (i++a) Q E o I.env0 (p s b I.kIn v) j h) λr w c=>?_;cases r with
 |error e=>calc t Y Z H s e w I c
 |ok x=>
  cases x with
  |ret u=>calc I.after c
  |next=>calc False.elim c
  |brk=>calc False.elim c
  |cont=>exact False.elim c
def Gp(F:FnOk X.prog X.w X.K X.mg X.base j k f l m n)(o:Room k X.A)(u:Gl X x)(v:X.mg x=! .ref f)(w:W.keepIn X.K (.ref f)=6)(y:vo X.K l m z)(A:j1 c z)(B:ZU j X E)
 (C:PA X (e::b) t)(d:(x==("__debug__":Str))=7:=by decide)(G:starEach (e::b) X.env=%[7|eval e X.env]::starEach b X.env:=by rfl)(g:(backTo a<|starEach b X.env).any (·.1)=7:=by rfl):
 PE X (.Call (.Name x p) (e::b) [] a) (Dr n c E t):=by
 intro Y s Z H Q I h;exact wpAny_Call_Name_kw<|XM I u v (W.callWith_K I.ok.mod.kin w (jS (C a Y s Z H _ I h) λJ L=>j8 λM N=>jC λi r q=>(i.kIn,OG F o y A B i r q)) G g) d
structure Mk(K:W.Frag)(C f:Addr):4 where
 makes:W.makesIn K C=6
 init:W.findIn K (.ref C) "__init__"=! ! .ref f
 fn:W.isFn K (.ref f)=6
 kp:W.keepIn K (.ref C)=6
def OH {Z:St}     (M:Mk X.K C f)(F:FnOk X.prog X.w X.K X.mg X.base p k f q l t)(w:Room (k+1) X.A)(y:vo X.K q l g)(z:j1 c g)
 (A:ZU p X E)(I:Inv X Y Z H s)(r:j1 m b)
 (h:∀x i,H x=8->H i=8->i≠x->t (.ref x::(m++c)) (jD (jD H i<|.own x) x<|.ins C i []) (λv B=>v=.non/\Q (.ref x) B) E):
 YE X (call (.ref C) b) (EP X Y Z Q) X.xe s:=by
 let n:=h (s.heap.objs.size+1) s.heap.objs.size (I.hok.fresh<|Nat.le_succ _) (I.hok.fresh<|Zf _)<|Zi<|UG _;let j:=Inv.made (C:=C) I;let o:j1 (V.ref (s.heap.objs.size+1)::(m++c)) (Value.ref (s.heap.objs.size+1)::(b++g)):=.cons 9<|r.append z;let G:(Value.ref (s.heap.objs.size+1)::b++g).length=l.length:=by
  let e:=o.length;rw[F.len _ _ _ _ n]at e;exact e.symm
 refine wpAny_call<|W.make_core (W.makes_of I.kIn M.makes) (W.looks_findIn I.kIn M.init) (λd=>W.bind_fn I.kIn d<|Yp.mp M.fn) (.inl 9)<|codeAny_mono (F.run _ X.stack _ _ (Value.ref (s.heap.objs.size+1)::b,[]) (Value.ref (s.heap.objs.size+1)::(b++g)) _ _ E (w.make C b [])
  (j.env0.make C b []) (y _ (Value.ref (s.heap.objs.size+1)::b) j.kIn G) o n) λr J a=>?_
 cases r with
 |error e=>calc A Y Z _ _ e J j a
 |ok L=>
  cases L with
  |ret u=>
   let(v N,O,P,R,S):=j.after a;subst R;calc(P,(V.ref<|s.heap.objs.size+1,N,O,9,S))
  |next=>calc False.elim a
  |brk=>calc False.elim a
  |cont=>exact False.elim a
structure FnScope(N P:Yi)(sc:Scope):4 where
 kind:sc.kind=.function
 co:sc.isCoroutine=7
 gen:sc.isGenerator=7
 nd:N.Nodup
 pre:N.take P.length=P
 par:∀x∈P,sc.names.lookup x=!.local\/sc.names.lookup x=!.cell
 nofree:∀y∈sc.names,y.2 ≠ .free
theorem Gq{kindOf:Str->Option NameKind} :∀{binds:List (Str×Value)}{m:Yd},(∀v,%[x|v]∉binds)->bindL kindOf binds m x=m x
 |[],_,_=>9
 |%[n|v]::r,m,h=>by
  unfold bindL;rw[Gq ()]
  split
  .grind
  .rfl
theorem Gr{kindOf:Str->Option NameKind} :∀{binds:List (Str×Value)}{m:Yd},(∀v,%[x|v]∉binds)->bindC kindOf binds m x=m x
 |[],_,_=>9
 |%[n|v]::r,m,h=>by
  unfold bindC;rw[Gr ()]
  split
  .rfl
  grind
theorem Gs{kindOf:Str->Option NameKind}  :∀{P:Yi}{a:Ye}{i:5}{m:Yd},P.Nodup->P[i]?=!x->a[i]?=!v->kindOf x=!.local->
 bindL kindOf (P.zip a) m x=!v
 |[],_,_,_,_,h,_,_=>by simp at h
 |_::_,[],_,_,_,_,h,_=>by simp at h
 |p::P,w::a,0,m,nd,b,h2,hk=>by
  simp at b h2;subst b;subst h2;show bindL kindOf (%[p|w]::P.zip a) m p=_;unfold bindL;rw[Gq λv c=>(Jk.mp nd).1 (List.of_mem_zip c).1,Zd hk];simp
 |p::P,w::a,i+1,m,nd,b,h2,hk=>by
  show bindL kindOf (%[p|w]::P.zip a) m x=_;exact Gs () (by simpa using b) (by simpa using h2) hk
theorem Gu{kindOf:Str->Option NameKind}  :∀{P:Yi}{a:Ye}{i:5}{m:Yd},P.Nodup->P[i]?=!x->a[i]?=!v->kindOf x≠!.local->
 bindC kindOf (P.zip a) m x=!v
 |[],_,_,_,_,h,_,_=>by simp at h
 |_::_,[],_,_,_,_,h,_=>by simp at h
 |p::P,w::a,0,m,nd,b,h2,hk=>by
  simp at b h2;subst b;subst h2;show bindC kindOf (%[p|w]::P.zip a) m p=_;unfold bindC;rw[Gr λv c=>(Jk.mp nd).1 (List.of_mem_zip c).1,Ze hk];simp
 |p::P,w::a,i+1,m,nd,b,h2,hk=>by
  show bindC kindOf (%[p|w]::P.zip a) m x=_;exact Gu () (by simpa using b) (by simpa using h2) hk
def start(N:Yi)(a:YB):St:=a.map some++List.replicate (N.length-a.length) 8
noncomputable def qp(g:uF)(P:Program)(w:World)(K:W.Frag)(mg:Yd)(base:Heap)(N:Yi)(b:Str)(a:Scope)(f:Addr)(d:Value)(A:Around)(outer:List Env)(s:Shared)(H:Hp)(E:XK):Cx where
 prog:=P
 w:=w
 K:=K
 mg:=mg
 base:=base
 A:=A.deeper (envOfC b a s.heap.objs.size f d)
 N:=N
 s₀:=s
 H₀:=H
 env:=envOfC b a s.heap.objs.size f d
 outer:=outer
 stack:=envOfC b a s.heap.objs.size f d::outer
 ex:=[]
 calm:=6
 fn:=λ_=>6
 pn:=[]
 xe:=λe h=>wpAny (model P w) (A.deeper<|envOfC b a s.heap.objs.size f d) (leaving (envOfC b a s.heap.objs.size f d) e) (λ_ c=>g outer H s E e c) (λi c=>g outer H s E i c) h
def Gv{a:Scope}  (h:a.names.lookup x=!.cell):∃c,(cellsFrom n a.names []).lookup x=!c:=have q:=W.cellsFrom_some a.names n []<|.inl h;Ju.mp q
def OI   {K:W.Frag}
 (S:FnScope N m a)(O:A.handled=8)(j:Env0 P w K G l A d s H)(Y:B.length=m.length)(r:j1 B I)
 (x:InCallC s s.heap.objs.size (bindL (envOfC g a s.heap.objs.size f C).kindOf (m.zip I) λ_=>8) (cellsFrom (s.heap.objs.size+1) a.names []) (bindC (envOfC g a s.heap.objs.size f C).kindOf (m.zip I) λ_=>8) Q):
 Inv (qp R P w K G l N g a f C A d s H E) [] (start N B) H Q:=by
 let T:m.length<=N.length:=by let:=Zt List.length S.pre;grind
 let(F,Z,rfl,J):=x.done;let n:∀b:Addr,b∉(qp R P w K G l N g a f C A d s H E).ex:=λb z=>Zn (show b∈([]:Yj)from z) ();refine((j.mod,S.kind,9,9,Zf _,λy z c F L=>?_,λy hy=>?_,λy c _ h=>?_,λ_=>O,Around.frames_deeper j.frames,.inr (9,9),λb z=>Zn z<|n b,j.bs,j.bsz,λb _ _=>n b,(),j.funs,j.frf),
  9,j.bare,Un.kept J,(_,x.toInCall.ns,λi y v F L h3=>?_),λy c h=>(_,x.cell y c h),j.hok.fresh<|Zf _,λy c h=>?_,λp o=>Zn (show p∈([]:Yb)from o) (),j.hok.kept J,?_)
 .exact name_of_addr x.apart (PySem.mem_of_lookup F)<|PySem.mem_of_lookup L
 .let hy:=hy;rcases hy with hy|hy
  .exact Gv hy
  .exact Zn 9<|S.nofree _<|PySem.mem_of_lookup hy
 .exact Zz<|x.above y c<|PySem.mem_of_lookup h
 .let hi:i<B.length:=by
   grind[start,List.getElem?_replicate]
  let U:B[i]?=!v:=by
   grind[start,List.getElem?_map]
  have(u,M,X):=r.get U;let o:m[i]?=!y:=by
   rwa[<-S.pre,Vt ()]
  let t:m.Nodup:=by rw[<-S.pre];exact S.nd.sublist<|List.take_sublist _ _
  calc(u,X,?_);rcases S.par y (Uf o)with k|k
  .exact .inl (k,Gs t o M k)
  .let(c,e):=Gv k;calc .inr (.inl k,c,e,?_);let q:=x.cell y c e
   rwa[Gu t o M (by show a.names.lookup y≠_;simp_all)]at q
 .exact j.hok.fresh<|Zz<|x.above y c<|PySem.mem_of_lookup h
 .unfold start;show _=N.length
  simp_all
def Gw   {K:W.Frag}        {dV kV C pm g ct oc:Value}
 (lk:K.lookup f=!(oc,od,.func<|W.fnOf F d i l a dV kV C pm an g ct,osl))(R:W.codeIn K g d=6)(S:FnScope N T a)
 (len:∀j H Q E,sp j H Q E->j.length=T.length)
 (p:∀A c s H j Q E,Room k (A.deeper<|envOfC d a s.heap.objs.size f g)->sp j H Q E->
  ∃t,xh (qp U P w K X h N d a f g A c s H E) l t/\t {nx:=λ_ m=>Q .non m,rt:=Q} (start N j) H):
 FnOk P w K X h U (k+1) f (W.fnOf F d i l a dV kV C pm an g ct) T sp:=by
 calc(len,λA c s H args us j Q E Y G hb r L=>?_);let KX:=G.mod.kin.keeps λb o e=>(G.bs b o e).1;let z:∀y∈T.zip us,a.names.lookup y.1=!.local\/a.names.lookup y.1=!.cell/\((cellsFrom (s.heap.objs.size+1) a.names []).lookup y.1).isSome=6:=λ(n,v)hy=>by
  rcases S.par n (List.of_mem_zip hy).1 with q|q
  .exact .inl q
  .exact .inr (q,W.cellsFrom_some _ _ _<|.inl q)
 calc codeAny_call_function Y.depth (KX _ _ lk) 9 S.co S.gen 9 (W.codeRec_of KX R)<|hb _ _ _ _<|wpAny_newFunctionEnv_cells S.kind z λenv he s1 x=>?_;subst he;calc((G.mod.nolimit.keeps λb o e=>(G.bs b o e).1).keeps x.toInCall.keep,codeAny_func ?_);let(t,ht,hq):=p A c s H j Q E (Y.deeper _) L;let I:Inv (qp U P w K X h N d a f g A c s H E) [] (start N j) H s1:=OI S Y.hd G (len _ _ _ _ L) r x;calc Zc (ht [] s1 (start N j) H _ I hq) (λfl Z B=>?_) λe Z B=>B;let M:∀{O:St}{m:Hp}{v:V}{u:Value},Inv (qp U P w K X h N d a f g A c s H E) [] O m Z->j4 v u->Q v m->CE c P w H s Q u Z:=
  λ{O m v u}J rv q=>jI v m (J.os,J.bare,J.base,J.hok,rv,q)
 cases fl with
 |ret u=>
  let(v O m,J,rv,q):=B;calc M J rv q
 |next=>
  let(O,m,J,q):=B;calc M (v:=V.non) J 9 q
 |brk=>
  let(_,_,_,q):=B;calc False.elim q
 |cont=>
  let(_,_,_,q):=B;exact False.elim q
section
variable      {t:TA}{id T:String}{r:YB->Hp->VK->Prop}
def ut(r:YB->Hp->VK->4)(t:TA):TE:=λZ H Q=>t Z H λa b=>r a b Q
def ZV(f:qq X (.builtin id) r)(g:Gl X x)(i:X.mg x=8)(j:bootBuiltins x=! .builtin id)(l:PA X (e::b) t)(m:x ≠"__name__":=by decide)(c:(x==("__debug__":Str))=7:=by decide)
 (n:starEach (e::b) X.env=%[7|eval e X.env]::starEach b X.env:=by rfl)(d:(backTo a<|starEach b X.env).any (·.1)=7:=by rfl):PE X (.Call (.Name x p) (e::b) [] a) (ut r t):=λY s Z H Q I h=>wpAny_Call_Name_kw<|XN I g i j (PyProof.Rows.callWith_builtin1 (jS (l a Y s Z H _ I h) λo q=>j8 λu v=>jC λw y z=>f Y q Z v u o Q w y z) n d) m c
def Ds(f:qq X (.type T) r)(g:Gl X x)(i:X.mg x=8)(j:bootBuiltins x=! .type T)(l:PA X (e::b) t)(m:x ≠"__name__":=by decide)(c:(x==("__debug__":Str))=7:=by decide)
 (n:starEach (e::b) X.env=%[7|eval e X.env]::starEach b X.env:=by rfl)(d:(backTo a<|starEach b X.env).any (·.1)=7:=by rfl):PE X (.Call (.Name x p) (e::b) [] a) (ut r t):=λY s Z H Q I h=>wpAny_Call_Name_kw<|XN I g i j (PyProof.Rows.callWith_type1 (jS (l a Y s Z H _ I h) λo q=>j8 λu v=>jC λw y z=>f Y q Z v u o Q w y z) n d) m c
end
end L2
namespace HT
open PySem PyProof.Rows
def lexLt:Yf->List 3->Bool
 |[],[]=>7
 |[],_::_=>6
 |_::_,[]=>7
 |x::a,y::b=>if x=y then lexLt a b else decide (x<y)
theorem lexLt_cons(x y)(a b):lexLt (x::a) (y::b)=if x=y then lexLt a b else decide (x<y):=rfl
theorem lexLt_nil_nil:lexLt [] []=7:=rfl
def OJ(y)(a):lexLt [] (y::a)=6:=rfl
def OK(x)(a):lexLt (x::a) []=7:=rfl
def OL(A)(s)(a)(t)(c)(u):∃e,SeqAt.EqAt A s (.int a t) (.int c u) e/\(e=6↔a=c):=
 (a==c,SeqAt.EqAt.int_int a t c u,())
def OM(A)(s)(a)(t)(c)(u)(b)(w)(E)(Q)(h:Q (.bool<|decide<|a<c) s):
 YF b w A (richCompare .Lt (.int a t)<|.int c u) Q E s:=
 (PyProof.Rows.lt_int h:YF b w A (compareOp .Lt (.int a t)<|.int c u) Q E s)
section
open PySem.SeqAt
open PySem.AutoSeq1 (wpAny_loadPart')
open PySem.MeetsSeq PySem.MeetsSeq2 PySem.MeetsSeq3
def ON(l b:Addr)(i f:Yk)(n M:5)(N C:Option Addr)(O E:Array (Option Value))(F G:Yf)(P:IntsAre i.toList F)(Q:IntsAre f.toList G):
 Meets (Builtin.«tuple.__lt__» ([.ref l,.ref b],[]))
  λ_ R s=>s.heap.get? l=!{cls:=.type "tuple",dict:=N,data:=.seq i n,slots:=O}/\s.heap.get? b=!{cls:=.type "tuple",dict:=C,data:=.seq f M,slots:=E}/\
   R (.ok<|.ret<|.bool<|lexLt F G) s:=
 .of_wp λo w A R s h=>by
  let(r,g,d,v,os):=s;let(S,T,h):=h;let Z:=AutoSeq1.sub_tuple_tuple;let z1:i.size=F.length:=by rw[<-P.length];simp
  let z2:f.size=G.length:=by rw[<-Q.length];simp
  wp_walk using wpAny_loadPart' S,wpAny_loadPart' T,wpAny_forIn_list _ (λrest b H=>b.1=8/\H=(r,g,d,v,os)/\∃(z B:Ye)(j m:Yf),rest=z.zip B/\
   IntsAre z j/\IntsAre B m/\j.length+f.size=m.length+i.size/\R (.ok<|.ret<|.bool<|lexLt j m) (r,g,d,v,os)) _
  case turn=>
   rintro⟨y,x⟩ rest b H ⟨hb',rfl,z,B,j,m,hz,hvi,hwi,hlen,hR⟩;cases hvi with
   |nil=>rw[List.zip_nil_left]at hz;cases hz
   |cons a t J=>
    cases hwi with
    |nil=>rw[List.zip_nil_right]at hz;cases hz
    |cons c u L=>
     rw[Vu]at hz;injection hz with hyx hrest
     injection hyx with hy hx
     subst hy hx;rw[lexLt_cons]at hR;simp only[Zu]at hlen;let(e,U,p):=OL A.in1 (r,g,d,v,os) a t c u;calc Za<|U o w _ _ ?_;cases e with
     |true=>
      rw[Zd (p.mp 9)]at hR
      wp_walk
      calc()
     |false=>
      rw[Ze λq=>Zn (p.mpr q) Zj]at hR;let I:=OM A.in1 (r,g,d,v,os) a t c u o w
      wp_walk using I
      exact()
  case fin=>
   rintro⟨b1,b2⟩ H ⟨hb',rfl,z,B,j,m,hz,hvi,hwi,hlen,hR⟩;simp only at hb';subst hb';let X:lexLt j m=decide (i.size<f.size):=by
    cases hvi with
    |nil=>
     cases hwi with
     |nil=>
      simp only[ZC]at hlen;rw[lexLt_nil_nil];calc()
     |cons c u Y=>
      simp only[ZC,Zu]at hlen;rw[OJ];calc()
    |cons a t X=>
     cases hwi with
     |nil=>
      simp only[ZC]at hlen;rw[OK];calc()
     |cons c u Y=>
      cases hz
   wp_walk
   grind[Builtin.Tuple.tupleCompareSizes]
  grind
end
def lt_tupInts    (r:IsTup s.heap l c)(t:IsTup s.heap b a)(u:IntsAre c.toList j)(v:IntsAre a.toList m)
 (x:A.units<cLine)(h:Q (.bool<|lexLt j m) s):YF o w A (compareOp .Lt (.ref l)<|.ref b) Q E s:=by
 let((y,z,p,B),C,F,n,G):=id r;let((q,d,data2,e),f,g,H,i):=id t;subst F G g i;exact richCompare_meets_room (op:=.Lt) (_,C,9) (_,f,9) PySem.F.slot_tuple_lt PySem.F.entry_tuple_lt (PySem.F.args_tuple_lt_2 _ _) (ON l b c a n H z d B e j m u v)
  () x
def cat_tup   (u:IsTup s.heap t d.toArray)(v:IsTup s.heap b a.toArray)(x:d ≠[])
 (y:a=[]->Q (.ref t) s)(z:a ≠[]->Q (.ref s.heap.objs.size) {s with heap:=s.heap.push {cls:=.type "tuple",data:=.seq (d++a).toArray}})
 (B:d.length+a.length<=sizeLine):YF m w A (binaryOp .Add (.ref t)<|.ref b) Q E s:=by
 let((cls,o,data,p),h,C,n,F):=id u;let((q,f,data2,g),c,j,r,l):=id v;subst C F j l;let e:d.toArray++a.toArray=(d++a).toArray:=by simp
 by_cases i:a=[]
 .exact concat_meets (_,h,9) (_,c,9) noFill_tuple_add seq_tuple_add PySem.F.slot_tuple_add PySem.F.entry_tuple_add (PySem.F.args_tuple_add_2 _ _)
   (tuple_addW1 t b d.toArray a.toArray n r o f p g ()<|by simp[i]) (h,c,y i)
 .refine concat_meets (_,h,9) (_,c,9) noFill_tuple_add seq_tuple_add PySem.F.slot_tuple_add PySem.F.entry_tuple_add (PySem.F.args_tuple_add_2 _ _)
   (tuple_addW2 t b d.toArray a.toArray n r o f p g (by simpa using x) (by simpa using i) ()) (h,c,?_)
  rw[e];exact z i
end HT
namespace L2
abbrev TO:=St->Hp->(Option 3->Hp->4)->4
def PO(X:Cx)(e:Option Expr)(t:TO):4:=
 ∀(Y:Yb)(s:Shared)(Z:St)(H:Hp)(Q:Option 3->Hp->4),Inv X Y Z H s->t Z H Q->
  YE X (evalPart e X.env) (λu b=>∃o a,Inv X Y Z a b/\IsPart u o/\Q o a) X.xe s
def mr:TO:=λ_ H Q=>Q 8 H
def kr(t:TE):TO:=λZ H Q=>t Z H λx a=>∃i,x=.int i/\Q (!i) a
def OO :∀{a:Ye},j1 (b.map V.int) a->IntsAre a b:=by
 induction b with
 |nil=>intro a r;cases r;calc .nil
 |cons n b c=>
  intro a r;cases r with
  |cons d f=>
   let(t,e):=d;subst e;exact .cons n t<|c f
def OP(h:PE X e a):PO X (!e) (kr a):=by
 intro Y s Z H Q I b;calc jS (h Y s Z H _ I b) λu j=>j8 λx c=>jC λd f g=>?_;let(i,rfl,q):=g;let(t,rfl):=f;exact(!i,c,d,.int i t,q)
def kN(K:W.Frag):R2:=λx y H Q=>∃a b d c,x=.ref a/\y=.ref b/\zk K H a d/\zk K H b c/\d ≠[]/\d.length+c.length<=sizeLine/\
 (c=[]->Q (.ref a) H)/\(c ≠[]->∀p,H p=8->Q (.ref p) (jD H p<|.tup<|d++c))
def j1.nil_iff  (r:j1 c e):e=[]↔c=[]:=by
 cases r with
 |nil=>simp
 |cons _ _=>simp
def OQ:yj X (binaryOp .Add) (kN X.K):=by
 intro Y s Z H x y v u Q I f g h;let(a b t A,rfl,rfl,i,j,l,B,m,n):=h;cases f;cases g;let(o,d,p,_):=I.tuple i;let(e,c,r,_):=I.tuple j;calc HT.cat_tup p r (λz=>l<|d.nil_iff.mp z) (λz=>(.ref a,H,I,9,m<|c.nil_iff.mp z)) (λz=>(.ref s.heap.objs.size,_,I.laid (λb C q=>Zq _ q) (Zf _) ?_,9,n (λw=>z<|c.nil_iff.mpr w) _<|I.hok.fresh<|Zf _)) (by rwa[<-d.length,<-c.length]);exact(((),(_,Zr _ 9,9)),_,d.append c,IsTup.new _ _)
def wl(n:5)(i:3):Option 5:=if 0<=i then if i<n then !i.toNat else 8 else if-(n:3)<=i then !(i+n).toNat else 8
def xy{α:Type}(a:List α)(i:3):Option α:=(wl a.length i).bind λj=>a[j]?
def Gx   (h:wl n i=!j):seqIndex? i n=!j/\j<n/\-(n:3)<=i/\i<n:=by
 grind[wl,Zqi,seqIndex_of,seqIndex_neg]
def Dt    (h:xy a i=!v):∃j,seqIndex? i a.length=!j/\a[j]?=!v/\j<a.length/\-(a.length:3)<=i/\i<a.length:=by
 unfold xy at h;cases e:wl a.length i with
 |none=>simp_all
 |some j=>
  rw[e]at h;let(!b,c,d,f):=Gx e;exact(j,b,h,c,d,f)
def Xo(b:Expr):4:=∀o i,subscripted b 7 o i=operate [o,i] (getItem o i)
def zV(X:Cx)(r:R2):4:=
 ∀(b a:Expr)(Y:Yb)(s:Shared)(Z:St)(H:Hp)(x y:V)(v u:Value)(Q:VK),Inv X Y Z H s->j4 x v->j4 y u->r x y H Q->
  subscripted a 7 v u=operate [v,u] (getItem v u)->YE X (subscriptTail b a v u) (EP X Y Z Q) X.xe s
def tx(X:Cx)(id:String)(r:V->YB->Hp->VK->4):4:=
 ∀(Y:Yb)(s:Shared)(Z:St)(H:Hp)(x:V)(a:YB)(v:Value)(b:Ye)(Q:VK),Inv X Y Z H s->j4 x v->j1 a b->r x a H Q->
  YE X (call (.builtin id)<|v::b) (EP X Y Z Q) X.xe s
section
def zV.or (h:zV X r)(l:zV X n):zV X λx y H Q=>r x y H Q\/n x y H Q:=by
 intro c e Y s Z H x y v u Q I f i q j;rcases q with q|q
 .exact h c e Y s Z H x y v u Q I f i q j
 .exact l c e Y s Z H x y v u Q I f i q j
def XS (c:zV X r)(d:PE X a e)(f:PE X b g)(i:Xo b):PE X (.Subscript a b j) (kt r e g):=λY s Z H Q I h=>Subscript_<|u6 d f I h λv u l x y m n o p q=>c a b Y l Z m x y v u Q n o p q<|i _ _
def kM(K:W.Frag):R2:=λx y H Q=>∃p a i v,x=.ref p/\y=.int i/\xo K H p a/\xy a i=!v/\Q v H
def kL(K:W.Frag):R2:=λx y H Q=>∃p a i v,x=.ref p/\y=.int i/\zk K H p a/\xy a i=!v/\Q v H
def rE:R2:=λx y H Q=>∃z i c,x=.str z/\y=.int i/\z.length<=sizeLine/\xy z.cps.toList i=!c/\Q (.str ⟨#[c]⟩) H
def uW:zV X (kM X.K):=by
 intro b c Y s Z H x y v u Q I A B h l;let(p L i z,rfl,rfl,C,E,q):=h;cases A;let(t,rfl):=B;let(-d,r,e,M):=I.list C;let(-j,m,F,N,G,J):=Dt E;let(w,n,f):=r.get F;let O:=r.length;let P:=XR;let a:EP X Y Z Q w s:=(z,H,I,f,q);by_cases o:0<=i
 .let g:i.toNat=j:=by
   rw[seqIndex_of o J]at m
   simp_all
  exact item_listR e.isList o () (by rw[g];simpa using n) a l
 .let g:(i+(d.toArray.size:3)).toNat=j:=by
   rw[seqIndex_neg () G]at m
   simp_all
  exact subscriptTail_builtinR e.isList.typeIs slot_list_getitem.lookup
   (wpAny_getItem_list_neg e.isList () () () (by rw[g];simpa using n) (9,a)) l
def cD:zV X (kL X.K):=by
 intro a b Y s Z H x y v u Q I f g h l;let(p C i z,rfl,rfl,m,n,q):=h;cases f;let(t,rfl):=g;let(-o,r,e,E):=I.tuple m;let(-j,F,A,G,J,L):=Dt n;let(w,B,c):=r.get A;let M:=r.length;let N:=XR;let d:EP X Y Z Q w s:=(z,H,I,c,q);exact subscriptTail_builtinR e.typeIs slot_tuple_getitem.lookup
  (getItem_tuple (j:=j) e () () () (by simpa using B) (9,d)) l
def aV(K:W.Frag):R2:=λx y H Q=>kM K x y H Q\/kL K x y H Q\/rE x y H Q
def OR:zV X (aV X.K):=uW.or<|cD.or<|by
 intro a b Y s Z H x y v u Q I e f h g;let(z i c,rfl,rfl,r,l,q):=h;let(t,rfl):=e;let(w,rfl):=f;let(-j,d,m,A,n,o):=Dt l;let p:z.cps.toList.length=z.length:=by rfl
 rw[p]at d n o;let B:=XR;exact tail_any (typeIs_str s z t) slot_str_getitem.lookup (getItem_str (by
  grind) (by rw[d];simpa using m) (.str ⟨#[c]⟩,H,I.tok _,(_,9),q)) g
def OS(a:Ye)(n j)(u):Obj.mapSeq (·.setIfInBounds j u) {cls:=.type "list",data:=.seq a.toArray n}={cls:=.type "list",data:=.seq (a.set j u).toArray n}:=by
 simp[Obj.mapSeq]
theorem Inv.lst {Z:St}    (I:Inv X Y Z H s)(h:H p=! .lst f):
 ∃(c:Ye)(n:5),j1 f c/\s.heap.get? p=!{cls:=.type "list",data:=.seq c.toArray n}/\f.length<=sizeLine:=by
 let(z,c,n,r,e):=I.hok p _ h;exact(c,n,r,e,z)
def Inv.lstUpd {Z:St}    {i c:Ye}  (I:Inv X Y Z H s)(h:H p=! .lst z)
 (v:s.heap.get? p=!{cls:=.type "list",data:=.seq i.toArray n})(j:f {cls:=.type "list",data:=.seq i.toArray n}={cls:=.type "list",data:=.seq c.toArray l})(r:j1 o c)(x:o.length<=sizeLine)(t):
 Inv X Y Z (jD H p<|.lst o) {s with heap:=s.heap.update p f,toks:=t}:=by
 let e:(s.heap.update p f).get? p=!{cls:=.type "list",data:=.seq c.toArray l}:=by
  rw[Heap.get?_update_self f v (by rw[j]<;>rfl),j]
 exact I.write (by rw[h];trivial) (.inl 9) (λb u y q=>(Heap.get?_update_other _ _<|Ne.symm y).trans q) (_,e) (x,c,l,r,e)
def kK:V->V->V->Hp->(Hp->4)->4:=λo i v H Q=>∃p a k j,o=.ref p/\i=.int k/\H p=! .lst a/\wl a.length k=!j/\Q (jD H p<|.lst<|a.set j v)
def OT:tu X kK:=by
 intro Y s Z H o i v g l u Q I c ri d h;let(p m k j,rfl,rfl,b,e,q):=h;cases c;let(t,rfl):=ri;let(a n,r,f,w):=I.lst b;let(!x,y,z,A):=Gx e;let B:=r.length;let C:=XR;let E:=
  I.lstUpd b f (OS a n j u) (r.set d j) () s.toks
 grind[seqIndex_of,Zqi,W.ki_setAt,seqIndex_neg,W.ki_setBack]
def OU:qq X (.builtin "len") λf H Q=>∃p a,f=[.ref p]/\(xo X.K H p a\/zk X.K H p a)/\Q (.int a.length) H:=by
 intro Y s Z H f j Q I r h;let(p,a,rfl,hq,q):=h;let(u,rfl,g):=K2 r;cases g;let l:=XR;rcases hq with hq|hq
 .let(c,d,e,i):=I.list hq;let b:=d.length;exact Calls.call_len_list e.isList () (.int a.length,H,I.tok _,(s.toks+1,()),q)
 .let(c,d,e,i):=I.tuple hq;let b:=d.length;exact len_tuple e () (.int a.length,H,I.tok _,(s.toks+1,()),q)
def OV:qq X (.builtin "len") λa H Q=>∃z,a=[.str z]/\z.length<=sizeLine/\Q (.int z.length) H:=by
 intro Y s Z H a b Q I r h;let(z,rfl,c,q):=h;let(u,rfl,t,rfl):=K2 r;let d:=XR;exact len_str () (.int z.length,H,I.tok _,(_,9),q)
def qq.or  (h:qq X f r)(j:qq X f l):qq X f λc H Q=>r c H Q\/l c H Q:=by
 intro Y s Z H c e Q I i q;rcases q with q|q
 .exact h Y s Z H c e Q I i q
 .exact j Y s Z H c e Q I i q
def OW:qq X (.type "list") λz H Q=>∃p d,z=[.ref p]/\(xo X.K H p d\/zk X.K H p d)/\∀l,H l=8->Q (.ref l) (jD H l<|.lst d):=by
 intro Y s Z H z C Q I r h;let(p,d,rfl,hq,q):=h;let(u,rfl,B):=K2 r;cases B;let i:∀a,j1 d a->d.length<=sizeLine->∀c f,(∀b A,s.heap.get? b=!A->c.get? b=!A)->
  c.get? s.heap.objs.size=!{cls:=.type "list",dict:=8,data:=.seq a.toArray f,slots:=#[]}->EP X Y Z Q (.ref s.heap.objs.size) {s with heap:=c}:=λa g j c f m e=>
  (.ref s.heap.objs.size,_,I.laid m (Zf _)<|show yq X.prog X.w _ c _ (.lst d)from(j,a,f,g,e),9,q _<|I.hok.fresh<|Zf _)
 rcases hq with hq|hq
 .let(a,g,v,j):=I.list hq;let t:=g.length;let(o,w,x,n,y):=v.isList;exact call_list_seq p (.inl 9) w x y (λc f m e=>i a g j c f m e)<|by simp<;>lia
 .let(a,g,v,j):=I.tuple hq;let t:=g.length;let(o,w,x,n,y):=v;exact call_list_seq p (.inr 9) w x y (λc f m e=>i a g j c f m e)<|by simp<;>lia
def OX:qq X (.type "tuple") λj H Q=>∃p c,j=[.ref p]/\((xo X.K H p c/\∀l,H l=8->Q (.ref l) (jD H l<|.tup c))\/zk X.K H p c/\Q (.ref p) H):=by
 intro Y s Z H j y Q I r h;let(p,c,rfl,h):=h;let(u,rfl,v):=K2 r;cases v;rcases h with ⟨f,q⟩|⟨f,q⟩
 .let(a,g,i,m):=I.list f;let n:=g.length;calc call_tuple_list i.isList (λd w=>?_) ();let t:Inv X Y Z H {s with heap:=d}:=I.kept w;let x:Inv X Y Z (jD H d.objs.size<|.tup c) {s with heap:=d.push {cls:=.type "tuple",data:=.seq a.toArray}}:=
   t.laid (λb o e=>Zq _ e) (Zf _)<|((m,(_,Zr _ 9,9)),a,g,IsTup.new _ _)
  exact(.ref d.objs.size,_,x,9,q _<|t.hok.fresh<|Zf _)
 .let(a,g,i,m):=I.tuple f;exact call_tuple_same i (.ref p,H,I,9,q)
def nN(K:W.Frag)(T:String)(x:V)(H:Hp):4:=match x with
 |.str _=>T="str"
 |.int _=>T="int"
 |.ref p=>(T="list"/\∃b,xo K H p b)\/(T="tuple"/\∃o,K.lookup p=!o/\o.cls=.type "tuple"/\o.dict=8)\/
  T="dict"/\((∃a,H p=! .dK a)\/∃a,H p=! .dT a)\/T="set"/\∃S n,H p=! .set S n
 |_=>False
def Gy {Z:St}     (I:Inv X Y Z H s)(r:j4 x v)(f:nN X.K T x H):
 s.TypeIs v T/\∀a,v=.ref a->∃l,s.heap.get? a=!l/\l.dict=8:=by
 cases x with
 |str z=>
  let(t,rfl):=r;cases f;calc(typeIs_str s z t,λ_ e=>nomatch e)
 |int i=>
  let(t,rfl):=r;cases f;calc(typeIs_int s i t,λ_ e=>nomatch e)
 |ref p=>
  cases r;rcases f with ⟨rfl,y,q⟩|⟨rfl,o,b,u,g⟩|⟨rfl,b⟩|⟨rfl,S,n,b⟩
  .let(w,_,m,_):=I.list q;calc(m.isList.typeIs,λa e=>?_);cases e;let(o n,e,c,g,_):=m;exact(o,e,g)
  .calc((o,I.kIn p o b,u),λa e=>?_);cases e;exact(o,I.kIn _ o b,g)
  .let z:∃o,s.heap.get? p=!o/\o.ExactDict:=by
    rcases b with ⟨h,b⟩|⟨h,b⟩
    .let(_,_,_,_,o,_,_,e,d,_):=I.hok p _ b;exact(o,e,d)
    .let(_,_,_,_,o,_,_,e,d,_):=I.hok p _ b;exact(o,e,d)
   let(o,e,d):=z;calc((o,e,d.1),λa j=>?_);cases j;exact(o,e,d.2.1)
  .let(o _ _ _,e,d,_):=I.hok p _ b;calc((o,e,d.1),λa j=>?_);cases j;calc(o,e,d.2.1)
 |_=>exact False.elim f
def kA(K:W.Frag)(T:String)(r:V->YB->Hp->VK->4)(b:TE):TE:=λZ H Q=>b Z H λx a=>nN K T x a/\r x [] a Q
def uu(K:W.Frag)(T:String)(r:V->YB->Hp->VK->4)(b:TE)(t:TA):TE:=λZ H Q=>b Z H λx a=>nN K T x a/\t Z a λc d=>r x c d Q
variable       {T id:String}
def Gz(l:PlainAttrs T)(d:Slot T a id)(g:typeOf (.builtin id)=pure (.type "method_descriptor"))(m:tx X id r)(n:PE X o p)
 (b:attributeBase o a X.env (eval o X.env)=eval o X.env:=by rfl)(c:(e.endLine==f.line)=6:=by rfl):PE X (.Call (.Attribute o a e) [] [] f) (kA X.K T r p):=by
 intro Y s Z H Q I h;calc wpAny_Call_method0_late b c<|jS (n Y s Z H _ I h) λv q=>j8 λx t=>xm λi j u w=>?_;let(y,z):=Gy i j u;exact jI T id (l,d,g,y,z,Calls.callWith_builtin 9<|PySem.evalArgs_none<|m Y q Z t x [] v [] Q i j .nil w)
def Km(u:PlainAttrs T)(i:Slot T c id)(m:typeOf (.builtin id)=pure (.type "method_descriptor"))(w:tx X id r)(y:PE X o z)(A:PA X (e::d) t)
 (f:attributeBase o c X.env (eval o X.env)=eval o X.env:=by rfl)
 (j:((backTo a<|starEach (e::d) X.env).all (λx=>not<|x.1)&&(backToKw a<|keywordEach [] X.env).all (λx=>x.1.isSome)
  &&decide ((e::d).length+([]:List Keyword).length+(if([]:List Keyword).isEmpty then 0 else 1)<30))=6:=by rfl)
 (g:(l.endLine==a.line)=6:=by rfl)(B:starEach (e::d) X.env=%[7|eval e X.env]::starEach d X.env:=by rfl)(b:(backTo a<|starEach d X.env).any (·.1)=7:=by rfl):
 PE X (.Call (.Attribute o c l) (e::d) [] a) (uu X.K T r z t):=by
 intro Y s Z H Q I h;calc wpAny_Call_method_late f j g 9<|jS (y Y s Z H _ I h) λv C=>j8 λx E=>xm λn p F G=>?_;let(J,L):=Gy n p F;calc jI T id (u,i,m,J,L,?_);let q:=A a Y C Z E _ n G;rw[B]at q ⊢;exact Calls.callWith_builtin (by show(7||(backTo a<|starEach d X.env).any (·.1))=7;rw[b]<;>rfl)<|Calls.evalArgs_plain<|jS q λM N=>j8 λO P=>jC λR S U=>w Y N Z P x O v M Q R p S U
end
def dL(X:Cx)(id:String)(r:V->YB->Hp->VK->4):4:=
 ∀(Y:Yb)(s:Shared)(Z:St)(H:Hp)(x:V)(a:YB)(v:Value)(b:Ye)(Q:VK),Inv X Y Z H s->j4 x v->j1 a b->r x a H Q->
  YE X (call (.builtin id)<|v::b) (EP X Y Z Q) X.xe s
def j1.one:∀{x:V}{c:Ye},j1 [x] c->∃u,c=[u]/\j4 x u:=λh=>by
 cases h with
 |cons r t=>cases t;exact(_,9,r)
def wu:∀{c:Ye},j1 [] c->c=[]
 |_,.nil=>9
section
variable   {Z: St}
def Inv.lset{i c:Ye}   (I:Inv X Y Z H s)(o:H l=! .lst z)
 (e:s.heap.get? l=!{cls:=.type "list",data:=.seq i.toArray n})(p:f i.toArray=c.toArray)(r:j1 j c)(v:j.length<=sizeLine):
 Inv X Y Z (jD H l<|.lst j) {s with heap:=s.heap.update l (Obj.mapSeq f),toks:=B}:=by
 let q:=PySem.IsL.update e f;rw[p]at q;exact I.write (by rw[o];calc trivial) (.inl 9) (λE u x y=>(Heap.get?_update_other s.heap (Obj.mapSeq f)<|Ne.symm x).trans y) (_,q) (v,c,_,r,q)
def Inv.lnew  (I:Inv X Y Z H s)(f:j1 e c)(i:e.length<=sizeLine):
 Inv X Y Z (jD H s.heap.objs.size<|.lst e) {s with heap:=s.heap.push {cls:=.type "list",data:=.seq c.toArray},toks:=j}:=
 I.laid (λ_ _ q=>Zq _ q) (Zf _) (i,c,0,f,Zr _ 9)
theorem Inv.fresh(I:Inv X Y Z H s):H s.heap.objs.size=8:=I.hok.fresh<|Zf _
def Inv.lstM(I:Inv X Y Z H s)(i:H l=! .lst f):f.length<=sizeLine/\∃(c:Ye)(n:5),j1 f c/\f.length=c.length/\s.heap.get? l=!{cls:=.type "list",data:=.seq c.toArray n}:=have(z,c,n,r,e):=I.hok l _ i;(z,c,n,r,r.length,e)
def OY (h:n<=sizeLine):Builtin.List.listTooLong n=7:=by
 simp_all[Builtin.List.listTooLong]
end
def XT:V->YB->Hp->VK->4:=λx b H Q=>∃l a y,x=.ref l/\b=[y]/\H l=! .lst a/\a.length<sizeLine/\Q .non (jD H l<|.lst<|a++[y])
def K3:dL X "list.append" XT:=by
 intro Y s Z H x g v i Q I c d h;let(l j y,rfl,rfl,b,m,q):=h;cases c;let(u,rfl,f):=d.one;let(z,a,n,r,o,e):=I.lstM b;refine call_meets F.slot_list_append (_,e,9) F.entry_list_append (F.args_list_append_2 _ _) (PySem.list_append l a.toArray n u ()) (e,(.non,_,I.lset b e () (r.append<|.cons f .nil) ?_,9,q))
 grind
def G0:V->YB->Hp->VK->4:=λx d H Q=>∃l b a c,x=.ref l/\d=[.ref b]/\H l=! .lst a/\H b=! .lst c/\a.length+c.length<=sizeLine/\Q .non (jD H l<|.lst<|a++c)
def OZ:dL X "list.extend" G0:=by
 intro Y s Z H x A v B Q I i j h;let(l b C E,rfl,rfl,g,m,G,q):=h;cases i;let(u,rfl,o):=j.one;cases o;let(z,c,n,r,J,e):=I.lstM g;let(L,a,p,t,w,y):=I.lstM m;let f:c.toArray.size+a.toArray.size<=sizeLine:=by simp_all
 let d:¬(not c.toArray.isEmpty&&Builtin.List.listTooLong (c.toArray.size+a.toArray.size))=6:=by
  rw[OY f,Bool.and_false];exact Zj
 refine call_meets F.slot_list_extend (_,e,9) F.entry_list_extend (F.args_list_extend_2 _ _)
  (AutoSeq1.list_extend_list_list_0 l c.toArray n b a.toArray p d () ()) (e,y,(.non,_,I.lset g e () (r.append t) ?_,9,q))
 simp_all
set_option maxRecDepth 100000 in
section
variable {κ: Type}[DecidableEq κ]
def qS(a:List (κ × V))(k:κ):Option V:=(a.find? λb=>decide<|b.1=k).map (·.2)
noncomputable def qU(a:List (κ × V))(k:κ)(v:V):List (κ × V):=
 if a.any λb=>decide<|b.1=k=6 then a.map λb=>if b.1=k then%[b.1|v]else b else a++[%[k|v]]
def Du  {k:κ}(e:p.1=k):qS (p::r) k=!p.2:=by simp[qS,e]
theorem Dv  {k:κ}(e:¬p.1=k):qS (p::r) k=qS r k:=by simp[qS,e]
theorem G1(k):∀a:List (κ × V),a.any λb=>decide<|b.1=k=(qS a k).isSome
 |[]=>9
 |p::r=>by
  rw[List.any_cons];by_cases e:p.1=k
  .simp[Du e,Zp e]
  .rw[Dv e,Zo e,Bool.false_or];exact G1 k r
def Dw(a:List (κ × V))(k)(v):(qU a k v).length<=a.length+1:=by
 grind[qU,Zql,List.length_append,List.length_cons,List.length_nil]
def xM.isSome_eq  (r:xM o u):o.isSome=u.isSome:=by
 cases o with
 |none=>cases u with
  |none=>rfl
  |some _=>calc(r).elim
 |some _=>cases u with
  |none=>calc(r).elim
  |some _=>rfl
theorem xM.getD    (r:xM o u)(c:j4 d e):j4 (o.getD d) (u.getD e):=by
 cases o with
 |none=>cases u with
  |none=>calc c
  |some _=>calc(r).elim
 |some _=>cases u with
  |none=>calc(r).elim
  |some _=>exact r
def KV.val {f:List (κ × Value)}(r:KV c f)(k):xM (qS c k) (valueAt f k):=by
 induction r with
 |nil=>calc True.intro
 |@cons p q j i h t l=>
  let(n,o):=h;by_cases e:p.1=k
  .let b:valueAt (q::i) k=!q.2:=by simp_all[valueAt]
   rwa[Du e,b]
  grind[valueAt,Dv]
theorem KV.any {f:List (κ × Value)}(r:KV c f)(k):c.any λe=>decide<|e.1=k=f.any λe=>decide<|e.1=k:=by
 induction r with
 |nil=>rfl
 |cons h t i=>simp_all
def KV.repl {f:List (κ × Value)}(r:KV e f)(k)  (j:j4 y u):
 KV (e.map λc=>if c.1=k then%[c.1|y]else c) (f.map λc=>if c.1=k then%[c.1|u]else c):=by
 induction r with
 |nil=>calc .nil
 |@cons p q l n h t i=>
  refine .cons ?_ i
  grind
def KV.put {c:List (κ × Value)}(r:KV f c)(k)  (i:j4 y u):KV (qU f k y) (stored c k u):=by
 unfold qU stored;rw[r.any k];by_cases e:c.any λj=>decide<|j.1=k=6
 .rw[Zd e,Zd e];exact r.repl k i
 .rw[Ze e,Ze e];exact Paired.snoc r (9,i)
theorem KV.length {e:List (κ × Value)}(r:KV c e):c.length=e.length:=Paired.length r
end
def ZW    (r:j4 (kV k) u):(Ka P w).is k u=6:=by
 cases k with
 |inl i=>have(t,e):=r;subst e;calc Gd i t
 |inr x=>have(t,e):=r;subst e;exact Og x t
theorem G2  :∀{a:List jT}{b:Ye},j1 (a.map kV) b->ItemsAre (Ka P w) a b
 |[],_,r=>by cases r;calc .nil
 |k::a,_,r=>by
  cases r with
  |cons h t=>exact .cons (ZW h)<|G2 t
abbrev KT(H:Hp):List (List jT×V)->List (List jT×Addr×Value)->4:=Paired λp q=>p.1=q.1/\H q.2.1=!(.tup<|p.1.map kV)/\j4 p.2 q.2.2
def KT.val   (r:KT H c f)(k):xM (qS c k) ((atKey f k).map (·.2)):=by
 induction r with
 |nil=>calc True.intro
 |@cons p q j i h t l=>
  let(!n,_,o):=h;by_cases e:p.1=k
  .let b:atKey (q::i) k=!q.2:=by simp_all[atKey]
   rwa[Du e,b]
  grind[atKey,Dv]
def KT.repl   (r:KT H c f)(k)  (j:j4 y u):
 KT H (c.map λe=>if e.1=k then%[e.1|y]else e) (f.map<|putAt k u):=by
 induction r with
 |nil=>calc .nil
 |@cons p q l n h t i=>
  refine .cons ?_ i
  grind[putAt]
def KT.put   (r:KT H c f)(k)   (j:H b=!(.tup<|k.map kV))(i:j4 y u):
 KT H (qU c k y) (storedH f k b u):=by
 let e:c.any λl=>decide<|l.1=k=(atKey f k).isSome:=by
  rw[G1,(r.val k).isSome_eq,Option.isSome_map]
 unfold qU storedH;rw[e];by_cases q:(atKey f k).isSome=6
 .rw[Zd q,Zd q];exact r.repl k i
 .rw[Ze q,Ze q];exact Paired.snoc r (9,j,i)
def KT.keeps   (r:KT H c f)(j:∀b e,H b=! .tup e->i b=! .tup e):KT i c f:=
 xW r ()
def G3 (ok:xp P w H h)(e:Rd H a u):yq P w H h a u:=e.ok ok
def Xp (ok:xp P w H h)(e:Rd H a (.dK b)):b.length<=sizeLine/\(a==sysModules)=7/\∃c,KV b c/\h.DictOf (Ka P w) a c:=
 G3 ok e
def Dx (ok:xp P w H h)(e:H a=! .dK b):b.length<=sizeLine/\(a==sysModules)=7/\∃c,KV b c/\h.DictOf (Ka P w) a c:=Xp ok<|.inl e
theorem ZX (ok:xp P w H h)(e:H a=!(.tup<|c.map kV)):(tupleKind<|Ka P w).is h c a:=by
 let(_,b,r,o,d,f,n,g):=show yq P w H h a (.tup<|c.map kV)from ok a _ e;exact ji o b.toArray n (d,f,g,by simpa using G2 r)
def XU (ok:xp P w H h)(e:Rd H a (.dT b)):b.length<=sizeLine/\(a==sysModules)=7/\
 ∃c,KT H b c/\h.DictOfH (tupleKind<|Ka P w) a c:=by
 let(z,y,c,r,o,f,g,i,j,n,s,u):=G3 ok e;calc(z,y,c,r,o,f,g,i,j,n,s,λx d=>?_,u);let all:∀{l:List (List jT×V)}{m:List (List jT×Addr×Value)},KT H l m->∀x∈m,(tupleKind<|Ka P w).is h x.1 x.2.1:=by
  intro l m q
  induction q with
  |nil=>intro x d;calc nomatch d
  |@cons p q v A B t C=>
   grind[ZX]
 exact all r x d
def bw (ok:xp P w H h)(e:H a=! .dT b):b.length<=sizeLine/\(a==sysModules)=7/\
 ∃c,KT H b c/\h.DictOfH (tupleKind<|Ka P w) a c:=XU ok<|.inl e
def yE(H:Hp)(a:Addr)(y:V)(r:Option V):4:=
 (∃c k,Rd H a (.dK c)/\y=kV k/\r=qS c k)\/∃c k b,Rd H a (.dT c)/\y=.ref b/\H b=!(.tup<|k.map kV)/\r=qS c k
def wB(H:Hp)(a:Addr)(y v:V)(d:Hp):4:=
 (∃c k,H a=! .dK c/\y=kV k/\c.length<sizeLine/\d=jD H a (.dK<|qU c k v))\/
 ∃c k b,H a=! .dT c/\y=.ref b/\H b=!(.tup<|k.map kV)/\c.length<sizeLine/\d=jD H a (.dT<|qU c k v)
theorem yE.k   {k:jT}(e:H a=! .dK c):yE H a (kV k) (qS c k):=.inl (c,k,.inl e,9,9)
theorem wB.k   {k:jT} (e:H a=! .dK c)(f:c.length<sizeLine):wB H a (kV k) v (jD H a<|.dK<|qU c k v):=.inl<|jI c k (e,9,f,9)
section
variable   {Z: St}
def Inv.big(I:Inv X Y Z H s):sysModules<s.heap.objs.size:=have h:=(I.mod.glob.keeps I.bk).lt;Ul (by decide) h
def Pa (t:A.units+1<cLine)(I:Inv X Y Z H s)(g:yE H a y !v)(q:j4 y u)(h:∀f r,Inv X Y Z H r->j4 v f->Q f r):
 wpAny (model X.prog X.w) A (getItem (.ref a) u) Q E s:=by
 rcases g with ⟨i,k,e,j,l⟩|⟨i,k,b,e,j,w,l⟩
 .subst j;let(z,x,C,c,m):=Xp I.hok e;let(f,n,d):=xg (by rw[l];calc c.val k);exact wpAny_getItem_of (ZW q) m.mapOf n<|h f _ (I.tok _) d
 .subst j;cases q;let(z,x,F,c,m):=XU I.hok e;let(f,n,d):=xg (by rw[l];calc c.val k);let(p,B,o):=Jj.mp n;calc wpAny_getItem_heap (tupleKind_room_in1 t) (ZX I.hok w) m B ?_;rw[o];exact h f _ (I.tok _) d
def Pb (p:A.units+1<cLine)(I:Inv X Y Z H s)(g:yE H a y o)(m:j4 y u)(h:∀n,Inv X Y Z H n->Q (.bool<|not o.isSome) n):
 wpAny (model X.prog X.w) A (compareOp .NotIn u<|.ref a) Q E s:=by
 rcases g with ⟨d,k,e,f,l⟩|⟨d,k,b,e,f,r,l⟩
 .subst f;let(z,i,t,c,j):=Xp I.hok e;calc wpAny_notIn_of (ZW m) i j.mapOf ?_;rw[<-(c.val k).isSome_eq,<-l];exact h _<|I.tok _
 .subst f;cases m;let(z,i,v,c,j):=XU I.hok e;calc wpAny_notIn_heap (tupleKind_room_in1 p) (ZX I.hok r) i j ?_;let q:=(c.val k).isSome_eq;rw[Option.isSome_map]at q;rw[<-q,<-l];exact h _<|I.tok _
def G4   (I:Inv X Y Z H s)(e:bU (H a))(f:Heap.SameBut a s.heap c)(g:∃q,c.get? a=!q)(new:yq X.prog X.w (jD H a d) c a d):
 Inv X Y Z (jD H a d) {s with heap:=c,toks:=i}:=
 I.write e (.inl 9) (λb q h z=>(f.2 b h).trans z) g new
def G8      (z:b.length<=sizeLine)(e:(a==sysModules)=7)(c:KV b d)(f:g.DictOf (Ka P w) a d):
 yq P w h g a (.dK b):=(z,e,d,c,f)
def Pc  (L:A.units+1<cLine)(I:Inv X Y Z H s)(g:wB H a y v M)(B:j4 y u)(C:j4 v r)(h:∀F,Inv X Y Z M F->Q Yq F):
 wpAny (model X.prog X.w) A (setItem (.ref a) u r) Q E s:=by
 rcases g with ⟨d,k,e,m,l,n⟩|⟨d,k,b,e,m,G,l,n⟩
 .subst m n;let(z,o,N,f,p):=Dx I.hok e;let t:N.length<=sizeLine:=by rwa[<-f.length]
  let w:(qU d k v).length<=sizeLine:=by let:=Dw d k v;lia
  calc wpAny_setItem_pairs (hsz:=t) (ZW B) p λJ i x=>h _ ?_;let O:∃q,J.get? a=!q:=let(q,_,_,j,_):=i;(q,j)
  exact G4 I (by rw[e];calc True.intro) x O<|G8 w o (f.put k C) i
 .subst m n;cases B;let(z,o,P,f,p):=bw I.hok e;let t:P.length<=sizeLine:=by rwa[<-Paired.length f]
  let w:(qU d k v).length<=sizeLine:=by let:=Dw d k v;lia
  calc wpAny_setItem_heap (hsz:=t) (tupleKind_room_in1 L) (ZX I.hok G) p λJ i x=>h _ ?_;let(q R S,j,T,U,h4,_,h5):=i;refine G4 I (by rw[e];calc True.intro) x (q,j) (w,o,_,(f.put k G C).keeps λc ys ec=>?_,q,R,S,j,T,U,h4,h5)
  rwa[JI ()]
end
section
variable   {Z: St}
def bB (I:Inv X Y Z H s)(e:Rd H a (.dK c))(h:∀t d,Inv X Y Z H d->Q (.int c.length t) d):wpAny (model X.prog X.w) A (call (.builtin "len") [.ref a]) Q E s:=by
 let(z,f,i,b,g):=Xp I.hok e;calc call_len_dict f g (by rw[<-b.length];rw[sizeLine_eq]at z;lia) ?_;rw[<-b.length];exact h _ _<|I.tok _
end
def vM(i:Expr):4:=∀a b,subscripted i 7 a b=operate [a,b] (getItem a b)
def Pd        {T id:String}
 (e:typeLookup (.type T) "__getitem__"=pure ! .builtin id)(f:vM b)
 (h:YF a w A (eval c d) (λo s₁=>YF a w A (eval b d) (λi s₂=>s₂.TypeIs o T/\YF a w A (getItem o i) Q E s₂) E s₁) E s):
 YF a w A (eval (.Subscript c b g) d) Q E s:=by
 calc Subscript_<|Zc h (λo s₁ h₁=>Zc h₁ (λi s₂ h₂=>?_) λ_ _ x=>x) λ_ _ x=>x;let(j,h₂):=h₂;calc Za<|Za<|wpAny_specialOf j e ?_;let l:YF a w A (subscripted b 7 o i) (λr s₃=>YF a w A (letTemporaryGo c o r>>=λ_=>pure r) Q E s₃) E s₂:=by
  rw[f o i];exact wpAny_operating<|Zc h₂ (λr s₃ h₃=>Za<|wpAny_letTemporaryGo<|Zb h₃) λ_ _ x=>x
 grind[wpAny_pure,wpAny_bind]
def k9(c d:TE):TE:=λZ H Q=>c Z H λx e=>d Z e λy b=>∃a v,x=.ref a/\yE b a y !v/\Q v b
def Pe(c d:TE):TE:=λZ H Q=>c Z H λy e=>d Z e λx b=>∃a o,x=.ref a/\yE b a y o/\Q (.bl<|not o.isSome) b
def kI(c d e:TE):TS:=λD Z H=>e Z H λv f=>c Z f λx g=>d Z g λy h=>∃a b,x=.ref a/\wB h a y v b/\D.nx Z b
def G9(l:X.A.units+1<cLine)(m:PE X o n)(p:PE X i q)(r:vM i):PE X (.Subscript o i t) (k9 n q):=by
 intro Y s Z H Q I h;calc Pd PySem.F.slot_dict_getitem.lookup r<|jS (m Y s Z H _ I h) λu w=>j8 λx z=>jC λA B C=>jS (p Y w Z z _ A C) λM N(y,E,c,F,a,v,G,g,J)=>?_;subst G;obtain rfl:=B;exact(
  by
  rcases g with ⟨d,k,e,_,_⟩|⟨d,k,b,e,_,_,_⟩
  .let(_,_,O,_,f):=Xp c.hok e;exact f.typeIs
  .let(_,_,P,_,f):=XU c.hok e;calc f.typeIs,Pa l c g F λR S L j=>(v,E,L,j,J))
def Pf(b:X.A.units+1<cLine)(c:PE X i d)(e:PE X o f):PC X .NotIn i o (Pe d f):=by
 intro Y s Z H Q I h;calc jS (c Y s Z H _ I h) λB j=>j8 λy l=>jC λm n p=>jS (e Y j Z l _ m p) λu C(x,q,r,t,a,v,w,g,z)=>?_;subst w;obtain rfl:=t;exact Pb b r g n λE A=>(.bl<|not v.isSome,q,A,9,z)
def GA(e:X.A.units+1<cLine)(f:PE X o j)(l:PE X i m)(n:PE X b p)(q:swapsWith b (! .Subscript o i c) d.line X.env=pure 7):
 PS X (.Assign [.Subscript o i c] b d) (kI j m p):=by
 intro Y s Z H D I h;calc wpAny_Assign_Subscript (jS (n Y s Z H _ I h) λr t=>j8 λv w=>jC λz A B=>jS (f Y t Z w _ z B) λu C=>j8 λx E=>jC λF G J=>jS (l Y C Z E _ F J) λR S(y,T,L,M,a,N,O,g,P)=>?_) q;subst O;obtain rfl:=G;exact Pc e L g M A λU Q=>(Z,N,Q,P)
def Pg   (h:Heap)(a:sysModules<h.objs.size):yq P w H (h.push {cls:=.type "dict",data:=.dict #[]}) h.objs.size (.dK []):=
 (Uc _,(),[],.nil,Heap.DictOf.new h)
def rc:TE:=λ_ H Q=>∀p,H p=8->Q (.ref p) (jD H p<|.dK [])
def Xq(a more:List (jT×V)):List (jT×V):=more.foldl (λb c=>qU b c.1 c.2) a
def ve:∀{more:List (jT×V)}{i:List (jT×Value)}{c:List (jT×V)}{f:List (jT×Value)},KV more i->KV c f->KV (Xq c more) (merged f i):=by
 intro more i c f r
 induction r generalizing c f with
 |nil=>intro q;calc q
 |@cons p q n o h t j=>
  intro l;let e:KV (qU c p.1 p.2) (stored f q.1 q.2):=by
   let:=l.put p.1 h.2
   rwa[<-h.1]
  exact j e
theorem GB:∀more a,(Xq a more).length<=a.length+more.length
 |[],a=>by show a.length<=a.length+0;lia
 |p::r,a=>by
  let b:=GB r<|qU a p.1 p.2;let c:=Dw a p.1 p.2;show(Xq (qU a p.1 p.2) r).length<=_
  grind
structure M2(X:Cx)(o:Expr)(m:Str)(apos:Pos)(e f:Expr)(cpos:Pos):4 where
 base:attributeBase o m X.env (eval o X.env)=eval o X.env
 few:((backTo cpos<|starEach [e,f] X.env).all (λx=>not<|x.1)&&(backToKw cpos<|keywordEach [] X.env).all (λx=>x.1.isSome)
  &&decide (([e,f]:List Expr).length+([]:List Keyword).length+(if([]:List Keyword).isEmpty then 0 else 1)<30))=6
 line:(apos.endLine==cpos.line)=6
 trees:backTo cpos (starEach [e,f] X.env)=[%[7|eval e X.env],%[7|eval f X.env]]
def jh(H:Hp)(a:Addr):4:=(∃b,Rd H a (.dK b))\/∃b,Rd H a (.dT b)
def Ph  {Z:St}   (I:Inv X Y Z H s)(d:jh H a):
 s.TypeIs (.ref a) "dict"/\(∀b,Value.ref a=.ref b->∃c,s.heap.get? b=!c/\c.dict=8)/\(a==sysModules)=7:=by
 rcases d with ⟨g,e⟩|⟨g,e⟩
 .let(_,h,l,_,f):=Xp I.hok e;calc(f.typeIs,λb q=>?_,h);cases q;let(c _ _,i,j,_):=f;exact(c,i,j.2.1)
 .let(_,h,m,_,f):=XU I.hok e;calc(f.typeIs,λb q=>?_,h);cases q;let(c _ _,i,j,_):=f;exact(c,i,j.2.1)
section
variable   {Z: St}
def Pi (v:A.units+1<cLine)(I:Inv X Y Z H s)(g:yE H a y o)(n:j4 y u)(p:j4 d r)(h:∀q t,Inv X Y Z H t->j4 (o.getD d) q->Q q t):
 wpAny (model X.prog X.w) A (call (.builtin "dict.get") [.ref a,u,r]) Q E s:=by
 rcases g with ⟨i,k,e,j,l⟩|⟨i,k,b,e,j,w,l⟩
 .subst j;let(z,m,B,c,f):=Xp I.hok e;calc call_meetsIn PySem.F.slot_dict_get f.typeIs PySem.F.entry_dict_get (PySem.F.args_dict_get_3 _ _ _) (meets_dict_get_default (Ka X.prog X.w) a (ZW n) m r) (_,f.mapOf,h _ _ (I.tok _) ?_);rw[l];exact(c.val k).getD p
 .subst j;cases n;let(z,m,x,c,f):=XU I.hok e;calc call_meetsIn PySem.F.slot_dict_get f.typeIs PySem.F.entry_dict_get (PySem.F.args_dict_get_3 _ _ _) (meetsH_dict_get_default (tupleKind<|Ka X.prog X.w) a b m r) (tupleKind_room_in1 v,k,x,ZX I.hok w,f,h _ _ (I.tok _) ?_);rw[l];exact(c.val k).getD p
end
def Pj(d e f:TE):TE:=λZ H Q=>d Z H λx b=>∃a,x=.ref a/\jh b a/\e Z b λy g=>f Z g λz c=>∃o,yE c a y o/\Q (o.getD z) c
def Pk(l:X.A.units+1<cLine)(n:PE X o p)(q:PE X e r)(t:PE X f v)(m:M2 X o "get" b e f c):PE X (.Call (.Attribute o "get" b) [e,f] [] c) (Pj p r v):=by
 intro Y s Z H Q I h;calc wpAny_Call_method m.base m.few m.line PySem.F.plainAttrs_dict PySem.F.slot_dict_get PySem.F.type_dict_get<|jS (n Y s Z H _ I h) λu w(x,A,j,B,a,C,d,E)=>?_;subst C;obtain rfl:=B;let(!F,G,_):=Ph j d;calc(F,G,?_);rw[m.trees];exact Calls.callWith_builtin 9<|Calls.evalArgs_plain<|Calls.spliced_cons<|jS (q Y w Z A _ j E) λiv J=>j8 λy L=>jC λM N O=>
  Calls.spliced_cons<|jS (t Y J Z L _ M O) λfv s3(z,P,R,S,ov,g,T)=>Calls.spliced_nil<|Pi l R g N S λw' s4 U i=>(_,P,U,i,T)
end L2
namespace Att
open PySem PySem.W PySem.Calls PyProof.Rows
theorem Pm  :∀c d,WellAll P h d (c.map WData.int)->IntsAre d c:=by
 intro c
 induction c with
 |nil=>
  intro d w;cases w;calc .nil
 |cons n c e=>
  intro d w;cases w with
  |cons a b=>
   cases a;exact .cons _ _<|e _ b
def Pn{l:OpenLaw} (o:l.most=!n)
 (b:l.row.toRowW.claim.pre args=6)(f:WellAll P h e args):
 ∃a i c,e=[Value.ref a]/\args=[WData.list (c.map WData.int)]/\h.get? a=!{cls:=.type "list",data:=.seq i.toArray}/\IntsAre i c/\c.length<=n:=by
 let(d,r,rfl,p,q):=hasAllW_cons (pre_splitW b).1;obtain rfl:=hasAllW_nil q;let(v,rfl,s):=hasW_list p;let(c,rfl):=items_int s;let j:c.length<=n:=by
  let g:(WTm.not<|.lt (.lit<|.int (n:3))<|.len<|.arg 0).holds [] {args:=[.list (c.map .int)]}=6:=by
   let g:=(holds_andW<|(pre_splitW b).2).1
   rwa[o]at g
  let w:=condW_of g 9
  simp_all
 cases f with
 |cons t u=>
  cases u;cases t with
  |list x m=>grind[Pm]
def attach_call{l:OpenLaw}
 (J:l.most=!n)(x:d.params.defaults=[])
 (call:∀w s₀ s₁ p y h o z t b a g u,
  Ground q c [] L w s₀ p y s₁.heap->M w s₁.heap->
  s₁.heap.get? h=!o->o.data=.func (docDef d.name d.params d.body d.scope z t b)->s₁.heap.CodeRec t d.name->p d.name=! .ref h->
  s₁.heap.get? a=!{cls:=.type "list",data:=.seq g.toArray}->IntsAre g u->u.length<=n->s₁.gens=#[]->
  codeAny (model l.prog w) callerA (.call (.ref h) ([.ref a],[])) (λr v=>r=.ok (.ret<|.bool 6)/\OldK s₁.heap v.heap/\v.os=s₁.os/\AllBare v.gens) s₁):
 WalkO q c L M l.row.toRowW d [] λf g=>PySem.call f g:=by
 intro w s₀ s₁ p y G Yy h o z t b Z kV N O A E B P F H as i I Q C R;obtain rfl:=Dflts.none E x;obtain rfl:=Dflts.noKw E;let(a,g,u,rfl,rfl,j,e,m):=Pn J i C;calc enter_call<|codeAny_mono (call w s₀ s₁ p y h o z t b a g u G Yy N (fd_plain O) A B j e m P) λr v S=>?_;let(rfl,T,U,X):=S;exact(.inl (.bool 6,.bool 6,[],9,λ_=>9,.bool 6,postW_of
  9
  (w_eq_bool (w_res 9) w_lit) 9,λ_=>(List.Pairwise.nil,λ_ Y=>nomatch Y)),T,U,X)
end Att
namespace L2
def Po:∀{a:Ye}{b:Yf},IntsAre a b->j1 (b.map V.int) a:=λh=>by
 induction h with
 |nil=>calc .nil
 |cons n t _ c=>exact .cons (t,9) c
def uA(H:Hp):4:=∀b,H b=8\/∃o a,H b=!(.frz o<|.lst a)
def Pp  {K:W.Frag}
 (X:K.In s₁.heap)(t:s₁.heap.Ns mainGlobals I)(f:s₁.heap.Ns builtinsNs Y)(L:∀x:Str,x ≠"__name__"->Y x=bootBuiltins x)(y:s₁.heap.NoLimit)(hg:s₁.gens=#[])
 (M:s₁.heap.get? a=!{cls:=.type "list",data:=.seq A.toArray})(Z:IntsAre A J)(hl:J.length<=sizeLine)(hr:Room k callerA)
 (F:∀g:Heap,K.In g->g.Ns mainGlobals I->FnOk P w K I g CX k fa fd [x] sp)(p:∀s u,BindsTo s fd ([u],[]) [%[x|u]])
 (N:∀H:Hp,uA H->xo K H a (J.map V.int)->sp [.ref a] H (λv _=>v=.bl 6) λ_ _ _=>False)
 (O:∀H e i,CX [] H s₁ (λ_ _ _=>False) e i->False):
 codeAny (model P w) callerA (.call (.ref fa) ([.ref a],[])) (λr i=>r=.ok (.ret<|.bool 6)/\OldK s₁.heap i.heap/\i.os=s₁.os/\AllBare i.gens) s₁:=by
 let rv:=Po Z;let B:=Z.length;let l:∀H:Hp,uA H->xo K H a (J.map V.int)->xp P w H s₁.heap->(∀b,H b≠8->b=a)->(H a≠8->K.lookup a=8)->
  codeAny (model P w) callerA (.call (.ref fa) ([.ref a],[])) (λr i=>r=.ok (.ret<|.bool 6)/\OldK s₁.heap i.heap/\i.os=s₁.os/\AllBare i.gens) s₁:=by
  intro H hO hS C hA hK;let c:∀{b:Addr}{o:Obj},s₁.heap.get? b=!o->H b=8->(wo s₁.heap H).get? b=!o:=λe n=>W.hideAll_get _ e λQ=>by
   let q:=(Jg.mp Q).2
   simp_all
  let R:∀{b:Addr}{o:Obj}{S:Array DictEntry}{T:5},s₁.heap.get? b=!o->o.data=.dict S T->H b=8:=by grind
  let j:∀{b:Addr}{m:Yd},s₁.heap.Ns b m->(wo s₁.heap H).Ns b m:=λ{b m}(o,S,T,e,d,r)=>ji o S T (c e<|R e d,d,r);let E:K.In (wo s₁.heap H):=λb o e=>c (X b o e)<|by
   grind
  let hM:Mod K I (wo s₁.heap H):=(E,j t,(Y,j f,L),let(mc,h1,h2):=y;(mc,j h1,h2));let e0:Env0 P w K I (wo s₁.heap H) callerA [] s₁ H:=(9,hM,λb o e=>by
   let e':=W.of_hideAll (trk s₁.heap H) e;calc(e',?_);cases q:H b with
   |none=>rfl
   |some x=>
    let Q:b∈trk s₁.heap H:=Jg.mpr (Je.mpr<|Zk e',by simp[q]);let z:(wo s₁.heap H).get? b=8:=W.hideAll_none (trk s₁.heap H) Q
    simp_all,Yu<|W.hideAll_size _ _,trivial,λb f=>Zn (show b∈([]:Yj)from f) (),C,.of_eq hg)
  calc codeAny_mono ((F _ E<|j t).run callerA [] s₁ H ([.ref a],[]) [.ref a] [.ref a] _ _ hr e0 (p s₁<|.ref a) (.cons 9 .nil)<|N H hO hS) λr i h=>?_;cases r with
  |error e=>calc(O H e i h).elim
  |ok fl=>
   cases fl with
   |next=>calc False.elim h
   |brk=>calc False.elim h
   |cont=>calc False.elim h
   |ret u=>
    let(v H',os,bare,un,G,r',q):=h;let q':v=.bl 6:=q;subst q';obtain rfl:=r';calc(9,OldK.of_keep λb o e=>?_,os,bare);cases q:H b with
    |none=>calc un.keep b o e q (λz=>Zn (show b∈([]:Yj)from z) ()) ()
    |some u=>
     rcases hO b with z|⟨ob,xs,z⟩
     .rw[q]at z;cases z
     .let(e1,_):=C b _ z;let(e2,_):=G b _ (un.frzs b ob _ z);rw[e]at e1;cases e1;exact e2
 cases U:K.lookup a with
 |some o=>
  let e:=X a o U;rw[M]at e;cases e;calc l (λ_=>8) (λ_=>.inl 9) (.inr<|ji _ A.toArray _ (U,9,9,9,by rwa[Zm,B],by simpa using rv)) (λb u z=>by let z':=z;cases z') () λz=>Zn 9 z
 |none=>
  refine l (λb=>if b=a then !(.frz {cls:=.type "list",data:=.seq A.toArray}<|.lst<|J.map V.int)else 8) (λb=>?_) (.inl<|.inr ({cls:=.type "list",data:=.seq A.toArray},Zd 9)) (λb u z=>?_) (λb z=>?_) λ_=>U
  .by_cases f:b=a
   .exact by grind
   .exact .inl<|Ze f
  .by_cases f:b=a
   .cases(Zd f).symm.trans z;subst f;exact(M,by rwa[Zql],A,_,rv,M)
   .cases(Ze f).symm.trans z
  .by_cases f:b=a
   .exact f
   .exact Zn (Ze f) z
def walk_of{l:W.OpenLaw}      {K:Params->W.Frag}{CX:World->uF}{sp:World->Sp}
 (L:l.most=!n)(r:n<=sizeLine)(t:d.params.defaults=[])(M:Room k callerA)
 (N:∀w h,O w h->(K w.params).In h)
 (F:∀w i m h,(K w.params).In h->h.Ns mainGlobals i->i d.name=! .ref m->
  ∃y:FuncData,(∀s u,BindsTo s y ([u],[]) [%[x|u]])/\
   ∀b:Heap,(K w.params).In b->b.Ns mainGlobals i->FnOk l.prog w (K w.params) i b (CX w) k m y [x] (sp w))
 (z:∀w H a(p:Yf),p.length<=n->uA H->xo (K w.params) H a (p.map V.int)->sp w [.ref a] H (λv _=>v=.bl 6) λ_ _ _=>False)
 (A:∀w H s e B,CX w [] H s (λ_ _ _=>False) e B->False):
 W.WalkO q C Y O l.row.toRowW d [] λf I=>PySem.call f I:=by
 calc Att.attach_call L t λw s₀ s₁ i Z m o pm cd P a I p G Yy ho hd Q E j g c R=>?_;let J:=N w _ Yy;let(y,S,T):=F w i m _ J G.T.g E;exact Pp J G.T.g G.T.b G.T.builtins G.T.nolimit R j g (Zh c r) M T S (λH U X=>z w H a p c U X) λH e B=>A w H s₁ e B
def Bq(s:Stmt)(j:5):Stmt:=match s with
 |.ClassDef _ _ _ a _ _ _ _ _ _ _=>a.getD j (.Pass (0,0,0,0))
 |_=>.Pass (0,0,0,0)
def Xr(s:Stmt):Arguments:=match s with
 |.FunctionDef _ a _ _ _ _ _ _ _ _=>a
 |_=>{posonlyargs:=[],args:=[],vararg:=8,kwonlyargs:=[],kw_defaults:=[],kwarg:=8,defaults:=[]}
def QP(s:Stmt):List Stmt:=match s with
 |.FunctionDef _ _ b _ _ _ _ _ _ _=>b
 |_=>[]
def JP(s:Stmt):Scope:=match s with
 |.FunctionDef _ _ _ _ _ _ a _ _ _=>a
 |_=>{kind:=.function,names:=[],isGenerator:=7,isCoroutine:=7}
abbrev yo:uF:=λ_ _ _ _ _ _=>False
abbrev E0:XK:=λ_ _ _=>False
def GC :ZU yo X E0:=λ_ _ _ _ _ _ _ h=>h.elim
structure Fun(K:W.Frag)(x qual:Str)(st:Stmt)(f:Addr)(fd:FuncData):4 where
 ex:∃(oc:Value)(od:Option Addr)(kV doc pm:Value)(an:Option Addr)(cdv ct:Value)(osl:Array (Option Value)),
  fd=W.fnOf x qual (Xr st) (QP st) (JP st) .none kV doc pm an cdv ct/\K.lookup f=!(oc,od,.func fd,osl)/\W.codeIn K cdv qual=6
 kp:W.keepIn K (.ref f)=6
section
variable   {K:W.Frag}
def Fun.ok {n:Stmt}     (F:Fun K x i n f y)(S:FnScope N u (JP n))(len:∀j H Q E,v j H Q E->j.length=u.length)
 (l:∀e A c s H j Q E,Room k (A.deeper<|envOfC i (JP n) s.heap.objs.size f e)->v j H Q E->
  ∃t,xh (qp yo P w K z o N i (JP n) f e A c s H E).nox (QP n) t/\t {nx:=λ_ B=>Q .non B,rt:=Q} (start N j) H):FnOk P w K z o yo (k+1) f y u v:=by
 let(O,R,kV,G,T,U,e,X,I,rfl,J,p):=F.ex;calc Gw J p S len λA c s H j Q E L r=>?_;let(t,h,q):=l e A c s H j Q E L r;exact(t,h.nox,q)
def Fun.binds {j:Stmt}   (F:Fun K x i j f r)
 (h:∀kV c l n e o p,p.length=q.length->bindArgs (W.fnOf x i (Xr j) (QP j) (JP j) .none kV c l n e o) (p,[])=pure (q.zip p)):vo K r q []:=by
 let(v,y,kV,c,l,n,e,o,s,rfl,z,u):=F.ex;exact .all<|h kV c l n e o
def fun_mk {d:Stmt}    {kV e g b h:Value}(l:K.lookup f=!(m,n,.func<|W.fnOf x a (Xr d) (QP d) (JP d) .none kV e g j b h,i))
 (c:W.codeIn K b a=6)(k:W.keepIn K (.ref f)=6):Fun K x a d f (W.fnOf x a (Xr d) (QP d) (JP d) .none kV e g j b h):=(zx m n kV e g j b (h,i,9,l,c),k)
end
def Qk  (a:Room k A):A.units+1<cLine:=UD (VH (by decide:1<=64) _) a.units
def GD (h:n<=1000):n<sizeLine:=UD h<|by decide
section
variable {X:Cx}
def pv(i){x:Str}{d:Pos}(n:X.N[i]?=!x:=by rfl)(o:tm X.env.scope x:=by first|calc Or.inl 9|calc Or.inr<|Or.inl 9|calc Or.inr<|Or.inr 9)(f:(x==("__debug__":Str))=7:=by decide)
 (g:(
  x==("__classdict__":Str))=7:=by decide):PE X (.Name x d) (yI i):=by
  intro Y s Z H Q I h;let(v,e,h):=h;let(m,p,q):=I.loc;let(u,r,l):=q i x v n e o;let b:EP X Y Z Q u s:=(v,H,I,r,h);rcases l with ⟨hk,t⟩|⟨hk,c,j,a⟩
  .exact wpAny_Name (wpAny_loadName_local I.ok.kind hk p t b) f
  .rcases hk with hk|hk
   .exact wpAny_Name (wpAny_loadName_cell I.ok.kind hk j a b) f
   .exact wpAny_Name (wpAny_loadName_free I.ok.kind hk j a b g) f
end
def jk(H a:Hp):4:=∀b o,H b=!o->a b=!o
theorem jk.refl(H):jk H H:=λ_ _ h=>h
theorem jk.trans (a:jk H e)(b:jk e f):jk H f:=λc o h=>b c o<|a c o h
def jk.free (e:jk H c) (h:c l=Option.none):H l=Option.none:=by
 cases q:H l with
 |none=>rfl
 |some o=>
  rw[e l o q]at h;cases h
def jk.seq{K:W.Frag}   (e:jk H c)(h:xo K H a f):xo K c a f:=by
 rcases h with(h|⟨o,h⟩)|h
 .exact .inl<|.inl<|e _ _ h
 .exact .inl<|.inr (o,e _ _ h)
 .exact .inr h
def Pq:qq X (.builtin "len") λc H Q=>∃a b,c=[V.ref a]/\H a=! .dK b/\Q (.int b.length) H:=by
 intro Y s Z H c g Q I r h;let(a,b,rfl,d,q):=h;let(u,rfl,e):=K2 r;cases e;exact bB I (.inl d) λt i f=>(.int b.length,H,f,(t,9),q)
end L2
def J7{P:4}{α:Type}{z:α}(h:8=!z):P:=by cases h
def JF{P:4}(h:7=6):P:=by cases h
namespace L2
theorem Dy(f):∀(d:List (Str×NameKind))b,(∀y∈d,y.2=.free->∃c,f.cells.lookup y.1=!c)->
 ∃i,(forIn d b λ(x:Str×NameKind)(r:List (Str×Addr))=>(match x with
  |%[g|j]=>if(j==NameKind.free)=6 then do let a<-cellOf f g;pure (ForInStep.yield<|%[g|a]::r)else pure (ForInStep.yield r):Sem (ForInStep<|List<|Str×Addr)))=(pure i:Sem (List<|Str×Addr))/\
  (∀x c,i.lookup x=!c->f.cells.lookup x=!c\/b.lookup x=!c)/\(∀x c,b.lookup x=!c->∃l,i.lookup x=!l)/\∀y∈d,y.2=.free->∃c,i.lookup y.1=!c
 |[],b,_=>(b,9,λ_ _ h=>.inr h,λx c h=>(c,h),λ_ h=>nomatch h)
 |%[n|k]::r,b,h=>by
  rw[List.forIn_cons];cases o:k==NameKind.free with
  |true=>
   let m:k=.free:=by simp_all
   let(c,p):=h %[n|k] Zqs m;let(-i,e,q,s,t):=Dy f r (%[n|c]::b) ();refine(i,?_,λx l u=>?_,λx l u=>?_,λy v w=>?_)
   .simp only[o,cellOf,p];exact e
   .grind
   .grind
   grind
  |false=>
   have(i,e,q,s,t):=Dy f r b ()
   grind
def Pr(b)(a)(h:∀y∈a.names,y.2=.free->∃c,b.cells.lookup y.1=!c):
 ∃d,closureFor a b=pure d/\(∀x c,d.lookup x=!c->b.cells.lookup x=!c)/\∀y∈a.names,y.2=.free->∃c,d.lookup y.1=!c:=by
 let(-d,e,f,_,g):=Dy b a.names [] h;refine(d,?_,λx c i=>(f x c i).elim id<|λq=>by simp at q,g)
 first
 |(rfl)
 |exact Zt (·>>=λj=>pure j) e
theorem Br{env:Env}{x:Str}:∀{names:List (Str×NameKind)},
 (names.lookup x=!.free->(names.map λ%[n|k]=>if k==NameKind.free&&env.scope.kind==.function&&env.kindOf n==!.cell then%[n|NameKind.cell]else%[n|k]).lookup x=!.cell\/(names.map λ%[n|k]=>if k==NameKind.free&&env.scope.kind==.function&&env.kindOf n==!.cell then%[n|NameKind.cell]else%[n|k]).lookup x=!.free)/\
 ∀a,(names.map λ%[n|k]=>if k==NameKind.free&&env.scope.kind==.function&&env.kindOf n==!.cell then%[n|NameKind.cell]else%[n|k]).lookup x=!a->a=.cell\/a=.free->names.lookup x=!.free\/names.lookup x=!.cell
 |[]=>by simp
 |%[n|k]::r=>by
  let(b,c):=@Br env x r
  grind
theorem ZY:∀a n b,cellsFrom n a b=cellsFrom n a []++b
 |[],_,_=>9
 |%[c|d]::r,n,b=>by
  unfold cellsFrom
  split
  .rw[ZY r (n+1) (%[c|n]::b),ZY r (n+1) [%[c|n]],Ug];rfl
  .exact ZY r n b
theorem Dz  :∀a n b,%[x|c]∈cellsFrom n a b->%[x|c]∈b\/%[x|NameKind.cell]∈a
 |[],_,_,h=>.inl h
 |%[d|e]::r,n,b,h=>by
  unfold cellsFrom at h
  split at h
  .rcases Dz r (n+1) (%[d|n]::b) h with z|z
   .grind
   simp_all
  .rcases Dz r n b h with z|z
   .exact .inl z
   simp_all
noncomputable def GE:Option NameKind->Bool
 |some .cell=>6
 |_=>7
def Ps (h:GE o=6):o=!.cell:=by
 cases o with
 |none=>calc JF h
 |some k=>cases k<;>first|rfl|exact JF h
structure CellsAt(scope:Scope)(env:Env)(cl:List (Str×Addr))(C:Addr)(h1:Heap):4 where
 from_:∀x c,cl.lookup x=!c->env.cells.lookup x=!c/\scope.names.lookup x≠!.cell\/C<c/\h1.IsCell c 8
 free:∀x,scope.names.lookup x=!.free->∃c,cl.lookup x=!c/\env.cells.lookup x=!c
 own:∀x,scope.names.lookup x=!.cell->∃c,cl.lookup x=!c
 inj:∀x y c,cl.lookup x=!c->cl.lookup y=!c->x=y
def Pt   {h:Heap}{C:Addr}(i:∀x c,f.lookup x=!c->b.cells.lookup x=!c)(j:∀y∈a.names,y.2=.free->∃c,f.lookup y.1=!c)
 (inj:∀x y c,b.cells.lookup x=!c->b.cells.lookup y=!c->x=y)(low:∀x c,b.cells.lookup x=!c->c<=C)(l:h.objs.size=C+1)(m:∀y∈a.names,y.2=.cell->a.names.lookup y.1=!.cell):
 CellsAt a b (cellsFrom (C+1) a.names f) C (pushCells h a.names):=by
 let ok:=cellsFrom_ok a.names h (C+1) [] ((),List.Pairwise.nil) ();rw[l]at ok;let look:∀x c,(cellsFrom (C+1) a.names f).lookup x=!c->%[x|c]∈cellsFrom (C+1) a.names []\/f.lookup x=!c/\a.names.lookup x≠!.cell:=λx c e=>by
  rw[ZY,List.lookup_append]at e;cases q:(cellsFrom (C+1) a.names []).lookup x with
  |some d=>
   grind[Zqi,PySem.mem_of_lookup]
  |none=>
   rw[q]at e;calc .inr (e,λz=>?_);let:=W.cellsFrom_some a.names (C+1) []<|.inl z;rw[q]at this;exact JF this
 refine(λx c e=>?_,λx e=>?_,λx e=>?_,λx y c n o=>?_)
 .rcases look x c e with z|⟨z1,z2⟩
  .exact .inr ((ok.empty x c z).2,(ok.empty x c z).1)
  simp_all
 .let(c,g):=j %[x|.free] (PySem.mem_of_lookup e) 9;calc(c,?_,i x c g);rw[ZY,List.lookup_append];cases q:(cellsFrom (C+1) a.names []).lookup x with
  |some d=>
   rcases Dz _ _ _ (PySem.mem_of_lookup q)with z|z
   .cases z
   .let:=m %[x|.cell] z 9;rw[e]at this;cases this
  |none=>exact g
 .exact Ju.mp<|W.cellsFrom_some a.names (C+1) f<|.inl e
 .rcases look x c n with z|⟨z1,_⟩<;>rcases look y c o with w|⟨w1,_⟩
  .exact PySem.name_of_addr ok.apart z w
  .exact Zn (low y c<|i y c w1)<|Nat.not_le_of_lt (ok.empty x c z).2
  .exact Zn (low x c<|i x c z1)<|Nat.not_le_of_lt (ok.empty y c w).2
  .exact by grind
def Pu
 (e:Q (newEnv a s.heap.objs.size b (cellsFrom (s.heap.objs.size+1) a.names f) c 8 .none (!d) builtinsNs) {s with heap:=pushCells (s.heap.push {cls:=.type "dict",data:=.dict #[]}) a.names}):
 wpAny M A (newFunctionEnv a b f [] c 8 .none<|!d) Q E s:=by
 calc Za<|wpAny_alloc<|Za<|wpAny_layCells _ () _ _ _ _ ?_;rw[Heap.size_push ..];exact Za<|Zb<|Zb e
def ZZ(X:Cx)(C:Addr):Ya:=λx b=>∃m,b.heap.Ns C m/\∀c,Heap.SameBut C b.heap c->∀a:Env,a.locals=C->YE X (passOn "comprehension.variables-let-go" x a:Sem Value) (λ_ _=>False) X.xe {b with heap:=c}
def JM(X:Cx)(a:Scope)(N:Yi)(b:List (Str×Addr))(C:Addr)(s:Shared)(H:Hp)(ex:Yj):Cx where
 prog:=X.prog
 w:=X.w
 K:=X.K
 mg:=X.mg
 base:=X.base
 A:=X.A
 N:=N
 s₀:=s
 H₀:=H
 env:=compEnvC a b C X.env
 outer:=X.stack
 stack:=X.stack
 ex:=ex
 fn:=λx=>GE<|a.names.lookup x
 calm:=X.calm
 pn:=[]
 xe:=notedBy (model X.prog X.w) X.A (compEnvC a b C X.env) (ZZ X C)
def Xs(X:Cx)(C:Addr)(s:Shared)(H:Hp)(a:Yj):4:=∃Y Z,Inv X Y Z H s/\(∀b∈a,yQ X Y H b)/\s.heap.objs.size<=C
def Wt(cap:List (Option 5))(Z:St):St:=cap.map λo=>o.bind λj=>(Z[j]?).join
structure CompOk(X:Cx)(scope:Scope)(N:Yi)(cap:List (Option 5)):4 where
 kind:scope.kind=.function
 loc:∀y∈scope.names,y.2=.local->scope.names.lookup y.1=!.local
 cell:∀y∈scope.names,y.2=.cell->scope.names.lookup y.1=!.cell
 free:∀y∈scope.names,y.2=.free->X.env.kindOf y.1=!.cell\/X.env.kindOf y.1=!.free
 len:cap.length=N.length
 cap:∀(i j:5)(x:Str),cap[i]?=! !j->N[i]?=!x->X.N[j]?=!x/\scope.names.lookup x=!.free
noncomputable def Kg(a:Scope)(b:Env)(c N:Yi)(cap:List (Option 5)):Bool:=
 decide (a.kind=.function)&&a.names.all (λy=>(not<|decide<|y.2=.local)||decide (a.names.lookup y.1=!.local))&&a.names.all (λy=>(not<|decide<|y.2=.cell)||decide (a.names.lookup y.1=!.cell))&&
 a.names.all (λy=>(not<|decide<|y.2=.free)||(decide (b.kindOf y.1=!.cell)||decide (b.kindOf y.1=!.free)))&&decide (cap.length=c.length)&&
 (c.zip cap).all λp=>match p.2 with|none=>6|some j=>decide (N[j]?=!p.1)&&decide (a.names.lookup p.1=!.free)
def CompOk.of   {cap:List (Option 5)}(h:Kg c X.env N X.N cap=6):CompOk X c N cap:=by
 unfold Kg at h;simp only[Ui,UP,decide_eq_true_eq,Vv,Bool.not_eq_true',decide_eq_false_iff_not]at h;let(((((l,n),o),p),r),s):=h;refine(l,λy e f=>?_,λy e f=>?_,λy e u=>?_,r,λi j x v B=>?_)
 .rcases n y e with z|z
  .exact Zn f z
  .exact z
 .rcases o y e with z|z
  .exact Zn f z
  .exact z
 .rcases p y e with z|z
  .exact Zn u z
  .exact z
 .let E:%[x|!j]∈N.zip cap:=by
   calc Uf (i:=i) ?_;rw[VT];exact(B,v)
  let q:=s %[x|!j] E;simpa using q
section
variable      {Z: St}    {C D:Addr}{fp:Yj}
def Pv   (ok:CompOk X a N cap)(I:Inv X Y Z H s)(B:∀b∈fp,yQ X Y H b)(y:∀b∈fp,b<s.heap.objs.size)
 (d:CellsAt a X.env E C F)
 (t:s.heap.objs.size<=C)(g:∀b o,s.heap.get? b=!o->F.get? b=!o)(G:F.Ns C m):
 Inv (JM X a N E C s H fp) [] (Wt cap Z) H {s with heap:=F,toks:=tk}:=by
 let O:∀x,(JM X a N E C s H fp).env.kindOf x=!.cell\/(JM X a N E C s H fp).env.kindOf x=!.free->a.names.lookup x=!.free\/a.names.lookup x=!.cell:=λx h=>by
  rcases h with h|h
  .exact Br (env:=X.env) (x:=x) (names:=a.names).2 _ h<|.inl 9
  .exact Br (env:=X.env) (x:=x) (names:=a.names).2 _ h<|.inr 9
 refine((I.ok.mod,ok.kind,I.ok.glob,I.ok.blt,t,d.inj,λx h=>?_,λx c z e=>?_,I.ok.hd,I.ok.frames,.inl 9,λb n=>(?_,λx c e=>?_),I.bs,Zh I.ok.bsz I.sz,
  λb o e n=>?_,λb n z=>?_,I.stack,I.stkFree),9,I.bare,Un.kept g,(m,G,λi x v J f e3=>?_),λx c e=>?_,I.hok.fresh t,λx c e=>?_,λp P=>Zn P<|by show ¬p∈([]:Yb)++[];simp,I.hok.kept g,?_)
 .rcases O x h with q|q
  .let(c,e,_):=d.free x q;exact(c,e)
  .exact d.own x q
 .rcases d.from_ x c e with ⟨_,q⟩|⟨q,_⟩
  .exact Zn (Ps z) q
  .exact Zh t<|Zz q
 .exact Zi<|Zg (y b n) t
 .rcases d.from_ x c e with ⟨q,_⟩|⟨q,_⟩
  .exact(B b n).2.2.2.2.1 x c q
  .exact UW<|Ul (Zg (y b n) t) q
 .rcases(B b n).2.2.2.1 with z|z
  .exact I.ok.noex b o e z
  .exact Zn (Zg (Zk e)<|Zh I.ok.bsz z)<|Zy _
 .rcases U4.mp (I.stkSub b z)with q|q
  .exact(B b n).2.1 q
  .exact(B b n).2.2.1 q
 .let J:N[i]?=!x:=J;let Q:∃j,cap[i]?=! !j/\Z[j]?=! !v:=by
   let f:(cap.map λo=>o.bind λj=>(Z[j]?).join)[i]?=! !v:=f;rw[Zv]at f;cases q:cap[i]? with
   |none=>rw[q]at f;calc J7 f
   |some o=>
    rw[q]at f;cases o with
    |none=>cases f
    |some j=>
     let f:some (Z[j]?).join=! !v:=f;cases L:Z[j]? with
     |none=>rw[L]at f;cases f
     |some w=>rw[L]at f;exact(j,9,by cases f;calc L)
  let(j,R,S):=Q;let(T,M):=ok.cap i j x R J;let(m0,_,U):=I.loc;let fr:=ok.free %[x|.free] (PySem.mem_of_lookup M) 9;let(u,r,l):=U j x v T S (fr.elim (λz=>.inr<|.inl z) λz=>.inr<|.inr z);calc(u,r,.inr (Br (x:=x).1 M,?_));rcases l with ⟨k,_⟩|⟨_,c,ec,z⟩
  .simp_all
  .let(c',e',A):=d.free x M;rw[ec]at A;obtain rfl:=Zqi A;exact(c,e',z.keeps g)
 .rcases d.from_ x c e with ⟨q,_⟩|⟨_,q⟩
  .let(v,z):=I.cell x c q;exact(v,z.keeps g)
  .exact(8,q)
 .rcases d.from_ x c e with ⟨q,_⟩|⟨q,_⟩
  .exact I.freeC x c q
  .exact I.hok.fresh<|Zh t<|Zz q
 .show(cap.map _).length=N.length;rw[Zql];exact ok.len
def Pw{w:St}       (I:Inv X Y Z H s)(i:∀b∈fp,yQ X Y H b)(x:s.heap.objs.size<=C)(y:s.heap.objs.size<=D)(j:D≠C)
 (J:Inv (JM X l N R C s H fp) [] w f m)(A:m.heap.get? D=!{cls:=.type "list",data:=.seq g.toArray k})(S:f D=8)(E:j1 p g)(F:p.length<=sizeLine)(h:Heap.SameBut C m.heap G)
 (q:Q (.ref D) (jD f D<|.lst p)):EP X Y Z Q (.ref D) {m with heap:=G}:=by
 let r:∀b o,s.heap.get? b=!o->b≠C:=λb o e=>Zi<|Zg (Zk e) x;let L:∀b o,s.heap.get? b=!o->b≠D:=λb o e=>Zi<|Zg (Zk e) y;let tD:∀b u,f b=!u->b≠D:=by grind
 let tC:∀b u,f b=!u->b≠C:=λb u e z=>by
  let:=J.free;rw[z,show f C=8 from this]at e;exact J7 e
 let B:=J.base;refine(.ref D,jD f D<|.lst p,I.call' J.os ?_ ?_ J.bare<|λb a=>((i b a).2.2.2.1,(i b a).2.1,(i b a).2.2.2.2.1,(i b a).2.2.2.2.2),9,q)
 .refine(λb o e n a d=>(h.2 b<|r b o e).trans<|B.keep b o e n a d,λb o e n a d=>?_,λb o e n d=>?_,λb o e d=>?_,λb t e=>?_,λb o u e=>?_,λb M e=>?_)
  .let(O,z):=B.slot b o e n a d;exact(O,(h.2 b<|r b o e).trans z)
  .rw[JI (L b o e)];exact B.free b o e n d
  .let(P,z):=B.there b o e d;exact(P,(h.2 b<|r b o e).trans z)
  .let z:=B.tups b t e
   rwa[JI (tD b _ z)]
  .let z:=B.frzs b o u e
   rwa[JI (tD b _ z)]
  .let(more,z):=B.tbls b M e;exact(more,by rwa[JI (tD b _ z)])
 .intro b u e;by_cases a:b=D
  .subst a;rw[JL]at e;obtain rfl:=Zqi e;exact(F,g,k,E,(h.2 b j).trans A)
  .rw[JI a]at e;refine(J.hok b u e).stay (λc v T z=>(h.2 c ?_).trans z) (λc z=>by rwa[JI (tD c _ z)])<|λc t z=>by rwa[JI (tD c _ z)]
   grind
end
def bG(cap:List (Option 5))(g:TG)(h:TE)(Z:St)(Q:VK):It->Hp->4:=λJ j=>∃W:5->5->YB->St->Hp->4,(∃m,W 0 m [] (Wt cap Z) j)/\∀i m b c a,W i m b c a->b.length<sizeLine/\
 (
  (J.stop i a/\∀D,a D=8->Q (.ref D) (jD a D<|.lst b))\/
  J.go i a/\∀x d,J.yld i a x d->g x c d λe l=>h e l λy n=>∃f,f<m/\W (i+1) f (b++[y]) e n)
def Xt(cap:List (Option 5))(wi:TI)(g:TG)(a:TE):TE:=λZ H Q=>wi Z H<|bG cap g a Z Q
def Px(cap:List (Option 5))(g:TG)(l:TT)(n:TE)(Z:St)(Q:VK):It->Hp->4:=λJ o=>∃W:5->5->YB->St->Hp->4,(∃m,W 0 m [] (Wt cap Z) o)/\∀i m c f a,W i m c f a->c.length<sizeLine/\
 (
  (J.stop i a/\∀D,a D=8->Q (.ref D) (jD a D<|.lst c))\/
  J.go i a/\∀x h,J.yld i a x h->g x f h λe p=>l e p λb j=>if b=6 then n e j λy q=>∃d,d<m/\W (i+1) d (c++[y]) e q else ∃d,d<m/\W (i+1) d c e j)
def Bt(cap:List (Option 5))(wi:TI)(g:TG)(a:TT)(b:TE):TE:=λZ H Q=>wi Z H<|Px cap g a b Z Q
section
variable {X:Cx}{tg iter elt c:Expr}   {wi:TI}
def Aa(X:Cx)(Y:Yb)(Z:St)(Q:VK)(b:Option (Value->Sem Unit))(R:Ya):4:=
 ∀(C D:Addr)(m:Yd)(a:Shared)(r:Flow),a.heap.Ns C m->¬C=X.env.locals->C∉X.fs->X.s₀.heap.objs.size<=C->(∀x c,X.env.cells.lookup x=!c->c≠C)->(∀p∈X.pn++Y,p.1≠C)->
  (∀d,Heap.SameBut C a.heap d->EP X Y Z (λv e=>e C=8/\Q v e) (.ref D) {a with heap:=d})->compPost (model X.prog X.w) X.A X.xe b R (.ref D) C (.ok r) a
def GF   :Aa X Y Z Q 8 (EP X Y Z Q):=λC D m h r b _ _ _ _ _ k=>(m,b,λd a=>by
 let(v e,f,g,_,q):=k d a;calc(v,e,f,g,q))
def bO(X:Cx)(tg elt:Expr)(f d:Value)(a:Env)(R:Result->Yz)(I:5->Yz)(b:(Bool->Yz)->Yz)(n:5)(s:Shared):4:=
 let E:Ya:=notedBy (model X.prog X.w) X.A a λe i=>R (.error e) i
 YE X (pyNext f) (λr g=>match r with
  |none=>R (.ok .next) g
  |some v=>YE X (letOwnedTupleGo tg f v) (λ_ j=>YE X (assign tg a v) (λ_ l=>b (λok h=>if ok=6 then YE X (eval elt a) (λx o=>YE X (call (.builtin "list.append") [d,x]) (λ_ p=>∃m,m<n/\I m p) E o) E h else ∃m,m<n/\I m h) l) E j) E g) E s
def GG (N:Yi){test:Env->(Result->Yz)->(Bool->Yz)->Yz}
 (lp:∀{it acc:Value}{env:Env}{R:Result->Yz}{s:Shared}(I:5->Yz),(∀n s,I n s->bO X tg elt it acc env R I (test env R) n s)->∀n,I n s->codeAny (model X.prog X.w) X.A (.compLoop (.ListComp elt [(tg,iter,ifs,0)] a pos) 0 it acc env) R s)
 (ht:∀A C s H ex{Y:Yb}{s7:Shared}{Z7:St}{H7:Hp}{R:Result->Yz}{q:Bool->Hp->4}{Q:Bool->Yz},Xs X C s H ex->(∀e E,ZZ X C e E->R (.error e) E)->Inv (JM X a N A C s H ex) Y Z7 H7 s7->tt Z7 H7 q->(∀b s8 H8,Inv (JM X a N A C s H ex) Y Z7 H8 s8->q b H8->Q b s8)->test (compEnvC a A C X.env) R Q s7)
 (cap:List (Option 5))(hc:X.calm=6)(okB:Kg a X.env N X.N cap=6)(hi:PI X tg iter wi)(hg:∀A C s H ex,PG (JM X a N A C s H ex) tg g)(he:∀A C s H ex,Xs X C s H ex->PE (JM X a N A C s H ex) elt te)
 (hs:∀x,foldedSetIterable iter X.env x=pure x)     {Z:St}  (I:Inv X Y Z H s)(h:Bt cap wi g tt te Z H Q)(fin:Aa X Y Z Q use R):
 YE X (comprehension (.ListComp elt [(tg,iter,ifs,0)] a pos) a X.env fpos (newList []) 7 (eval iter X.env) use) R X.xe s:=by
 let ok:=CompOk.of okB;let(-cl0,hcl,hcl1,hcl2):=Pr X.env a λy hy hf=>I.ok.has y.1<|ok.free y hy hf;calc wpAny_comprehension_free (use:=use) 9 hs hcl ok.kind ok.loc<|jS (hi Y s Z H _ I h) λxv s1 h1=>jS h1 λitv j h2=>?_;let(it w tn J L,e,F,T,st2,f2,(W,(m0,w0),turn)):=h2;subst e;let P:∀b∈w,b<j.heap.objs.size:=λb t=>let(_,e,_):=T.obj _ _ st2 b t;Zk e
 calc wpAny_newObj_type<|Pu ?_;dsimp only;generalize hP:j.heap.push {cls:=.type "list",dict:=8,data:=.seq ([]:Ye).toArray}=P2;let hC:P2.objs.size=j.heap.objs.size+1:=by rw[<-hP,Heap.size_push]
 let S:j.heap.objs.size≠P2.objs.size:=by rw[hC];exact Zi<|UG _
 let l:j.heap.objs.size<=P2.objs.size:=by rw[hC];exact Nat.le_succ _
 let below:∀b,b<j.heap.objs.size->b≠P2.objs.size/\b≠j.heap.objs.size:=λb t=>(by rw[hC];calc Zi<|Uw t,Zi t);let U:CellsAt a X.env (cellsFrom (P2.objs.size+1) a.names cl0) P2.objs.size (pushCells (P2.push {cls:=.type "dict",data:=.dict #[]}) a.names):=
  Pt hcl1 hcl2 F.ok.inj (λx c e=>Zh (Zz<|let(_,_,ho,_):=F.cell x c e;Zk ho) l) (Heap.size_push ..) ok.cell
 let hns1:(pushCells (P2.push {cls:=.type "dict",data:=.dict #[]}) a.names).Ns P2.objs.size λ_=>8:=(Heap.Ns.new P2<|.type "dict").keeps<|pushCells_keeps _ _;generalize cellsFrom (P2.objs.size+1) a.names cl0=A at U ⊢;let old:∀b o,j.heap.get? b=!o->(pushCells (P2.push {cls:=.type "dict",data:=.dict #[]}) a.names).get? b=!o:=λb o e=>pushCells_keeps _ _ b o<|Zq _<|hP ▸ Zq _ e;let hacc:(pushCells (P2.push {cls:=.type "dict",data:=.dict #[]}) a.names).get? j.heap.objs.size=!{cls:=.type "list",data:=.seq ([]:Ye).toArray 0}:=pushCells_keeps _ _ _ _<|Zq _<|hP ▸ Zr _ 9;generalize pushCells (P2.push {cls:=.type "dict",data:=.dict #[]}) a.names=g1 at U hns1 old hacc ⊢;let M:∀{H':Hp}{pl:Yb},(∀b∈w,H' b=8)->(∀p∈pl,p.1∉w)->∀b∈w,yQ (JM X a N A P2.objs.size j L w) pl H' b:=λ{H' pl}hn G b t=>by
  refine(hn b t,(below b<|P b t).1,λz=>?_,.inl t,λx c e=>?_,λp hq z=>?_)
  .rcases U4.mp (F.stkSub b z)with q|q
   .exact(f2 b t).2.1 q
   .exact(f2 b t).2.2.1 q
  .rcases U.from_ x c e with ⟨q,_⟩|⟨q,_⟩
   .exact(f2 b t).2.2.2.2.1 x c q
   .exact UW<|Ul (Zg (P b t) l) q
  .let hq:p∈([]:Yb)++pl:=hq;rw[List.nil_append]at hq;exact G p hq<|by rw[z];exact t
 let nD:j.heap.objs.size∉w:=λz=>Zn (P _ z)<|Zy _;let loop:∀s3:Shared,s3={j with heap:=g1}->
  codeAny (model X.prog X.w) X.A (.compLoop (.ListComp elt [(tg,iter,ifs,0)] a pos) 0 (.ref it) (.ref j.heap.objs.size)<|compEnvC a A P2.objs.size X.env)
   (compPost (model X.prog X.w) X.A X.xe use R (.ref j.heap.objs.size) P2.objs.size) s3:=by
  rintro s3 rfl;let I0:=Pv (tk:=j.toks) ok F f2 P U l old hns1;refine lp (λn E=>∃i ys B k Z' H',Inv (JM X a N A P2.objs.size j L w) [] Z' H' E/\tn i E.heap/\(∀b∈w,H' b=8)/\E.heap.get? j.heap.objs.size=!{cls:=.type "list",data:=.seq (List.toArray B) k}/\
   H' j.heap.objs.size=8/\j1 ys B/\W i n ys Z' H') ?_ m0
  <|wS 0 [] [] 0 (Wt cap Z) L (I0,T.keep _ _ _ st2<|λb _ o e=>old b o e,λb t=>(f2 b t).1,hacc,F.hok.fresh<|Zf _,.nil,w0)
  let cat:Xs X P2.objs.size j L w:=(_,_,F,f2,l);let ce:∀e E,ZZ X P2.objs.size e E->compPost (model X.prog X.w) X.A X.xe use R (.ref j.heap.objs.size) P2.objs.size (.error e) E:=λe E h=>by cases use<;>exact h
  let xe:∀e E,(JM X a N A P2.objs.size j L w).xe e E->notedBy (model X.prog X.w) X.A (compEnvC a A P2.objs.size X.env) (λe E=>compPost (model X.prog X.w) X.A X.xe use R (.ref j.heap.objs.size) P2.objs.size (.error e) E) e E:=λe E h=>Zc h (λ_ j q=>ce e j q) λe j q=>ce e j q;rintro n s4 ⟨i,ys,B,k,Z4,H4,I4,st4,fr4,hd4,hn4,rv4,w4⟩;let(hz,tn4):=turn i n ys Z4 H4 w4;let J4:Inv (JM X a N A P2.objs.size j L w) [%[j.heap.objs.size|{cls:=.type "list",data:=.seq B.toArray k}]] Z4 H4 s4:=I4.pins_of λp G=>by
   let e:=Jc.mp G;subst e;calc(hd4,hn4,S,?_,λv z=>by cases z);exact λz=>Zn (Zg (by
    rcases U4.mp (F.stkSub _ z)with q|q
    .exact UD (Yu q) F.lt
    .let(_,o,ho,_):=F.ok.funs.mem q;calc Zg (Zk ho) F.sz)<|Zf j.heap.objs.size)<|Zy _
  let np:∀p ∈[%[j.heap.objs.size|({cls:=.type "list",data:=.seq B.toArray k}:Obj)]],p.1∉w:=λp G=>by
   let e:=Jc.mp G;subst e;exact nD
  rcases tn4 with ⟨stop,qn⟩|⟨go,step⟩
  .calc Zc (T.done (JM X a N A P2.objs.size j L w) 9 9 9 hc i _ s4 Z4 H4 (λ_ _=>False) J4 (M fr4 np) st4 stop) (λr s5 h5=>?_) λ_ _ f=>f.elim;let(rfl,I5):=h5;let(m,hm,_):=id I5.loc;let p5:=I5.pin %[j.heap.objs.size|_]<|Ue _ Zqs;refine fin _ _ m _ _ hm (UW<|Zg F.lt l) (F.nofs l) (Zh F.sz l) (λx c e z=>?_) (λp G z=>?_) λh' hs'=>Pw F f2 l (Zf _) S (I5.pins_of λp G=>nomatch G) p5.1 p5.2.1 rv4 (Zz hz) hs' (by rw[JI (Ne.symm S)];calc I5.free,qn _ p5.2.1)
   .let(v,o,ho,hd):=F.cell x c e;let:=Zk ho;rw[z]at this;exact Zn (Zg this l)<|Zy _
   .let:=Zk (F.pin p G).1;rw[z]at this;exact Zn (Zg this l)<|Zy _
  .calc Zc (T.item (JM X a N A P2.objs.size j L w) 9 9 9 hc i _ s4 Z4 H4 (λ_ _=>False) J4 (M fr4 np) st4 go) (λr s5 h5=>?_) λ_ _ f=>f.elim;let(u,rfl,h5):=h5;calc Zc h5 (λ_ s6 h6=>?_) λ_ _ f=>f.elim;let(x H6,I6,r6,y6,st6,fr6):=h6;let I6':=I6.pinned (M fr6 np)<|T.obj _ _ st6;calc Zc (hg A P2.objs.size j L w _ s6 Z4 H6 x u _ I6' r6<|step x H6 y6) (λ_ s7 h7=>?_) xe;let(Z7 H7,I7,q7):=h7;calc ht A P2.objs.size j L w cat ce I7 q7 λbv s8 H8 I8 q8=>?_;let O:∀(H9:Hp)(s9:Shared)(Z9:St),Inv (JM X a N A P2.objs.size j L w) ([%[j.heap.objs.size|{cls:=.type "list",data:=.seq B.toArray k}]]++ZS w s6.heap) Z9 H9 s9->(∀b∈w,∀o,s6.heap.get? b=!o->s9.heap.get? b=!o)/\∀b∈w,H9 b=8:=λH9 s9 Z9 I9=>by
    calc(λb t o e=>(I9.pin %[b|o]<|Ue _<|Ue _<|Bo t e).1,λb t=>?_);let(o,e,d):=T.obj _ _ st6 b t;exact(I9.pin %[b|o]<|Ue _<|Ue _<|Bo t e).2.1
   let p8:=I8.pin %[j.heap.objs.size|_]<|Ue _<|Vw _ Zqs;cases bv with
   |false=>
    rw[Ze ()]at q8 ⊢;let(-m',hm',w8):=q8;let(z1,z2):=O _ _ _ I8;calc(m',hm',i+1,ys,B,k,Z7,H8,I8.pins_of (λp G=>nomatch G),T.keep _ _ _ st6 z1,z2,p8.1,p8.2.1,rv4,w8)
   |true=>
    rw[Zd 9]at q8 ⊢;calc Zc (he A P2.objs.size j L w cat _ s8 Z7 H8 _ I8 q8) (λyv s9 h9=>?_) xe;let(y H9,I9,ry,(m',hm',w9)):=h9;let p9:=I9.pin %[j.heap.objs.size|_]<|Ue _<|Vw _ Zqs;let hl:=rv4.length;calc append_at (hsz:=by show B.toArray.size<=sizeLine;rw[Zm,<-hl];calc Zz hz) p9.1 λh10 hs10 hd10=>?_;let I10:Inv (JM X a N A P2.objs.size j L w) [] Z7 H9 {s9 with heap:=h10}:=(I9.pins_of (Y':=[]) λp G=>nomatch G).turned (t':=s9.toks) (it:=j.heap.objs.size) (λb o t e=>(hs10.2 b t).trans e) p9.2.1 S (.inr<|Zf _)
     (λx c e z=>by
      let(v,o,ho,hd):=I9.cell x c e;rw[z,p9.1]at ho;cases ho;cases hd)<|λp G=>Zn G<|by show ¬p∈([]:Yb)++[];simp
    let(z1,z2):=O _ _ _ I9;refine(m',hm',i+1,ys++[y],B++[yv],k+1,Z7,H9,I10,T.keep _ _ _ st6<|λb t o e=>?_,z2,?_,p9.2.1,j1.append rv4<|.cons ry .nil,w9)
    .let hb':b≠j.heap.objs.size:=λz=>nD (by rw[<-z];calc t);exact(hs10.2 b hb').trans<|z1 b t o e
    .calc hd10.trans ?_;simp
 exact codeAny_compStart_list (loop _ 9)<|T.self _ 0 _ _ _ (T.keep _ _ _ st2<|λb _ o e=>old b o e)<|loop _ 9
def GH(N)(cap)(m:X.calm=6)(e:Kg a X.env N X.N cap=6)(o:PI X tg iter wi)(p:∀f C s H d,PG (JM X a N f C s H d) tg g)(r:∀f C s H d,Xs X C s H d->PE (JM X a N f C s H d) elt t)
 (u:∀x,foldedSetIterable iter X.env x=pure x)     {Z:St}  (I:Inv X Y Z H s)(h:Xt cap wi g t Z H Q)(i:Aa X Y Z Q j R):
 YE X (comprehension (.ListComp elt [(tg,iter,[],0)] a v) a X.env l (newList []) 7 (eval iter X.env) j) R X.xe s:=
 GG (test:=λ_ _ Q s=>Q 6 s) N (λI b n h=>W.kcp_loop I b n h) (λ_ _ _ _ _ _ _ _ _ _ _ _ _ _ I q k=>k 6 _ _ I q) cap m e o p r u I h i
def GI(N)(cap)(f:X.calm=6)(d:Kg a X.env N X.N cap=6)(i:PI X tg iter wi)(j:∀e C s H b,PG (JM X a N e C s H b) tg g)(l:∀e C s H b,Xs X C s H b->PE (JM X a N e C s H b) elt m)
 (n:∀x,foldedSetIterable iter X.env x=pure x:=by intro _;rfl):PE X (.ListComp elt [(tg,iter,[],0)] a o) (Xt cap wi g m):=λY s Z H Q I h=>GH N cap f d i j l n I h GF
def GJ(N)(cap)(f:X.calm=6)(b:Kg a X.env N X.N cap=6)(h:PI X tg iter wi)(i:∀d C s H e,PG (JM X a N d C s H e) tg g)(n:∀d C s H e,PE (JM X a N d C s H e) elt j)
 (l:∀x,foldedSetIterable iter X.env x=pure x:=by intro _;rfl):PE X (.ListComp elt [(tg,iter,[],0)] a m) (Xt cap wi g j):=GI N cap f b h i () l
end
mutual
def Is (H:Hp):PyData->V->Prop
 | .none,v=>v=.non
 | .bool b,v=>v=.bl b
 | .int i,v=>v=.int i
 | .str x,v=>v=.str x
 | .list d,v=>∃a c,v=.ref a/\H a=some (.lst c)/\qK H d c
 | .tuple d,v=>∃a c,v=.ref a/\H a=some (.tup c)/\qK H d c
 | .dict _,_=>False
def qK (H:Hp):List PyData->YB->Prop
 | [],a=>a=[]
 |d::b,a=>∃x r,a=x::r/\Is H d x/\qK H b r
end
mutual
theorem Is.same {H n:Hp}(e:jk H n):∀d v,Is H d v->Is n d v
 | .none,_,h=>h
 | .bool _,_,h=>h
 | .int _,_,h=>h
 | .str _,_,h=>h
 | .list f,v,h=>have ⟨a,c,i,j,l⟩:=h;⟨a,c,i,e _ _ j,qK.same e f c l⟩
 | .tuple f,v,h=>have ⟨a,c,i,j,l⟩:=h;⟨a,c,i,e _ _ j,qK.same e f c l⟩
 | .dict _,_,h=>h.elim
theorem qK.same {H i:Hp}(e:jk H i):∀c f,qK H c f->qK i c f
 | [],_,h=>by simp_all [qK]
 |d::c,f,h=>have ⟨x,r,j,l,n⟩:=h;⟨x,r,j,Is.same e d x l,qK.same e c r n⟩
end
theorem qK.length :∀{c:List PyData}{e:YB},qK H c e->e.length=c.length
 |[],_,h=>by simp_all[qK]
 |d::c,e,h=>by
  let(x,r,rfl,_,f):=h;rw[Zu,Zu,qK.length f]
theorem qK.get :∀{c:List PyData}{f:YB}{i:5}{d:PyData},qK H c f->c[i]?=!d->∃x,f[i]?=!x/\Is H d x
 |[],_,_,_,_,e=>by simp at e
 |d::c,f,0,j,h,e=>by
  grind[qK]
 |d::c,f,i+1,j,h,e=>by
  let(x r,rfl,_,l):=h;let(y,n,o):=qK.get l (by simpa using e)
  simp_all
theorem GK :∀(a:Yf),qK H (a.map PyData.int) (a.map V.int)
 |[]=>by rfl
 |n::a=>jI _ _ (9,by rfl,GK a)
theorem GL :∀{ns:Yf}{a:YB},qK H (ns.map PyData.int) a->a=ns.map V.int
 |[],_,h=>by
  simp_all[qK]
 |n::ns,a,h=>by
  let(x r,rfl,b,c):=h;rw[b,GL c];rfl
def xZ   :Is H (.list e) v↔∃a c,v=.ref a/\H a=! .lst c/\qK H e c:=Iff.rfl
def zn   :Is H (.tuple e) v↔∃a c,v=.ref a/\H a=! .tup c/\qK H e c:=Iff.rfl
mutual
def Kb:PyData->Bool
 | .int _=>true
 | .list a=>W4 a
 | .tuple a=>W4 a
 | .none=>false
 | .bool _=>false
 | .str _=>false
 | .dict _=>false
def W4:List PyData->Bool
 | []=>true
 |x::a=>Kb x&&W4 a
end
mutual
theorem Py:∀d:PyData,Kb d=true->d.canLay0=true
 | .int _,_=>by rfl
 | .list a,h=>D0 a h
 | .tuple a,h=>D0 a h
 | .none,h=>by rfl
 | .bool _,h=>by rfl
 | .str _,h=>by simp_all [Kb]
 | .dict _,h=>by simp_all [Kb]
theorem D0:∀a:List PyData,W4 a=true->PyData.canLayAll0 a=true
 | [],_=>by rfl
 |x::a,h=>by
  obtain⟨b,c⟩:=Jr.mp h;unfold PyData.canLayAll0;rw[Py x b,D0 a c];rfl
end
mutual
theorem D1:∀d e:PyData,Kb d=true->Kb e=true->(PyData.eqv d e=true↔d=e)
 | .int i,.int j,_,_=>by unfold PyData.eqv;simp
 | .int i,.list a,_,_=>by unfold PyData.eqv;simp
 | .int i,.tuple a,_,_=>by unfold PyData.eqv;simp
 | .list b,.int j,_,_=>by unfold PyData.eqv;simp
 | .list b,.list a,c,h2=>by
  have q:=D3 b a c h2
  simp_all [PyData.eqv]
 | .list b,.tuple a,_,_=>by unfold PyData.eqv;simp
 | .tuple b,.int j,_,_=>by unfold PyData.eqv;simp
 | .tuple b,.list a,_,_=>by unfold PyData.eqv;simp
 | .tuple b,.tuple a,c,h2=>by
  have q:=D3 b a c h2
  simp_all [PyData.eqv]
 | .none,_,h,_=>by simp_all [Kb]
 | .bool _,_,h,_=>by simp_all [Kb]
 | .str _,_,h,_=>by simp_all [Kb]
 | .dict _,_,h,_=>by simp_all [Kb]
 |_,.none,_,h=>by simp_all [Kb]
 |_,.bool _,_,h=>by simp_all [Kb]
 |_,.str _,_,h=>by simp_all [Kb]
 |_,.dict _,_,h=>by simp_all [Kb]
theorem D3:∀a b:List PyData,W4 a=true->W4 b=true->(PyData.eqvAll a b=true↔a=b)
 | [],[],_,_=>by unfold PyData.eqvAll;simp
 | [],y::b,_,_=>by unfold PyData.eqvAll;simp
 |x::a,[],_,_=>by unfold PyData.eqvAll;simp
 |x::a,y::b,c,h2=>by
  have ⟨d,e⟩:=Jr.mp c;have ⟨f,g⟩:=Jr.mp h2;unfold PyData.eqvAll;rw[Bool.and_eq_true_iff,D1 x y d f,D3 a b e g];simp
end
def Pz (a:Kb d=6)(b:Kb e=6)(h:d≠e):PyData.eqv d e=7:=by
 grind[D1]
def P0 (a:Kb d=6):PyData.eqv d d=6:=(D1 d d a a).mpr 9
def qO:Yf->3
 |[]=>0
 |x::r=>r.foldl max x
def zz:Yf->3
 |[]=>0
 |x::r=>r.foldl min x
theorem GM:∀(r:Yf)x,x<=r.foldl max x/\(∀y∈r,y<=r.foldl max x)/\(r.foldl max x=x\/r.foldl max x∈r)
 |[],x=>by simp
 |y::r,x=>by
  let(!b,a,c):=GM r (max x y);show x<=r.foldl max (max x y)/\(∀z∈y::r,z<=r.foldl max (max x y))/\(r.foldl max (max x y)=x\/r.foldl max (max x y)∈y::r);refine((),λz hz=>?_,?_)
  .rcases U4.mp hz with rfl|hz
   .omega
   .exact a z hz
  grind
def WN (h:l ≠[]):qO l∈l/\∀y∈l,y<=qO l:=by
 cases l with
 |nil=>simp_all
 |cons x r=>
  let(!a,b,h3):=GM r x;refine(?_,λy hy=>?_)
  .rcases h3 with h3|h3
   .show r.foldl max x∈x::r;rw[h3];exact Zqs
   .exact Zqm _ h3
  .rcases U4.mp hy with rfl|hy
   .exact a
   .exact b y hy
def GN  (a:M∈l)(b:∀y∈l,y<=M):M=qO l:=by
 let(c,d):=WN (l:=l) ()
 grind
theorem GO:∀(r:Yf)x,r.foldl min x<=x/\(∀y∈r,r.foldl min x<=y)/\(r.foldl min x=x\/r.foldl min x∈r)
 |[],x=>by simp
 |y::r,x=>by
  let(!b,a,c):=GO r (min x y);show r.foldl min (min x y)<=x/\(∀z∈y::r,r.foldl min (min x y)<=z)/\(r.foldl min (min x y)=x\/r.foldl min (min x y)∈y::r);refine((),λz hz=>?_,?_)
  .rcases U4.mp hz with rfl|hz
   .omega
   .exact a z hz
  grind
def Bu (h:l ≠[]):zz l∈l/\∀y∈l,zz l<=y:=by
 cases l with
 |nil=>simp_all
 |cons x r=>
  let(!a,b,h3):=GO r x;refine(?_,λy hy=>?_)
  .rcases h3 with h3|h3
   .show r.foldl min x∈x::r;rw[h3];exact Zqs
   .exact Zqm _ h3
  .rcases U4.mp hy with rfl|hy
   .exact a
   .exact b y hy
def GP  (a:M∈l)(b:∀y∈l,M<=y):M=zz l:=by
 let(c,d):=Bu (l:=l) ()
 grind
def P1(o:X.calm=6):qq X (.builtin "max") λl H Q=>∃a c,l=[.ref a]/\xo X.K H a (c.map V.int)/\c ≠[]/\Q (.int<|qO c) H:=by
 intro Y s Z H l G Q I r h;let(a c,rfl,w,x,q):=h;let(u,rfl,y):=K2 r;obtain rfl:=y;let(-z,A,p,J):=I.list w;let m:=OO A;let(g,e):=m.allInts.items;let d:c=g.toList.map (·.1):=by
  rw[<-m.numsOf,<-nums_intItems,<-e]
 let i:0<g.size:=by
  grind
 let f:=p.isList;rw[e]at f;calc max_intList (I.ok.hd o) f i λv L M B C=>?_;let(t,rfl):=intItems_at B;let(N,E):=argBest_gt (numAt g) (g.size-1);refine(.int<|qO c,H,I.kept C,(t,?_),q)
 congr 1
 refine GN ?_ λb n=>?_
 .rw[d,numAt_eq];exact PySem.getD_mem<|by rw[Zql,Uy];lia
 .rw[d]at n;let(j,F,rfl):=PySem.mem_getD n;rw[Zql,Uy]at F;rw[<-numAt_eq];exact E j ()
def P3:qq X (.builtin "isinstance") λa H Q=>∃x n t b,a=[x,.ty n]/\TyOf X.K H x t/\W.kitOne X.K t (.type n)=!b/\Q (.bl b) H:=by
 intro Y s Z H a i Q I r h;let(x n t b,rfl,c,e,q):=h;let(u,j,rfl,d,f):=ZT r;obtain rfl:=f;exact OD I d c e λg=>(.bl b,H,I.tok g,9,q)
def wD(P:Program)(w:World)(K:W.Frag)(c:Yd)(a:Heap)(b:Str)(k:5)(d:Yi)(g:Sp):4:=
 ∃f e,FnOk P w K c a yo k f e d g/\vo K e d []/\W.keepIn K (.ref f)=6/\c b=! .ref f
theorem wD.mono  {K:W.Frag}      (c:wD P w K l e i j n o)(h:j<=k):wD P w K l e i k n o:=by
 let(f p,F,r):=c;exact jI f p (F.mono h,r)
def XV        (c:wD X.prog X.w X.K X.mg X.base a k s j)(l:Room k X.A)(m:Gl X a)(n:PA X (e::d) t)
 (g:(a==("__debug__":Str))=7:=by decide)(o:starEach (e::d) X.env=%[7|eval e X.env]::starEach d X.env:=by rfl)(h:(backTo i<|starEach d X.env).any (·.1)=7:=by rfl):
 PE X (.Call (.Name a p) (e::d) [] i) (Dr j [] E0 t):=by
 let(f u,F,b,q,r):=c;exact Gp F l m r q b .nil GC n g o h
def KW  (h:H p=8)(o):jk H (jD H p o):=λb u q=>by rwa[JI (KD q h)]
def Qt (h:n<=1000):n<=sizeLine:=Zz<|GD h
def pD(p:3×3):PyData:=.tuple [.int p.1,.int p.2]
def rD(r:Jz):PyData:=.tuple<|r.map pD
def nG   :Is H (pD p) v↔∃a,v=.ref a/\H a=! .tup [.int p.1,.int p.2]:=by
 constructor
 .rintro⟨a,f,b,c,d⟩;let e:=GL (ns:=[p.1,p.2]) d
  simp_all
 .rintro⟨a,b,c⟩;exact(a,_,b,c,GK [p.1,p.2])
def Bv  (o)(s:jk H a)(h:H l=8):jk H (jD a l o):=λb u e=>by
 rw[JI (KD e h)];exact s b u e
theorem P4:∀a:Yf,W4 (a.map PyData.int)=6
 |[]=>by rfl
 |n::a=>by
  show W4 (PyData.int n::a.map PyData.int)=6;unfold W4;rw[P4 a];rfl
def D4(p):Kb (pD p)=6:=by rfl
theorem P5:∀a:Yf,PyData.depthAll (a.map PyData.int)=0
 |[]=>by rfl
 |n::a=>by
  show PyData.depthAll (PyData.int n::a.map PyData.int)=0;unfold PyData.depthAll;rw[P5 a];rfl
def Kn:bootBuiltins "len"=! .builtin "len":=boot_len
def Xu:bootBuiltins "max"=! .builtin "max":=boot_max
def P6:bootBuiltins "min"=! .builtin "min":=boot_min
def XX:bootBuiltins "isinstance"=! .builtin "isinstance":=boot_isinstance
def Ab:bootBuiltins "sorted"=! .builtin "sorted":=boot_sorted
def P7:bootBuiltins "int"=! .type "int":=boot_int
def P8:bootBuiltins "bool"=! .type "bool":=boot_bool
def D5:bootBuiltins "str"=! .type "str":=boot_str
def Ac:bootBuiltins "list"=! .type "list":=boot_list
def Xv:bootBuiltins "tuple"=! .type "tuple":=boot_tuple
def Bw:bootBuiltins "dict"=! .type "dict":=boot_dict
def bt_set:bootBuiltins "set"=! .type "set":=boot_set
def GQ:entryFor table "dict.update.loop"=!Builtin.«dict.update.loop»:=entryFor_of_tree<|by rfl
def Bx:plainId "dict.update.loop"=6:=by decide+kernel
section
variable   {K:Type}[DecidableEq K]
def b7(l:KeyKind u w K)(p t d:Addr)(c:Yk)(h:List (K×Value))(F:Heap)(hlen:c.size=h.length)
 (Q:∀(j:5)k v,h[j]?=!%[k|v]->∃x n,c[j]?=! .ref x/\F.IsTuple x #[n,v]/\l.is k n=6/\x≠p/\x≠d)
 (G:F.IsTuple t c)(n1:t≠p)(n2:t≠d)(S:d≠p)(m:5):
 ∀i:5,h.length-i=m->∀A R s(a:List (K×Value)),A.handled=8->s.heap.IsTupleIter p t i->(∀b o,b≠p->b≠d->F.get? b=!o->s.heap.get? b=!o)->
  s.heap.DictOf l d a->a.length+(h.length-i)<=sizeLine->
  (∀y U,y.DictOf l d (merged a<|h.drop i)->(∀b o,b≠p->b≠d->F.get? b=!o->y.get? b=!o)->R (.ok<|.ret .none) {s with heap:=y,toks:=U})->
  wpAny (model u w) A.in1 (Builtin.«dict.update.loop» ([.ref d,.ref p,rawInt i,.none],[])) (λB N=>match B with|.done f=>R (.ok f) N|.again c'=>c'.quiet=6/\codeAny (model u w) A c' R N) (λe N=>R (.error e) N) s:=by
 induction m with
 |zero=>
  intro i O A R s a X Y keep Z hz P;let hx:c[i]?=8:=by rw[Array.getElem?_eq_none_iff];lia
  let ht:s.heap.IsTuple t c:=by
   let(o,q,r):=G;exact(o,keep t o n1 n2 q,r)
  unfold Builtin.«dict.update.loop»;calc Za<|wpAny_pyNext_tuple_end X Y ht hx λy eb=>?_;let hd0:h.drop i=[]:=Vg ();rw[hd0]at P;let H:y.DictOf l d a:=by
   let(o es ep,q,r):=Z;exact ji o es ep (eb d o S q,r)
  let B:=P y s.toks H<|λb o I J e=>eb b o I<|keep b o I J e;unfold Builtin.Dict.addKeywords;calc Za<|Zb<|Zb B
 |succ m ih=>
  intro i O A R s a X Y keep Z hz P;let C:i<h.length:=()
  let(g,hkv):∃g,h[i]?=!g:=(_,Zqg C);let(x n,hx,hta,L,a1,a2):=Q i g.1 g.2 hkv;let ht:s.heap.IsTuple t c:=by
   let(o,q,r):=G;exact(o,keep t o n1 n2 q,r)
  unfold Builtin.«dict.update.loop»;calc Za<|wpAny_pyNext_tuple_item Y ht hx λI st1 E=>?_;let(-ot,hot,hoc,(nn,hod)):=hta;let z:I.get? x=!ot:=(E.2 x a1).trans<|keep x ot a1 a2 hot;let hD1:I.DictOf l d a:=by
   let(o es ep,q,r):=Z;exact ji o es ep ((E.2 d S).trans q,r)
  dsimp only;calc Za<|wpAny_holding<|Za<|wpAny_tryCatch ?_;unfold Builtin.Dict.pairItems;calc Za<|wpAny_typeOf (T:="tuple") (ot,z,hoc) ?_;rw[Zd (by decide)];calc Za<|wpAny_seqItems z hod<|Zb ?_;show wpAny _ _ (holding [n,g.2]<|dictSet d n g.2) _ _ _;calc wpAny_holding<|wpAny_dictSet_pairs L hD1 (λJ hD2 M=>?_) ();let hc:(i:3)+1=((i+1:5):3):=by push_cast;rfl
  calc Zb ?_;rw[hc];let st2:J.IsTupleIter p t (i+1):=by
   let(o,q,r):=st1;exact(o,(M.2 p<|Ne.symm S).trans q,r)
  let k2:∀b o,b≠p->b≠d->F.get? b=!o->J.get? b=!o:=λb o b1 b2 e=>(M.2 b b2).trans<|(E.2 b b1).trans<|keep b o b1 b2 e;let z2:(stored a g.1 g.2).length+(h.length-(i+1))<=sizeLine:=by
   let:(stored a g.1 g.2).length<=a.length+1:=by
    unfold stored
    split
    .rw[Zql];lia
    .rw[Ua,Ub];lia
   rw[O]at hz;rw[Nat.sub_succ,O];exact Zh (Nat.add_le_add_right this m)<|Zh (Yu<|Nat.succ_add_eq_add_succ a.length m) hz
  let e:merged a (h.drop i)=merged (stored a g.1 g.2) (h.drop<|i+1):=by
   rw[Uj C];let:h[i]=g:=by
    let:=Zqg C;rw[this]at hkv;exact Zqi hkv
   rw[this];rfl
  exact(plainId_quiet Bx _,codeAny_builtin GQ<|by
   rw[Around.under_plainId Bx _];calc ih (i+1) (by rw[Nat.sub_succ,O];rfl) A R {s with heap:=J,toks:=s.toks+1} (stored a g.1 g.2) X st2 k2 hD2 z2 λy U H kk=>P y U (by rwa[e]) kk)
end
def P9
 (r:s.heap.get? a=!o)(t:o.cls=.type "tuple")(i:o.data=.seq z k)(u:o.dict=8)(j:typeLookup (.type "tuple") f=pure 8)(l:(["__module__","__name__","__qualname__","__doc__","__annotations__"]:Yi).contains f=7)(B:A.handled=8)
 (h:∀p v,(∀b o,s.heap.get? b=!o->p.get? b=!o)->Q 8 {s with heap:=p,toks:=v})(q:f.length+100<=sizeLine:=by size_fits):
 YF x w A (getAttr? (.ref a) f) Q E s:=by
 let(c,C,G,H):=o;simp only at t i u;subst t i u;let(I,g,d,v,os):=s;let y:∀m,((I,g,d,m,os):Shared).TypeIs (.ref a) "tuple":=λ_=>(_,r,9);let J:=sub_AttributeError;let L:=F.slot_tuple_getattribute.lookup;let M:=F.slot_tuple_getattribute.bind<|.ref a;let N:=am_tuple_getattr_none;unfold getAttr? getAttrBy? getAttrBy
 repeat(any_goals(first|assumption|calc y _|((with_reducible show wpAny _ _ (call (Value.builtin "tuple.__getattribute__") _ _) _ _ _);calc call_meets F.slot_tuple_getattribute (y _) am_entry_tuple_getattribute (F.args_tuple_getattribute_2 _ _) (meets_getattribute_miss_tuple a z k H f _ j l q) (r,B,λp m e n=>?_))|wp_step))
 let(O P,R):=n.there;show wpAny _ _ (getattributeRaised _ _ _ _ _ _ _) _ _ _;unfold getattributeRaised
 repeat(any_goals(first|assumption|wp_step))
 exact h _ _ n.of.keeps
section
variable   {K:Type}[DecidableEq K]
def PF(f:KeyKind x w K)      (Y:A.handled=8)(L:s.heap.get? t=!o)(M:o.cls=.type "tuple")(m:o.data=.seq a n)(hd:o.dict=8)
 (y:a.size=q.length)(N:∀(j:5)k v,q[j]?=!%[k|v]->∃i c,a[j]?=! .ref i/\s.heap.IsTuple i #[c,v]/\f.is k c=6)(hz:q.length<=sizeLine)
 (h:∀B O,B.DictOf f s.heap.objs.size (merged [] q)->(∀b u,s.heap.get? b=!u->B.get? b=!u)->Q (.ref s.heap.objs.size) {s with heap:=B,toks:=O}):
 YF x w A (call (.type "dict") [.ref t]) Q E s:=by
 calc callType_codes (Q₁:=λC s₁=>C=.ref s.heap.objs.size/\s₁={s with heap:=s.heap.push {cls:=.type "dict",data:=.dict #[]}}) F.kt_called_dict (F.kt_typeCall_dict_1 _) F.entry_dict_init (kt_code_dict_new _ (9,9)) ?_;rintro C s₁ ⟨rfl,rfl⟩;let d:(s.heap.push {cls:=.type "dict",data:=.dict #[]}).DictOf f s.heap.objs.size []:=Heap.DictOf.new s.heap;calc(d.typeIs,F.args_dict_init_2 _ _,?_);let p:(s.heap.push {cls:=.type "dict",data:=.dict #[]}).get? t=!o:=Zq _ L;unfold Builtin.«dict.__init__»;calc Za ?_;unfold Builtin.Dict.selfAndRest;calc Za<|wpAny_notOrdered_dict d.typeIs ?_;show wpAny _ _ (pure %[s.heap.objs.size|[Value.ref t]]) _ _ _;calc Zb ?_;show wpAny _ _ (Builtin.Dict.updateFrom "dict.__init__" s.heap.objs.size (.ref t) [] .none) _ _ _;unfold Builtin.Dict.updateFrom;calc Za<|wpAny_typeOf (T:="tuple") (o,p,M) ?_;rw[Zd (by decide)];calc Za (P9 p M m hd (by rw[typeLookup_type,builtinLookup_eq_fast];kernel_rfl) (by decide+kernel) Y (λl tk2 I=>?_)<|by decide);rw[Zd (by rfl)];let G:l.IsTuple t a:=(o,I _ _ p,M,n,m);let lt:s.heap.objs.size<l.objs.size:=by
  let(J _ _,e,_):=d;exact Zk<|I _ _ e
 let D2:l.DictOf f s.heap.objs.size []:=by
  let(J P R,e,r):=d;exact ji J P R (I _ _ e,r)
 calc Za<|wpAny_rule ?_;calc Za<|wpAny_pyIter_tuple G ?_;let g:∀b u,s.heap.get? b=!u->b≠s.heap.objs.size/\b≠l.objs.size:=λb u e=>by
  let z:=Zk e;exact(Zi z,Zi<|Ul z lt)
 let Z:∀b u,s.heap.get? b=!u->l.get? b=!u:=λb u e=>I b u<|Zq _ e;let H:∀(j:5)k v,q[j]?=!%[k|v]->∃i c,a[j]?=! .ref i/\l.IsTuple i #[c,v]/\f.is k c=6/\i≠l.objs.size/\i≠s.heap.objs.size:=λj k v e=>by
  let(i c,a1,(S,U,a3),a4):=N j k v e;exact(i,c,a1,(S,Z _ _ U,a3),a4,(g i S U).2,(g i S U).1)
 calc Zb (plainId_quiet Bx _,codeAny_builtin GQ ?_);rw[Around.under_plainId Bx _];refine b7 f l.objs.size t s.heap.objs.size a q l y H G (g t o L).2 (g t o L).1 (Zi lt) q.length 0 () A.in1 _ _ [] Y (_,Zr _ 9,9,9) (λb u _ _ e=>Zq _ e) ?_ (by simpa using hz) ?_
 .let(J P R,e,r):=D2;exact ji J P R (Zq _ e,r)
 .intro B O X kk;exact(9,h B O X λb u e=>kk b u (g b u e).2 (g b u e).1<|Z b u e)
end
def xT(r:Jz):List (jT×V):=r.map λp=>%[Uh p.1|V.int p.2]
def Bz(r:Jz):List (jT×V):=Xq []<|xT r
theorem GR    (ok:xp P w H h):∀{r:Jz}{f:YB}{b:Ye},qK H (r.map pD) f->j1 f b->
 ∃c:List (jT×Value),KV (xT r) c/\b.length=c.length/\∀(j:5)k v,c[j]?=!%[k|v]->∃g d,b[j]?=! .ref g/\h.IsTuple g #[d,v]/\(Ka P w).is k d=6
 |[],f,b,ha,r=>by
  subst ha;cases r;calc([],.nil,9,())
 |p::r,f,b,ha,rv=>by
  let(x L,rfl,l,m):=ha;cases rv with
  |@cons _ u _ q s t=>
   let(-c,y,M,z):=GR ok m t;let(a,rfl,A):=nG.mp l;obtain rfl:=s;let(_,B,ri,o,C,E,n,F):=ok a _ A;let(N G,rfl,I,J):=ZT ri;let(i,rfl):=I;calc(%[Uh p.1|G]::c,.cons (9,J) y,(),λj k v e=>?_);cases j with
   |zero=>
    cases e;calc jI a (.int p.1 i) (9,(o,C,E,n,F),Gd p.1 i)
   |succ j=>
    exact z j k v<|by simpa using e
def PH(g:X.calm=6):qq X (.type "dict") λb H Q=>∃a r,b=[.ref a]/\Is H (rD r) (.ref a)/\r.length<=100/\∀p,H p=8->Q (.ref p) (jD H p<|.dK<|Bz r):=by
 intro Y s Z H b J Q I i h;let(a,r,rfl,l,L,q):=h;let(u,rfl,m):=K2 i;obtain rfl:=m;let(M b,t,w,x):=l;cases t;let((N,O,c,y),A,ri,o,d,B,n,C):=I.hok a _ w;rw[c]at d;obtain rfl:=Zqi d;let(-P,f,R,S):=GR I.hok x ri;let T:=f.length;let E:(xT r).length=r.length:=Zql _;refine PF (Ka X.prog X.w) (I.ok.hd g) c B C y () (λj k v e=>?_) (Qt ()) λU tk F G=>?_
 .simp_all
 .calc(.ref s.heap.objs.size,jD H s.heap.objs.size<|.dK<|Bz r,I.laid G (Zf _)<|G8 ?_ (beq_eq_false_iff_ne.mpr<|Ne.symm<|Zi I.big) (ve f .nil) F,9,q _<|I.hok.fresh<|Zf _);let z:=GB (xT r) [];rw[ZC,E]at z;exact Qt<|by unfold Bz;lia
def JE:Jz->3->Option 3
 |[],_=>8
 |p::r,t=>match JE r t with
  |some w=>!w
  |none=>if p.1=t then !p.2 else 8
def PJ(r s)(t):JE (r++s) t=match JE s t with|some w=>!w|none=>JE r t:=by
 induction r with
 |nil=>grind[JE]
 |cons p r a=>
  grind[List.cons_append,JE]
def Q2  (h:JE r t=!w):%[t|w]∈r:=by
 induction r with
 |nil=>simp[JE]at h
 |cons p r a=>
  grind[JE]
theorem GS  (h:JE r t=8):∀w,%[t|w]∉r:=by
 induction r with
 |nil=>simp
 |cons p r a=>
  grind[JE]
def jA(r:Jz):4:=(r.map (·.1)).Nodup
def jA.eq (h:jA r) (c:%[t|v]∈r)(e:%[t|w]∈r):v=w:=by
 induction r with
 |nil=>cases c
 |cons p r f=>
  let(j,i):=Jk.mp h;rcases U4.mp c with e1|e1<;>rcases U4.mp e with e2|e2
  .grind
  .grind
  .grind
  .exact f i e1 e2
def jA.look (h:jA r) (c:%[t|w]∈r):JE r t=!w:=by
 cases q:JE r t with
 |none=>calc Zn c<|GS q w
 |some v=>rw[h.eq (Q2 q) c]
def xA(o:Jz)(p:3×3):Bool:=match JE o p.1 with
 |some w=>decide (p.2<=w)
 |none=>7
def JD(r o:Jz):Bool:=r.all<|xA o
def B0 {i:5} (a:r[i]?=!p)(h:xA o p=7):JD r o=7:=by
 unfold JD;rw[List.all_eq_false];exact(p,Uf a,by rw[h];simp)
def KY{α:Type}{r:List α} {p:α}(a:r[i]?=!p):r.take (i+1)=r.take i++[p]:=by
 rw[List.take_succ,a];rfl
def GT{r o:Jz}  (a:r[i]?=!p)(h:JD (r.take i) o=6)(b:xA o p=6):JD (r.take<|i+1) o=6:=by
 rw[KY a]
 simp_all[JD]
def vG(a b c:3):xy [V.int a,V.int b] (c%2)=!(V.int<|if c%2=0 then a else b):=by
 rcases Int.emod_two_eq c with h|h<;>rw[h]<;>rfl
open PySem PyProof.Rows
def GU (h:l<r)(c:r-l<=k-x):∃m,(l+r)/2=m/\l<=m/\m<r/\m-l<=k-(x+1)/\r-(m+1)<=k-(x+1):=by
 let a:l<=(l+r)/2:=()
 let b:(l+r)/2<r:=()
 generalize(l+r)/2=m at a b ⊢;exact(m,9,a,b,Nat.le_pred_of_lt<|Zg (Nat.sub_lt_sub_right a b) c,Nat.pred_le_pred<|Zh (Nat.sub_le_sub_left a r) c)
structure Wk(lt:Yc):4 where
 asy:∀i j,lt i j=6->lt j i=7
 neg:∀i j k,lt i k=6->lt i j=6\/lt j k=6
def jR(lt:Yc)(i j:5):4:=lt i j=6\/lt j i=7/\i<j
section
variable  (W:Wk lt)
include W
theorem jR.no (h:jR lt i j):lt j i=7:=by
 rcases h with h|h
 .exact W.asy _ _ h
 .exact h.1
theorem jR.trans (c:jR lt i j)(e:jR lt j k):jR lt i k:=by
 let l:=jR.no W e;let f:lt k i=7:=by
  cases q:lt k i with
  |false=>rfl
  |true=>
   rcases W.neg k j i q with z|z
   .simp_all
   .rw[jR.no W c]at z;exact JF z
 rcases c with a|a
 .rcases W.neg i k j a with z|z
  .exact .inl z
  simp_all
 .rcases e with b|b
  .rcases W.neg j i k b with z|z
   .simp_all
   .exact .inl z
  .exact .inr (f,())
end
def gx(a:Yg)(k:5):5:=(a[k]?).getD 0
def D6  (h:k<a.size):a[k]?=! gx a k:=by
 simp_all[gx]
def GV  (c:a<b.size)(e:d<=a)(k):gx (bubble b a d) k=if k=a-d then gx b a else if a-d<k/\k<=a then gx b (k-1)else gx b k:=by
 unfold gx;rw[getElem?_bubble c d e k]
 repeat' split
 all_goals rfl
def Ad  (b:j<=a.size)(k):gx (mirror a i j<|(j-i)/2) k=if i<=k/\k<j then gx a (i+j-1-k)else gx a k:=by
 unfold gx;rw[getElem?_mirror_all b k]
 split
 all_goals rfl
def PK{α β:Type}(f:α->β)(b:Array α)(i j:5):(b.map f).swapIfInBounds i j=(b.swapIfInBounds i j).map f:=by
 apply Array.ext_getElem?;intro k;by_cases a:i<b.size
 .by_cases c:j<b.size
  .rw[getElem?_swapIB (by simpa using a) (by simpa using c),UQ,UQ,UQ,UQ,getElem?_swapIB a c]
   repeat' split
   all_goals rfl
  .rw[VI,VI,dif_pos (by simpa using a),dif_neg (by simpa using c),dif_pos a,dif_neg c]
 .rw[VI,VI,dif_neg (by simpa using a),dif_neg a]
theorem D7{α β γ:Type}(f:α->β)(p q:γ->5):∀(l:List γ)(b:Array α),l.foldl (λa k=>a.swapIfInBounds (p k)<|q k) (b.map f)=(l.foldl (λa k=>a.swapIfInBounds (p k)<|q k) b).map f
 |[],b=>9
 |k::l,b=>by
  rw[Vh,Vh,PK,D7 f p q l]
def PL (f:α->β)(b)(a d):bubble (b.map f) a d=(bubble b a d).map f:=D7 f _ _ _ b
def PM (f:α->β)(a)(i j d):mirror (a.map f) i j d=(mirror a i j d).map f:=D7 f _ _ _ a
structure Pl(n:5)(ix:Yg)(k:5):4 where
 size:ix.size=n
 perm:ix.Perm (Array.range n)
 pre:∀a,a<k->gx ix a<k
 suf:∀a,k<=a->a<n->gx ix a=a
def Pl.lt  (h:Pl n e k)(f:k<=n)(i:a<n):gx e a<n:=by
 by_cases c:a<k
 .exact Zg (h.pre a c) f
 .rwa[h.suf a () i]
def Up(lt:Yc)(c:Yg)(k:5):4:=∀a b,a<b->b<k->jR lt (gx c a) (gx c b)
structure SB(it:5->Keyed)(kind:SortKind)(ix:Yg)(st:SortSt):4 where
 arr:arrOf st=ix.map it
 kd:kindOf st=kind
 fl:failedOf st=8
 pd:pendingOf st=#[]
def yU(a:Program)(w:World)(A:Around)(s:Shared)(b:SortKind)(c:5->Keyed)(lt:Yc)(n:5):4:=
 ∀i j,i<n->j<n->∀(E:Ya)(Q:Bool->Yz),Q (lt i j) s->YF a w A (keyLt' b (c i).1 (c j).1) Q E s
end L2
set_option maxHeartbeats 4000000
namespace L2
def WO:Bool->Keyed->Array Keyed->5->5->5->StateT SortSt Sem (Option 5):=sortPriv%PySem.Builtin.gallop
def D8:Array Keyed->Array Keyed->StateT SortSt Sem (Array Keyed):=sortPriv%PySem.Builtin.mergeLo
def D9:Array Keyed->Array Keyed->StateT SortSt Sem (Array Keyed):=sortPriv%PySem.Builtin.mergeHi
abbrev KA:=Array Keyed
abbrev SM:=StateT SortSt Sem
abbrev C3:=Option (Option 5)×5×5
def be(lt:Yc)(left:Bool)(x k:5):Bool:=if left then lt x k else not<|lt k x
section
variable          {st:SortSt}
def Ae  (O:yU a w A s b c lt N)(d:kindOf st=b)(e:i<N)(f:j<N)(h:Q (! lt i j) st):YG a w A E s (lt' (c i)<|c j) Q st:=by
 rw[lt'_eq];calc Yl<|wpS_get ?_;rw[d];exact Yl<|wpS_lift<|wpAny_attempt<|O _ _ e f _ _ (9,Ym h)
def Q7{a:Yg}  (d:p<a.size)(h:Q (b<|gx a p) st):YG c w A E s (elem' (a.map b) p) Q st:=by
 let e:(a.map b)[p]?=!(b<|gx a p):=by rw[UQ,D6 d];rfl
 rw[elem'_eq,e];exact Ym h
noncomputable def wi  [Decidable c]{m n:SM α} (h:c->YG a w A E s m Q st)(k:¬c->YG a w A E s n Q st):YG a w A E s (if c then m else n) Q st:=()
noncomputable def mx(left:Bool)(a:Keyed)(d:KA)(c i:5):SM (Option Bool):=elem' d (c+i)>>=λx=>if left=6 then lt' x a else lt' a x>>=λr=>pure<|r.map λb=>not b
noncomputable def eu(b:5->SM (Option Bool))(lo a:5):SM (ForInStep C3):=if lo ≥ a then pure (.done %[8,lo|a])else b (lo+(a-lo)/2)>>=λr=>match r with
 |some t=>if t=6 then pure (.yield %[8,lo+(a-lo)/2+1|a])else pure (.yield %[8,lo|lo+(a-lo)/2])
 |_=>pure (.done %[!8,lo|a])
noncomputable def fq(b:5->SM (Option Bool))(n lo a:5):SM (Option 5):=(forIn [:n] (%[8,lo|a]:C3) λ_ c=>eu b c.2.1 c.2.2)>>=λc=>match c.1 with
 |some r=>pure r
 |none=>pure !c.2.2
noncomputable def e6(b:5->SM (Option Bool))(a c l o:5):SM (ForInStep C3):=if o ≥ c then pure (.done %[8,l|o])else b (a+o)>>=λr=>match r with
 |some t=>if(not t)=6 then pure (.done %[8,l|o])else pure (.yield %[8,o|2*o+1])
 |_=>pure (.done %[!8,l|o])
noncomputable def ew(b:5->SM (Option Bool))(a c l o:5):SM (ForInStep C3):=if o ≥ c then pure (.done %[8,l|o])else b (a-o)>>=λr=>match r with
 |some t=>if t=6 then pure (.done %[8,l|o])else pure (.yield %[8,o|2*o+1])
 |_=>pure (.done %[!8,l|o])
noncomputable def dq(b:5->SM (Option Bool))(n a:5):SM (Option 5):=(forIn [:n] (%[8,0|1]:C3) λ_ c=>e6 b a (n-a) c.2.1 c.2.2)>>=λc=>match c.1 with
 |some r=>pure r
 |none=>fq b n (a+c.2.1+1) (a+min c.2.2 (n-a))
noncomputable def dw(b:5->SM (Option Bool))(n a:5):SM (Option 5):=(forIn [:n] (%[8,0|1]:C3) λ_ c=>ew b a (a+1) c.2.1 c.2.2)>>=λc=>match c.1 with
 |some r=>pure r
 |none=>fq b n (a+1-min c.2.2 (a+1)) (a-c.2.1)
set_option smartUnfolding false in
def fj{left:Bool}{k:Keyed}{a:KA}{b n c:5}:WO left k a b n c=mx left k a b c>>=λr=>match r with
 |some t=>if t=6 then dq (mx left k a b) n c else dw (mx left k a b) n c
 |_=>pure 8:=rfl
section
variable {P:Nat->Bool}{b:Nat->SM (Option Bool)}  {Q:Option Nat->Yy}(hb:∀{i:Nat} {Q:Option Bool->Yy},i<n->Q (some (P i)) st->YG prog w A E s (b i) Q st)
 (mono:∀i j,i<j->j<n->P j=true->P i=true) (h:∀m,m<=n->(∀i,i<m->P i=true)->(∀i,m<=i->i<n->P i=false)->Q (some m) st)
include hb mono h
theorem fm{lo a:5}(o:lo<=a)(d:a<=n)(t:∀i,i<lo->P i=6)(u:∀i,a<=i->i<n->P i=7):YG prog w A E s (fq b n lo a) Q st:=by
 refine Yl<|Yn (Yo (I:=λx c l=>l=st/\∃lo a,c=%[8,lo|a]/\lo<=a/\a<=n/\(∀i,i<lo->P i=6)/\(∀i,a<=i->i<n->P i=7)/\a-lo<=n-x) (Q:=λc l=>l=st/\∃m,c=%[8,m|m]/\m<=n/\(∀i,i<m->P i=6)/\∀i,m<=i->i<n->P i=7) ?_ ?_ (9,lo,a,9,o,d,t,u,())) ?_
 .rintro x c l _ F ⟨rfl,lo,a,rfl,o,d,t,u,g⟩;refine wi (λc=>?_) λc=>?_
  .let e:lo=a:=Nat.le_antisymm o c;subst e;exact Ym (9,lo,9,d,t,u)
  .let c:lo<a:=Ys c;let(m,em,m0,f):∃m,lo+(a-lo)/2=m/\lo<=m/\m<a:=(_,9,Uo _ _,Nat.add_lt_of_lt_sub'<|Nat.div_lt_self (Nat.sub_pos_of_lt c)<|by decide);let p:a-(m+1)<=n-(x+1):=Nat.pred_le_pred<|Zh (Nat.sub_le_sub_left m0 a) g;let r:m-lo<=n-(x+1):=Nat.le_pred_of_lt<|Zg (Nat.sub_lt_sub_right m0 f) g;show wpS _ _ _ _ (b (lo+(a-lo)/2)>>=_) _ _;rw[em];refine Yl<|hb (Zg f d)<|wi (λq=>Ym (9,_,_,9,f,d,λi v=>?_,u,p)) λq=>Ym (9,_,_,9,m0,Zh (Zz f) d,t,λi G B=>?_,r)
   .by_cases z:i=m
    .rw[z];exact q
    .exact mono _ _ () (Zg f d) q
   .cases y:P i with
    |false=>rfl
    |true=>
     by_cases z:i=m
     .rw[z]at y;exact Zn y q
     .exact Zn (mono _ _ () B y) q
 .rintro c l ⟨rfl,lo,a,rfl,o,d,t,u,g⟩;rw[Nat.zero_max,Vi]at g;let e:lo=a:=Nat.le_antisymm o<|Nat.le_of_sub_eq_zero<|Nat.le_zero.mp g;subst e;exact(9,lo,9,d,t,u)
 .rintro c l ⟨rfl,m,rfl,f,m2,C⟩;exact Ym<|h m f m2 C
theorem sv (u:a<n)(e:P a=6):YG prog w A E s (dq b n a) Q st:=by
 refine Yl<|Yn (Yo (I:=λx c g=>g=st/\∃l o,c=%[8,l|o]/\l<o/\x+1<=o/\a+l<n/\P (a+l)=6) (Q:=λc g=>g=st/\∃l o,c=%[8,l|o]/\l<o/\a+l<n/\P (a+l)=6/\(n-a<=o\/o<n-a/\P (a+o)=7)) ?_ ?_ (9,0,1,9,Yt,Zf _,u,e)) ?_
 .rintro x c g _ _ ⟨rfl,l,o,rfl,p,v,d,f⟩;calc wi (λc=>Ym (9,l,o,9,p,d,f,.inl c)) λc=>?_;let B:o<n-a:=Ys c;let C:a+o<n:=Nat.add_lt_of_lt_sub' B;refine Yl<|hb C<|wi (λq=>Ym (9,l,o,9,p,d,f,.inr (B,by simpa using q))) λq=>Ym (9,o,2*o+1,9,(),(),C,by simpa using q)
 .rintro c g ⟨rfl,l,o,rfl,p,v,d,f⟩;rw[Nat.zero_max]at v;exact(9,l,o,9,p,d,f,.inl<|Zh (U7 _ _)<|Uz v)
 .rintro c g ⟨rfl,l,o,rfl,p,d,f,r⟩;show wpS _ _ _ _ (fq b n (a+l+1)<|a+min o (n-a)) _ _;refine fm hb mono h (Nat.add_lt_add_left (Nat.lt_min.mpr (p,Nat.lt_sub_iff_add_lt'.mpr d)) a) (Zh (VH (Nat.min_le_right _ _) _)<|Yu<|Vx<|Zz u) (λi G=>?_) λi t F=>?_
  .by_cases z:i=a+l
   .rw[z];exact f
   .exact mono _ _ () d f
  .rcases r with r|⟨r,h8⟩
   .rw[Nat.min_eq_right r,Vx (Zz u)]at t;exact Zn F<|Nat.not_lt_of_le t
   .rw[Vj (Zz r)]at t;cases y:P i with
    |false=>rfl
    |true=>
     by_cases z:i=a+o
     .rw[z,h8]at y;cases y
     .rw[mono _ _ (UH t<|Ne.symm z) F y]at h8;cases h8
theorem sw (t:a<n)(e:P a=7):YG prog w A E s (dw b n a) Q st:=by
 refine Yl<|Yn (Yo (I:=λx c f=>f=st/\∃l o,c=%[8,l|o]/\l<o/\x+1<=o/\l<=a/\P (a-l)=7) (Q:=λc f=>f=st/\∃l o,c=%[8,l|o]/\l<o/\l<=a/\P (a-l)=7/\(a+1<=o\/o<a+1/\P (a-o)=6)) ?_ ?_ (9,0,1,9,Yt,Zf _,Uc _,e)) ?_
 .rintro x c f _ _ ⟨rfl,l,o,rfl,g,v,p,d⟩;calc wi (λc=>Ym (9,l,o,9,g,p,d,.inl c)) λc=>?_;let B:o<a+1:=Ys c;refine Yl<|hb (UD (U7 _ _) t)<|wi (λq=>Ym (9,l,o,9,g,p,d,.inr (B,q))) λq=>Ym (9,o,2*o+1,9,(),(),Uu B,Yr.mpr q)
 .rintro c f ⟨rfl,l,o,rfl,g,v,p,d⟩;rw[Nat.zero_max]at v;exact(9,l,o,9,g,p,d,.inl<|Zh t<|Uz v)
 .rintro c f ⟨rfl,l,o,rfl,g,p,d,r⟩;show wpS _ _ _ _ (fq b n (a+1-min o (a+1))<|a-l) _ _;refine fm hb mono h (Zh (Nat.sub_le_sub_left (Nat.lt_min.mpr (g,Nat.lt_succ_of_le p))<|a+1)<|Yu<|Nat.add_sub_add_right a 1 l) (Zh (U7 _ _)<|Zz t) (λi u=>?_) λi G C=>?_
  .rcases r with r|⟨r,h8⟩
   .rw[Nat.min_eq_right r,Vi]at u;exact Zn u<|UX _
   .rw[Vj (Zz r),Nat.succ_sub (Uu r)]at u;let F:a-o<n:=UD (U7 _ _) t;by_cases z:i=a-o
    .rwa[z]
    .exact mono _ _ (UH (Uu u) z) F h8
  .cases y:P i with
   |false=>rfl
   |true=>
    by_cases z:i=a-l
    .rw[z,d]at y;cases y
    .rw[mono _ _ () C y]at d;cases d
end
def XY     (O:yU b w A s d g lt N)(r:kindOf st=d)(t:k<N)(v:a+n<=c.size)(l:∀i,i<n->gx c (a+i)<N)(o:f<n)
 (mono:∀i j,i<j->j<n->be lt left (gx c<|a+j) k=6->be lt left (gx c<|a+i) k=6)
 (h:∀m,m<=n->(∀i,i<m->be lt left (gx c<|a+i) k=6)->(∀i,m<=i->i<n->be lt left (gx c<|a+i) k=7)->Q (!m) st):YG b w A E s (WO left (g k) (c.map g) a n f) Q st:=by
 let p:∀{i:5}{Q:Option Bool->Yy},i<n->Q (! be lt left (gx c<|a+i) k) st->YG b w A E s (mx left (g k) (c.map g) a i) Q st:=λu q=>by
  let l:=l _ u;calc Yl<|Q7 () ?_;cases left with
  |true=>calc Ae O r l t q
  |false=>exact Yl<|Ae O r t l<|Ym q
 rw[fj];exact Yl<|p o<|wi (λe=>sv p mono h o e) λe=>sw p mono h o<|Yr.mpr e
end
structure MInv(lt:Yc)(xs ys:Yg)(ia ib:5)(o:Yh):4 where
 a:(o++xs.toList.drop ia).Pairwise (jR lt)
 b:(o++ys.toList.drop ib).Pairwise (jR lt)
 pm:(o++xs.toList.drop ia++ys.toList.drop ib).Perm (xs.toList++ys.toList)
def wJ(lt:Yc)(a b:Yg)(o:Yh):4:=o.Perm (a.toList++b.toList)/\o.Pairwise (jR lt)
theorem XZ  (h:i<a.size):a.toList.drop i=gx a i::a.toList.drop (i+1):=by
 rw[Uj (by simpa using h)];unfold gx;rw[UA h];simp
def QQ  (h:i<a.size):gx a i∈a.toList:=by
 simp_all[gx]
def GW  (h:x∈a.toList.drop i):∃j,i<=j/\j<a.size/\x=gx a j:=by
 let(j,c,e):=Jv.mp h;let b:i+j<a.size:=by grind
 refine(i+j,(),b,?_)
 simp_all[gx]
def MInv.addA (M:MInv lt f n i p o)(s:∀c∈(f.toList.drop i).take k,∀y∈n.toList.drop p,jR lt c y):MInv lt f n (i+k) p (o++(f.toList.drop i).take k):=by
 let e:f.toList.drop i=(f.toList.drop i).take k++f.toList.drop (i+k):=by rw[<-List.drop_drop,UI]
 let j:=M.a;let l:=M.b;let q:=M.pm;rw[e,<-Ug]at j q;calc(j,?_,q);rw[VJ]at j l ⊢;calc(j.1,l.2.1,λx u y r=>?_);rcases Jb.mp u with z|z
 .exact l.2.2 x z y r
 .exact s x z y r
def MInv.addB (M:MInv lt n f p i o)(r:∀c∈(f.toList.drop i).take k,∀x∈n.toList.drop p,jR lt c x):MInv lt n f p (i+k) (o++(f.toList.drop i).take k):=by
 let e:f.toList.drop i=(f.toList.drop i).take k++f.toList.drop (i+k):=by rw[<-List.drop_drop,UI]
 let l:=M.a;let j:=M.b;let s:=M.pm;rw[e]at j s;rw[<-Ug]at j;refine(?_,j,?_)
 .rw[VJ]at l j ⊢;calc(j.1,l.2.1,λx u y q=>?_);rcases Jb.mp u with z|z
  .exact l.2.2 x z y q
  .exact r x z y q
 .exact by grind
def MInv.doneA(M:MInv lt f c j i o)(h:c.size<=i):wJ lt f c (o++f.toList.drop j++c.toList.drop i):=by
 let e:=Vg ();calc(M.pm,?_);rw[e,ZA];exact M.a
def MInv.doneB(M:MInv lt c e f i o)(h:c.size<=f):wJ lt c e (o++c.toList.drop f++e.toList.drop i):=by
 calc(M.pm,?_);rw[Vg (),ZA];exact M.b
def MInv.last(M:MInv lt c i f j o)(h:f+1=c.size)(l:∀y∈i.toList,jR lt y (gx c f)):wJ lt c i (o++i.toList.drop j++c.toList.drop f):=by
 let e:c.toList.drop f=[gx c f]:=by
  grind[XZ,List.drop_eq_nil_of_le]
 let n:=M.a;let p:=M.b;refine(Vy ?_ M.pm,?_)
 .grind
 grind
def MInv.one(W:Wk lt)(M:MInv lt i f ia ib o)(j:ib<f.size)(l:ia<i.size)(q:lt (gx f ib) (gx i ia)=6):MInv lt i f ia (ib+1) (o++[gx f ib]):=by
 let e:(f.toList.drop ib).take 1=[gx f ib]:=by rw[XZ j];rfl
 let:=M.addB λc n x p=>by
  rw[e]at n;rw[Jc.mp n];let r:=(VJ.mp M.a).2.1;rw[XZ l]at p r;rcases U4.mp p with z|z
  .rw[z];exact .inl q
  .exact jR.trans W (.inl q)<|(Jl.mp r).1 x z
 simp_all
def MInv.two(W:Wk lt)(s:∀x∈f.toList,∀y∈j.toList,x<y)(M:MInv lt f j i p o)(l:p<j.size)(n:i<f.size)(q:lt (gx j p) (gx f i)=7):MInv lt f j (i+1) p (o++[gx f i]):=by
 let e:(f.toList.drop i).take 1=[gx f i]:=by rw[XZ n];rfl
 let r:jR lt (gx f i) (gx j p):=.inr (q,s _ (QQ n) _<|QQ l);let:=M.addA λc u y v=>by
  rw[e]at u;rw[Jc.mp u];let B:=(VJ.mp M.b).2.1;rw[XZ l]at v B;rcases U4.mp v with z|z
  .rwa[z]
  .exact jR.trans W r<|(Jl.mp B).1 y z
 simp_all
noncomputable def ar(a:5->Keyed)(o:Yh):Array Keyed:=(o.map a).toArray
section
variable   {xs ys:Yg}
def GX :(ar a o).push (a x)=ar a (o++[x]):=by simp[ar]
def B4:(xs.map a).extract i j=ar a ((xs.toList.take j).drop i):=by
 apply Vk;simp[ar,List.drop_take]
def B7 :ar a o++ar a p=ar a (o++p):=by simp[ar]
def GY:(ar a o).reverse=ar a o.reverse:=by simp[ar]
def B8 :#[a x]=ar a [x]:=by simp[ar]
def bD:(xs.toList.take<|i+k).drop i=(xs.toList.drop i).take k:=by simp_all[List.drop_take]
def PN:(xs.toList.take xs.size).drop i=xs.toList.drop i:=by rw[UR ()]
def fU:ar a o++(xs.map a).extract i xs.size++(ys.map a).extract j ys.size=ar a (o++xs.toList.drop i++ys.toList.drop j):=by
 simp_all[B4,PN,B7]
theorem Y0(h:xs.toList.Pairwise R)(b:i<j)(a:j<xs.size):R (gx xs i) (gx xs j):=by
 let:=Jm.mp h i j (by simp;lia) (by simpa using a) b;unfold gx;rw[UA (),UA a];simpa using this
def DA (h:x∈(xs.toList.drop i).take k):∃j,j<k/\i+j<xs.size/\x=gx xs (i+j):=by
 let(j,a,e):=Jv.mp h;rw[Uq,VL]at a;let b:i+j<xs.size:=by grind
 refine(j,(),b,?_)
 simp_all[gx]
end
structure SEq(s t:SortSt):4 where
 arr:arrOf t=arrOf s
 kd:kindOf t=kindOf s
 fl:failedOf t=failedOf s
 pd:pendingOf t=pendingOf s
theorem SEq.refl(s):SEq s s:=(9,9,9,9)
theorem SEq.trans (h:SEq s t)(k:SEq t u):SEq s u:=(k.arr.trans h.arr,k.kd.trans h.kd,k.fl.trans h.fl,k.pd.trans h.pd)
section
variable     (W:Wk lt)
include W
theorem GZ (c:a.toList.Pairwise (jR lt)) (d:b+n<=a.size):∀i j,i<j->j<n->be lt 7 (gx a<|b+j) k=6->be lt 7 (gx a<|b+i) k=6:=λi j e f h=>by
 let h:(not<|lt k<|gx a<|b+j)=6:=h;show(not<|lt k<|gx a<|b+i)=6;cases q:lt k (gx a<|b+i)with
 |false=>rfl
 |true=>
  rcases W.neg _ (gx a<|b+j) _ q with z|z
  .simp_all
  grind[jR.no,Y0]
theorem Ha (c:a.toList.Pairwise (jR lt)) (d:b+n<=a.size):∀i j,i<j->j<n->be lt 6 (gx a<|b+j) k=6->be lt 6 (gx a<|b+i) k=6:=λi j e f h=>by
 rcases W.neg _ (gx a<|b+i) _ h with z|z
 .grind[jR.no,Y0]
 .exact z
theorem MInv.galA(s:∀x∈f.toList,∀y∈e.toList,x<y)(F:e.toList.Pairwise (jR lt))(M:MInv lt f e n p o)(u:p<e.size)(h:∀i,i<m->be lt 7 (gx f<|n+i) (gx e p)=6):MInv lt f e (n+m) p (o++(f.toList.drop n).take m):=by
 calc M.addA λc v y z=>?_;let(j,B,E,rfl):=DA v;let(l,G,H,rfl):=GW z;let q:(not<|lt (gx e p)<|gx f<|n+j)=6:=h j B;let q:lt (gx e p) (gx f<|n+j)=7:=by simpa using q
 let r:jR lt (gx f<|n+j) (gx e p):=.inr (q,s _ (QQ E) _<|QQ u)
 grind[jR.trans,Y0]
theorem MInv.galB(v:e.toList.Pairwise (jR lt))(M:MInv lt e f n p o)(x:n<e.size)(h:∀i,i<m->be lt 6 (gx f<|p+i) (gx e n)=6):MInv lt e f n (p+m) (o++(f.toList.drop p).take m):=by
 calc M.addB λc q y s=>?_;let(j,u,z,rfl):=DA q;let(l,B,E,rfl):=GW s;let r:jR lt (gx f<|p+j) (gx e n):=.inl<|h j u
 grind[jR.trans,Y0]
end
section
variable       {it:Nat->Keyed}{lt:Yc}  {st:SortSt}
structure MH(lt:Yc)(N:5)(xs ys:Yg):4 where
 W:Wk lt
 xn:∀x∈xs.toList,x<N
 yn:∀y∈ys.toList,y<N
 hxy:∀x∈xs.toList,∀y∈ys.toList,x<y
 px:xs.toList.Pairwise (jR lt)
 py:ys.toList.Pairwise (jR lt)
abbrev G7(α β γ:Type):=Option KA × α × β × γ × 5×5×5
abbrev G6(α β γ:Type):=Option KA × α × β × γ × 5×5
abbrev G5(α β γ:Type):=Option KA × α × β × γ × 5
def B9:5->SM PUnit:=sortPriv%PySem.Builtin.setMinGallop
def DB   (d:SEq a st)(h:∀b,SEq a b->Q ⟨⟩ b):YG c w A E s (B9 m) Q st:=wpS_modify<|h _<|d.trans (9,9,9,9)
section
variable {α β γ: Type}(n:Nat)(f:Nat -> α -> β -> γ -> Nat->Nat->SM (ForInStep (G6 α β γ)))(k:α -> β -> γ -> Nat->Nat->Nat->SM (ForInStep (G7 α β γ)))
noncomputable def mC(c:G7 α β γ):SM (ForInStep<|G5 α β γ):=match c.1 with
 |some r=>pure (.done %[!r,c.2.1,c.2.2.1,c.2.2.2.1|c.2.2.2.2.1])
 |none=>B9 (c.2.2.2.2.1+1)>>=λ_=>pure<|.yield %[8,c.2.1,c.2.2.1,c.2.2.2.1|c.2.2.2.2.1+1]
noncomputable def m2(x:α)(y:β)(z:γ)(a b c:5):SM (ForInStep<|G7 α β γ):=if a>1 then k x y z b c (a-1)else k x y z b c a
noncomputable def mB(a:5)(c:G6 α β γ):SM (ForInStep<|G5 α β γ):=match c.1 with
 |some r=>pure (.done %[!r,c.2.1,c.2.2.1,c.2.2.2.1|a])
 |none=>(liftM (rule "list.sort.gallop"):SM PUnit)>>=λ_=>(forIn [:n] (%[8,c.2.1,c.2.2.1,c.2.2.2.1,a+1,c.2.2.2.2.1|c.2.2.2.2.2]:G7 α β γ) λ_ c=>m2 k c.2.1 c.2.2.1 c.2.2.2.1 c.2.2.2.2.1 c.2.2.2.2.2.1 c.2.2.2.2.2.2)>>=mC
noncomputable def mA(c:G5 α β γ):SM (ForInStep<|G5 α β γ):=
 (forIn [:n] (%[8,c.2.1,c.2.2.1,c.2.2.2.1,0|0]:G6 α β γ) λ_ d=>f c.2.2.2.2 d.2.1 d.2.2.1 d.2.2.2.1 d.2.2.2.2.1 d.2.2.2.2.2)>>=mB n k c.2.2.2.2
noncomputable def mT(x:α)(y:β)(z:γ):SM KA:=get>>=λs=>(forIn [:n] (%[8,x,y,z|gallopOf s]:G5 α β γ) λ_ c=>mA n f k c)>>=λc=>match c.1 with
 |some r=>pure r
 |none=>liftM (unsupported "internal:list.sort.merge-bound")
variable {n f k}{P:Nat -> α -> β -> γ -> Prop}
structure MR(P:α->β->γ->4)(D:KA->4)(st0:SortSt)(R:ForInStep (G7 α β γ)->Yy):4 where
 dn:∀{v t sy},SEq st0 sy->D v->R (.done %[!v|t]) sy
 go:∀{x y z mg ac bc sy},SEq st0 sy->P x y z->R (.done %[8,x,y,z,mg,ac|bc]) sy/\R (.yield %[8,x,y,z,mg,ac|bc]) sy
def aX     (h:∀b,YG a w A E s (k x y z c d b) R st):YG a w A E s (m2 k x y z b c d) R st:=wi (λ_=>h _) λ_=>h _
def dg    (C:kindOf st=q)(F:P 1 x y z)(u:∀{g x y z},P g x y z->1<=n/\g<=n)(le:∀{g B x y z},P g x y z->B<=g->P B x y z)
 (G:∀{g r x y z m o st}{R:ForInStep (G6 α β γ)->Yy},kindOf st=q->P g x y z->(∀{v t},D v->R (.done %[!v|t]) st)->(∀{x y z m o},P (g+1) x y z->R (.done %[8,x,y,z,m|o]) st/\R (.yield %[8,x,y,z,m|o]) st)->YG j w A E s (f r x y z m o) R st)
 (H:∀{g x y z m o r i R},MR (P g) D st R->SEq st i->P g x y z->YG j w A E s (k x y z m o r) R i)
 (h:∀{v i},SEq st i->D v->Q v i):YG j w A E s (mT n f k x y z) Q st:=by
 refine Yl<|wpS_get<|Yl<|Yn (Yo (I:=λg c l=>SEq st l/\c.1=8/\P (g+1) c.2.1 c.2.2.1 c.2.2.2.1) (Q:=λc l=>SEq st l/\∃v,D v/\c.1=!v) ?_ ?_ (.refl _,9,F)) ?_
 .rintro g c l _ _ ⟨a,_,p⟩;refine Yl<|Yn (Yo (I:=λy c b=>b=l/\c.1=8/\P (g+1+y) c.2.1 c.2.2.1 c.2.2.2.1) (Q:=λc b=>b=l/\((∃v,D v/\c.1=!v)\/c.1=8/\P (g+2) c.2.1 c.2.2.1 c.2.2.2.1)) ?_ ?_ (9,9,p)) ?_
  .rintro y c b _ _ ⟨rfl,_,p⟩;exact G (a.kd.trans C) p (λd=>(9,.inl (_,d,9))) λp=>((9,.inr (9,le p ())),9,9,p)
  .rintro c b ⟨rfl,e,p⟩;exact(9,.inr (e,le p<|by let:=(u p).1;lia))
  .rintro c b ⟨rfl,⟨v,d,e⟩|⟨e,p⟩⟩
   .unfold mB;rw[e];exact Ym (a,v,d,9)
   .unfold mB;rw[e];calc Yl<|wpS_lift<|wpAny_rule (9,?_);refine Yl<|Yn (Yo (I:=λ_ c b=>SEq st b/\c.1=8/\P (g+2) c.2.1 c.2.2.1 c.2.2.2.1) (Q:=λc b=>SEq st b/\((∃v,D v/\c.1=!v)\/c.1=8/\P (g+2) c.2.1 c.2.2.1 c.2.2.2.1)) ?_ (λc b h=>(h.1,.inr h.2)) (a,9,p)) ?_
    .rintro y c b _ _ ⟨a,_,p⟩;exact aX λ_=>H (λa d=>(a,.inl (_,d,9)),λa p=>((a,.inr (9,p)),a,9,p)) a p
    .rintro c b ⟨a,⟨v,d,e⟩|⟨e,p⟩⟩
     .unfold mC;rw[e];exact Ym (a,v,d,9)
     .unfold mC;rw[e];exact Yl<|DB a λb a=>Ym (a,9,p)
 .rintro c l ⟨_,_,p⟩;let:=(u p).2;lia
 .rintro c l ⟨a,v,d,e⟩;rw[e];exact Ym<|h a d
end
theorem sz{a:Yg}:(a.map it).size=a.size:=Ur
def bz{a:Yg} (h:(p==(a.map it).size)=6):p=a.size:=()
def nz{a:Yg} (h:¬(p==(a.map it).size)=6):p≠a.size:=()
def vW{v:KA}  (e:v=ar it o):v.push (it x)=ar it (o++[x]):=by rw[e,GX]
def wW{a:Yg}{v:KA}  (e:v=ar it o):v++(a.map it).extract i (i+k)=ar it (o++(a.toList.drop i).take k):=by rw[e,B4,bD,B7]
def MD(lt:Yc)(it:5->Keyed)(a b:Yg)(v:KA):4:=∃o,wJ lt a b o/\v=ar it o
abbrev L7:=G7 KA 5 5
def vu(a b o:KA)(i j:5):KA:=o++a.extract i a.size++b.extract j b.size
def uO(a b o:KA)(i j:5):KA:=o++b.extract j b.size++a.extract i a.size
noncomputable def rV(a b:KA)(e c d i:5)(o:KA)(j:5):SM (ForInStep L7):=
 elem' a i>>=λx=>if(i+1+1==a.size)=6 then pure (.done %[! uO a b (o.push x) (i+1) j,o.push x,i+1,j,e,c|d])
  else if(decide (c<07)&&decide (d<07))=6 then pure (.done %[8,o.push x,i+1,j,e,c|d])else pure (.yield %[8,o.push x,i+1,j,e,c|d])
noncomputable def dh(a b:KA)(c d i:5)(o:KA)(j k:5):SM (ForInStep L7):=
 if k>0 then if(j+k==b.size)=6 then pure (.done %[!(vu a b (o++b.extract j (j+k)) i<|j+k),o++b.extract j (j+k),i,j+k,c,d|k])
  else rV a b c d k i (o++b.extract j (j+k)) (j+k)else rV a b c d k i o j
noncomputable def rW(a b:KA)(c d e j:5)(o:KA)(i:5):SM (ForInStep L7):=
 elem' b j>>=λx=>if(j+1==b.size)=6 then pure (.done %[!(vu a b (o.push x) i<|j+1),o.push x,i,j+1,c,d|e])
  else elem' a i>>=λy=>WO 6 y b (j+1) (b.size-(j+1)) 0>>=λr=>match r with
   |some k=>dh a b c d i (o.push x) (j+1) k
   |_=>pure (.done %[!(vu a b (o.push x) i<|j+1),o.push x,i,j+1,c,d|e])
noncomputable def aY(a b:KA)(c j:5)(o:KA)(i d k:5):SM (ForInStep L7):=
 if k>0 then if(i+k+1==a.size)=6 then pure (.done %[! uO a b (o++a.extract i (i+k)) (i+k) j,o++a.extract i (i+k),i+k,j,d,k|c])
  else if(i+k==a.size)=6 then pure (.done %[! vu a b (o++a.extract i (i+k)) (i+k) j,o++a.extract i (i+k),i+k,j,d,k|c])
  else rW a b d k c j (o++a.extract i (i+k)) (i+k)else rW a b d k c j o i
noncomputable def di(a b o:KA)(i j e d c:5):SM (ForInStep L7):=
 B9 c>>=λ_=>elem' b j>>=λx=>WO 7 x a i (a.size-i) 0>>=λr=>match r with
  |some k=>aY a b d j o i c k
  |_=>pure (.done %[! vu a b o i j,o,i,j,c,e|d])
noncomputable def vv(a b:KA)(e:5)(o:KA)(i j c d:5):SM (ForInStep<|G6 KA 5 5):=
 elem' b j>>=λx=>elem' a i>>=λy=>lt' x y>>=λr=>match r with
  |some t=>if t=6 then elem' b j>>=λx=>if(j+1==b.size)=6 then pure (.done %[!(vu a b (o.push x) i<|j+1),o.push x,i,j+1,0|d+1])
   else if d+1 ≥ e then pure (.done %[8,o.push x,i,j+1,0|d+1])else pure (.yield %[8,o.push x,i,j+1,0|d+1])
   else elem' a i>>=λx=>if(i+1+1==a.size)=6 then pure (.done %[! uO a b (o.push x) (i+1) j,o.push x,i+1,j,c+1|0])
    else if c+1 ≥ e then pure (.done %[8,o.push x,i+1,j,c+1|0])else pure (.yield %[8,o.push x,i+1,j,c+1|0])
  |_=>pure (.done %[! vu a b o i j,o,i,j,c|d])
set_option smartUnfolding false in
noncomputable def gM{a b:KA}:D8 a b=(liftM (rule "list.sort.merge-lo"):SM PUnit)>>=λ_=>elem' b 0>>=λx=>if(1==b.size)=6 then pure (vu a b #[x] 0 1)else if(0+1==a.size)=6 then pure (uO a b #[x] 0 1)
 else mT (a.size+b.size) (vv a b) (di a b) #[x] 0 1:=rfl
end
structure LI(lt:Yc)(xs ys:Yg)(g i j:5)(o:Yh):4 where
 M:MInv lt xs ys i j o
 a:i+1<xs.size
 b:j<ys.size
 g:g<=i+j
def LP(lt:Yc)(a:5->Keyed)(b c:Yg)(g:5)(v:KA)(i j:5):4:=∃o,LI lt b c g i j o/\v=ar a o
section
variable          {st st0:SortSt}{xs ys:Yg}   {v:KA}{R:ForInStep L7->Yy}
def Af(e:v=ar a o):vu (xs.map a) (ys.map a) v i j=ar a (o++xs.toList.drop i++ys.toList.drop j):=by
 unfold vu;rw[sz,sz,e,fU]
def BA(e:v=ar a o):uO (xs.map a) (ys.map a) v i j=ar a (o++ys.toList.drop j++xs.toList.drop i):=by
 unfold uO;rw[sz,sz,e,fU]
variable (lst:∀y∈ys.toList,jR lt y (gx xs (xs.size-1)))
include lst
theorem mv(M:MInv lt xs ys i j o)(z:i+1=xs.size):wJ lt xs ys (o++ys.toList.drop j++xs.toList.drop i):=M.last z ()
variable (H:MH lt N xs ys)(L:LI lt xs ys g i j o)(e:v=ar it o)
include H L e
section
variable (C:MR (LP lt it xs ys g) (MD lt it xs ys) st0 R)(se:SEq st0 st)
include C se
theorem gN(q:lt (gx ys j) (gx xs i)=7):YG b w A E s (rV (xs.map it) (ys.map it) mg ac bc i v j) R st:=by
 let a:=US L.a;calc Yl<|Q7 a ?_;let M2:=L.M.two H.W H.hxy L.b a q;calc wi (λz=>Ym<|C.dn se (_,mv lst M2<|bz z,BA<|vW e)) λz=>?_;let c:=C.go (mg:=mg) (ac:=ac) (bc:=bc) se (_,(M2,UH L.a<|nz z,L.b,by let:=L.g;lia),vW e);exact wi (λ_=>Ym c.1) λ_=>Ym c.2
theorem rR(f:j+k<=ys.size)(h:∀m,m<k->be lt 6 (gx ys<|j+m) (gx xs i)=6)(q:j+k<ys.size->lt (gx ys<|j+k) (gx xs i)=7):YG a w A E s (dh (xs.map it) (ys.map it) n p i v j k) R st:=by
 refine wi (λc=>?_) λc=>?_
 .let d:=L.M.galB H.W H.px (US L.a) h;calc wi (λz=>Ym<|C.dn se (_,d.doneA<|Yu (bz z).symm,Af<|wW e)) λz=>?_;let b:=UH f<|nz z;exact gN lst H (d,L.a,b,by let:=L.g;lia) (wW e) C se<|q b
 .let l:=VM c;subst l;exact gN lst H L e C se<|q L.b
variable (O:yU prog w A s kind it lt N)(kd:kindOf st0=kind)
include O kd
theorem gO(q:lt (gx ys j) (gx xs i)=6):YG prog w A E s (rW (xs.map it) (ys.map it) h l m j v i) R st:=by
 let a:=US L.a;calc Yl<|Q7 L.b ?_;let c:=L.M.one H.W L.b a q;calc wi (λz=>Ym<|C.dn se (_,c.doneA<|Yu (bz z).symm,Af<|vW e)) λz=>?_;let b:j+1<ys.size:=UH L.b<|nz z;let z:(ys.map it).size=ys.size:=sz;calc Yl<|Q7 a<|Yl<|XY O (se.kd.trans kd) (H.xn _<|QQ a) () (λi n=>H.yn _<|QQ ()) () (Ha H.W H.py ()) λk p d f=>?_;exact rR lst H (c,L.a,b,by let:=L.g;lia) (vW e) C se () d λy=>f k (Zf _) ()
theorem rS:YG prog w A E s (di (xs.map it) (ys.map it) v i j m n p) R st:=by
 let a:=L.a;let z:(xs.map it).size=xs.size:=sz;calc Yl<|DB se λst se=>Yl<|Q7 L.b<|Yl<|XY O (se.kd.trans kd) (H.yn _<|QQ L.b) () (λi r=>H.xn _<|QQ ()) () (GZ H.W H.px ()) λk t f h=>?_;let q:i+k<xs.size->lt (gx ys j) (gx xs<|i+k)=6:=λu=>by
  let:(not<|lt (gx ys j)<|gx xs<|i+k)=7:=h k (Zf _) ();simpa using this
 refine wi (λb=>?_) λb=>?_
 .let M2:=L.M.galA H.W H.hxy H.py L.b f;calc wi (λz=>Ym<|C.dn se (_,mv lst M2<|bz z,BA<|wW e)) λc=>wi (λz=>Ym<|C.dn se (_,M2.doneB<|Yu (bz z).symm,Af<|wW e)) λd=>?_;let c:=nz c;let d:=nz d;exact gO lst H (M2,(),L.b,by let:=L.g;lia) (wW e) C se O kd<|q ()
 .let l:k=0:=VM b;subst l;exact gO lst H L e C se O kd<|q<|US a
end
theorem rT{R:ForInStep (G6 KA 5 5)->Yy}(O:yU b w A s c it lt N)(h:kindOf st=c)(f:∀{v t},MD lt it xs ys v->R (.done %[!v|t]) st)(go:∀{v i j ac bc},LP lt it xs ys (g+1) v i j->R (.done %[8,v,i,j,ac|bc]) st/\R (.yield %[8,v,i,j,ac|bc]) st):
 YG b w A E s (vv (xs.map it) (ys.map it) l v i j ac bc) R st:=by
 let a:=US L.a;refine Yl<|Q7 L.b<|Yl<|Q7 a<|Yl<|Ae O h (H.yn _<|QQ L.b) (H.xn _<|QQ a)<|wi (λq=>Yl<|Q7 L.b ?_) λq=>Yl<|Q7 a ?_
 .let M2:=L.M.one H.W L.b a q;calc wi (λz=>Ym<|f (_,M2.doneA (),Af<|vW e)) λz=>?_;let d:=go (ac:=0) (bc:=bc+1) (_,(M2,L.a,UH L.b<|nz z,Vz L.g),vW e);exact wi (λ_=>Ym d.1) λ_=>Ym d.2
 .let M2:=L.M.two H.W H.hxy L.b a ();calc wi (λz=>Ym<|f (_,mv lst M2<|bz z,BA<|vW e)) λz=>?_;let d:=go (ac:=ac+1) (bc:=0) (_,(M2,UH L.a<|nz z,L.b,by let:=L.g;lia),vW e);exact wi (λ_=>Ym d.1) λ_=>Ym d.2
end
section
variable          {st:SortSt}
def PQ (H:MH lt N b a)(O:yU d w A s f c lt N)(i:kindOf st=f)(r:1<=b.size)(n:1<=a.size)(j:lt (gx a 0) (gx b 0)=6)(lst:∀y∈a.toList,jR lt y (gx b<|b.size-1))
 (h:∀o g,SEq st g->wJ lt b a o->Q (ar c o) g):YG d w A E s (D8 (b.map c)<|a.map c) Q st:=by
 let M1:MInv lt b a 0 1 [gx a 0]:=MInv.one (o:=[]) (ia:=0) (ib:=0) H.W (H.px,H.py,VA _) n r j;rw[gM];calc Yl<|wpS_lift<|wpAny_rule (9,Yl<|Q7 n ?_);refine wi (λz=>?_) λp=>wi (λz=>?_) λq=>?_
 .rw[Af B8];exact Ym<|h _ _ (.refl _)<|M1.doneA<|Yu (bz z).symm
 .rw[BA B8];exact Ym<|h _ _ (.refl _)<|mv lst M1<|bz z
 let p:=nz p;let q:=nz q;let t:LI lt b a 1 0 1 [gx a 0]:=(M1,(),(),());let v:(b.map c).size=b.size:=sz;let x:(a.map c).size=a.size:=sz;exact dg (P:=LP lt c b a) (D:=MD lt c b a) i (_,t,B8) λu=>by
  let(_,L,_):=u;let:=L.a;let:=L.b;let:=L.g;lia (λ(o,L,e)h=>(o,(L.M,L.a,L.b,Zh h L.g),e)) (λi(_,L,e)dn go=>rT lst H L e O i dn go) (λC l(_,L,e)=>rS lst H L e C l O i) λl(o,m,e)=>by rw[e];exact h o _ l m
end
structure MInvH(lt:Yc)(xs ys:Yg)(na nb:5)(o:Yh):4 where
 a:(xs.toList.take na++o).Pairwise (jR lt)
 b:(ys.toList.take nb++o).Pairwise (jR lt)
 pm:(xs.toList.take na++ys.toList.take nb++o).Perm (xs.toList++ys.toList)
section
variable   {xs ys:Yg}
def PR :(ar a o.reverse).push (a x)=ar a (x::o).reverse:=by rw[GX,List.reverse_cons]
def PU :ar a o.reverse++(ar a p).reverse=ar a (p++o).reverse:=by rw[GY,B7,List.reverse_append]
def sA:(xs.map a).extract 0 i++(ys.map a).extract 0 j++(ar a o.reverse).reverse=ar a (xs.toList.take i++ys.toList.take j++o):=by
 simp_all[B4,GY,B7]
def Hb(h:i<=j):xs.toList.take j=xs.toList.take i++(xs.toList.take j).drop i:=by
 grind[List.take_append_drop]
def DC (h:x∈(xs.toList.take j).drop i):∃l,i<=l/\l<j/\l<xs.size/\x=gx xs l:=by
 let(m,a,e):=Jv.mp h;rw[VL,Uq]at a;let b:i+m<xs.size:=by grind
 refine(i+m,(),(),b,?_)
 simp_all[gx]
def DD(h:j<=xs.size)(a:1<=j):(xs.toList.take j).drop (j-1)=[gx xs (j-1)]:=by
 grind[List.drop_take,XZ]
def Hc (h:x∈xs.toList.take j):∃l,l<j/\l<xs.size/\x=gx xs l:=have(l,_,a,b,c):=DC (i:=0) ();(l,a,b,c)
end
section
def MInvH.addA(M:MInvH lt f l i nb o)(p:m<=i)(q:∀c∈(f.toList.take i).drop m,∀y∈l.toList.take nb,jR lt y c):MInvH lt f l m nb ((f.toList.take i).drop m++o):=by
 let e:=M.a;let j:=M.b;let r:=M.pm;rw[Hb p]at e r;rw[Ug]at e;refine(e,?_,?_)
 .rw[VJ]at e j ⊢;calc(j.1,e.2.1,λy n x s=>?_);rcases Jb.mp s with z|z
  .exact q x z y n
  .exact j.2.2 y n x z
 grind
def MInvH.addB(M:MInvH lt j f l nb o)(p:m<=nb)(q:∀c∈(f.toList.take nb).drop m,∀x∈j.toList.take l,jR lt x c):MInvH lt j f l m ((f.toList.take nb).drop m++o):=by
 let i:=M.a;let e:=M.b;let r:=M.pm;rw[Hb p]at e r;rw[Ug]at e;refine(?_,e,?_)
 .rw[VJ]at i e ⊢;calc(i.1,e.2.1,λy n x s=>?_);rcases Jb.mp s with z|z
  .exact q x z y n
  .exact i.2.2 y n x z
 simp_all
def MInvH.doneA(M:MInvH lt c e f nb o)(h:f=0):wJ lt c e (c.toList.take f++e.toList.take nb++o):=by
 calc(M.pm,?_);rw[h,List.take_zero,List.nil_append];exact M.b
def MInvH.doneB(M:MInvH lt c e f nb o)(h:nb=0):wJ lt c e (c.toList.take f++e.toList.take nb++o):=by
 calc(M.pm,?_);rw[h,List.take_zero,ZA];exact M.a
def MInvH.first(M:MInvH lt f c i nb o)(h:nb=1)(j:1<=c.size)(l:∀x∈f.toList,jR lt (gx c 0) x):wJ lt f c (c.toList.take nb++f.toList.take i++o):=by
 let n:=M.a;let p:=M.b;let e:c.toList.take 1=[gx c 0]:=by
  let:=DD j<|Zf _
  simp_all
 refine(Vy () M.pm,?_)
 grind
variable (W:Wk lt)
include W
theorem MInvH.galA(x:e.toList.Pairwise (jR lt))(M:MInvH lt f e n nb o)(p:m<=n)(z:1<=nb)(B:nb<=e.size)(h:∀i,m<=i->i<n->lt (gx e<|nb-1) (gx f i)=6):MInvH lt f e m nb ((f.toList.take n).drop m++o):=by
 calc M.addA p λc q y s=>?_;let(j,u,v,E,rfl):=DC q;let(l,F,G,rfl):=Hc s;let r:jR lt (gx e<|nb-1) (gx f j):=.inl<|h j u v
 grind[jR.trans,Y0]
theorem MInvH.galB(p:∀x∈e.toList,∀y∈f.toList,x<y)(E:e.toList.Pairwise (jR lt))(M:MInvH lt e f n nb o)(q:m<=nb)(F:1<=n)(G:n<=e.size)(h:∀i,m<=i->i<nb->lt (gx f i) (gx e<|n-1)=7):MInvH lt e f n m ((f.toList.take nb).drop m++o):=by
 calc M.addB q λc s x u=>?_;let(j,v,z,B,rfl):=DC s;let(l,H,I,rfl):=Hc u;let r:jR lt (gx e<|n-1) (gx f j):=.inr (h j v z,p _ (QQ ()) _<|QQ B)
 grind[jR.trans,Y0]
theorem MInvH.one(f:c.toList.Pairwise (jR lt))(M:MInvH lt e c na nb o)(i:1<=na)(j:na<=e.size)(l:1<=nb)(n:nb<=c.size)(q:lt (gx c<|nb-1) (gx e<|na-1)=6):MInvH lt e c (na-1) nb (gx e (na-1)::o):=by
 let:=M.galA (m:=na-1) W f () l n ()
 rwa[DD j i]at this
theorem MInvH.two(i:∀x∈c.toList,∀y∈e.toList,x<y)(j:c.toList.Pairwise (jR lt))(M:MInvH lt c e f nb o)(l:1<=f)(n:f<=c.size)(p:1<=nb)(r:nb<=e.size)(q:lt (gx e<|nb-1) (gx c<|f-1)=7):MInvH lt c e f (nb-1) (gx e (nb-1)::o):=by
 let:=M.galB (m:=nb-1) W i j () l n ()
 rwa[DD r p]at this
end
abbrev H7:=G7 5 5 KA
def zZ(a b:KA)(i j:5)(o:KA):KA:=a.extract 0 i++b.extract 0 j++o.reverse
noncomputable def sr(a b:KA)(e c d i j:5)(o:KA):SM (ForInStep H7):=
 elem' a (i-1)>>=λx=>if(i-1==0)=6 then pure (.done %[!(zZ a b (i-1) j<|o.push x),i-1,j,o.push x,e,c|d])
  else if(decide (c<07)&&decide (d<07))=6 then pure (.done %[8,i-1,j,o.push x,e,c|d])else pure (.yield %[8,i-1,j,o.push x,e,c|d])
noncomputable def dj(a b:KA)(c d i j:5)(o:KA)(t:5):SM (ForInStep H7):=
 if j-t>0 then if(t==1)=6 then pure (.done %[!(zZ b a t i<|o++(b.extract t j).reverse),i,t,o++(b.extract t j).reverse,c,d|j-t])
  else if(t==0)=6 then pure (.done %[!(zZ a b i t<|o++(b.extract t j).reverse),i,t,o++(b.extract t j).reverse,c,d|j-t])
  else sr a b c d (j-t) i t (o++(b.extract t j).reverse)else sr a b c d (j-t) i j o
noncomputable def ss(a b:KA)(c d e j i:5)(o:KA):SM (ForInStep H7):=
 elem' b (j-1)>>=λx=>if(j-1==1)=6 then pure (.done %[!(zZ b a (j-1) i<|o.push x),i,j-1,o.push x,c,d|e])
  else elem' a (i-1)>>=λy=>WO 6 y b 0 (j-1) (j-1-1)>>=λr=>match r with
   |some t=>dj a b c d i (j-1) (o.push x) t
   |_=>pure (.done %[!(zZ a b i (j-1)<|o.push x),i,j-1,o.push x,c,d|e])
noncomputable def aZ(a b:KA)(c j i:5)(o:KA)(d t:5):SM (ForInStep H7):=
 if i-t>0 then if(t==0)=6 then pure (.done %[!(zZ a b t j<|o++(a.extract t i).reverse),t,j,o++(a.extract t i).reverse,d,i-t|c])
  else ss a b d (i-t) c j t (o++(a.extract t i).reverse)else ss a b d (i-t) c j i o
noncomputable def dk(a b:KA)(i j:5)(o:KA)(e d c:5):SM (ForInStep H7):=
 B9 c>>=λ_=>elem' b (j-1)>>=λx=>WO 7 x a 0 i (i-1)>>=λr=>match r with
  |some t=>aZ a b d j i o c t
  |_=>pure (.done %[! zZ a b i j o,i,j,o,c,e|d])
noncomputable def dm(a b:KA)(e i j:5)(o:KA)(c d:5):SM (ForInStep<|G6 5 5 KA):=
 elem' b (j-1)>>=λx=>elem' a (i-1)>>=λy=>lt' x y>>=λr=>match r with
  |some t=>if t=6 then elem' a (i-1)>>=λx=>if(i-1==0)=6 then pure (.done %[!(zZ a b (i-1) j<|o.push x),i-1,j,o.push x,c+1|0])
   else if c+1 ≥ e then pure (.done %[8,i-1,j,o.push x,c+1|0])else pure (.yield %[8,i-1,j,o.push x,c+1|0])
   else elem' b (j-1)>>=λx=>if(j-1==1)=6 then pure (.done %[!(zZ b a (j-1) i<|o.push x),i,j-1,o.push x,0|d+1])
    else if d+1 ≥ e then pure (.done %[8,i,j-1,o.push x,0|d+1])else pure (.yield %[8,i,j-1,o.push x,0|d+1])
  |_=>pure (.done %[! zZ a b i j o,i,j,o,c|d])
set_option smartUnfolding false in
noncomputable def gX{a b:KA}:D9 a b=(liftM (rule "list.sort.merge-hi"):SM PUnit)>>=λ_=>elem' a (a.size-1)>>=λx=>if(a.size-1==0)=6 then pure (zZ a b (a.size-1) b.size #[x])else if(b.size==1)=6 then pure (zZ b a b.size (a.size-1) #[x])
 else mT (a.size+b.size) (dm a b) (dk a b) (a.size-1) b.size #[x]:=rfl
structure HI(lt:Yc)(xs ys:Yg)(g i j:5)(o:Yh):4 where
 M:MInvH lt xs ys i j o
 a:1<=i
 b:2<=j
 ax:i<=xs.size
 bx:j<=ys.size
 g:g+i+j<=xs.size+ys.size
def HL(lt:Yc)(a:5->Keyed)(b c:Yg)(g i j:5)(v:KA):4:=∃o,HI lt b c g i j o/\v=ar a o.reverse
section
variable          {st st0:SortSt}{xs ys:Yg}   {v:KA}{R:ForInStep H7->Yy}
def W5(e:v=ar a o.reverse):zZ (xs.map a) (ys.map a) i j v=ar a (xs.toList.take i++ys.toList.take j++o):=by
 unfold zZ;rw[e,sA]
def zv (e:v=ar a o.reverse):v.push (a x)=ar a (x::o).reverse:=by rw[e,PR]
def wX(e:v=ar a o.reverse):v++((xs.map a).extract t i).reverse=ar a ((xs.toList.take i).drop t++o).reverse:=by rw[e,B4,PU]
variable (fst:∀x∈xs.toList,jR lt (gx ys 0) x)(H:MH lt N xs ys)(L:HI lt xs ys g i j o)(e:v=ar it o.reverse)
include fst H L e
section
variable (C:MR (HL lt it xs ys g) (MD lt it xs ys) st0 R)(se:SEq st0 st)
include C se
theorem gY(q:lt (gx ys<|j-1) (gx xs<|i-1)=6):YG b w A E s (sr (xs.map it) (ys.map it) mg ac bc i j v) R st:=by
 let a:=L.a;let c:=L.ax;calc Yl<|Q7 () ?_;let M2:=L.M.one H.W H.py a c (Uz L.b) L.bx q;calc wi (λz=>Ym<|C.dn se (_,M2.doneA<|Yp.mp z,W5<|zv e)) λz=>?_;let d:=C.go (mg:=mg) (ac:=ac) (bc:=bc) se (_,(M2,(),L.b,(),L.bx,by let:=L.g;lia),zv e);exact wi (λ_=>Ym d.1) λ_=>Ym d.2
theorem si(d:t<=j)(p:∀m,t<=m->m<j->lt (gx ys m) (gx xs<|i-1)=7)(q:1<=t->lt (gx ys<|t-1) (gx xs<|i-1)=6):YG f w A E s (dj (xs.map it) (ys.map it) B F i j v t) R st:=by
 let b:=L.b;let c:=L.bx;refine wi (λr=>?_) λr=>?_
 .let a:=L.M.galB H.W H.hxy H.px d L.a L.ax p;calc wi (λz=>Ym<|C.dn se (_,a.first (Yp.mp z) () fst,W5<|wX e)) λh=>wi (λz=>Ym<|C.dn se (_,a.doneB<|Yp.mp z,W5<|wX e)) λl=>?_;let n:2<=t:=by
   let h:t≠1:=λy=>h<|Yp.mpr y;let l:t≠0:=λy=>l<|Yp.mpr y;lia
  exact gY fst H (a,L.a,n,L.ax,Zh d c,by let:=L.g;lia) (wX e) C se<|q<|Uz n
 .let u:t=j:=()
  subst u;exact gY fst H L e C se<|q<|Uz b
variable (O:yU prog w A s kind it lt N)(kd:kindOf st0=kind)
include O kd
theorem gZ(q:lt (gx ys<|j-1) (gx xs<|i-1)=7):YG prog w A E s (ss (xs.map it) (ys.map it) n r u j i v) R st:=by
 let a:=L.a;let b:=L.b;let c:=L.bx;let d:=L.ax;calc Yl<|Q7 () ?_;let f:=L.M.two H.W H.hxy H.px a d (Uz b) c q;calc wi (λz=>Ym<|C.dn se (_,f.first (Yp.mp z) () fst,W5<|zv e)) λz=>?_;let z:j-1≠1:=λy=>z<|Yp.mpr y;let p:i-1<xs.size:=()
 calc Yl<|Q7 p<|Yl<|XY O (se.kd.trans kd) (H.xn _<|QQ p) () (λi B=>H.yn _<|QQ ()) () (Ha H.W H.py ()) λt m h l=>?_;simp at h l;exact si fst H (f,a,(),d,(),by let:=L.g;lia) (zv e) C se m l λy=>h (t-1)<|Nat.sub_lt y Yt
theorem sj:YG prog w A E s (dk (xs.map it) (ys.map it) i j v G I J) R st:=by
 let a:=L.a;let b:=L.b;let c:=L.bx;let m:=L.ax;let p:j-1<ys.size:=()
 calc Yl<|DB se λst se=>Yl<|Q7 p<|Yl<|XY O (se.kd.trans kd) (H.yn _<|QQ p) () (λi M=>H.xn _<|QQ ()) () (GZ H.W H.px ()) λt d f h=>?_;simp at f h;let q:=λn=>by
  let:(not<|lt (gx ys<|j-1)<|gx xs<|t-1)=6:=f (t-1)<|Nat.sub_lt n Yt;simpa using this
 refine wi (λr=>?_) λr=>?_
 .let M2:=L.M.galA H.W H.py d (Uz b) c λi u B=>by
   let:(not<|lt (gx ys<|j-1)<|gx xs i)=7:=h i u B;simpa using this
  calc wi (λz=>Ym<|C.dn se (_,M2.doneA<|Yp.mp z,W5<|wX e)) λz=>?_;let l:=Nat.pos_of_ne_zero λy=>z<|Yp.mpr y;exact gZ fst H (M2,l,b,Zh d m,c,by let:=L.g;lia) (wX e) C se O kd<|q l
 .let F:t=i:=()
  subst F;exact gZ fst H L e C se O kd<|q a
end
theorem sm{R:ForInStep (G6 5 5 KA)->Yy}(O:yU d w A s f it lt N)(r:kindOf st=f)(p:∀{v t},MD lt it xs ys v->R (.done %[!v|t]) st)(go:∀{i j v ac bc},HL lt it xs ys (g+1) i j v->R (.done %[8,i,j,v,ac|bc]) st/\R (.yield %[8,i,j,v,ac|bc]) st):
 YG d w A E s (dm (xs.map it) (ys.map it) u i j v ac bc) R st:=by
 let a:=L.a;let b:=L.b;let c:=L.bx;let n:=L.ax;let B:=L.g;let l:i-1<xs.size:=()
 let m:j-1<ys.size:=()
 calc Yl<|Q7 m<|Yl<|Q7 l<|Yl<|Ae O r (H.yn _<|QQ m) (H.xn _<|QQ l) ?_;refine wi (λq=>Yl<|Q7 l ?_) λq=>Yl<|Q7 m ?_
 .let M2:=L.M.one H.W H.py a n (Uz b) c q;calc wi (λz=>Ym<|p (_,M2.doneA<|Yp.mp z,W5<|zv e)) λz=>?_;let h:=go (ac:=ac+1) (bc:=0) (_,(M2,Nat.pos_of_ne_zero λy=>z<|Yp.mpr y,b,Zz l,c,()),zv e);exact wi (λ_=>Ym h.1) λ_=>Ym h.2
 .let M2:=L.M.two H.W H.hxy H.px a n (Uz b) c<|Yr.mpr q;calc wi (λz=>Ym<|p (_,M2.first (Yp.mp z) (Zh (Uz b) c) fst,W5<|zv e)) λz=>?_;let h:=go (ac:=0) (bc:=bc+1) (_,(M2,a,by let:j-1≠1:=λy=>z<|Yp.mpr y;lia,n,Zz m,()),zv e);exact wi (λ_=>Ym h.1) λ_=>Ym h.2
end
section
variable          {st:SortSt}
def PX (H:MH lt N a b)(O:yU f w A s g c lt N)(j:kindOf st=g)(q:1<=a.size)(r:1<=b.size)(d:∀x∈a.toList,jR lt (gx b 0) x)(lst:lt (gx b<|b.size-1) (gx a<|a.size-1)=6)
 (h:∀o i,SEq st i->wJ lt a b o->Q (ar c o) i):YG f w A E s (D9 (a.map c)<|b.map c) Q st:=by
 let M1:MInvH lt a b (a.size-1) b.size [gx a (a.size-1)]:=by
  refine MInvH.one (o:=[]) (na:=a.size) (nb:=b.size) H.W H.py (?_,?_,?_) q (Zf _) r (Zf _) lst
  .rw[UR (),ZA];exact H.px
  .rw[UR (),ZA];exact H.py
  .rw[UR (),UR (),ZA]
 rw[gX,sz,sz];let p:a.size-1<a.size:=Nat.sub_lt q Yt;let l:#[c (gx a<|a.size-1)]=ar c [gx a (a.size-1)].reverse:=B8;calc Yl<|wpS_lift<|wpAny_rule (9,Yl<|Q7 p ?_);refine wi (λz=>?_) λt=>wi (λz=>?_) λu=>?_
 .rw[W5 l];exact Ym<|h _ _ (.refl _)<|M1.doneA<|Yp.mp z
 .rw[W5 l];exact Ym<|h _ _ (.refl _)<|M1.first (Yp.mp z) r d
 let t:a.size-1≠0:=λy=>t<|Yp.mpr y;let u:b.size≠1:=λy=>u<|Yp.mpr y;let v:HI lt a b 1 (a.size-1) b.size [gx a (a.size-1)]:=(M1,(),(),(),(),());exact dg (P:=HL lt c a b) (D:=MD lt c a b) j (_,v,l) λB=>by
  let(_,L,_):=B;let:=L.a;let:=L.b;let:=L.g;lia (λ(o,L,e)h=>(o,(L.M,L.a,L.b,L.ax,L.bx,by let:=L.g;lia),e)) (λj(_,L,e)dn go=>sm d H L e O j dn go) (λC n(_,L,e)=>sj d H L e C n O j) λn(o,m,e)=>by rw[e];exact h o _ n m
end
theorem Hd{α:Type}(k):∀l i(a:Array α),k+i+l.length<=a.size->((l.zipIdx i).foldl (λa(p:α × 5)=>a.setIfInBounds (k+p.2) p.1) a).toList=a.toList.take (k+i)++l++a.toList.drop (k+i+l.length)
 |[],i,a,h=>by simp
 |x::r,i,a,h=>by
  rw[Zu]at h;rw[List.zipIdx_cons,Vh,Hd k r (i+1) _ (by rw[Array.size_setIfInBounds];lia),Array.toList_setIfInBounds,Zu];let b:(a.toList.set (k+i) x).take (k+(i+1))=a.toList.take (k+i)++[x]:=by
   rw[show k+(i+1)=k+i+1 by lia,List.take_succ,List.take_set_of_le (Zf _),UO (by simp;lia)];rfl
  grind[List.append_assoc,List.drop_set_of_lt]
def He{α β:Type}(f:α->β)(a:Array α)(i j):(a.map f).extract i j=(a.extract i j).map f:=()
theorem Ag  (h:i+a<j)(c:j<=b.size):gx (b.extract i j) a=gx b (i+a):=by
 unfold gx;rw[Array.getElem?_extract,Zd ()]
section
variable         {st:SortSt}
def rl  (h:Q ⟨⟩ b):YG a w A E s (set b:StateT SortSt Sem PUnit) Q st:=Zb (9,h)
theorem WP  (b:j<=a.size)(h:x∈(a.extract i j).toList):∃l,i<=l/\l<j/\x=gx a l:=by
 rw[Array.toList_extract,VU]at h;let(l,c,d,e):=DA h
 grind
def Hf {R:5->5->4} (f:j<=ix.size)(h:∀a b,i<=a->a<b->b<j->R (gx ix a) (gx ix b)):(ix.extract i j).toList.Pairwise R:=by
 rw[List.pairwise_iff_getElem];let e:∀c d,c<j-i->(ix.extract i j).toList[c]=gx ix (i+c):=λc d h=>by
  grind[gx,sz,Ag,Array.getElem?_eq_getElem]
 grind
def PY (W:Wk lt)(b:jR lt x y)(h:be lt 7 y k=6):be lt 7 x k=6:=by
 let h:(not<|lt k y)=6:=h;show(not<|lt k x)=6;cases q:lt k x with
 |false=>rfl
 |true=>
  rcases W.neg _ y _ q with z|z
  .simp_all
  .rw[jR.no W b]at z;cases z
def PZ (W:Wk lt)(b:jR lt x y)(h:be lt 6 y k=6):be lt 6 x k=6:=by
 rcases W.neg _ x _ h with z|z
 .rw[jR.no W b]at z;cases z
 .exact z
end
structure PlO(lo N:5)(bs ix:Yg)(k:5):4 where
 size:ix.size=N
 perm:ix.Perm (Array.range N)
 low:∀a,a<lo->gx ix a=gx bs a
 mid:∀a,lo<=a->a<k->lo<=gx ix a/\gx ix a<k
 suf:∀a,k<=a->a<N->gx ix a=a
def Hg  (p:b.Perm (Array.range N))(c:a<b.size):gx b a<N:=by
 let:=(Js.mp p).mem_iff.mp<|QQ c
 simp_all
section
variable {lo N k:Nat}
def PlO.all(h:PlO lo N bs c k) (e:a<N):gx c a<N:=Hg h.perm<|by rwa[h.size]
def PlO.succ(h:PlO lo N bs e k)(l:lo<=k)(f:k<N):PlO lo N bs e (k+1):=by
 calc(h.size,h.perm,h.low,λa i n=>?_,λa o j=>h.suf a () j);by_cases c:a<k
 .let:=h.mid a i c;lia
 .let:a=k:=()
  subst this;rw[h.suf a (Zf _) f];lia
def PlO.rev (h:PlO lo N bs f k)(o:k<=N)(p:lo<=i)(q:i<=k):PlO lo N bs (mirror f i k<|(k-i)/2) k:=by
 let c:k<=f.size:=by rwa[h.size]
 refine(by rw[mirror_size];calc h.size,(mirror_perm _ _ _ _).trans h.perm,λa e=>?_,λa j e=>?_,λa l n=>?_)
 .rw[Ad c,Ze ()];exact h.low a e
 .rw[Ad c]
  split
  .exact h.mid _ () ()
  .exact h.mid a j e
 .rw[Ad c,Ze ()];exact h.suf a l n
end
def wb(lt:Yc)(lo:5)(c:Yg)(k:5):4:=∀a b,lo<=a->a<b->b<k->jR lt (gx c a) (gx c b)
def nB(lt:Yc)(lo:5)(c:Yg)(k:5):4:=∀a b,lo<=a->a<b->b<k->jR lt (gx c b) (gx c a)
structure SBp(it:5->Keyed)(kind:SortKind)(pn:Array (5×5×5))(ix:Yg)(st:SortSt):4 where
 arr:arrOf st=ix.map it
 kd:kindOf st=kind
 fl:failedOf st=8
 pd:pendingOf st=pn
structure EqO(lt:Yc)(lo:5)(ix:Yg)(x u:5):4 where
 le:lo<=u
 ux:u<x
 out:∀a b,lo<=a->a<b->b<x->a<u->lt (gx ix b) (gx ix a)=6\/b<u/\jR lt (gx ix b) (gx ix a)
 same:∀a b,u<=a->a<x->u<=b->b<x->lt (gx ix a) (gx ix b)=7
 rise:∀a b,u<=a->a<b->b<x->gx ix a<gx ix b
def WQ  (b:j<=a.size)(c:i<=k)(d:k<j):∃m,i<=m/\m<j/\k+m+1=i+j/\gx (mirror a i j<|(j-i)/2) k=gx a m:=by
 calc(i+j-1-k,(),(),(),?_);rw[Ad b,Zd (c,d)]
def Ah  (b:j<=a.size)(h:k<i\/j<=k):gx (mirror a i j<|(j-i)/2) k=gx a k:=by
 rw[Ad b,Ze ()]
section
variable  {lo:Nat}  (W:Wk lt)
include W
theorem BB :lt a a=7:=by
 cases z:lt a a with
 |false=>rfl
 |true=>let:=W.asy _ _ z;simp_all
theorem EqO.down (h:EqO lt lo o x u)(f:x<=o.size):nB lt lo (mirror o u x<|(x-u)/2) x:=by
 intro a b p j l;by_cases i:u<=b
 .let(-s,n,q,y,e):=WQ f i l;rw[e];by_cases c:u<=a
  .let(-B,v,r,E,e):=WQ f c (Ul j l);rw[e];exact .inr (h.same _ _ v r n q,h.rise _ _ n () r)
  .let c:=Ys c;rw[Ah f (.inl c)];rcases h.out a s p (Zg c n) q c with z|z
   .exact .inl z
   .exact z.2
 .let i:=Ys i;let c:=Ul j i;rw[Ah f (.inl i),Ah f (.inl c)];rcases h.out a b p j l c with z|z
  .exact .inl z
  .exact z.2
theorem EqO.down0 (h:EqO lt lo f (x+1) x):nB lt lo f (x+1):=by
 intro a b i c e;rcases h.out a b i c e (Zg c<|Uu e)with z|z
 .exact .inl z
 .exact z.2
theorem xQ (r:y+1=x)(s:lo<=y)(D:nB lt lo e x)(i:lt (gx e x) (gx e y)=6):EqO lt lo e (x+1) x:=by
 let wM:∀a,lo<=a->a<x->lt (gx e x) (gx e a)=6:=λa f j=>by
  by_cases c:a=y
  .rwa[c]
  .rcases W.neg _ (gx e a) _ i with z|z
   .exact z
   .rw[jR.no W (D a y f () ())]at z;exact JF z
 let eq:∀{a},x<=a->a<x+1->a=x:=()
 refine((),UG _,λa b f l u j=>?_,λa b n o p q=>?_,())
 .by_cases c:b<x
  .exact .inr (c,D a b f l c)
  simp_all
 .rw[eq n o,eq p q];exact BB W
theorem EqO.more (h:EqO lt lo e x u)(R:y+1=x)(H:gx e x=x)(p:∀a,lo<=a->a<x->gx e a<x)(I:lt (gx e x) (gx e y)=7)(J:lt (gx e y) (gx e x)=7):EqO lt lo e (x+1) u:=by
 let le:=h.le;let L:=h.ux;let O:∀k,lt (gx e y) k=6->lt (gx e x) k=6:=λk z=>by
  rcases W.neg _ (gx e x) _ z with y|y
  .rw[J]at y;exact JF y
  lia
 let Q:∀k,lt k (gx e x)=6->lt k (gx e y)=6:=λk z=>by
  rcases W.neg _ (gx e y) _ z with y|y
  .exact y
  simp_all
 let q:∀k,lt (gx e x) k=6->lt (gx e y) k=6:=λk z=>by
  rcases W.neg _ (gx e y) _ z with y|y
  .rw[I]at y;exact JF y
  lia
 let r:y<x:=()
 let l:u<=y:=()
 let f:∀{b},b<x+1->¬b=x->b<x:=λh k=>UH (Uu h) k;refine(le,Uw L,λa b B n s v=>?_,λa b j E F G=>?_,λa b j n s=>?_)
 .by_cases c:b=x
  .rw[c];rcases h.out a y B (Zg v l) r v with z|z
   .exact .inl<|O _ z
   .exact Zn z.1<|Nat.not_lt_of_le l
  .exact h.out a b B n (f s c) v
 .by_cases o:a=x
  .by_cases i:b=x
   .rw[o,i];exact BB W
   .rw[o];cases z:lt (gx e x) (gx e b)with
    |false=>rfl
    |true=>
     let w:=q _ z;rw[h.same y b l r F (f G i)]at w;exact JF w
  .by_cases i:b=x
   .rw[i];cases z:lt (gx e a) (gx e x)with
    |false=>rfl
    |true=>
     let w:=Q _ z;rw[h.same a y j (f E o) l r]at w;exact JF w
   .exact h.same a b j (f E o) F<|f G i
 .by_cases i:b=x
  .rw[i,H];exact p a (Zh le j)<|i ▸ n
  .exact h.rise a b j n<|f s i
end
abbrev C2:=Option (Option 5)×5
noncomputable def ny(p c:5):SM (ForInStep C2):=ltAt' p (p-1)>>=λr=>match r with
 |some t=>if t=6 then pure (.done %[8|c])else pure (.yield %[8|c+1])
 |_=>pure (.done %[!8|c])
noncomputable def sZ(lo a n:5):SM (Option 5):=reverseSlice' lo (lo+n)>>=λ_=>(forIn [n:a] (%[8|n]:C2) λ_ c=>ny (lo+c.2) c.2)>>=λc=>match c.1 with
 |some r=>pure r
 |none=>pure !c.2
noncomputable def dF(lo a n q:5):SM (Option 5):=if q>0 then reverseSlice' (lo+n-(q+1)) (lo+n)>>=λ_=>sZ lo a n else sZ lo a n
noncomputable def dE(p n q:5):SM (ForInStep C3):=ltAt' p (p-1)>>=λr=>match r with
 |some t=>if t=6 then if q>0 then reverseSlice' (p-(q+1)) p>>=λ_=>pure<|.yield %[8,n+1|0]else pure (.yield %[8,n+1|0])
  else ltAt' (p-1) p>>=λr=>match r with
   |some t=>if t=6 then pure (.done %[8,n|q])else pure (.yield %[8,n+1|q+1])
   |_=>pure (.done %[!8,n|q])
 |_=>pure (.done %[!8,n|q])
noncomputable def tc(lo a n:5):SM (Option 5):=(liftM (rule "list.sort.descending-run"):SM PUnit)>>=λ_=>(forIn [n+1:a] (%[8,n+1|0]:C3) λ_ c=>dE (lo+c.2.1) c.2.1 c.2.2)>>=λc=>match c.1 with
 |some r=>pure r
 |none=>dF lo a c.2.1 c.2.2
noncomputable def e9(lo a n:5):SM (Option 5):=if(n==a)=6 then pure !n else if n>1 then ltAt' lo (lo+n-1)>>=λr=>match r with
 |some t=>if t=6 then pure !n else reverseSlice' lo (lo+n)>>=λ_=>tc lo a n
 |_=>pure 8
 else tc lo a n
set_option smartUnfolding false in
def bE{lo a:5}:countRun' lo a=(forIn [1:a] (%[8|1]:C2) λ_ c=>ny (lo+c.2) c.2)>>=λc=>match c.1 with|some r=>pure r|none=>e9 lo a c.2:=rfl
section
variable         {lo N:Nat}  {st:SortSt}
def Ai  (O:yU c w A s d f lt N)(B:SBp f d m e st)(L:PlO lo N bs e k)(g:a<N)(i:b<N)(h:Q (!(lt (gx e a)<|gx e b)) st):
 YG c w A E s (ltAt' a b) Q st:=by
 let j:(arrOf st)[a]?=!(f<|gx e a):=by rw[B.arr,UQ,D6 (by rwa[L.size])];rfl
 let l:(arrOf st)[b]?=!(f<|gx e b):=by rw[B.arr,UQ,D6 (by rwa[L.size])];rfl
 show wpS _ _ _ _ (elem' (arrOf st) a>>=λx=>elem' (arrOf st) b>>=λy=>lt' x y) Q st;rw[elem'_eq,elem'_eq,j,l];exact Yl<|Ym<|Yl<|Ym<|Ae O B.kd (L.all g) (L.all i) h
def SBp.set (B:SBp f c i n st) (e:j=l.map f):SBp f c i l (setArr st j):=(e,B.kd,B.fl,B.pd)
def SBp.rev (B:SBp e c f l st):SBp e c f (mirror l i j m) (setArr st<|mirror (arrOf st) i j m):=B.set<|by rw[B.arr,PM]
variable (W:Wk lt)(O:yU prog w A s kind it lt N)
include W O
theorem Ra  (b:p<N)(h:lo<p)(B:SBp it kind n a st)(L:PlO lo N bs a p)(U:wb lt lo a p)
 (l:lt (gx a p) (gx a<|p-1)=6->R (.done %[8|c]) st)(go:PlO lo N bs a (p+1)->wb lt lo a (p+1)->R (.yield %[8|c+1]) st):YG prog w A E s (ny p c) R st:=by
 let(y,rfl):∃y,p=y+1:=(p-1,());let f:=Uu h;calc Yl<|Ai O B L b (US b)<|wi (λq=>Ym<|l q) λq=>Ym<|go (L.succ (Vl f) b) λi j g m o=>?_;let last:jR lt (gx a y) (gx a<|y+1):=.inr (Yr.mpr q,by rw[L.suf _ (Zf _) b];calc(L.mid _ f<|UG _).2);by_cases c:j<y+1
 .exact U i j g m c
 .let e:j=y+1:=()
  subst e;by_cases d:i=y
  .simp_all
  .exact jR.trans W (U i y g ()<|UG _) last
theorem Hh {Q:C2->Yy}
 (j:lo+d<=N)(l:1<=a)(f:a<=d)(B:SBp it kind n b st)(L:PlO lo N bs b (lo+a))(U:wb lt lo b (lo+a))
 (h:∀m,a<=m->m<=d->PlO lo N bs b (lo+m)->wb lt lo b (lo+m)->m=d\/lt (gx b<|lo+m) (gx b<|lo+m-1)=6->Q %[8|m] st):YG prog w A E s (forIn [a:d] (%[8|a]:C2) λ_ c=>ny (lo+c.2) c.2) Q st:=by
 refine Yo (I:=λx c e=>e=st/\c=%[8|x]/\PlO lo N bs b (lo+x)/\wb lt lo b (lo+x)) ?_ ?_ (9,9,L,U)
 .rintro x c e o p ⟨rfl,rfl,g,i⟩;exact Ra W O () () B g i () ()
 simp_all
variable  {Q:Option Nat->Yy}(hn:lo+nr<=N)(h:∀k jx st',SBp it kind pn jx st'->1<=k->k<=nr->PlO lo N bs jx (lo+k)->wb lt lo jx (lo+k)->Q (some k) st')
include hn h
theorem Hi(d:1<=x)(m:x<=nr)(B:SBp it kind pn c st)(L:PlO lo N bs c (lo+x))(D:nB lt lo c (lo+x)):YG prog w A E s (sZ lo nr x) Q st:=by
 let f:lo+x<=c.size:=by rw[L.size];lia
 let n:=L.rev (i:=lo) () (Zf _) ();calc Yl<|wpS_reverse<|Yl<|Hh W O hn d m B.rev n (λa b g j l=>?_) λk o p q r _=>Ym<|h k _ _ B.rev (Zh d o) p q r;let(-y,z,t,C,e):=WQ f g (Ul j l);let(-F,u,G,H,v):=WQ f (Zz<|UD g j) l;rw[e,v];exact D _ _ u () t
theorem Rb(a:1<=x)(b:x<=nr)(B:SBp it kind pn c st)(L:PlO lo N bs c (lo+x))(X:EqO lt lo c (lo+x) u)(e:u+(q+1)=lo+x):YG prog w A E s (dF lo nr x q) Q st:=by
 refine wi (λd=>?_) λd=>?_
 .rw[show lo+x-(q+1)=u by lia];let le:=X.le;let f:=X.ux;exact Yl<|wpS_reverse<|Hi W O hn h a b B.rev (L.rev () le<|Zz f)<|X.down W<|by rw[L.size];lia
 .let g:q=0:=VM d;subst g;rw[<-e]at X;exact Hi W O hn h a b B L<|e ▸ X.down0 W
omit hn h in
theorem Rc{p:5}{R:ForInStep C3->Yy}(b:p<N)(B:SBp it kind pn c st)(L:PlO lo N bs c p)(X:EqO lt lo c p u)(e:u+(q+1)=p)
 (l:R (.done %[8,x|q]) st)(go:∀jx u q st',SBp it kind pn jx st'->PlO lo N bs jx (p+1)->EqO lt lo jx (p+1) u->u+(q+1)=p+1->R (.yield %[8,x+1|q]) st'):YG prog w A E s (dE p x q) R st:=by
 let le:=X.le;let f:=X.ux;let g:p<=c.size:=by rw[L.size];exact Zz b
 let(y,rfl):∃y,p=y+1:=(p-1,());let i:=US b;let d:lo<=y:=Zh le<|Uu f;refine Yl<|Ai O B L b i<|wi (λz=>wi (λj=>?_) λj=>?_) λz=>?_
 .let z:lt (gx c<|y+1) (gx c y)=6:=z;rw[show y+1-(q+1)=u by lia];calc Yl<|wpS_reverse<|Ym<|go _ _ 0 _ B.rev ((L.rev (Zz b) le<|Zz f).succ (Vl d) b) (xQ W 9 d (X.down W g) ?_) 9;let(m,n,m2,_,e):=WQ g (Uu f) (UG y);rw[Ah g (.inr<|Zf _),e];rcases W.neg _ (gx c m) _ z with y|y
  .exact y
  .rw[X.same _ _ n m2 (Uu f) (UG _)]at y;exact JF y
 .let o:q=0:=VM j;subst o;let e:u=y:=UL e;subst e;exact Ym<|go c _ 0 st B (L.succ (Vl d) b) (xQ W 9 d (X.down0 W) z) 9
 .calc Yl<|Ai O B L i b<|wi (λ_=>Ym l) λr=>?_;exact Ym<|go c u _ st B (L.succ (Vl d) b) (X.more W 9 (L.suf _ (Zf _) b) (λa t v=>(L.mid a t v).2) (Yr.mpr z)<|Yr.mpr r)<|Zt (·+1) e
theorem Hj(j:x+1<=nr)(B:SBp it kind pn ix st)(L:PlO lo N bs ix (lo+x+1))(X:EqO lt lo ix (lo+x+1) (lo+x)):YG prog w A E s (tc lo nr x) Q st:=by
 refine Yl<|wpS_lift<|wpAny_rule (9,Yl<|Yn (Yo (I:=λx c g=>∃u q a,c=%[8,x|q]/\SBp it kind pn a g/\PlO lo N bs a (lo+x)/\EqO lt lo a (lo+x) u/\u+(q+1)=lo+x) (Q:=λc g=>∃y u q a,c=%[8,y|q]/\1<=y/\y<=nr/\SBp it kind pn a g/\PlO lo N bs a (lo+y)/\EqO lt lo a (lo+y) u/\u+(q+1)=lo+y) ?_ ?_<|ji (lo+x) 0 ix (9,B,L,X,9)) ?_)
 .rintro y c g m n ⟨u,q,a,rfl,i,d,f,e⟩;exact Rc W O (show lo+y<N from()) i d f e (qb y u q a (9,Zh (Nat.le_add_left 1 x) m,Zz n,i,d,f,e)) λjx u q st' b l x e=>ji u q jx (9,b,l,x,e)
 .rintro c g ⟨u,q,a,rfl,i,d,f,e⟩;rw[Nat.max_eq_right j]at d f e ⊢;exact qb nr u q a (9,Zh (Nat.le_add_left 1 x) j,Zf _,i,d,f,e)
 .rintro c g ⟨x,u,q,a,rfl,o,j,i,d,f,e⟩;exact Rb W O hn h o j i d f e
theorem Re(R:1<=nr)(B:SBp it kind pn ix st)(L:PlO lo N bs ix (lo+1)):YG prog w A E s (countRun' lo nr) Q st:=by
 rw[bE];calc Yl<|Hh W O hn (Zf 1) R B L (λa b d f o=>()) λm P m2 i l C=>?_;calc wi (λ_=>Ym<|h m ix st B P m2 i l) λq=>?_;let q:m≠nr:=λz=>q<|Yp.mpr z;let r:lt (gx ix<|lo+m) (gx ix<|lo+m-1)=6:=C.resolve_left q;let m2:m+1<=nr:=UH m2 q;let j:lo+m<N:=()
 let t:lo<lo+m:=()
 let v:lo+m<=ix.size:=by rw[i.size];exact Zz j
 refine wi (λS=>?_) λS=>?_
 .let F:=λ{G st'}=>Hj (E:=E) (bs:=bs) (ix:=G) (st:=st') W O hn h m2;let T:=h m ix st B P (Uz m2) i l;generalize lo+m=p at*;let(y,rfl):∃y,p=y+1:=(p-1,());let r:lt (gx ix<|y+1) (gx ix y)=6:=r;let H:=Uu t;let U:=US j;let I:=UG y;calc Yl<|Ai O B i (Ul t j) U<|wi (λ_=>Ym T) λc=>?_;let c:lt (gx ix lo) (gx ix y)=7:=Yr.mpr c;let flat:∀a b,lo<=a->a<y+1->lo<=b->b<y+1->lt (gx ix a) (gx ix b)=7:=λa b d X Y g=>by
   cases z:lt (gx ix a) (gx ix b)with
   |false=>rfl
   |true=>
    rcases W.neg _ (gx ix lo) _ z with w|w
    .by_cases Z:a=lo
     .rw[Z,BB W]at w;exact JF w
     .rw[jR.no W (l lo a (Zf _) () X)]at w;exact JF w
    .rcases W.neg _ (gx ix y) _ w with u|u
     .rw[c]at u;exact JF u
     .by_cases J:b=y
      .rw[J,BB W]at u;exact JF u
      .rw[jR.no W (l b y Y () I)]at u;exact JF u
  let n:∀a b,lo<=a->a<b->b<y+1->gx ix a<gx ix b:=λa b d f g=>by
   rcases l a b d f g with z|z
   .rw[flat a b d (Ul f g) (Zh d<|Zz f) g]at z;exact JF z
   .exact z.2
  refine Yl<|wpS_reverse<|F B.rev ((i.rev (Zz j) (Zf _)<|Zz t).succ (Zz t) j)<|xQ W 9 H (λa b d f g=>?_) ?_
  .let(-a',M,x,a3,e):=WQ v d (Ul f g);let(-b',o,b2,b3,e'):=WQ v (Zh d<|Zz f) g;rw[e,e'];exact .inr (flat _ _ M x o b2,n _ _ o () x)
  .let(-m,M,x,_,e):=WQ v H I;rw[Ah v (.inr<|Zf _),e];rcases W.neg _ (gx ix m) _ r with z|z
   .exact z
   .rw[flat _ _ M x H I]at z;exact JF z
 .let e1:m=1:=()
  subst e1;exact Hj W O hn h m2 B (i.succ (Uo _ _) j)<|xQ W 9 (Zf _) (λa b d f o=>()) r
omit hn h
omit O W in
theorem Y1{a:Yg}{p l k:5}(b:p<a.size)(c:l<=p)(d:k<=p):k<l/\gx (bubble a p<|p-l) k=gx a k\/k=l/\gx (bubble a p<|p-l) k=gx a p\/∃j,k=j+1/\l<=j/\j<p/\gx (bubble a p<|p-l) k=gx a j:=by
 rw[GV b (U7 _ _),show p-(p-l)=l by lia]
 grind
omit O W in
theorem Rf{p l:5}(x:p<N)(d:l<=p)(q:lo<=l)(L:PlO lo N bs f p)(U:wb lt lo f p)(low:∀i,lo<=i->i<l->lt p (gx f i)=7)(B:∀i,l<=i->i<p->lt p (gx f i)=6):PlO lo N bs (bubble f p<|p-l) (p+1)/\wb lt lo (bubble f p<|p-l) (p+1):=by
 let m:p<f.size:=by rw[L.size];exact x
 let v:gx f p=p:=L.suf p (Zf _) x;let md:∀{i},lo<=i->i<p->lo<=gx f i/\gx f i<p+1:=λh k=>((L.mid _ h k).1,Uw (L.mid _ h k).2);refine((by rw[bubble_size];calc L.size,(bubble_perm _ _ _).trans L.perm,λa r=>?_,λa C r=>?_,λa E F=>?_),λa b t y n=>?_)
 .rcases Y1 m d (Zz<|Zg r<|Zh q d)with ⟨_,e⟩|⟨z,_⟩|⟨j,z,h,_⟩
  .rw[e];exact L.low a r
  .omega
  .omega
 .rcases Y1 m d (Uu r)with ⟨z,e⟩|⟨z,e⟩|⟨j,z,h,k,e⟩
  .rw[e];exact md C<|Zg z d
  .rw[e,v];exact(Zh q d,UG _)
  .rw[e];exact md (Zh q h) k
 .rw[GV m (U7 _ _),Ze (),Ze ()];exact L.suf a (Uz E) F
 .let n:=Uu n;rcases Y1 m d (Zh (Zz y) n)with ⟨z,e⟩|⟨z,e⟩|⟨i,z,h,k,e⟩
  .rcases Y1 m d n with ⟨g,c⟩|⟨g,c⟩|⟨j,g,u,o,c⟩
   .rw[e,c];exact U a b t y<|Zg g d
   .rw[e,c,v];exact .inr (low a t z,(L.mid a t<|Zg z d).2)
   .rw[e,c];exact U a j t (Zg z u) o
  .rcases Y1 m d n with ⟨g,c⟩|⟨g,c⟩|⟨j,g,u,o,c⟩
   .omega
   .omega
   .rw[e,c,v];exact .inl<|B j u o
  .rcases Y1 m d n with ⟨g,c⟩|⟨g,c⟩|⟨j,g,u,o,c⟩
   .omega
   .omega
   .rw[e,c];exact U i j (Zh q h) () o
theorem Rg {Q:Bool->Yy}(X:lo+f<=N)(Y:ok<=f)(n:1<=ok)(B:SBp it kind pn C st)(L:PlO lo N bs C (lo+ok))(U:wb lt lo C (lo+ok))
 (h:∀jx st',SBp it kind pn jx st'->PlO lo N bs jx (lo+f)->wb lt lo jx (lo+f)->Q 6 st'):YG prog w A E s (binarySort' lo f ok) Q st:=by
 rw[binarySort'_eq];let F:max ok 1=ok:=()
 rw[F];refine Yl<|Yn (Yo (I:=λk c st'=>c=%[8|Yq]/\∃jx,SBp it kind pn jx st'/\PlO lo N bs jx (lo+k)/\wb lt lo jx (lo+k)) (Q:=λc st'=>c=%[8|Yq]/\∃jx,SBp it kind pn jx st'/\PlO lo N bs jx (lo+f)/\wb lt lo jx (lo+f)) ?_ ?_ (9,C,B,L,U)) ?_
 .rintro k c o Z hk2 ⟨rfl,jx,G,H,J⟩;let ek:gx jx (lo+k)=lo+k:=H.suf _ (Zf _) ();refine Yl<|Yn (Yo (I:=λx c j=>j=o/\∃l r,c=%[8,l|r]/\l<=r/\r<=k/\r-l<=k-x/\(∀i,i<l->lt (lo+k) (gx jx<|lo+i)=7)/\∀i,r<=i->i<k->lt (lo+k) (gx jx<|lo+i)=6)
   (Q:=λc j=>j=o/\∃l r,c=%[8,l|r]/\l<=k/\(∀i,i<l->lt (lo+k) (gx jx<|lo+i)=7)/\∀i,l<=i->i<k->lt (lo+k) (gx jx<|lo+i)=6) ?_ ?_ ()) ?_
  .rintro x c j _ hx ⟨rfl,l,r,rfl,lr,p,t,low,g⟩;dsimp only;by_cases M:l ≥ r
   .rw[Zd M];let e:l=r:=()
    subst e;exact Ym (9,l,l,9,p,low,g)
   .rw[Ze M];let(-m,F,m1,m2,m3,m4):=GU (Ys M) t;rw[F];let mk:=Zg m2 p;calc Yl<|Ai O G H () () ?_;rw[ek];cases q:lt (lo+k) (gx jx<|lo+m)with
    |true=>
     simp only[if_true];calc Ym (9,l,m,9,m1,Zz mk,m3,low,λi a b=>?_);by_cases P:i=m
     .rw[P];exact q
     .rcases W.neg (lo+k) (gx jx<|lo+i) _ q with z|z
      .exact z
      .rw[jR.no W (J (lo+m) (lo+i) () () ())]at z;calc JF z
    |false=>
     simp only[UJ,if_false];calc Ym (9,m+1,r,9,m2,p,m4,λi a=>?_,g);by_cases P:i=m
     .rw[P];exact q
     .cases z:lt (lo+k) (gx jx<|lo+i)with
      |false=>rfl
      |true=>
       rcases W.neg (lo+k) (gx jx<|lo+m) _ z with y|y
       .rw[q]at y;exact JF y
       .rw[jR.no W (J (lo+i) (lo+m) () () ())]at y;exact JF y
  .rintro c j ⟨rfl,l,r,rfl,lr,p,t,low,g⟩;let e:l=r:=()
   subst e;exact(9,l,l,9,p,low,g)
  .rintro c j ⟨rfl,l,r,rfl,lk,low,g⟩;show wpS _ _ _ _ (moveDown' (lo+k) (lo+l)>>=λ_=>pure<|ForInStep.yield %[8|Yq]) _ _;rw[moveDown'_eq];let low:∀i,lo<=i->i<lo+l->lt (lo+k) (gx jx i)=7:=λi n R=>by
    let(d,rfl):=U8 n;exact low d<|VB R
   let g:∀i,lo+l<=i->i<lo+k->lt (lo+k) (gx jx i)=6:=λi n R=>by
    let(d,rfl):=U8 (Zh (Uo _ _) n);exact g d (VV n)<|VB R
   let T:=Rf () (VH lk lo) (Uo _ _) H J low g;exact Yl<|wpS_modify<|Ym (9,bubble jx (lo+k)<|lo+k-(lo+l),G.set<|by rw[G.arr,PL],T.1,T.2)
 .rintro c o ⟨rfl,jx,S,u,v⟩;let e:max ok f=f:=()
  rw[e]at u v;exact(9,jx,S,u,v)
 .rintro c o ⟨rfl,jx,S,u,v⟩;exact Ym<|h jx o S u v
end
structure Seg(lt:Yc)(ix:Yg)(a b:5):4 where
 pl:∀i,a<=i->i<b->a<=gx ix i/\gx ix i<b
 up:∀i j,a<=i->i<j->j<b->jR lt (gx ix i) (gx ix j)
def Seg.same   (S:Seg lt l a b)(h:∀i,a<=i->i<b->gx n i=gx l i):Seg lt n a b:=(λi c e=>by rw[h i c e];calc S.pl i c e,λi j c e f=>by rw[h i c (),h j () f];calc S.up i j c e f)
section
variable        {lt:Yc}{st:SortSt}{N:Nat}
def Seg.join  (W:Wk lt)(S:Seg lt c a m)(T:Seg lt c m b)(p:m<b)(k:∀i,a<=i->i<m->jR lt (gx c i) (gx c m))(q:a<=m):Seg lt c a b:=by
 refine(λi f o=>?_,λi j f l n=>?_)
 .by_cases z:i<m
  .let:=S.pl i f z;lia
  .let:=T.pl i () o;lia
 .by_cases z:j<m
  .exact S.up i j f l z
  .by_cases y:m<=i
   .exact T.up i j y l n
   .by_cases e:j=m
    .simp_all
    .exact jR.trans W (k i f ())<|T.up m j (Zf _) () n
def Seg.put   (W:Wk lt)(S:Seg lt e a f)(T:Seg lt e f b)(hb:b<=e.size)(G:a<=m)(L:m<f)(hk:1<=k)(E:f+k<=b)(R:∀i,a<=i->i<m->lt (gx e f) (gx e i)=7)(U:∀i,f+k<=i->i<b->lt (gx e i) (gx e<|f-1)=7)
 (M:wJ lt (e.extract m f) (e.extract f<|f+k) o):∃q:Yg,q.toList=e.toList.take m++o++e.toList.drop (f+k)/\o.length=f+k-m/\q.Perm e/\Seg lt q a b/\∀i,i<a\/b<=i->gx q i=gx e i:=by
 let ol:o.length=f+k-m:=by
  rw[M.1.length_eq,Ua,Uy,Uy,VN,VN,Vj (),Vj ()];lia
 let Y:m+o.length=f+k:=()
 let H:e.toList.take m++((e.extract m f).toList++(e.extract f<|f+k).toList)++e.toList.drop (f+k)=e.toList:=by
  let ex:(e.extract m f).toList++e.toList.drop f=e.toList.drop m:=by
   rw[Array.toList_extract,VU];let:e.toList.drop f=(e.toList.drop m).drop (f-m):=by rw[List.drop_drop,Vx (Zz L)]
   rw[this,UI]
  let ey:(e.extract f<|f+k).toList++e.toList.drop (f+k)=e.toList.drop f:=by
   rw[Array.toList_extract,VU,VO,<-List.drop_drop,UI]
  rw[Ug,Ug,ey,ex,UI]
 let pm:(e.toList.take m++o++e.toList.drop (f+k)).Perm e.toList:=by
  conv=>rhs;rw[<-H]
  exact List.Perm.append_right _<|List.Perm.append_left _ M.1
 let I:∀x∈o,(∃b,m<=b/\b<f/\x=gx e b)\/∃b,f<=b/\b<f+k/\x=gx e b:=λx hx=>by
  rcases Jb.mp (M.1.mem_iff.mp hx)with z|z
  .exact .inl<|WP () z
  .exact .inr<|WP (Zh E hb) z
 let(q,ej):∃q:Yg,q=(e.toList.take m++o++e.toList.drop (f+k)).toArray:=(_,9);let J:q.toList=e.toList.take m++o++e.toList.drop (f+k):=by rw[ej]
 let r:(e.toList.take m).length=m:=by rw[Uq,Uy];exact Vj ()
 let F:∀i,i<m->gx q i=gx e i:=λi h=>by
  unfold gx;rw[<-Vm,<-Vm,J,Ug,UY (by rw[r];calc h),List.getElem?_take,Zd h]
 let vG:∀j h,gx q (m+j)=o[j]:=λj h=>by
  unfold gx;rw[<-Vm,J,Ug,UK (by rw[r];calc Uo _ _),r,VO,UY h,Zqg h];rfl
 let n:∀j,gx q (f+k+j)=gx e (f+k+j):=λj=>by
  unfold gx;rw[<-Vm,<-Vm,J,UK (by rw[Ua,r,Y];calc Uo _ _),Ua,r,Y,VO,List.getElem?_drop]
 let s:∀i,i<m\/(∃j,j<o.length/\i=m+j)\/∃j,i=f+k+j:=λi=>by
  by_cases c1:i<m
  .exact .inl c1
  .by_cases c2:i<f+k
   .exact .inr<|.inl (i-m,(),())
   .exact .inr<|.inr (i-(f+k),())
 let Z:∀i j,a<=i->i<m->f<=j->j<b->jR lt (gx e i) (gx e j):=λi j O h l p=>by
  let nb:=UD l p;let pk:jR lt (gx e i) (gx e f):=.inr (R i O h,Zg (S.pl i O<|Ul h L).2 (T.pl f (Zf _) nb).1);by_cases z:j=f
  .rw[z];exact pk
  .exact jR.trans W pk<|T.up f j (Zf _) () p
 let sq:∀i c,a<=i->i<f->f+k<=c->c<b->jR lt (gx e i) (gx e c):=λi c O l p h3=>by
  let sk:jR lt (gx e<|f-1) (gx e c):=.inr (U c p h3,Zg (S.pl (f-1) () ()).2 (T.pl c (Zh (Uo _ _) p) h3).1);by_cases z:i=f-1
  .rw[z];exact sk
  .exact jR.trans W (S.up i (f-1) O () ()) sk
 let sp:∀{y},a<=y->y<f->a<=gx e y/\gx e y<b:=λl p=>((S.pl _ l p).1,by let:=(S.pl _ l p).2;lia);let tp:∀{y},f<=y->y<b->a<=gx e y/\gx e y<b:=λl p=>(by let:=(T.pl _ l p).1;lia,(T.pl _ l p).2);refine(q,J,ol,?_,(λi l p=>?_,λi j l X Q=>?_),λi h=>?_)
 .rw[Array.perm_iff_toList_perm,J];exact pm
 .rcases s i with c|⟨j,c,rfl⟩|⟨j,rfl⟩
  .rw[F i c];exact sp l<|Ul c L
  .rw[vG j c];rcases I _ (UE c)with ⟨y,u,v,B⟩|⟨y,u,v,B⟩
   .rw[B];exact sp (Zh G u) v
   .rw[B];exact tp u<|Zg v E
  .rw[n j];exact tp () p
 .rcases s i with c|⟨i,c,rfl⟩|⟨i,rfl⟩
  .rw[F i c];rcases s j with d|⟨j,d,rfl⟩|⟨j,rfl⟩
   .rw[F j d];exact S.up i j l X<|Ul d L
   .rw[vG j d];rcases I _ (UE d)with ⟨y,u,v,B⟩|⟨y,u,v,B⟩
    .rw[B];exact S.up i y l (Zg c u) v
    .rw[B];exact Z i y l c u<|Zg v E
   .rw[n j];exact Z i _ l c () Q
  .rw[vG i c];rcases s j with d|⟨j,d,rfl⟩|⟨j,rfl⟩
   .omega
   .rw[vG j d];exact Jm.mp M.2 i j c d<|VB X
   .rw[n j];rcases I _ (UE c)with ⟨y,u,v,B⟩|⟨y,u,v,B⟩
    .rw[B];exact sq y _ (Zh G u) v (Uo _ _) Q
    .rw[B];exact T.up y _ u (Zg v<|Uo _ _) Q
  .rcases s j with d|⟨j,d,rfl⟩|⟨j,rfl⟩
   .omega
   .omega
   .rw[n i,n j];exact T.up _ _ () X Q
 .rcases h with z|z
  .exact F i<|Zg z G
  .let(j,rfl):=U8 (Zh E z);exact n j
noncomputable def rQ(b:5)(v:KA):SM Bool:=(modify λs=>setArr s<|List.foldl (λa x=>match x with|%[p|j]=>a.setIfInBounds (b+j) p) (arrOf s) v.toList.zipIdx)>>=λ_=>get>>=λz=>pure (failedOf z).isNone
noncomputable def dc(a:KA)(c d b k:5):SM Bool:=if(k==0)=6 then pure 6 else if d<=k then D8 (a.extract c b) (a.extract b<|b+k)>>=rQ c else D9 (a.extract c b) (a.extract b<|b+k)>>=rQ c
noncomputable def de(a:KA)(c b d nb:5):SM Bool:=if(b==0)=6 then pure 6 else elem' a (c+b-1)>>=λx=>WO 6 x a d nb (nb-1)>>=λr=>match r with
 |some k=>dc a c b d k
 |_=>pure 7
noncomputable def df(a:KA)(b c d nb:5):SM Bool:=elem' a d>>=λx=>WO 7 x a b c 0>>=λr=>match r with
 |some k=>de a (b+k) (c-k) d nb
 |_=>pure 7
set_option smartUnfolding false in
def gK{i:5}:mergeAt' i=get>>=λz=>match(pendingOf z)[i]?,(pendingOf z)[i+1]? with
 |some %[sa,a|b],some %[sb,nb|_]=>set (setPending z<|((pendingOf z).setIfInBounds i %[sa,a+nb|b]).eraseIdxIfInBounds<|i+1)>>=λ_=>df (arrOf z) sa a sb nb
 |_,_=>liftM (unsupported "internal:list.sort.pending"):=rfl
def DE :pendingOf (setPending st p)=p:=by rfl
section
variable    {Q:Bool->Yy}(W:Wk lt)(S:Seg lt ix a (q+1))(T:Seg lt ix (q+1) b)(hz:ix.size=N)(hb:b<=N)(B:SBp it kind pn ix st)
 (h:∀jx st',SBp it kind pn jx st'->jx.Perm ix->Seg lt jx a b->(∀i,i<a\/b<=i->gx jx i=gx ix i)->Q true st')
include W S T hz hb B h
theorem Hk  (e:a<=c)(g:c<q+1)(l:1<=k)(m:q+1+k<=b)(n:∀i,a<=i->i<c->lt (gx ix<|q+1) (gx ix i)=7)(p:∀i,q+1+k<=i->i<b->lt (gx ix i) (gx ix q)=7)
 (d:SEq st r)(M:wJ lt (ix.extract c<|q+1) (ix.extract (q+1)<|q+1+k) o):YG j w A E s (rQ c<|ar it o) Q r:=by
 let(-jx,t,G,u,v,y):=S.put W T (by rwa[hz]) e g l m n p M;calc Yl<|wpS_modify<|Yl<|wpS_get<|Ym ?_;let f:=d.fl.trans B.fl;rw[f];calc h jx _ (?_,d.kd.trans B.kd,f,d.pd.trans B.pd) u v y;rw[d.arr,B.arr];apply Vk;let C:(ar it o).toList=o.map it:=by simp[ar]
 calc Eq.trans (Zt (λz=>(List.foldl (λ(a:Array Keyed)(x:Keyed×5)=>a.setIfInBounds (c+x.2) x.1) (ix.map it) z.zipIdx).toList) C) ?_;let F:c+o.length=q+1+k:=()
 rw[Hd c (o.map it) 0 _ (),Array.toList_map,Array.toList_map,t,Zql,Nat.add_zero,F,Ud,Ud,List.map_take,List.map_drop]
theorem Hl(j:∀i,a<=i->i<q+1->jR lt (gx ix i) (gx ix<|q+1))(c:a<=q+1)(d:q+1<b):Q 6 st:=h ix st B (.refl _) (S.join W T d j c) λ_ _=>9
variable (O:yU prog w A s kind it lt N)(vv:∀i,i<N->gx ix i<N)
include O vv
theorem rN(e:d+u=q+1)(u1:1<=u)(f:a<=d)(J:q+1<b)(t:q+1+k<=b)(m3:∀i,a<=i->i<d->lt (gx ix<|q+1) (gx ix i)=7)(m4:∀i,d<=i->i<q+1->lt (gx ix<|q+1) (gx ix i)=6)
 (k3:∀i,q+1<=i->i<q+1+k->lt (gx ix i) (gx ix q)=6)(L:∀i,q+1+k<=i->i<b->lt (gx ix i) (gx ix q)=7):YG prog w A E s (dc (ix.map it) d u (q+1) k) Q st:=by
 let g:d<q+1:=()
 let bz:b<=ix.size:=by rw[hz];exact hb
 refine wi (λc=>Ym<|Hl W S T hz hb B h (λi h3 hi=>?_) (Zz<|UD f g) J) λc=>?_
 .let c:k=0:=Yp.mp c;subst c;let b:jR lt (gx ix q) (gx ix<|q+1):=.inr (L _ (Zf _) J,Zg (S.pl q (Zh f<|Uu g)<|UG _).2 (T.pl _ (Zf _) J).1);by_cases z:i=q
  .rw[z];exact b
  .exact by grind
 let G:1<=k:=by grind
 let v:q+1<=ix.size:=()
 let m:=Zh t bz;let xn:∀x∈(ix.extract d<|q+1).toList,x<N:=λx n=>by
  grind[WP]
 let yn:∀y∈(ix.extract (q+1)<|q+1+k).toList,y<N:=λx n=>by
  let(l,p,r,rfl):=WP m n;exact vv _ ()
 let P:∀x∈(ix.extract d<|q+1).toList,∀y∈(ix.extract (q+1)<|q+1+k).toList,x<y:=λx n y U=>by
  let(l,p,r,rfl):=WP v n;let(l',X,Y,rfl):=WP m U;exact Zg (S.pl l (Zh f p) r).2 (T.pl l' X<|Zg Y t).1
 let px:=Hf (ix:=ix) (R:=jR lt) (i:=d) (j:=q+1) v λa b h Z bm=>S.up a b (Zh f h) Z bm;let py:=Hf (ix:=ix) (R:=jR lt) (i:=q+1) (j:=q+1+k) m λa b h Z bm=>T.up a b h Z<|Zg bm t;let H:MH lt N (ix.extract d<|q+1) (ix.extract (q+1)<|q+1+k):=(W,xn,yn,P,px,py);let I:(ix.extract d<|q+1).size=u:=by rw[VN];lia
 let sy:(ix.extract (q+1)<|q+1+k).size=k:=by rw[VN];lia
 let gx0:gx (ix.extract d<|q+1) 0=gx ix d:=Ag g v;let C:gx (ix.extract d<|q+1) (u-1)=gx ix q:=by rw[Ag () v,show d+(u-1)=q by lia]
 let F:gx (ix.extract (q+1)<|q+1+k) 0=gx ix (q+1):=Ag () m;let gyl:gx (ix.extract (q+1)<|q+1+k) (k-1)=gx ix (q+k):=by rw[Ag () m,show q+1+(k-1)=q+k by lia]
 rw[He,He];refine wi (λ_=>Yl<|PQ H O B.kd (by rw[I];calc u1) (by rw[sy];calc G) (by rw[F,gx0];calc m4 d (Zf _) g) (λy U=>?_) λo s2 se M=>Hk W S T hz hb B h f g G t m3 L se M)
  λ_=>Yl<|PX H O B.kd (by rw[I];calc u1) (by rw[sy];calc G) (λx n=>?_) (by rw[I,sy,gyl,C];calc k3 _ () ()) λo s2 se M=>Hk W S T hz hb B h f g G t m3 L se M
 .let(l,p,r,rfl):=WP m U;rw[I,C];exact .inl<|k3 l p r
 .let(l,p,r,rfl):=WP v n;rw[F];exact .inl<|m4 l p r
theorem rO(e:f+u=q+1)(H:1<=y)(I:q+1+y=b)(g:a<=f)(o:∀i,a<=i->i<f->lt (gx ix<|q+1) (gx ix i)=7)(t:∀i,f<=i->i<q+1->lt (gx ix<|q+1) (gx ix i)=6):YG prog w A E s (de (ix.map it) f u (q+1) y) Q st:=by
 let l:q+1<b:=()
 let v:q+1<N:=Zg l hb;let x:a<=q+1:=Zh g<|Nat.le.intro e;refine wi (λc=>Ym<|Hl W S T hz hb B h (λi p n=>.inr (o i p ?_,Zg (S.pl i p n).2 (T.pl _ (Zf _) l).1)) x l) λc=>?_
 .let c:u=0:=Yp.mp c;subst c;let e:f=q+1:=e;rw[e];exact n
 let z:1<=u:=Nat.pos_of_ne_zero λy=>c<|Yp.mpr y;rw[show f+u-1=q by rw[e];rfl];calc Yl<|Q7 ()<|Yl<|XY O B.kd (vv _<|US v) () (λi n=>vv _ ()) () (λi j C J q=>PZ W (T.up _ _ (Uo _ _) (Nat.add_lt_add_left C _) ()) q) λk L F G=>?_;refine rN W S T hz hb B h O vv e z g l () o t (λi m r=>?_) λi m r=>?_
 .let(d,rfl):=U8 m;exact F d<|VB r
 .let(d,rfl):=U8 (Zh (Uo _ _) m);exact G d (VV m) ()
theorem rP(e:a+x=q+1)(g:1<=x)(l:1<=y)(n:q+1+y=b):YG prog w A E s (df (ix.map it) a x (q+1) y) Q st:=by
 let o:q+1<N:=()
 refine Yl<|Q7 ()<|Yl<|XY O B.kd (vv _ o) () () g (λi j p u q=>PY W (S.up _ _ (Uo _ _) (Nat.add_lt_add_left p _) ()) q) λm m2 r t=>rO W S T hz hb B h O vv (by rwa[Nat.add_assoc,Vx m2]) l n (Uo _ _) (λi c f=>?_) λi c f=>?_
 .let(d,rfl):=U8 c;let z:(not<|lt (gx ix<|q+1)<|gx ix<|a+d)=6:=r d<|VB f;simpa using z
 .let(d,rfl):=U8 (Zh (Uo _ _) c);let z:(not<|lt (gx ix<|q+1)<|gx ix<|a+d)=7:=t d (VV c) ();simpa using z
end
def Rh    (W:Wk lt)(O:yU d w A s b m lt N)(B:SBp m b (l++%[a,x|g]::%[a+x,y|p]::r).toArray c st)(n:c.size=N)(t:c.Perm (Array.range N))(S:Seg lt c a (a+x))(T:Seg lt c (a+x) (a+x+y))(u:1<=x)(v:1<=y)(o:a+x+y<=N)
 (h:∀j f,SBp m b (l++%[a,x+y|g]::r).toArray j f->j.Perm c->Seg lt j a (a+x+y)->(∀i,i<a\/a+x+y<=i->gx j i=gx c i)->Q 6 f):YG d w A E s (mergeAt' l.length) Q st:=by
 let z:(pendingOf st)[l.length]?=!%[a,x|g]:=by rw[B.pd];simp
 let C:(pendingOf st)[l.length+1]?=!%[a+x,y|p]:=by
  rw[B.pd,List.getElem?_toArray,UK (Uo _ _),VO];rfl
 rw[gK];calc Yl<|wpS_get ?_;rw[z,C];rw[B.arr];let F:SBp m b (l++%[a,x+y|g]::r).toArray c (setPending st<|((pendingOf st).setIfInBounds l.length %[a,x+y|g]).eraseIdxIfInBounds<|l.length+1):=(B.arr,B.kd,B.fl,by rw[DE,B.pd];(simp_all[List.eraseIdx_append_of_length_le]));let(q,e):∃q,a+x=q+1:=(a+x-1,());rw[e]at S T o h ⊢;exact rP W S T n o F h O λi G=>Hg t<|by rwa[n] e u v 9
def yS(lt:Yc)(c:Yg):5->List (5×5×5)->5->4
 |a,[],b=>a=b
 |a,p::r,b=>p.1=a/\1<=p.2.1/\Seg lt c a (a+p.2.1)/\yS lt c (a+p.2.1) r b
theorem yS.le :∀{l:List (5×5×5)}{a b:5},yS lt c a l b->a+l.length<=b
 |[],a,b,h=>by rw[h];simp
 |p::r,a,b,(_,h2,_,h4)=>by let:=h4.le;grind
theorem yS.app :∀{l r:List (5×5×5)}{a b:5},yS lt e a (l++r) b->∃c,yS lt e a l c/\yS lt e c r b
 |[],r,a,b,h=>(a,9,h)
 |p::l,r,a,b,(f,h2,h3,h4)=>have(c,i,j):=yS.app h4;(c,(f,h2,h3,i),j)
theorem yS.cat :∀{l r:List (5×5×5)}{a b c:5},yS lt e a l c->yS lt e c r b->yS lt e a (l++r) b
 |[],r,a,b,c,h,k=>by rwa[h]
 |p::l,r,a,b,c,(f,h2,h3,h4),k=>(f,h2,h3,yS.cat h4 k)
theorem yS.same :∀{l:List (5×5×5)}{a b:5},yS lt c a l b->(∀i,a<=i->i<b->gx e i=gx c i)->yS lt e a l b
 |[],a,b,h,_=>h
 |p::r,a,b,(f,h2,h3,h4),k=>(f,h2,h3.same λi x y=>k i x<|by let:=h4.le;lia,h4.same ())
structure RI(it:5->Keyed)(kind:SortKind)(lt:Yc)(N:5)(ps:List (5×5×5))(lo:5)(ix:Yg)(st:SortSt):4 where
 b:SBp it kind ps.toArray ix st
 size:ix.size=N
 perm:ix.Perm (Array.range N)
 ch:yS lt ix 0 ps lo
 le:lo<=N
def Hm{i lo:5}   (W:Wk lt)(O:yU f w A s b q lt N)(R:RI q b lt N e lo n st)(P:i+1<e.length)
 (h:∀g j a,g.length+1=e.length->RI q b lt N g lo j a->(∀i,lo<=i->gx j i=gx n i)->Q 6 a):YG f w A E s (mergeAt' i) Q st:=by
 let(l,x,y,r,rfl,hl):∃l x y r,e=l++x::y::r/\l.length=i:=(e.take i,e[i],e[i+1],e.drop<|i+2,by
  rw[<-Uj P,<-Uj (),UI],by rw[Uq];lia)
 let(c,S,T):=R.ch.app;let(o,d,U):=x;let(X,m,yp):=y;let(!t,u,v,z,C,F,G):=T;let Y:o=c:=t;let Z:X=c+d:=z;let H:1<=d:=u;let q5:1<=m:=C;let q3:Seg lt n c (c+d):=v;let q6:Seg lt n (c+d) (c+d+m):=F;let I:yS lt n (c+d+m) r lo:=G;clear t u v z C F G;subst Y Z;let lr:=I.le;let le:=R.le;let B:=R.b;subst hl;calc Rh W O B R.size R.perm q3 q6 H q5 () λj a B' J L p=>h (l++%[o,d+m|U]::r) j a (by rw[Ua,Ua];rfl) (B',by rw[J.size_eq];calc R.size,J.trans R.perm,?_,R.le) λi M=>p i<|.inr ();rw[Nat.add_assoc]at L;calc(S.same λi _ h2=>p i<|.inl h2).cat (9,Zh H<|Uo _ _,L,?_);show yS lt j (o+(d+m)) r lo;rw[<-Nat.add_assoc];exact I.same λi M _=>p i<|.inr M
def Ri {x:5×5×5}(f):(l++[x]).toArray.modify ((l++[x]).toArray.size-1) f=(l++[f x]).toArray:=by
 let e:∀l:List (5×5×5),(l++[x]).modify l.length f=l++[f x]:=λl=>by
  induction l with
  |nil=>rfl
  |cons y l a=>show y::(l++[x]).modify l.length f=_;rw[a];rfl
 simp[e]
abbrev U2:=Option Unit×Unit
abbrev U1:=Option Unit×5
noncomputable def tW(a:5):SM (ForInStep U2):=get>>=λz=>match if(pendingOf z).size>1 then(pendingOf z)[(pendingOf z).size-2]? else 8 with
 |some %[_,_|older]=>if older<=a then pure (.done %[8|Yq])else mergeAt' ((pendingOf z).size-2)>>=λb=>if(not b)=6 then pure (.done %[!Yq|Yq])else pure (.yield %[8|Yq])
 |_=>pure (.done %[8|Yq])
noncomputable def rj(lo n:5):SM (ForInStep U1):=(modify λs=>setPending s<|(pendingOf s).push %[lo,n|0])>>=λ_=>pure<|.yield %[8|lo+n]
noncomputable def tU(lo n a:5)(c:U2):SM (ForInStep U1):=match c.1 with
 |some r=>pure (.done %[!r|lo])
 |none=>(modify λs=>setPending s<|(pendingOf s).modify ((pendingOf s).size-1) λ%[st,len|_]=>%[st,len|a])>>=λ_=>rj lo n
noncomputable def mt(N lo n:5):SM (ForInStep U1):=get>>=λz=>match(pendingOf z).back? with
 |some %[b,a|_]=>(forIn [:N] (%[8|Yq]:U2) λ_ _=>tW<|power' N (2*b+a) (2*b+a+a+n) N)>>=tU lo n (power' N (2*b+a) (2*b+a+a+n) N)
 |_=>rj lo n
noncomputable def aP(N a lo:5):SM (ForInStep U1):=if lo ≥ N then pure (.done %[8|lo])else countRun' lo (N-lo)>>=λr=>match r with
 |some n=>if n<a then(liftM (rule "list.sort.binary-insertion"):SM PUnit)>>=λ_=>binarySort' lo (min (N-lo) a) n>>=λb=>if(not b)=6 then pure (.done %[!Yq|lo])else mt N lo (min (N-lo) a)else mt N lo n
 |_=>pure (.done %[!Yq|lo])
noncomputable def tV(p:Array (5×5×5)):5:=if Option.any (λx=>decide<|x<p[p.size-2+1]?.elim 0 λx=>x.2.1) (if p.size-2>0 then p[p.size-2-1]?.map λx=>x.2.1 else 8)=6 then p.size-2-1 else p.size-2
noncomputable def tX:SM (ForInStep U2):=get>>=λz=>if(pendingOf z).size<=1 then pure (.done %[8|Yq])else mergeAt' (tV<|pendingOf z)>>=λb=>if(not b)=6 then pure (.done %[!Yq|Yq])else pure (.yield %[8|Yq])
set_option smartUnfolding false in
def kC:sortRuns'=get>>=λz=>(forIn [:(arrOf z).size] (%[8|0]:U1) λ_ c=>aP (arrOf z).size (minRun' (arrOf z).size (arrOf z).size 0) c.2)>>=λc=>match c.1 with
 |some r=>pure r
 |none=>(forIn [:(arrOf z).size] (%[8|Yq]:U2) λ_ _=>tX)>>=λc=>match c.1 with
  |some r=>pure r
  |none=>pure Yq:=rfl
def Rj [Decidable c]{x y z:5}(h:x<=z)(k:y<=z):(if c then x else y)<=z:=by split<;>assumption
def Rk :tV p<=p.size-2:=Rj (U7 _ _)<|Zf _
section
variable  {lo k pw:Nat}  {R:ForInStep U1->Yy}(Sg:Seg lt jx lo (lo+k))(k1:1<=k)(k2:lo+k<=N)(suf:∀i,lo+k<=i->i<N->gx jx i=i)
 (go:∀ps jx st',RI it kind lt N ps (lo+k) jx st'->(∀i,lo+k<=i->i<N->gx jx i=i)->R (.yield (none,lo+k)) st')
include Sg k1 k2 suf go
theorem Hn(a:RI it kind lt N ps lo jx st):YG b w A E s (rj lo k) R st:=
 Yl<|wpS_modify<|Ym<|go (ps++[%[lo,k|0]]) jx _ ((a.b.arr,a.b.kd,a.b.fl,by rw[DE,a.b.pd];simp),a.size,a.perm,a.ch.cat (9,k1,Sg,9),k2) suf
theorem Rl(j:1<=ps.length)(a:RI it kind lt N ps lo jx st):YG b w A E s (tU lo k pw %[8|Yq]) R st:=by
 rcases List.eq_nil_or_concat ps with z|⟨l2,v,z⟩
 .simp_all
 .subst z;rw[List.concat_eq_append]at a;refine Yl<|wpS_modify<|Hn (ps:=l2++[%[v.1,v.2.1|pw]]) Sg k1 k2 suf go ((a.b.arr,a.b.kd,a.b.fl,?_),a.size,a.perm,?_,a.le)
  .rw[DE,a.b.pd];exact Ri _
  .let(-c,d,e,f,g,h):=a.ch.app;exact d.cat (e,f,g,h)
end
def Rm {lo l:5}  (W:Wk lt)(O:yU d w A s c f lt N)(p:1<=g.length)(h:RI f c lt N g lo m st)(j:Q (.done %[8|Yq]) st)
 (go:∀a e b,1<=a.length->RI f c lt N a lo e b->(∀i,lo<=i->gx e i=gx m i)->Q (.yield %[8|Yq]) b):YG d w A E s (tW l) Q st:=by
 calc Yl<|wpS_get ?_;rw[h.b.pd]
 split
 .let q:2<=g.length:=by
   grind
  refine wi (λ_=>Ym j) λ_=>Yl<|Hm W O h () λa e b r n o=>Ym<|go a e b () n o
 .exact Ym j
def Rn {lo k:5}  (W:Wk lt)(O:yU f w A s a j lt N)(B:SBp j a b.toArray e st)(L:PlO lo N v e (lo+k))(U:wb lt lo e (lo+k))(x:yS lt v 0 b lo)(le:lo<=N)(p:1<=k)(q:lo+k<=N)
 (go:∀b d g,RI j a lt N b (lo+k) d g->(∀i,lo+k<=i->i<N->gx d i=i)->R (.yield %[8|lo+k]) g):YG f w A E s (mt N lo k) R st:=by
 let r:Seg lt e lo (lo+k):=(L.mid,U);let t:RI j a lt N b lo e st:=(B,L.size,L.perm,x.same λi _ m=>L.low i m,le);calc Yl<|wpS_get ?_;rw[B.pd];rcases List.eq_nil_or_concat b with z|⟨l,y,z⟩
 .subst z;exact Hn r p q L.suf go t
 .let h:1<=b.length:=by simp_all
  rw[show b.toArray.back?=!y by simp_all];refine Yl<|Yn (Yo (I:=λ_ c n=>c=%[8|Yq]/\∃b d,1<=b.length/\RI j a lt N b lo d n/\∀i,lo<=i->gx d i=gx e i) ?_ (λ_ _ z=>z) (9,_,e,h,t,λ_ _=>9)) ?_
  .rintro y c n _ _ ⟨rfl,b,d,h,o,un⟩;exact Rm W O h o () ()
  .rintro c n ⟨rfl,b,d,h,o,un⟩;exact Rl (r.same ()) p q (λi u m=>(un i<|Zh (Uo _ _) u).trans<|L.suf i u m) go h o
def Ro   (W:Wk lt)(O:yU e w A s d g lt N)(R:RI g d lt N f N h st)(i:f.length<=1->Q (.done %[8|Yq]) st)
 (go:∀a j b,a.length+1=f.length->RI g d lt N a N j b->Q (.yield %[8|Yq]) b):YG e w A E s tX Q st:=by
 calc Yl<|wpS_get ?_;rw[R.b.pd];calc wi (λc=>Ym<|i c) λc=>Yl<|Hm W O R ?_ λa h b l m _=>Ym<|go a h b l m;let:=Rk (p:=f.toArray)
 grind
def Rp  (W:Wk lt)(O:yU q w A s f t lt N)(M:RI t f lt N [] 0 j st)(o:∀i,i<N->gx j i=i)(v:2<=N)
 (h:∀n l,arrOf l=n.map t->failedOf l=8->Pl N n N->Up lt n N->Q Yq l):YG q w A E s sortRuns' Q st:=by
 let sz:(arrOf st).size=N:=by rw[M.b.arr,Ur];exact M.size
 rw[kC];calc Yl<|wpS_get ?_;rw[sz];refine Yl<|Yn (Yo (I:=λx c z=>∃lo d j,c=%[8|lo]/\x<=lo/\RI t f lt N d lo j z/\∀i,lo<=i->i<N->gx j i=i) (Q:=λc z=>∃d j,c=%[8|N]/\RI t f lt N d N j z) ?_ ?_<|ji 0 [] j (9,Zf _,M,λi _ hi=>o i hi)) ?_
 .rintro x c z _ xn ⟨lo,d,j,rfl,X,R,o⟩;let le:=R.le;refine wi (λy=>?_) λy=>?_
  .let e:lo=N:=Nat.le_antisymm le y;subst e;exact Ym (d,j,9,R)
  let y:lo<N:=Ys y;let L1:PlO lo N j j (lo+1):=(R.size,R.perm,λ_ _=>9,λa C v=>by
   rw[o a C (Zg v y)];calc(C,v),λa C v=>o a (Uz C) v)
  let sub:∀{k},k<=N-lo->lo+k<=N:=λh=>Zh (VH h _)<|Yu<|Vx le;let G:∀{k J P}{u:ForInStep U1->Yy},SBp t f d.toArray J P->1<=k->k<=N-lo->PlO lo N j J (lo+k)->wb lt lo J (lo+k)->(∀d n l,x+1<=lo+k->RI t f lt N d (lo+k) n l->(∀i,lo+k<=i->i<N->gx n i=i)->u (.yield %[8|lo+k]) l)->YG q w A E s (mt N lo k) u P:=
   λB Y k2 L U g=>Rn W O B L U R.ch le Y (sub k2) λd n l u H=>g d n l (Nat.add_le_add X Y) u H
  exact Yl<|Re W O (sub<|Zf _) (λm kx s2 Z m1 m2 L2 U2=>wi (λmn=>Yl<|wpS_lift<|wpAny_rule (9,Yl<|Rg W O (sub<|Nat.min_le_left _ _) (Nat.le_min.mpr (m2,Zz mn)) m1 Z L2 U2 λJ P B3 L3 U3=>G B3 (Nat.le_min.mpr (Nat.sub_pos_of_lt y,Nat.zero_lt_of_lt mn)) (Nat.min_le_left _ _) L3 U3 λd n l g u H=>ji _ d n (9,g,u,H))) λ_=>G Z m1 m2 L2 U2 λd n l g u H=>ji _ d n (9,g,u,H)) (Nat.sub_pos_of_lt y) R.b L1
 .rintro c z ⟨lo,d,j,rfl,X,R,o⟩;let le:=R.le
  grind
 .rintro c z ⟨d,j,rfl,R⟩;refine Yl<|Yn (Yo (I:=λx c F=>∃d j,c=%[8|Yq]/\(d.length<=1\/d.length+x<=N)/\RI t f lt N d N j F) (Q:=λc F=>∃d j,c=%[8|Yq]/\d.length<=1/\RI t f lt N d N j F) ?_ ?_ (d,j,9,.inr<|by let:=R.ch.le;lia,R)) ?_
  .rintro x c F _ xn ⟨d,j,rfl,lp,R⟩;exact Ro W O R (λc1=>(d,j,9,c1,R)) ()
  .grind
  .rintro c F ⟨d,j,rfl,lp,R⟩;cases d with
   |nil=>
    let:0=N:=R.ch;lia
   |cons p r=>
    let e:r=[]:=List.eq_nil_of_length_eq_zero<|Nat.le_zero.mp<|Nat.le_of_succ_le_succ lp;subst e;let(!d1,d2,S,T):=R.ch;let T:0+p.2.1=N:=T;rw[T]at S;exact Ym<|h j F R.b.arr R.b.fl (R.size,R.perm,λa ha=>(S.pl a (Uc _) ha).2,λa C v=>Zn v<|Nat.not_lt_of_le C) λa b ab bn=>S.up a b (Uc _) ab bn
end
open PySem PyProof.Rows
section
variable           {st:SortSt}
def Ho(W:Wk lt)(O:yU b w A s c e lt n) (B:SB e c ix st)(L:Pl n ix 1)(f:2<=n)(g:n<1000)
 (h:∀d a,arrOf a=d.map e->failedOf a=8->Pl n d n->Up lt d n->Q Yq a):YG b w A E s sortRuns' Q st:=
 Rp W O ((B.arr,B.kd,B.fl,B.pd),L.size,L.perm,9,Uc _) (λi j=>if z:i=0 then by rw[z];let:=L.pre 0 ();lia else L.suf i () j) f h
end
def jM(a:Ye)(i:5):Value:=a.getD i .none
def DF(a):a.toArray.zip a.toArray=(Array.range a.length).map λi=>%[jM a i|jM a i]:=by
 apply Array.ext_getElem?;intro k;rw[UQ];by_cases h:k<a.length
 .rw[Array.getElem?_range,Zd h];let e:jM a k=a[k]:=by unfold jM;rw[Ut,Zqg h];rfl
  simp[Array.getElem?_zip_eq_some,h,e]
 .rw[Array.getElem?_range,Ze h,VW (by simp;lia)];rfl
def Hq (h:k<n):gx (Array.range n) k=k:=by
 simp_all[gx]
def BC(n k)(b:k<=n):Pl n (Array.range n) k:=by
 refine(Array.size_range,Array.Perm.refl _,λa c=>?_,λa _ h=>Hq h)
 rwa[Hq ()]
section
variable {prog:Program}{w:World}{A:Around}  {s:Shared}{lt:Yc}
def vd(prog:Program)(w:World)(A:Around)(s:Shared)(b:Ye)(lt:Yc):4:=
 ∃a,(∀(E:Ya)(Q:SortKind->Yz),Q a s->YF prog w A (keyKind' b.toArray) Q E s)/\yU prog w A s a (λi=>%[jM b i|jM b i]) lt b.length
def Hr    (W:Wk lt)(t:s.heap.get? a=! seqObj "list" c.toArray n)(v:c.length<1000)
 (F:∀y,(∀b o,b≠a->s.heap.get? b=!o->y.get? b=!o)->2<=c.length->vd prog w A {s with heap:=y} c lt)
 (h:∀d,Pl c.length d c.length->Up lt d c.length->P (.done<|.ret .none) {s with heap:=sortedHeap s.heap a c (d.map<|jM c)}):
 YF prog w A (Builtin.«list.sort» ([.ref a],[])) P E s:=by
 rw[list_sort_plain];let z:a<s.heap.objs.size:=Zk t;let(x,B):∃x,(s.heap.update a<|Obj.mapSeq λ_=>#[]).get? a=! seqObj "list" #[] x:=(_,get?_update_seq t<|λ_=>#[]);calc Za<|listItems_at t 9<|Za<|listUpdate_at t 9<|Za<|seqEpoch_at B 9<|Za<|wpAny_newTuple<|Za<|wpAny_newList<|wpAny_holding ?_;let m:∀b,b<s.heap.objs.size->b≠(s.heap.update a<|Obj.mapSeq λ_=>#[]).objs.size:=λb p=>by
  rw[Heap.size_update];exact Zi p
 let q:∀b,b<s.heap.objs.size->b≠((s.heap.update a<|Obj.mapSeq λ_=>#[]).push<|seqObj "tuple" c.toArray 0).objs.size:=λb p=>by
  rw[size_push',Heap.size_update];exact Zi<|Uw p
 let u:(((s.heap.update a<|Obj.mapSeq λ_=>#[]).push<|seqObj "tuple" c.toArray 0).push<|seqObj "list" #[] 0).get? a=! seqObj "list" #[] x:=by
  rw[Heap.get?_push_ne _ _ _ (q a z),Heap.get?_push_ne _ _ _ (m a z)];exact B
 let G:∀b o,b≠a->s.heap.get? b=!o->(((s.heap.update a<|Obj.mapSeq λ_=>#[]).push<|seqObj "tuple" c.toArray 0).push<|seqObj "list" #[] 0).get? b=!o:=λb o p e=>by
  rw[Heap.get?_push_ne _ _ _ (q b<|Zk e),Heap.get?_push_ne _ _ _ (m b<|Zk e),Heap.get?_update_ne _ _ _ _ p];exact e
 let C:∀(d:Yg),(d.map λi=>%[jM c i|jM c i]).map (·.2)=d.map (jM c):=λd=>by
  rw[Array.map_map];rfl
 show YF prog w A _ P E {s with heap:=((s.heap.update a<|Obj.mapSeq λ_=>#[]).push<|seqObj "tuple" c.toArray 0).push (seqObj "list" #[] 0)};dsimp only;let sz:c.toArray.size=c.length:=by simp
 by_cases g:c.toArray.size<2
 .rw[Zd g,Zd g];calc Za<|Zb ?_;rw[StateT.run_pure];calc Za<|Zb ?_;dsimp only;calc Za<|seqEpoch_at u 9<|Za<|listUpdate_at u 9 ?_ (hsz2:=by rw[Ur,DF,Ur,Array.size_range,sizeLine_eq];lia);simp only[bne_self_eq_false,UJ,if_false];let f:=h (Array.range c.length) (BC _ _<|Zf _) λi j O R=>()
  rw[<-C,<-DF]at f;exact Zb f
 .rw[Ze g,Ze g];let(-r,H,I):=F _ G ();calc Za<|H _ _ ?_;refine Za<|Zc (Ho W I (ix:=Array.range c.length) (st:=SortSt.mk' r (c.toArray.zip c.toArray) #[] 07 8) (Q:=λ_ l=>∃d,arrOf l=d.map (λi=>%[jM c i|jM c i])/\failedOf l=8/\Pl c.length d c.length/\Up lt d c.length)
   (DF c,9,9,9) (BC _ _ ()) () v λd l J L M N=>(d,J,L,M,N)) ?_ λ_ _ e=>e
  rintro⟨⟨⟩,l⟩ S ⟨rfl,d,q1,q2,q3,q4⟩;dsimp only;refine Za<|seqEpoch_at u 9<|Za<|listUpdate_at u 9 ?_ (hsz2:=by
   rw[Ur,q1,Ur,q3.size,sizeLine_eq];lia)
  rw[q2];simp only[bne_self_eq_false,UJ,if_false];let f:=h d q3 q4;rw[<-C,<-q1]at f;exact Zb f
def Hs  (W:Wk lt)
 (i:wpAny (model prog w) A.in1 (collect x) (λa c=>a.length<1000/\(∀d,(∀b o,c.heap.get? b=!o->d.get? b=!o)->2<=a.length->vd prog w A.in1.in1 {c with heap:=d} a lt)/\
  ∀f d l,Pl a.length f a.length->Up lt f a.length->(∀b o,c.heap.get? b=!o->d.get? b=!o)->c.heap.objs.size<=l->(∃e,d.get? l=! seqObj "list" (f.map<|jM a) e)->Q (.ref l) {c with heap:=d}) E s):
 YF prog w A (call (.builtin "sorted") [x]) Q E s:=by
 calc Calls.call_function_entry kind_sorted plain_sorted entry_sorted (args_sorted1 _)<|Za<|Zb<|Za<|Zc i (λa c z=>?_) λ_ _ e=>e;let(g,j,m):=z;let h:(c.heap.push<|seqObj "list" a.toArray 0).get? c.heap.objs.size=! seqObj "list" a.toArray 0:=Zr _ 9;let n:∀b o,c.heap.get? b=!o->b≠c.heap.objs.size:=λb o e=>Zi<|Zk e;refine Za<|wpAny_newList<|Za<|wpAny_holding<|wpAny_call_entry slot_list_sort (_,h,9) entry_list_sort (Hr W h g (λd q=>j d λb o e=>q b o (n b o e)<|Zq _ e) λf p u=>(_,9,Zb (_,9,m f _ _ p u (λb o e=>?_) (Zf _)<|sortedHeap_at h)))<|args_list_sort _
 grind[size_push',sortedHeap_old,Nat.lt_succ_of_lt,Heap.lt_size,Heap.get?_push_of_some]
end
structure Tot{α:Type}(ltb:α->α->Bool):4 where
 asy:∀a b,ltb a b=6->ltb b a=7
 neg:∀a b c,ltb a c=6->ltb a b=6\/ltb b c=6
 tot:∀a b,ltb a b=7->ltb b a=7->a=b
def Tot.irr  (T:Tot c)(a):c a a=7:=by
 cases q:c a a with
 |false=>rfl
 |true=>let:=T.asy _ _ q;simp_all
def Tot.wk {c:α->α->Bool}(T:Tot c)(f:5->α):Wk λi j=>c (f i)<|f j:=(λi j=>T.asy _ _,λi j k=>T.neg _ _ _)
noncomputable def qw(p q:3×3):Bool:=decide (p.1<q.1)||decide (p.1=q.1)&&decide (p.2<q.2)
theorem Xw :qw p q=6↔p.1<q.1\/p.1=q.1/\p.2<q.2:=by
 unfold qw;simp
theorem Aj :qw p q=7↔¬(p.1<q.1\/p.1=q.1/\p.2<q.2):=by
 rw[<-Xw];simp
def v5:Tot qw:=by
 refine(λa b h=>?_,λa b c h=>?_,λa b d e=>?_)
 .rw[Xw]at h;rw[Aj];lia
 .grind[Xw]
 grind[Aj]
def jH:Jz->Jz->Bool
 |[],[]=>7
 |[],_::_=>6
 |_::_,[]=>7
 |p::r,q::s=>if p=q then jH r s else qw p q
def W6(p q)(r s):jH (p::r) (q::s)=if p=q then jH r s else qw p q:=rfl
theorem Ht:∀a b:Jz,jH a b=6->jH b a=7
 |[],[],h=>JF h
 |[],_::_,_=>9
 |_::_,[],h=>JF h
 |p::r,q::s,h=>by
  rw[W6]at h ⊢;by_cases e:p=q
  .rw[Zd e]at h;rw[Zd e.symm];exact Ht r s h
  .rw[Ze e]at h;rw[Ze λz=>e z.symm];exact v5.asy _ _ h
theorem Hu:∀a b c:Jz,jH a c=6->jH a b=6\/jH b c=6
 |[],[],c,h=>.inr h
 |[],_::_,_,_=>.inl 9
 |_::_,_,[],h=>JF h
 |p::r,[],q::s,_=>.inr 9
 |p::r,x::t,q::s,h=>by
  rw[W6]at h;rw[W6,W6];by_cases e:p=q
  .rw[Zd e]at h;by_cases d:p=x
   .rw[Zd d,Zd (d.symm.trans e)];exact Hu r t s h
   .rw[Ze d,Ze λz=>d<|e.trans z.symm];cases z:qw p x with
    |true=>simp
    |false=>
     right;rw[<-e];cases y:qw x p with
     |true=>rfl
     |false=>exact Zn (v5.tot _ _ z y) d
  .rw[Ze e]at h;by_cases d:p=x
   .simp_all
   .rw[Ze d];by_cases f:x=q
    .left
     rwa[f]
    .rw[Ze f];exact v5.neg _ _ _ h
theorem Hv:∀a b:Jz,jH a b=7->jH b a=7->a=b
 |[],[],_,_=>9
 |[],_::_,h,_=>by cases h
 |_::_,[],_,h=>by cases h
 |p::r,q::s,c,h2=>by
  rw[W6]at c h2;by_cases e:p=q
  .rw[Zd e]at c;rw[Zd e.symm]at h2;rw[e,Hv r s c h2]
  .rw[Ze e]at c;rw[Ze λz=>e z.symm]at h2;exact Zn (v5.tot _ _ c h2) e
def yr:Tot jH:=(Ht,Hu,Hv)
section
variable {α: Type}(ltb:α -> α -> Bool)
noncomputable def wn(x:α):List α->List α
 |[]=>[x]
 |y::r=>if ltb x y=6 then x::y::r else y::wn x r
def Qe:List α->List α
 |[]=>[]
 |x::r=>wn ltb x (Qe r)
def Sd(l:List α):4:=l.Pairwise λa b=>ltb b a=7
variable {ltb}
theorem DG(x):∀l:List α,(wn ltb x l).Perm (x::l)
 |[]=>VA _
 |y::r=>by
  unfold wn
  split
  .rfl
  .exact((DG x r).cons y).trans<|List.Perm.swap x y r
theorem Q3:∀l:List α,(Qe ltb l).Perm l
 |[]=>VA _
 |x::r=>(DG x _).trans ((Q3 r).cons x)
theorem Hw(T:Tot ltb)(x):∀l:List α,Sd ltb l->Sd ltb (wn ltb x l)
 |[],_=>VX _ _
 |y::r,h=>by
  have(d,b):=Jl.mp h;unfold wn
  split
  .rename_i c;calc Jl.mpr (λz a=>?_,h);rcases U4.mp a with e|e
   .rw[e];exact T.asy _ _ c
   .cases q:ltb z x with
    |false=>rfl
    |true=>
     rcases T.neg x z y c with u|u
     .rw[T.asy _ _ u]at q;exact JF q
     simp_all
  .refine Jl.mpr (λz a=>?_,Hw T x r b)
   grind[DG]
theorem Xx(T:Tot ltb):∀l:List α,Sd ltb (Qe ltb l)
 |[]=>List.Pairwise.nil
 |x::r=>Hw T x _ (Xx T r)
theorem BD(T:Tot ltb):∀{a b:List α},a.Perm b->Sd ltb a->Sd ltb b->a=b
 |[],b,p,_,_=>p.nil_eq
 |x::r,b,p,ha,hb=>by
  cases b with
  |nil=>simp_all
  |cons y t=>
   have(c,d):=Jl.mp ha;have(f,g):=Jl.mp hb;let e:x=y:=by
    rcases U4.mp (p.mem_iff.mp Zqs)with z|z
    .exact z
    .rcases U4.mp (p.mem_iff.mpr Zqs)with u|u
     .exact u.symm
     .exact T.tot _ _ (f x z)<|c y u
   subst e;rw[BD T p.cons_inv d g]
def DH(T:Tot ltb)   (p:Pl l.length c l.length)(u:Up (λi j=>ltb (l.getD i d)<|l.getD j d) c l.length):c.toList.map (λi=>l.getD i d)=Qe ltb l:=by
 refine BD T ?_ ?_<|Xx T l
 .calc Vy ?_ (Q3 l).symm;let q:c.toList.Perm (List.range l.length):=by
   let:=Js.mp p.perm;simpa using this
  calc(q.map _).trans<|List.Perm.of_eq ?_;apply List.ext_getElem
  .simp
  .intro i o e;simp[e]
 .calc Jm.mpr λa b f g h=>?_;rw[VP,VP];let sz:c.toList.length=l.length:=by rw[Uy,p.size]
  rw[Zql]at f g;let m:c.toList[a]=gx c a:=by
   simp_all[gx]
  let n:c.toList[b]=gx c b:=by
   simp_all[gx]
  rw[m,n];exact jR.no (T.wk λi=>l.getD i d)<|u a b h ()
end
def Qn{α:Type}{l:List α} {d x:α}(h:l[i]?=!x):l.getD i d=x:=()
def Xy(h:Heap)(b:Ye)(c:Jz):4:=b.length=c.length/\∀(i:5)p,c[i]?=!p->∃a o n t u,b[i]?=! .ref a/\h.get? a=!o/\o.cls=.type "tuple"/\o.data=.seq #[.int p.1 t,.int p.2 u] n
theorem Hx :∀{vs:Ye}{ps:Jz},Xy h vs ps->∃fs,W.KatTups h vs fs/\fs.length=vs.length/\∀v∈fs,∃k t,v=Value.int k t
 |[],ps,q=>([],.nil,9,λv b=>nomatch b)
 |v::vs,[],q=>by let:=q.1;simp at this
 |v::vs,p::ps,q=>by
  let(a o n t u,c,d,e,f):=q.2 0 p 9;let c:some v=! Value.ref a:=c;obtain rfl:=Zqi c;let(-fs,g,j,l):=Hx (h:=h) (vs:=vs) (ps:=ps) (by let:=q.1;simpa using this,λi p m=>q.2 (i+1) p m);calc(.int p.1 t::fs,.cons d e f 9 g,by simp[j],λv b=>?_);rcases U4.mp b with z|z
  .exact jI p.1 t z
  .exact l v z
def Rq  (q:Xy s.heap l m)(N:2<=l.length):vd e w A s l λi j=>qw (m.getD i %[0|0])<|m.getD j %[0|0]:=by
 let(fs,x,O,y):=Hx q;refine(tuples'<|Value.type "int"!=Value.type "tuple",λE Q h=>W.kat_kind (T:=Value.type "int") x () (λv B=>?_) 9 h,λi j P R E Q h=>?_)
 .let(k,t,rfl):=y v B;exact W.Looks.of_pure 9
 .let S:=q.1;let(p,r):∃p,m[i]?=!p:=by grind
  let(b,f):∃p,m[j]?=!p:=by grind
  let(a o n t u,C,F,U,G):=q.2 i p r;let(X Y Z H I,J,L,f3,M):=q.2 j b f;dsimp only at h;rw[Qn r,Qn f]at h;show YF e w A (keyLt' _ (jM l i)<|jM l j) Q E s;unfold jM;rw[Qn C,Qn J];calc W.kat_lt F G L M ?_;calc W.kat_cons<|PySem.SeqAt.EqAt.int_int p.1 t b.1 H e w _ _ ?_;by_cases c:p.1=b.1
  .rw[show(p.1==b.1)=6 by simpa using c];calc W.kat_yes<|W.kat_cons<|PySem.SeqAt.EqAt.int_int p.2 u b.2 I e w _ _ ?_;by_cases d:p.2=b.2
   .rw[show(p.2==b.2)=6 by simpa using d];refine W.kat_yes<|W.kat_nil ?_
    grind[Aj]
   .rw[show(p.2==b.2)=7 by simp_all];calc W.kat_no<|W.kat_one _ _<|lt_int ?_;let z:qw p b=decide (p.2<b.2):=by
     grind[Xw,Aj]
    rw[z]at h;exact h
  .rw[show(p.1==b.1)=7 by simpa using c];calc W.kat_no<|oneLt_int ?_;let z:qw p b=decide (p.1<b.1):=by
    by_cases g:p.1<b.1
    .rw[Zp g,Xw];lia
    .rw[Zo g,Aj];lia
   rwa[z]at h
structure RowAt(h:Heap)(v:Value)(r:Jz)(a:Addr)(o:Obj)(us:Ye)(n:5):4 where
 isv:v=.ref a
 get:h.get? a=!o
 cls:o.cls=.type "tuple"
 dat:o.data=.seq us.toArray n
 prs:Xy h us r
def DI      (ok:xp P w H h)(f:Is H (rD r) x)(g:j4 x v):∃a o j n,RowAt h v r a o j n:=by
 let(a,G,rfl,l,d):=f;obtain rfl:=g;let(_,c,ri,o,m,q,n,s):=ok a _ l;refine qb a o c n (9,m,q,s,?_,λi p t=>?_)
 .let I:=d.length;let J:=ri.length
  simp_all
 .let(x,y,z):=d.get (by rw[Zv,t];rfl);let(u,L,A):=ri.get y;let(b,rfl,B):=nG.mp z;obtain rfl:=A;let(_,e,C,M,N,O,Q,R):=ok b _ B;let(S T,rfl,E,F):=ZT C;let(U,rfl):=E;let(X,rfl):=F
  simp_all
theorem Hy(N:A.units+04<cLine) {E:Ya} :∀{r g:Jz}{e b:Ye}i,Xy s.heap e r->Xy s.heap b g->
 x=decide (r.length<g.length)->Q (jH r g) s->W.KatLex j w A 7 x Q (e.zip b) i s
 |[],[],e,b,i,q,f,hf,h=>by
  obtain rfl:e=[]:=Jn.mp q.1;calc W.kat_nil ?_;rw[hf];calc h
 |[],p::g,e,b,i,q,f,hf,h=>by
  obtain rfl:e=[]:=Jn.mp q.1;calc W.kat_nil ?_;rw[hf,Zp ()];calc h
 |p::r,[],e,b,i,q,f,hf,h=>by
  obtain rfl:b=[]:=Jn.mp f.1;rw[List.zip_nil_right];calc W.kat_nil ?_;rw[hf,Zo ()];calc h
 |p::r,d::g,e,b,i,q,f,hf,h=>by
  let(a o n t u,l,B,C,F):=q.2 0 p 9;let(G O P H I,m,J,L,M):=f.2 0 d 9;cases e with
  |nil=>calc J7 l
  |cons v e=>
   cases b with
   |nil=>calc J7 m
   |cons R b=>
    let l:some v=! Value.ref a:=l;let m:some R=! Value.ref G:=m;obtain rfl:=Zqi l;obtain rfl:=Zqi m;let S:Reads s.heap (.ref a) (pD p) _:=.tuple B C F<|.cons (.int p.1 t)<|.cons (.int p.2 u) .nil;let R2:Reads s.heap (.ref G) (pD d) _:=.tuple J L M<|.cons (.int d.1 H)<|.cons (.int d.2 I) .nil;let X:∀z:3×3,(pD z).depth=1:=λz=>by
     rfl
    calc W.kat_cons<|PySem.SeqAt.eqAt_reads _ _ A s _ _ _ _ S R2 9 9 () j w _ _ ?_;rw[W6]at h;by_cases c:p=d
    .subst c;rw[P0 (D4 p)];rw[Zd 9]at h;refine W.kat_yes<|Hy N (E:=E) (i+1) (by let:=q.1;simp_all,λi z y=>q.2 (i+1) z y) (by let:=f.1;simp_all,λi z y=>f.2 (i+1) z y) () h
    .rw[Ze c]at h;let ne:pD p≠pD d:=λz=>c<|by
      grind[pD]
     rw[Pz (D4 p) (D4 d) ne];let T:IntsAre (#[Value.int p.1 t,Value.int p.2 u]:Yk).toList [p.1,p.2]:=.cons _ _<|.cons _ _ .nil;let U:IntsAre (#[Value.int d.1 H,Value.int d.2 I]:Yk).toList [d.1,d.2]:=.cons _ _<|.cons _ _ .nil;calc W.kat_one _ _<|HT.lt_tupInts (o,B,C,n,F) (O,J,L,P,M) T U () ?_;let z:HT.lexLt [p.1,p.2] [d.1,d.2]=qw p d:=by
      grind[qw,HT.lexLt_cons,HT.lexLt_nil_nil]
     rwa[z]
def Hz  {c:J0}  (hu:A.units+04<cLine)(ok:xp P w H s.heap)(S:qK H (c.map rD) xs)(U:j1 xs e)(f:∀r∈c,r ≠[])(h2:2<=e.length):
 vd B w A s e λi j=>jH (c.getD i [])<|c.getD j []:=by
 let l1:=S.length;let l2:=U.length;rw[Zql]at l1;let m:∀(i:5)r,c[i]?=!r->∃v a o q n,e[i]?=!v/\RowAt s.heap v r a o q n:=λi r l=>by
  let(x,hx,X):=S.get (i:=i) (d:=rD r) (by rw[Zv,l];rfl);let(v,C,ru):=U.get hx;let(a o q n,R):=DI ok X ru;exact j0 v a o q n (C,R)
 let g:∀(e:Ye)(c:J0),e.length=c.length->(∀r∈c,r ≠[])->(∀(i:5)r,c[i]?=!r->∃v a o q n,e[i]?=!v/\RowAt s.heap v r a o q n)->∃fs,W.KatTups s.heap e fs/\fs.length=e.length/\∀v∈fs,∃b F,v=Value.ref b/\s.heap.get? b=!F/\F.cls=.type "tuple":=by
  intro e
  induction e with
  |nil=>calc λ_ _ _ _=>([],.nil,9,λv C=>nomatch C)
  |cons v e ih=>
   intro c Y f G;cases c with
   |nil=>simp at Y
   |cons r c=>
    let(Z a o q n,I,R):=G 0 r 9;let I:some v=!Z:=I;obtain rfl:=Zqi I;let(-fs,L,k2,M):=ih c (by simpa using Y) (λr l=>f r<|Zqm _ l) λi r l=>G (i+1) r l;cases r with
    |nil=>calc Zn 9<|f [] Zqs
    |cons p r=>
     let(b F nb t u,N,O,g3,g4):=R.prs.2 0 p 9;obtain rfl:v=Value.ref a:=R.isv;calc(.ref b::fs,.cons R.get R.cls R.dat (by simpa using N) L,by simp[k2],λz hz=>?_);rcases U4.mp hz with y|y
     .exact(b,F,y,O,g3)
     .exact M z y
 let(-fs,L,k2,M):=g e c () f m;refine(tuples'<|Value.type "tuple"!=Value.type "tuple",λE Q h=>W.kat_kind (T:=Value.type "tuple") L () (λv C=>?_) 9 h,λi j X hj E Q h=>?_)
 .let(b,F,rfl,N,O):=M v C;rw[<-O];exact(W.Looks.ld N).andThen .now
 .let(r,l):∃r,c[i]?=!r:=(_,Zqg ());let(r',hr'):∃r,c[j]?=!r:=(_,Zqg ());let(v a o q n,I,R):=m i r l;let(Z a' o' us' n',f1,J):=m j r' hr';dsimp only at h;rw[Qn l,Qn hr']at h;show YF B w A (keyLt' _ (jM e i)<|jM e j) Q E s;unfold jM;rw[Qn I,Qn f1,R.isv,J.isv];calc W.kat_lt R.get R.dat J.get J.dat ?_;exact Hy hu (E:=E) 0 R.prs J.prs (by rw[Zm,Zm,R.prs.1,J.prs.1]) h
section
variable     {wi:TI}
def HA(N)(cap)(y:X.calm=6)(m:Kg a X.env N X.N cap=6)(A:PI X t d wi)(B:∀f C s H i,PG (JM X a N f C s H i) t g)(E:∀f C s H i,PT (JM X a N f C s H i) c F)(G:∀f C s H i,PE (JM X a N f C s H i) o J)
 (L:∀x,foldedSetIterable d X.env x=pure x)     {Z:St}  (I:Inv X Y Z H s)(h:Bt cap wi g F J Z H Q)(p:Aa X Y Z Q r R):
 YE X (comprehension (.ListComp o [(t,d,[c],0)] a M) a X.env u (newList []) 7 (eval d X.env) r) R X.xe s:=
 GG (test:=λj R Q s=>YE X (isTrue c j<|eval c j) Q (notedBy (model X.prog X.w) X.A j λe v=>R (.error e) v) s) N (λI l n h=>W.kct_loop I l n h)
  (λf C s H i _ _ _ _ _ _ _ _ w I q k=>Zc (E f C s H i _ _ _ _ _ I q) (λb O z=>by let(P,S,T):=z;calc k b O P S T) λe v U=>Zc U (λ_ s'' z=>w _ _ z) λ_ _ z=>w _ _ z) cap y m A B (λf C s H i _=>G f C s H i) L I h p
end
theorem Rr{L:List (Addr×HO)}  (h:L.lookup b=!u):%[b|u]∈L:=by
 induction L with
 |nil=>calc J7 h
 |cons p r a=>
  grind
def qY(H:Hp)(L:List (Addr×HO)):Hp:=λb=>match L.lookup b with
 |some o=>!o
 |none=>H b
def BE   (h:∀p∈L,p.1≠b):qY H L b=H b:=by
 grind[qY,List.lookup_cons]
def HB  (b:(L.map (·.1)).Nodup)  (h:%[a|o]∈L):qY H L a=!o:=by
 unfold qY;let e:L.lookup a=!o:=by
  induction L with
  |nil=>cases h
  |cons p r c=>
   grind
 rw[e]
def HC    (h:qY H L b=!u):%[b|u]∈L\/(∀p∈L,p.1≠b)/\H b=!u:=by
 grind[qY,Zqi,Rr]
def Inv.laidMany  {Z:St}     (I:Inv X Y Z H s)(k:∀b u,s.heap.get? b=!u->i.get? b=!u)(j:∀p∈L,s.heap.objs.size<=p.1)
 (ok:∀p∈L,yq X.prog X.w (qY H L) i p.1 p.2):Inv X Y Z (qY H L) {s with heap:=i,toks:=t'}:=by
 let c:∀b u,s.heap.get? b=!u->∀p∈L,p.1≠b:=λb u e p f z=>Zn (Zg (Zk e)<|by rw[<-z];calc j p f)<|Zy _;let l:∀b u,H b=!u->qY H L b=!u:=λb u e=>by
  rwa[BE λp f z=>Zn (Zg (I.hok.lt e)<|by rw[<-z];calc j p f)<|Zy _]
 calc I.un ((),λb u q _ _ _=>(u.slots,k b u q),λb u q n _=>by rwa[BE (c b u q)],(),(),(),λb o q=>(#[],())) λb u e=>?_;rcases HC e with z|⟨z,e'⟩
 .exact ok %[b|u] z
 .exact(I.hok b u e').stay () () ()
theorem HD   :∀{L:Yh},(∀i∈L,Is H (f i) (g i))->qK H (L.map f) (L.map g)
 |[],_=>by rfl
 |i::L,h=>jI _ _ (9,(),HD ())
theorem Y2  :∀{L:Yh},(∀i∈L,j4 (g i) (u i))->j1 (L.map g) (L.map u)
 |[],_=>.nil
 |i::L,h=>.cons () (Y2 ())
def Pl.mem  (p:Pl n c n) (h:i∈c.toList):i<n:=by
 let q:=(Js.mp p.perm).mem_iff.mp h
 simp_all
def Pl.len  (p:Pl n c k):c.toList.length=n:=by rw[Uy,p.size]
def Rs(hu:X.A.units+64<cLine):qq X (.builtin "sorted") λG H Q=>∃a g f,G=[.ref a]/\Rd H a (.lst g)/\qK H (f.map rD) g/\(∀r∈f,r ≠[])/\f.length<1000/\
 ∀(l:Addr)(w:Yh),H l=8->(∀i∈w,i<f.length)->w.map (λi=>f.getD i [])=Qe jH f->Q (.ref l) (jD H l<|.lst<|w.map λi=>g.getD i .non):=by
 intro Y s Z H G us Q I O h;let(a,g,f,rfl,P,y,z,R,q):=h;let(u,rfl,S):=K2 O;obtain rfl:u=Value.ref a:=S;let(-c,ri,T,hz):=I.list (.inl P);let U:=y.length;let l2:=ri.length;rw[Zql]at U;let J:c.length=f.length:=()
 let L:∀b o,s.heap.get? b=!o->((s.heap.push<|seqObj "list" #[] 0).update s.heap.objs.size<|Obj.mapSeq (·++c.toArray)).get? b=!o:=λb o e=>by
  rw[Heap.get?_update_ne _ _ _ _ (Zi<|Zk e),Heap.get?_push_ne _ _ _ (Zi<|Zk e)];exact e
 calc Hs (yr.wk λi=>f.getD i []) (collect_list T.isList ((),λh' A h2=>Hz (by show X.A.units+1+1+04<cLine;lia) (I.hok.kept λb o e=>A b o<|L b o e) y ri z h2,λj h' l p u A M B=>?_)<|by rw[J];calc Qt ());let(e,B):=B;rw[J]at p u;let m:s.heap.objs.size<=l:=by
  let:((s.heap.push<|seqObj "list" #[] 0).update s.heap.objs.size<|Obj.mapSeq (·++c.toArray)).objs.size=s.heap.objs.size+1:=by rw[Heap.size_update,size_push']
  let M:((s.heap.push<|seqObj "list" #[] 0).update s.heap.objs.size<|Obj.mapSeq (·++c.toArray)).objs.size<=l:=M;lia
 let C:∀i∈j.toList,∃x v,g[i]?=!x/\c[i]?=!v/\j4 x v/\Is H (rD<|f.getD i []) x:=λi n=>by
  let N:=p.mem n;let(x,t,hr):=y.get (i:=i) (d:=rD<|f.getD i []) (by
   rw[Zv,Zqg N,Qn (Zqg N)];rfl)
  let(v,E,F):=ri.get t;exact(x,v,t,E,F,hr)
 refine(.ref l,jD H l<|.lst<|j.toList.map λi=>g.getD i .non,I.laid (a:=l) (o:=.lst<|j.toList.map λi=>g.getD i .non) (t':=s.toks) (λb o e=>A b o<|L b o e) m (?_,j.toList.map<|jM c,e,?_,?_),9,q l j.toList (I.hok.fresh m) (λi n=>p.mem n)<|DH yr p u)
 .rw[Zql,p.len];exact Qt ()
 .calc Y2 λi n=>?_;let(x v,t,E,F,_):=C i n;unfold jM;rw[Qn t,Qn E];exact F
 .rw[B]
  congr 03
  apply Vk;simp
def WR(a d:Addr):HO:=.ext λh=>h.IsItemsView a d
def HE:tx X "dict.items" λx c H Q=>∃d a,x=.ref d/\c=[]/\H d=! .dK a/\∀p,H p=8->Q (.ref p) (jD H p<|WR p d):=by
 intro Y s Z H x c v t Q I g i h;let(d,a,rfl,rfl,j,q):=h;obtain rfl:=g;obtain rfl:=wu i;let(z,lo,l,m,f):=Dx I.hok j;exact call_meetsIn PySem.F.slot_dict_items f.typeIs PySem.F.entry_dict_items (PySem.F.args_dict_items_1 _) (meets_dict_items (Ka X.prog X.w) d lo) ((l,f),(.ref s.heap.objs.size,jD H s.heap.objs.size<|WR s.heap.objs.size d,I.laid (λb o e=>Zq _ e) (Zf _)<|((_,Zr _ 9,9,9),(_,Zr _ 9),λu w z n=>have(o,e,r):=z;(o,n o e,r)),9,q _<|I.hok.fresh<|Zf _))
def HF(hc:X.calm=6):qq X (.builtin "sorted") λxs H Q=>∃n d r,xs=[.ref n]/\H n=! WR n d/\H d=!(.dK<|xT r)/\r ≠[]/\r.length<1000/\
 ∀l L,(∀p∈L,H p.1=8)->(L.map (·.1)).Nodup->(∀G,Is (qY G L) (.list<|(Qe qw r).map pD) (.ref l))->Q (.ref l) (qY H L):=by
 intro Y s Z H xs us Q I rv h;let(n,d,r,rfl,hv,hd,U,h64,q):=h;let(u,rfl,ru):=K2 rv;obtain rfl:u=Value.ref n:=ru;let(!A,_,_):=show yq X.prog X.w H s.heap n (WR n d)from I.hok n _ hv;let(z,lo,ws,M,od,es,ep,d1,d2,d3,d4,d5,d6):=Dx I.hok hd;let lk:=M.length;let lr:(xT r).length=r.length:=Zql _;let hat:s.heap.DictAt (Ka X.prog X.w) d ws ep:=jI od es (d1,d2,d3,d4,d5,d6);calc Hs (v5.wk λi=>r.getD i %[0|0])<|W.kdx_collect (knd:=Ka X.prog X.w) (I.ok.hd hc) A hat (by rw[<-lk,lr];calc Qt ()) λh1 tk c kp1 la G=>?_;let lv:(c.map Value.ref).length=r.length:=by rw[Zql];lia
 let pa:∀v,(∀b o,h1.get? b=!o->v.get? b=!o)->Xy v (c.map Value.ref) r:=λv B=>by
  calc(lv,λi p j=>?_);let f:i<c.length:=by
   let:=(Jd.mp j).1;lia
  let(C k x,g1,g2,g3):=G.pairs i c[i] ();let kv:KV (xT r) ws:=M;let hk:(xT r)[i]?=!%[Uh p.1|V.int p.2]:=by unfold xT;rw[Zv,j];rfl
  let N:∀{l1:List (jT×V)}{l2:List (jT×Value)}{i:5}{a:jT×V}{b:jT×Value},KV l1 l2->l1[i]?=!a->l2[i]?=!b->a.1=b.1/\j4 a.2 b.2:=by
   intro l1 l2 i a b O;unfold KV at O
   induction O generalizing i with
   |nil=>intro e;simp at e
   |cons hh tt ih=>
    cases i with
    |zero=>
     intro w E;simp at w E;subst w E;calc hh
    |succ i=>
     intro w E;exact ih (by simpa using w)<|by simpa using E
  let(b1,b2):=N kv hk g1;let b1:(Uh p.1:jT)=k:=b1;subst b1;let(t1,rfl):=show ∃t,x=Value.int p.2 t from b2;let(t0,rfl):∃t,C=Value.int p.1 t:=by
   rcases Ws (show Xn (Uh p.1) C=6 from g2)with ⟨i0,t,w,E⟩|⟨x0,t,w,E⟩
   .cases w;exact(t,E)
   .cases w
  exact j0 c[i] _ _ t0 t1 (by rw[Zv,Zqg f];rfl,B _ _ g3,9,9)
 calc((),λv B h2=>Rq (pa v B) h2,λjx v l p u B hl gl=>?_);let(e,gl):=gl;rw[lv]at p u;let kk:∀b o,s.heap.get? b=!o->v.get? b=!o:=λb o e=>B b o<|kp1 b o e;let P:∀a∈c,s.heap.objs.size<a:=G.above;let R:∀a∈c,a<l:=λa ha=>Zg (G.there ha) hl;let szl:s.heap.objs.size<=l:=by
  cases c with
  |nil=>calc Zn (Jn.mp<|by rw[<-lv];rfl) U
  |cons a as'=>exact Zz<|Ul (P a Zqs)<|R a Zqs
 let(L,hL):∃L:List (Addr×HO),L=%[l|.lst (jx.toList.map λi=>V.ref<|c.getD i 0)]::(c.zip r).map λz=>%[z.1|HO.tup [.int z.2.1,.int z.2.2]]:=(_,9);let g:L.map (·.1)=l::c:=by
  rw[hL,Zl,Zw];show l::(c.zip r).map (λz=>z.1)=_;rw[List.map_fst_zip ()]
 let nd:(L.map (·.1)).Nodup:=by
  rw[g];calc Jk.mpr (λm=>Zy _<|R l m,?_);exact G.rise.imp λhlt=>Zi hlt
 let S:∀p∈L,s.heap.objs.size<=p.1:=λp j=>by
  let:p.1∈L.map (·.1):=Ja.mpr (p,j,9);rw[g]at this;rcases U4.mp this with z|z
  .rw[z];exact szl
  .exact Zz<|P _ z
 let F:∀G(i:5)p,r[i]?=!p->qY G L (c.getD i 0)=! .tup [.int p.1,.int p.2]:=λG i p j=>by
  let f:i<c.length:=by
   let:=(Jd.mp j).1;lia
  calc HB nd ?_;rw[hL];calc Zqm _<|Ja.mpr (%[c[i]|p],?_,by rw[Qn (Zqg f)]);calc Uf (i:=i) ?_;rw[VT];exact(Zqg f,j)
 refine(.ref l,qY H L,I.laidMany (t':=tk) kk S λy hy=>?_,9,q l L (λp j=>I.hok.fresh<|S p j) nd λG'=>?_)
 .rw[hL]at hy;rcases U4.mp hy with z'|z'
  .rw[z'];refine(?_,jx.toList.map<|jM<|c.map Value.ref,e,?_,?_)
   .rw[Zql,p.len];exact Qt ()
   .calc Y2 λi f=>?_;let hn:=p.mem f;let T:i<c.length:=()
    unfold jM;rw[Qn (Zqg T),Qn (x:=Value.ref c[i]) (by rw[Zv,Zqg T];rfl)];rfl
   .rw[gl]
    congr 03
    apply Vk;simp
  .let((a,p'),hm,rfl):=Ja.mp z';let(i,f):=Jh.mp hm;rw[VT]at f;let(i1,i2):=f;let(a' o' n' t' u',f1,f2,f3,f4):=(pa v B).2 i p' i2;rw[Zv,i1]at f1;cases f1;let(C k x,g1,g2,g3):=G.pairs i a i1;let J:=B _ _ g3;rw[J]at f2;obtain rfl:=Zqi f2;exact((by show 2<=sizeLine;decide,_,J,9),[.int p'.1 t',.int p'.2 u'],.cons (t',9)<|.cons (u',9) .nil,_,J,9,n',f4)
 .rw[xZ];calc(l,_,9,HB nd<|by rw[hL];calc Zqs,?_);rw[<-DH v5 p u,Zw];calc HD λi f=>?_;let hn:=p.mem f;calc nG.mpr (c.getD i 0,9,?_);let:=F G' i (r.getD i %[0|0]) (by rw[Qn (Zqg hn)];calc Zqg hn);exact this
noncomputable def xl(r:Jz)(t w:3):Jz:=if r.any λp=>decide<|p.1=t=6 then r.map λp=>if p.1=t then%[p.1|w]else p else r++[%[t|w]]
def HG :decide ((Uh a:jT)=Uh b)=decide (a=b):=()
def Rt(r)(t w):qU (xT r) (Uh t) (V.int w)=xT (xl r t w):=by
 let e:(xT r).any λa=>decide<|a.1=Uh t=r.any λp=>decide<|p.1=t:=by
  unfold xT;rw[List.any_map]
  congr 1
  funext p
  exact HG
 unfold qU xl;rw[e]
 split
 .unfold xT;rw[Zw,Zw];apply UM;intro p _;by_cases c:p.1=t
  .simp[c]
  .simp[c]
 .unfold xT;rw[Ud];rfl
theorem BF(p)(r)(t):JE (p::r) t=match JE r t with|some w=>!w|none=>if p.1=t then !p.2 else 8:=rfl
def Ru(r)(t w j):JE (r.map λp=>if p.1=t then%[p.1|w]else p) j=(JE r j).map λx=>if j=t then w else x:=by
 induction r with
 |nil=>rfl
 |cons p r a=>
  grind[List.map_cons,BF,Option.map]
def Rv(r)(t):r.any λp=>decide<|p.1=t=(JE r t).isSome:=by
 cases q:JE r t with
 |none=>
  grind[Option.isSome_none,List.any_eq_false,GS]
 |some w=>
  rw[Option.isSome_some,Vn];exact(_,Q2 q,())
def Rx(r)(t w j):JE (xl r t w) j=if j=t then !w else JE r j:=by
 unfold xl;rw[Rv];by_cases a:(JE r t).isSome=6
 .rw[Zd a,Ru];by_cases e:j=t
  .rw[Zd e,e];have(x,b):=Ju.mp a;rw[b];simp
  simp_all
 .rw[Ze a,PJ];show(match if t=j then !w else 8 with|some w=>!w|none=>JE r j)=_
  grind
def Ry(r)(t w):(xl r t w).map (·.1)=if r.any λp=>decide<|p.1=t=6 then r.map (·.1)else r.map (·.1)++[t]:=by
 grind[xl,List.map_map,List.map_append,List.map_congr_left]
def R0  (h:jA r):jA (xl r t w):=by
 unfold jA;rw[Ry]
 split
 .exact h
 .rename_i c;unfold jA at h;rw[List.nodup_append];calc(h,(),λa f b d=>?_);simp at d;subst d;rintro rfl;let(p,g,e):=Ja.mp f;exact c<|Vn.mpr (p,g,by simp[e])
def R1(r)(t w):(xl r t w).length<=r.length+1:=by
 grind[xl,Zql,List.length_append]
theorem HH:∀r b,Xq (xT b) (xT r)=xT (r.foldl (λa p=>xl a p.1 p.2) b)
 |[],b=>9
 |p::r,b=>by
  let e:Xq (xT b) (xT<|p::r)=Xq (qU (xT b) (Uh p.1)<|V.int p.2) (xT r):=9;rw[e,Rt,HH r];rfl
theorem HJ:∀r b,jA (b++r)->r.foldl (λa p=>xl a p.1 p.2) b=b++r
 |[],b,_=>by simp
 |p::r,b,h=>by
  let c:b.any λq=>decide<|q.1=p.1=7:=by
   grind[jA,List.any_eq_false,List.map_append,List.nodup_append]
  let e:xl b p.1 p.2=b++[p]:=by
   unfold xl;rw[c];simp
  rw[Vh,e,HJ r (b++[p]) (),Ug];rfl
noncomputable def jw:Option 3->Option 3->Option 3
 |none,b=>b
 |some x,none=>!x
 |some x,some y=>! if x>y then x else y
def W7(a:Jz)(p:3×3):Jz:=xl a p.1<|if(JE a p.1).getD p.2>p.2 then(JE a p.1).getD p.2 else p.2
def Qy(r o:Jz):Jz:=o.foldl W7 r
def R3(acc)(p)(t):JE (W7 acc p) t=if t=p.1 then jw (JE acc t) !p.2 else JE acc t:=by
 unfold W7;rw[Rx];by_cases e:t=p.1
 .rw[Zd e,Zd e,e];cases JE acc p.1 with
  |none=>simp[jw]
  |some x=>simp[jw]
 simp_all
theorem BG(t):∀o r,jA o->JE (Qy r o) t=jw (JE r t) (JE o t)
 |[],r,_=>by
  show JE r t=jw (JE r t) 8;cases JE r t<;>rfl
 |p::o,r,h=>by
  have(a,b):=Jk.mp h;let e:Qy r (p::o)=Qy (W7 r p) o:=9;rw[e,BG t o _ b,R3,BF];by_cases c:t=p.1
  .let n:JE o t=8:=by
    cases q:JE o t with
    |none=>rfl
    |some w=>exact Zn (Ja.mpr (_,Q2 q,c)) a
   rw[Zd c,n,Zd c.symm];cases jw (JE r t) !p.2<;>rfl
  grind
theorem BH:∀o r,jA r->jA (Qy r o)
 |[],r,h=>h
 |p::o,r,h=>BH o _ (R0 h)
theorem DJ:∀o r,(Qy r o).length<=r.length+o.length
 |[],r=>Zf _
 |p::o,r=>by
  let a:=DJ o<|W7 r p;let b:(W7 r p).length<=r.length+1:=R1 _ _ _;show(Qy (W7 r p) o).length<=_
  grind
def HK (h:r ≠[])(b:jA o):Qy r o ≠[]:=by
 intro z;cases r with
 |nil=>calc h 9
 |cons p r=>
  let q:=BG p.1 o (p::r) b;rw[z]at q;let:∃x,JE (p::r) p.1=!x:=by
   grind[BF]
  let(x,c):=this;rw[c]at q;cases a:JE o p.1 with
  |none=>rw[a]at q;calc J7 q
  |some y=>rw[a]at q;exact J7 q
def HM (h:jA r) :%[t|w]∈r↔JE r t=!w:=(λm=>h.look m,Q2)
theorem Xz {c:α->α->Bool}(T:Tot c):∀{a b:List α},a.Pairwise (λx y=>c x y=6)->b.Pairwise (λx y=>c x y=6)->(∀x,x∈a↔x∈b)->a=b
 |[],[],_,_,_=>9
 |[],y::b,_,_,h=>by
  cases(h y).mpr Zqs
 |x::a,[],_,_,h=>by
  cases(h x).mp Zqs
 |x::a,y::b,ha,hb,h=>by
  let(g,i):=Jl.mp ha;let(f,j):=Jl.mp hb;let e:x=y:=by
   rcases U4.mp ((h x).mp Zqs)with z|z
   .exact z
   .rcases U4.mp ((h y).mpr Zqs)with u|u
    .exact u.symm
    .let:=T.asy _ _<|f x z
     simp_all
  subst e
  congr 1
  refine Xz T i j λz=>(λd=>?_,λd=>?_)
  .rcases U4.mp ((h z).mp<|Zqm _ d)with u|u
   .rw[u]at d;let:=g x d;rw[T.irr]at this;exact JF this
   lia
  .rcases U4.mp ((h z).mpr<|Zqm _ d)with u|u
   .rw[u]at d;let:=f x d;rw[T.irr]at this;exact JF this
   lia
theorem HN{α β:Type}(f:α->β):∀{l:List α},(l.map f).Nodup->l.Nodup
 |[],_=>UZ
 |x::r,h=>by
  rw[Zl,List.nodup_cons]at h;exact Jk.mpr ((),HN f h.2)
def R4 (h:jA r):(Qe qw r).Pairwise λx y=>qw x y=6:=by
 calc(List.Pairwise.and (Xx v5 r)<|(Q3 r).nodup_iff.mpr<|HN (λp:3×3=>p.1) h).imp λ{x y}z=>?_;cases q:qw x y with
 |true=>rfl
 |false=>exact Zn (v5.tot _ _ q z.1) z.2
end L2
namespace L2.DL
def DK {_:Decidable c}{α:Type}{a z:α}(h:(if c then !a else 8)=!z):c/\a=z:=()
inductive D where
 |non|bl(b:Bool)|int(i:Int)|str(x:Str)|ty(n:String)|scr(ns:Yf)
 |tup(ds:List D)|lst(ds:List D)|dct(ks:List jT)(ds:List D)|ins(c:Str)(fs:Yi)(ds:List D)
 |exc(c:Str)|ucl(c:Str)
 |exr(c:Str)(n:Int)
 |adr(a:Addr)|dcf(ks:List jT)(ds:List D)
 |pin(a:Addr)(d:D)
abbrev _root_.YC:=List D
abbrev _root_.YD:=Option D
inductive Res(α:Type)where
 |ok(a:α)|ex(c:Str)(fs:YC)|no
noncomputable def Res.bind{α β:Type}(r:Res α)(g:α->Res β):Res β:=match r with
 |.ok a=>g a
 |.ex c fs=>.ex c fs
 |.no=>.no
def Res.need{α:Type}(r:Res α)(p:α->4)(q:Str->YC->4):4:=match r with
 |.ok a=>p a
 |.ex c fs=>q c fs
 |.no=>False
@[simp]theorem Res.bind_ok (a)(g:α->Res β):(Res.ok a).bind g=g a:=rfl
@[simp]def Res.bind_ex (c)(fs)(g:α->Res β):(Res.ex c fs:Res α).bind g=.ex c fs:=rfl
@[simp]def vZ (g:α->Res β):(Res.no:Res α).bind g=.no:=rfl
def Res.need_bind {r:Res α} {p:β->4} (h:(r.bind g).need p q):r.need (λa=>(g a).need p q) q:=by
 cases r<;>exact h
def Res.need.mono {r:Res α}  (h:r.need p q)(e:∀a,p a->f a)(i:∀c fs,q c fs->j c fs):r.need f j:=by
 cases r with
 |ok a=>calc e a h
 |ex c fs=>calc i c fs h
 |no=>exact h
def Res.need.monoE {r:Res α}  (h:r.need p q)(e:∀a,r=.ok a->p a->f a)(i:∀c fs,q c fs->j c fs):r.need f j:=by
 cases r with
 |ok a=>calc e a 9 h
 |ex c fs=>calc i c fs h
 |no=>exact h
def bY(C x:Addr):HO:=.ext λh=>∃o,h.get? x=!o/\o.cls=.ref C
def bX(C p x:Addr):HO:=.ext λh=>∃o,h.get? x=!o/\o.cls=.ref C/\o.dict=!p/\W.notCls o=6
def u8(p:Addr)(n:3):HO:=.ext λh=>∃mA u,h.Ns1 p mA/\mA "row"=!u/\j4 (.int n) u
def yO(_:W.Frag)(H:Hp)(a:Addr)(b:YB):4:=H a=! .tup b
def yO.same{K:W.Frag}   (e:jk H c)(h:yO K H a f):yO K c a f:=e _ _ h
def yO.of{K:W.Frag}   (h:H a=! .tup c):yO K H a c:=h
def yO.sq{K:W.Frag}   (h:yO K H a c):zk K H a c:=zk.of h
def xN(_:W.Frag)(H:Hp)(a:Addr)(b:YB):4:=Rd H a<|.lst b
def xN.same{K:W.Frag}   (e:jk H c)(h:xN K H a f):xN K c a f:=h.imp (λq=>e _ _ q)<|yf λo q=>(o,e _ _ q)
def xN.of{K:W.Frag}   (h:H a=! .lst c):xN K H a c:=.inl h
def xN.sq{K:W.Frag}   (h:xN K H a c):xo K H a c:=.inl h
section
variable (K:W.Frag)
mutual
def jh (H:Hp):D->V->Prop
 | .non,v=>v=.non
 | .bl b,v=>v=.bl b
 | .int i,v=>v=.int i
 | .str x,v=>v=.str x
 | .ty n,v=>v=.ty n
 | .scr h,v=>∃a,v=.ref a/\xo K H a (h.map V.int)
 | .tup f,v=>∃a e,v=.ref a/\yO K H a e/\je H f e
 | .lst f,v=>∃a e,v=.ref a/\xN K H a e/\je H f e
 | .dct g f,v=>∃a e,v=.ref a/\H a=some (.dK (g.zip e))/\g.length=e.length/\je H f e
 | .ins c fs f,v=>∃a C j e,v=.ref a/\W.nsIn K mainGlobals c=some (some (.ref C))/\H a=some (.ins C j (fs.zip e))/\fs.length=e.length/\je H f e
 | .exc c,v=>∃a C,v=.ref a/\W.nsIn K mainGlobals c=some (some (.ref C))/\H a=some (bY C a)
 | .exr c n,v=>∃a C p,v=.ref a/\W.nsIn K mainGlobals c=some (some (.ref C))/\H a=some (bX C p a)/\H p=some (u8 p n)
 | .ucl c,v=>∃C,v=.ref C/\W.nsIn K mainGlobals c=some (some (.ref C))
 | .adr a,v=>v=.ref a
 | .dcf g f,v=>∃a o e,v=.ref a/\H a=some (.frz o (.dK (g.zip e)))/\g.length=e.length/\je H f e
 | .pin a d,v=>v=.ref a/\jh H d v
def je (H:Hp):YC->YB->Prop
 | [],a=>a=[]
 |d::b,a=>∃x r,a=x::r/\jh H d x/\je H b r
end
end
section
variable {K:W.Frag}
def jB :jh K H .non v↔v=.non:=.rfl
def jz  :jh K H (.bl b) v↔v=.bl b:=.rfl
def jg  :jh K H (.int i) v↔v=.int i:=.rfl
def jt  :jh K H (.str x) v↔v=.str x:=.rfl
def yB  :jh K H (.ty n) v↔v=.ty n:=.rfl
def x2  :jh K H (.scr c) v↔∃a,v=.ref a/\xo K H a (c.map V.int):=.rfl
theorem jy  :jh K H (.tup e) v↔∃a c,v=.ref a/\yO K H a c/\je K H e c:=.rfl
theorem jl  :jh K H (.lst e) v↔∃a c,v=.ref a/\xN K H a c/\je K H e c:=.rfl
def qh   :jh K H (.dct e f) v↔∃a c,v=.ref a/\H a=!(.dK<|e.zip c)/\e.length=c.length/\je K H f c:=.rfl
def qg    :jh K H (.ins c fs f) v↔∃a C i e,v=.ref a/\W.nsIn K mainGlobals c=! ! .ref C/\H a=!(.ins C i<|fs.zip e)/\fs.length=e.length/\je K H f e:=.rfl
def xY  :jh K H (.exc c) v↔∃a C,v=.ref a/\W.nsIn K mainGlobals c=! ! .ref C/\H a=! bY C a:=.rfl
def xX   :jh K H (.exr c n) v↔∃a C p,v=.ref a/\W.nsIn K mainGlobals c=! ! .ref C/\H a=! bX C p a/\H p=! u8 p n:=.rfl
def j5  :jh K H (.adr a) v↔v=.ref a:=.rfl
def x5   :jh K H (.dcf e f) v↔∃a o c,v=.ref a/\H a=!(.frz o<|.dK<|e.zip c)/\e.length=c.length/\je K H f c:=.rfl
def x3   :jh K H (.pin a d) v↔v=.ref a/\jh K H d v:=.rfl
def je.nil_iff :je K H [] c↔c=[]:=.rfl
theorem jo   :je K H (d::c) e↔∃x r,e=x::r/\jh K H d x/\je K H c r:=.rfl
mutual
theorem jh.same (e:jk H r):∀(d:D) (v:V),jh K H d v->jh K r d v
 | .non,_,h=>h
 | .bl _,_,h=>h
 | .int _,_,h=>h
 | .str _,_,h=>h
 | .ty _,_,h=>h
 | .scr _,_,h=>by
  obtain⟨a,f,i⟩:=x2.mp h;exact x2.mpr ⟨a,f,jk.seq e i⟩
 | .tup n,_,h=>by
  obtain⟨a,j,f,i,l⟩:=jy.mp h;exact jy.mpr ⟨a,j,f,i.same e,je.same e n j l⟩
 | .lst n,_,h=>by
  obtain⟨a,j,f,i,l⟩:=jl.mp h;exact jl.mpr ⟨a,j,f,i.same e,je.same e n j l⟩
 | .dct s n,_,h=>by
  obtain⟨a,j,f,i,q,l⟩:=qh.mp h;exact qh.mpr ⟨a,j,f,e _ _ i,q,je.same e n j l⟩
 | .ins c fs n,_,h=>by
  obtain⟨a,C,u,j,f,x,i,q,l⟩:=qg.mp h;exact qg.mpr ⟨a,C,u,j,f,x,e _ _ i,q,je.same e n j l⟩
 | .exc _,_,h=>by
  obtain⟨a,C,f,i,l⟩:=xY.mp h;exact xY.mpr ⟨a,C,f,i,e _ _ l⟩
 | .exr _ _,_,h=>by
  obtain⟨a,C,p,f,i,l,q⟩:=xX.mp h;exact xX.mpr ⟨a,C,p,f,i,e _ _ l,e _ _ q⟩
 | .ucl _,_,h=>h
 | .adr _,_,h=>h
 | .dcf s n,_,h=>by
  obtain⟨a,o,j,f,i,q,l⟩:=x5.mp h;exact x5.mpr ⟨a,o,j,f,e _ _ i,q,je.same e n j l⟩
 | .pin a d,v,h=>x3.mpr ⟨(x3.mp h).1,jh.same e d v (x3.mp h).2⟩
theorem je.same (e:jk H i):∀c f,je K H c f->je K i c f
 | [],_,h=>h
 |d::c,_,h=>have ⟨x,r,j,l,n⟩:=jo.mp h;jo.mpr ⟨x,r,j,jh.same e d x l,je.same e c r n⟩
end
def je.mk    (h:jh K H d x)(r:je K H e c):je K H (d::e) (x::c):=jo.mpr (x,c,9,h,r)
def je.nil:je K H [] []:=je.nil_iff.mpr 9
theorem je.length:∀{e:YC}{c:YB},je K H e c->c.length=e.length
 |[],c,h=>by simp_all[je.nil_iff]
 |d::e,c,h=>by
  let(x r,rfl,_,f):=h;rw[Zu,Zu,je.length f]
theorem je.get:∀{c:YC}{f:YB}{i:5}{d:D},je K H c f->c[i]?=!d->∃x,f[i]?=!x/\jh K H d x
 |[],_,_,_,_,e=>J7 e
 |d::c,f,i,e,h,q=>by
  let(x r,rfl,l,j):=h;cases i with
  |zero=>simp_all
  |succ i=>exact je.get (i:=i) j q
def je.getV  {i:5} (h:je K H c e)(q:e[i]?=!x):∃d,c[i]?=!d/\jh K H d x:=by
 let j:=h.length;let f:i<c.length:=();let(y,l,n):=h.get (Zqg f)
 simp_all
theorem je.append:∀{e f:YC}{c i:YB},je K H e c->je K H f i->je K H (e++f) (c++i)
 |[],_,c,_,h,j=>by simp_all[je.nil_iff]
 |d::e,_,c,_,h,j=>by
  let(x r,rfl,l,n):=h;exact je.mk l<|je.append n j
def je.snoc    (h:je K H c e)(f:jh K H d x):je K H (c++[d]) (e++[x]):=h.append<|.mk f .nil
theorem je.set:∀n{e:YC}{c:YB}{d:D}{x:V},je K H e c->jh K H d x->je K H (e.set n d) (c.set n x)
 |_,[],c,_,_,h,_=>by simp_all[je.nil_iff]
 |0,d::e,c,_,_,h,q=>by
  grind[jo]
 |n+1,d::e,c,_,_,h,q=>by
  let(x r,rfl,f,i):=h;exact je.mk f<|je.set n i q
theorem qW:∀(c:Yf),je K H (c.map D.int) (c.map V.int)
 |[]=>.nil
 |n::c=>.mk (jg.mpr 9) (qW c)
theorem qP:∀{c:Yf}{e:YB},je K H (c.map D.int) e->e=c.map V.int
 |[],_,h=>je.nil_iff.mp h
 |n::c,e,h=>by
  let(x r,rfl,f,i):=h;rw[f,qP i];rfl
end
structure Ext(F H F' H':Hp):4 where
 ff:jk F F'
 fh:jk F' H'
 hh:jk H H'
 new:∀a,F a=8->H a≠8->F' a=8
theorem Ext.refl (h:jk F H):Ext F H F H:=(.refl _,h,.refl _,λ_ e _=>e)
theorem Ext.trans (a:Ext F H c f)(b:Ext c f i j):Ext F H i j:=
 (a.ff.trans b.ff,b.fh,a.hh.trans b.hh,λx e n=>b.new x (a.new x e n)<|by
  cases q:H x with
  |none=>calc Zn q n
  |some o=>rw[a.hh _ _ q];simp)
def Qa  (h:jk F H)(a:H p=8):F p=8:=h.free a
def Ext.alloc  (h:jk F H)(c:H p=8)(o):Ext F H (jD F p o) (jD H p o):=
 (KW (h.free c) o,λb u e=>by
  by_cases q:b=p
  .simp_all[JL]
  .rw[JI q]at e ⊢;calc h _ _ e,KW c o,λa e n=>by
  let q:a≠p:=by grind
  rwa[JI q])
def Ext.keep  (h:jk F H)(c:H p=8)(o):Ext F H F (jD H p o):=
 (.refl _,h.trans<|KW c o,KW c o,λ_ e _=>e)
def Ext.grow (h:jk F H)(c:jk H f):Ext F H F f:=(.refl _,h.trans c,c,λ_ e _=>e)
inductive SV where
 |val(d:D)|own(p:Bool)(d:D)
structure Bs where
 F0:Hp
 H0:Hp
 pa:5->Option (Addr×YB)
abbrev SD:=List<|Option SV
def yR(K:W.Frag)(F H:Hp)(l:Addr):D->4
 |.lst b=>∃a,H l=! .lst a/\je K F b a
 |.dct d b=>∃a,H l=!(.dK<|d.zip a)/\d.length=a.length/\je K F b a
 |.ins c fs b=>∃C e a,W.nsIn K mainGlobals c=! ! .ref C/\H l=!(.ins C e<|fs.zip a)/\fs.length=a.length/\je K F b a
 |_=>False
def yR.has{K:W.Frag}   (h:yR K F H l d):∃o,H l=!o:=by
 cases d with
 |lst f=>have(i,e,_):=h;calc(_,e)
 |dct j f=>have(i,e,_):=h;calc(_,e)
 |ins c fs f=>have(C,n,i,_,e,_):=h;calc(_,e)
 |_=>exact False.elim h
def yR.ext{K:W.Frag}   (h:yR K F H l d)(i:jk F p)(j:∀o,H l=!o->r l=!o):yR K p r l d:=by
 cases d with
 |lst n=>have(f,e,q):=h;calc(f,j _ e,je.same i _ _ q)
 |dct u n=>let(f,e,z,q):=h;calc(f,j _ e,z,je.same i _ _ q)
 |ins c fs n=>let(C s f,k,e,z,q):=h;calc ji C s f (k,j _ e,z,je.same i _ _ q)
 |_=>exact False.elim h
def yR.frz{K:W.Frag}    (h:yR K F H l d)(e:H l=Option.some o)(n:F l=8):jh K (jD F l o) d (.ref l):=by
 cases d with
 |lst j=>
  have(i,f,q):=h;rw[e]at f;obtain rfl:=Zqi f;calc jl.mpr (l,i,9,.of JL,je.same (KW n _) _ _ q)
 |dct r j=>
  let(i,f,z,q):=h;rw[e]at f;obtain rfl:=Zqi f;calc qh.mpr (l,i,9,JL,z,je.same (KW n _) _ _ q)
 |ins c fs j=>
  let(C p i,k,f,z,q):=h;rw[e]at f;obtain rfl:=Zqi f;calc qg.mpr<|qb l C p i (9,k,JL,z,je.same (KW n _) _ _ q)
 |_=>exact False.elim h
def mh(H:Hp)(l:Addr)(o:Option (Addr×YB)):4:=∃a,o=!%[l|a]/\H l=! .lst a
structure RS(K:W.Frag)(B:Bs)(F H:Hp)(sd:SD)(Z:St):4 where
 ext:Ext B.F0 B.H0 F H
 len:Z.length=sd.length
 val:∀{i:5}{d:D},sd[i]?=!~~~d->∃v,Z[i]?=! !v/\jh K F d v
 own:∀{i:5}{p:Bool}{d:D},sd[i]?=! ! .own p d->∃l,Z[i]?=! ! .ref l/\B.H0 l=8/\F l=8/\yR K F H l d/\(p=6->mh H l (B.pa i))
 apart:∀{i j:5}{p q:Bool}{d e:D}{l:Addr},i≠j->sd[i]?=! ! .own p d->sd[j]?=! ! .own q e->Z[i]?=! ! .ref l->Z[j]? ≠ ! ! .ref l
section
variable {K:W.Frag}
def mh.mono  (h:mh H l o)(k:∀u,H l=!u->c l=!u):mh c l o:=let(e,f,h2):=h;(e,f,k _ h2)
def RS.step(r:RS K B F H j Z)(e:Ext F H n s):RS K B n s j Z where
 ext:=r.ext.trans e
 len:=r.len
 val:=λh=>let(v,c,f):=r.val h;(v,c,jh.same e.ff _ _ f)
 own:=λh=>by
  let(-l,c,f,x,i,y):=r.own h;let(o,z):=i.has;exact(l,c,f,e.new l x (),i.ext e.ff λo q=>e.hh _ _ q,λp=>(y p).mono λu q=>e.hh _ _ q)
 apart:=r.apart
def Kh{α:Type}{l:List α} {a:α}(h:i≠j):(l.set i a)[j]?=l[j]?:=Zx h
def W8{α:Type}{l:List α} {a b:α}(h:(l.set i a)[i]?=!b):b=a/\i<l.length:=()
def RS.setVal   (r:RS K B F H u Z)(h:jh K F d v):RS K B F H (u.set i<|~~~d) (Z.set i<|!v)where
 ext:=r.ext
 len:=by rw[U9,U9,r.len]
 val:=λ{j e}q=>by
  by_cases z:i=j
  .subst z;let(c,E):=W8 q;cases c;exact(v,UO<|by rwa[r.len],h)
  .rw[Kh z]at q ⊢;exact r.val q
 own:=λ{j p e}q=>by
  by_cases z:i=j
  .subst z;let(c,_):=W8 q;cases c
  .rw[Kh z]at q ⊢;exact r.own q
 apart:=λ{j k G I J L l}n f o s=>by
  let x:i≠j:=λz=>by subst z;let(c,_):=W8 f;cases c
  let y:i≠k:=λz=>by subst z;let(c,_):=W8 o;cases c
  rw[Kh x]at f s;rw[Kh y]at o ⊢;exact r.apart n f o s
def RS.setOwn   (r:RS K B F H u Z)(G:B.H0 l=8)(I:F l=8)(h:yR K F H l d)(v:∀(j:5)p e,u[j]?=! ! SV.own p e->Z[j]? ≠ ! ! .ref l):
 RS K B F H (u.set i<|! .own 7 d) (Z.set i<|! .ref l)where
 ext:=r.ext
 len:=by rw[U9,U9,r.len]
 val:=λ{j e}q=>by
  by_cases z:i=j
  .subst z;let(s,_):=W8 q;cases s
  .rw[Kh z]at q ⊢;exact r.val q
 own:=λ{j p e}q=>by
  by_cases z:i=j
  .subst z;let(s,x):=W8 q;cases s;exact(l,UO<|by rwa[r.len],G,I,h,λz=>by cases z)
  .rw[Kh z]at q ⊢;exact r.own q
 apart:=λ{j k J L O Q m}n o c f=>by
  by_cases y:i=j
  .subst y;let(_,x):=W8 o;rw[Kh n]at c ⊢;rw[UO (by rwa[r.len])]at f;cases f;exact v k L Q c
  .rw[Kh y]at o f;by_cases E:i=k
   .subst E;let(_,x):=W8 c;rw[UO (by rwa[r.len])];intro e;cases e;exact v j J O o f
   .rw[Kh E]at c ⊢;exact r.apart n o c f
def RS.chg     (r:RS K B F H c Z)(f:c[i]?=! ! .own p d)(s:Z[i]?=! ! .ref l)(h:yR K F (jD H l o) l v):
 RS K B F (jD H l o) (c.set i<|! .own 7 v) Z:=by
 let(-l',x,G,I,_,_):=r.own f;rw[s]at x;cases x;let J:i<c.length:=by grind
 refine((r.ext.ff,Bv o r.ext.fh I,Bv o r.ext.hh G,r.ext.new),by rw[U9,r.len],λ{j e}q=>?_,λ{j p e}q=>?_,λ{j k y E d1 d2 m}n L O Q=>?_)
 .by_cases z:i=j
  .simp_all
  .rw[Kh z]at q;exact r.val q
 .by_cases z:i=j
  .simp_all
  .rw[Kh z]at q;let(-m,R,m2,S,T,U):=r.own q;let ne:m≠l:=λe=>r.apart z f q s (by rwa[<-e]);exact(m,R,m2,S,T.ext (.refl _) λu X=>by rwa[JI ne],λp=>(U p).mono λu X=>by rwa[JI ne])
 .let g:∀{j:5}{p:Bool}{e:D},(c.set i<|! .own 7 v)[j]?=! ! .own p e->∃Y e',c[j]?=! ! .own Y e':=by grind
  have(_,_,y):=g L;have(_,_,E):=g O;exact r.apart n y E Q
def RS.frz1   (r:RS K B F H y Z)(E:y[i]?=! ! .own p d):∃G,jk F G/\RS K B G H (y.set i<|~~~d) Z:=by
 let(-l,I,h0,J,L,_):=r.own E;let(o,e):=L.has;let O:i<y.length:=();let c:=KW J o;refine(jD F l o,c,(r.ext.ff.trans c,λb u q=>?_,r.ext.hh,λa f s=>?_),by rw[U9,r.len],λ{j x}q=>?_,λ{j p x}q=>?_,λ{j k p1 p2 d1 d2 m}n f s Q=>?_)
 .by_cases z:b=l
  .simp_all[JL]
  .rw[JI z]at q;exact r.ext.fh _ _ q
 .let z:a≠l:=by grind
  rw[JI z];exact r.ext.new a f s
 .by_cases z:i=j
  .subst z;let(R,_):=W8 q;cases R;exact(_,I,L.frz e J)
  .rw[Kh z]at q;have(v,S,T):=r.val q;exact(v,S,jh.same c _ _ T)
 .by_cases z:i=j
  .simp_all
  .rw[Kh z]at q;let(-m,U,m2,m3,X,Y):=r.own q;let ne:m≠l:=λe=>r.apart z E q I (by rwa[<-e]);exact(m,U,m2,by rwa[JI ne],X.ext c λu q'=>q',Y)
 .let z1:i≠j:=λz=>by simp_all
  let z2:i≠k:=λz=>by simp_all
  rw[Kh z1]at f;rw[Kh z2]at s;exact r.apart n f s Q
def qo:Yh->SD->SD
 |[],a=>a
 |i::is,a=>qo is (match a[i]? with
  |some (some<|.own _ d)=>a.set i (~~~d)
  |_=>a)
theorem RS.frz:∀c{F:Hp}{e:SD},RS K B F H e Z->∃f,jk F f/\RS K B f H (qo c e) Z
 |[],F,e,r=>(F,.refl _,r)
 |i::c,F,e,r=>by
  unfold qo
  split
  .rename_i p d h;let(s,j,l):=r.frz1 h;let(n,o,q):=RS.frz c l;exact(n,j.trans o,q)
  .exact RS.frz c r
end
def bZ(K:W.Frag)(F H:Hp)(c:Str)(fs:YC)(b:Value)(a:Option Addr):4:=
 ∃C,b=.ref C/\W.nsIn K mainGlobals c=! ! .ref C/\(fs=[]\/∃p n,fs=[.int n]/\a=!p/\F p=! u8 p n)
def XW(K:W.Frag)(E:XK)(F H:Hp)(c:Str)(fs:YC):4:=∀d a e b,Ext F H e b->bZ K e b c fs d a->E d a b
def XW.ext{K:W.Frag}    (h:XW K E F H c fs)(e:Ext F H f i):XW K E f i c fs:=λj a l n o q=>h j a l n (e.trans o) q
abbrev FE:=SD->Res D
abbrev FT:=SD->Res Bool
abbrev FA:=SD->Res YC
def yW(K:W.Frag)(F H:Hp)(Q:VK)(d:D):4:=∀v a b,Ext F H a b->jh K a d v->Q v b
def uB(F H:Hp)(Q:Bool->Hp->4)(b:Bool):4:=∀c a,Ext F H c a->Q b a
def eD(K:W.Frag)(F H:Hp)(Q:YB->Hp->4)(d:YC):4:=∀a b c,Ext F H b c->je K b d a->Q a c
def yG(K:W.Frag)(F H:Hp)(Q:VK)(d:D):4:=∀l a b,Ext F H a b->H l=8->a l=8->yR K a b l d->Q (.ref l) b
def tD(K:W.Frag)(E:XK)(f:FE):TE:=λZ H Q=>∃B F a,RS K B F H a Z/\(f a).need (yW K F H Q) (XW K E F H)
def k7(K:W.Frag)(E:XK)(f:FT):TT:=λZ H Q=>∃B F a,RS K B F H a Z/\(f a).need (uB F H Q) (XW K E F H)
def aO(K:W.Frag)(E:XK)(f:FA):TA:=λZ H Q=>∃B F a,RS K B F H a Z/\(f a).need (eD K F H Q) (XW K E F H)
def uL(K:W.Frag)(E:XK)(f:FE):TE:=λZ H Q=>∃B F a,RS K B F H a Z/\(f a).need (yG K F H Q) (XW K E F H)
abbrev QE(X:Cx)(E:XK)(e:Expr)(f:FE):4:=PE X e<|tD X.K E f
abbrev QT(X:Cx)(E:XK)(e:Expr)(f:FT):4:=PT X e<|k7 X.K E f
abbrev QW(X:Cx)(E:XK)(e:Expr)(f:FT):4:=PW X e<|k7 X.K E f
abbrev QA(X:Cx)(E:XK)(es:List Expr)(f:FA):4:=PA X es<|aO X.K E f
abbrev QN(X:Cx)(E:XK)(e:Expr)(f:FE):4:=PE X e<|uL X.K E f
def PE.weak   (h:PE X e t)(w:∀Z H Q,c Z H Q->t Z H Q):PE X e c:=λY s Z H Q I q=>h Y s Z H Q I<|w _ _ _ q
def PT.weak   (h:PT X e t)(w:∀Z H Q,c Z H Q->t Z H Q):PT X e c:=λY s Z H Q I q=>h Y s Z H Q I<|w _ _ _ q
def PW.weak   (h:PW X e t)(w:∀Z H Q,f Z H Q->t Z H Q):PW X e f:=λc Y s Z H Q I q=>h c Y s Z H Q I<|w _ _ _ q
def PA.weak   (h:PA X e t)(w:∀Z H Q,f Z H Q->t Z H Q):PA X e f:=λc Y s Z H Q I q=>h c Y s Z H Q I<|w _ _ _ q
def PS.weak   (h:PS X e t)(w:∀D Z H,c D Z H->t D Z H):PS X e c:=λY s Z H D I q=>h Y s Z H D I<|w _ _ _ q
def xh.weak   (h:xh X e t)(w:∀D Z H,c D Z H->t D Z H):xh X e c:=λY s Z H D I q=>h Y s Z H D I<|w _ _ _ q
def PI.weak   (h:PI X c e t)(w:∀Z H R,f Z H R->t Z H R):PI X c e f:=λY s Z H R I q=>h Y s Z H R I<|w _ _ _ q
section
variable {K:W.Frag}
def yW.ext  (h:yW K F H Q d)(e:Ext F H c f):yW K c f Q d:=λv i j l q=>h v i j (e.trans l) q
def uB.ext  (h:uB F H Q b)(e:Ext F H c f):uB c f Q b:=λi j l=>h i j<|e.trans l
def yG.ext  (h:yG K F H Q d)(e:Ext F H c f):yG K c f Q d:=λl i j n q=>h l i j (e.trans n)<|Qa e.hh q
def DM {r:Res D}(h:r.need (yW K F H Q) (XW K E F H))(e:Ext F H a b):r.need (yW K a b Q) (XW K E a b):=h.mono (λ_ q=>q.ext e) λ_ _ q=>q.ext e
def HQ {r:Res Bool}(h:r.need (uB F H Q) (XW K E F H))(e:Ext F H a b):r.need (uB a b Q) (XW K E a b):=h.mono (λ_ q=>q.ext e) λ_ _ q=>q.ext e
def DN {r:Res D}(h:r.need (yG K F H Q) (XW K E F H))(e:Ext F H a b):r.need (yG K a b Q) (XW K E a b):=h.mono (λ_ q=>q.ext e) λ_ _ q=>q.ext e
theorem yW.new  (h:yW K F H Q d):yG K F H Q d:=λl f i e n c o=>by
 let(u,j):=o.has;refine h (.ref l) (jD f l u) i (e.ff.trans<|KW c u,λb v q=>?_,e.hh,λa p r=>?_)<|o.frz j c
 .by_cases z:b=l
  .simp_all[JL]
  .rw[JI z]at q;exact e.fh _ _ q
 .let z:a≠l:=by grind
  rw[JI z];exact e.new a p r
end
section
def j6  (h:QN X E e f):QE X E e f:=PE.weak h λZ H Q=>qy λB F c=>jF λr n=>ji B F c (r,n.mono (λ_ q=>q.new) λ_ _ q=>q)
def ja(i:5):FE:=λsd=>match sd[i]? with
 |some (~~~d)=>.ok d
 |_=>.no
def dC(d:D):FE:=λ_=>.ok d
def BI   (h:PE X e (tC v))(i:∀F,jh X.K F d v):QE X E e (dC d):=PE.weak h λZ H Q=>qy λB F a=>jF λr n=>n v F H (.refl r.ext.fh)<|i F
def JA :QE X E (.Constant (.int i) j a) (dC<|.int i):=BI (λ_ _ _ H _ I h=>wpAny_Constant_int (.int i,H,I.tok _,(_,9),h)) λ_=>jg.mpr 9
def Ki :QE X E (.Constant (.bool b) j a) (dC<|.bl b):=BI (λ_ _ _ H _ I h=>Constant_bool (.bl b,H,I,9,h)) λ_=>jz.mpr 9
def Ko :QE X E (.Constant (.str x) j a) (dC<|.str x):=BI Di λ_=>jt.mpr 9
def Res.ofO{α:Type}:Option α->Res α
 |some a=>.ok a
 |none=>.no
@[simp]def vJ (a:α):Res.ofO (!a)=.ok a:=rfl
@[simp]def vK :Res.ofO (8:Option α)=.no:=rfl
def jj    (h:(Res.ofO o).need p q):∃a,o=!a/\p a:=by
 cases o with
 |none=>calc h.elim
 |some a=>exact(a,9,h)
def jm(g:D->D->YD)(a b:FE):FE:=λsd=>(a sd).bind λx=>(b sd).bind λy=>.ofO<|g x y
def qC(g:D->YD)(a:FE):FE:=λb=>(a b).bind λx=>.ofO<|g x
def uw(K:W.Frag)(g:D->D->YD):R2:=λv w H Q=>∃F d e z,jk F H/\jh K F d v/\jh K F e w/\g d e=!z/\yW K F H Q z
def rG(K:W.Frag)(g:D->D->YD):R2:=λv w H Q=>∃F d e z,jk F H/\jh K F d v/\jh K F e w/\g d e=!z/\yG K F H Q z
def da(K:W.Frag)(g:D->YD):V->Hp->VK->4:=λv H Q=>∃F d z,jk F H/\jh K F d v/\g d=!z/\yW K F H Q z
def wR(K:W.Frag)(g:YC->YD):YB->Hp->VK->4:=λb H Q=>∃F a z,jk F H/\je K F a b/\g a=!z/\yW K F H Q z
def wQ(K:W.Frag)(g:YC->YD):YB->Hp->VK->4:=λb H Q=>∃F a z,jk F H/\je K F a b/\g a=!z/\yG K F H Q z
def Ak{K:W.Frag}     (h:tD K E (jm g d e) Z H Q):kt (uw K g) (tD K E d) (tD K E e) Z H Q:=by
 let(B F c,r,n):=h;calc ji B F c (r,(Res.need_bind n).mono (λx f v i s a j=>ji B i c (r.step a,(Res.need_bind f).mono (λy l w m t b o=>?_) λ_ _ q=>q.ext a)) λ_ _ q=>q);let(z,p,q):=jj l;exact qb m x y z (b.fh,jh.same b.ff _ _ j,o,p,q.ext<|a.trans b)
abbrev yV(X:Cx)(f:Value->Value->Sem Value)(g:D->D->YD):4:=yj X f<|uw X.K g
abbrev bS(X:Cx)(f:Value->Value->Sem Value)(g:D->D->YD):4:=yj X f<|rG X.K g
def yj.weak  (h:yj X f r)(w:∀x y H Q,c x y H Q->r x y H Q):yj X f c:=λY s Z H x y v u Q I e i q=>h Y s Z H x y v u Q I e i<|w _ _ _ _ q
def u7.weak  (h:u7 X f r)(w:∀x H Q,c x H Q->r x H Q):u7 X f c:=λY s Z H x v Q I e q=>h Y s Z H x v Q I e<|w _ _ _ q
def qq.weak  (h:qq X f r)(w:∀x H Q,c x H Q->r x H Q):qq X f c:=λY s Z H x v Q I e q=>h Y s Z H x v Q I e<|w _ _ _ q
def zV.weak (h:zV X r)(w:∀x y H Q,i x y H Q->r x y H Q):zV X i:=λc f Y s Z H x y v u Q I j l q e=>h c f Y s Z H x y v u Q I j l (w _ _ _ _ q) e
variable  {fa fb:FE}
def jL  (c:yV X (binaryOp d) g)(e:QE X E a fa)(f:QE X E b fb):QE X E (.BinOp a d b i) (jm g fa fb):=PE.weak (Dk c e f) λ_ _ _ h=>Ak h
def kT  (f:bS X (binaryOp i) g)(j:QE X E a fa)(l:QE X E b fb):QN X E (.BinOp a i b m) (jm g fa fb):=PE.weak (Dk f j l) λ_ _ _ h=>by
 let(B F e,r,n):=h;calc ji B F e (r,(Res.need_bind n).mono (λx o v p G c s=>ji B p e (r.step c,(Res.need_bind o).mono (λy t w u H d A=>?_) λ_ _ q=>q.ext c)) λ_ _ q=>q);let(z,C,q):=jj t;exact qb u x y z (d.fh,jh.same d.ff _ _ s,A,C,q.ext<|c.trans d)
def wf  (d:u7 X (unaryOp e) (da X.K g))(f:QE X E a fa):QE X E (.UnaryOp e a i) (qC g fa):=PE.weak (λY s Z H Q I h=>UnaryOp_<|jS (f Y s Z H _ I h) λv j=>j8 λx b=>jC λl m o=>d Y j Z b x v Q l m o) λ_ _ _ h=>by
 let(B F p,r,n):=h;calc ji B F p (r,(Res.need_bind n).mono (λx t v u b c w=>?_) λ_ _ q=>q);let(z,y,q):=jj t;exact ji u x z (c.fh,w,y,q.ext c)
def Y3  (d:yV X (compareOp c) g)(e:QE X E a fa)(f:QE X E b fb)(i:behindInMarks c b=7):QE X E (.Compare a [c] [b] j) (jm g fa fb):=PE.weak (λY s Z H Q I h=>wpAny_Compare1 (u6 e f I h λv u l x y m n o p q=>d Y l Z m x y v u Q n o p q) i) λ_ _ _ h=>Ak h
def JC(fa:FE):FT:=λsd=>(fa sd).bind λx=>match x with
 |.bl b=>.ok b
 |_=>.no
def Am{K:W.Frag}   (h:k7 K E (JC fa) Z H Q):tD K E fa Z H λx b=>∃k,x=.bl k/\Q k b:=by
 let(B F c,r,n):=h;calc ji B F c (r,(Res.need_bind n).mono (λx a v d e f g=>?_) λ_ _ q=>q);cases x with
 |bl k=>calc(k,jz.mp g,a d e f)
 |_=>exact a.elim
def Qu  (d:yV X (compareOp c) g)(e:QE X E a fa)(f:QE X E b fb)(i:behindInMarks c b=7):QT X E (.Compare a [c] [b] j) (JC<|jm g fa fb):=
 PT.weak (Dl d e f i) λZ H Q h=>have h:=Am h;Ak h
def Kq(c:QE X E a fa)(e:∀b,isTrue a X.env b=(do let v<-b;standAt a.pos;holding [v] (truthy v)):=by intro _;rfl):QT X E a (JC fa):=PT.weak (by
 intro Y s Z H Q I f;calc isTrue_plain (jS (c Y s Z H _ I f) λv l=>j8 λx g=>jC λh i j=>?_)<|e _;let(d,rfl,q):=j;cases i;calc wpAny_truthy_bool (g,h,q)) λZ H Q q=>Am q
def Q8(f:FT):FT:=λsd=>(f sd).bind λb=>.ok<|not b
def BJ(f g:FT):FT:=λa=>(f a).bind λb=>if b then g a else .ok 7
def yx(f g:FT):FT:=λa=>(f a).bind λb=>if b then .ok 6 else g a
variable {f g:FT}
def KZ(b:QT X E a f):QT X E (.UnaryOp .Not a d) (Q8 f):=PT.weak (λY s Z H Q I h=>isTrue_not<|b Y s Z H (λc e=>Q (not c) e) I h) λZ H Q=>qy λB F i=>jF λr n=>
 ji B F i (r,(Res.need_bind n).mono (λ_ q=>q) λ_ _ q=>q)
def R5(b:QT X E a f):QW X E (.BoolOp .And [a] d) f:=by
 intro i Y s Z H Q I h;calc isTrue_and<|jS (b Y s Z H Q I h) λc j e=>?_;cases c with
 |true=>calc isTrue_and_nil e
 |false=>exact e
def An(b:QT X E a f):QW X E (.BoolOp .Or [a] d) f:=by
 intro i Y s Z H Q I h;calc isTrue_or<|jS (b Y s Z H Q I h) λc j e=>?_;cases c with
 |false=>calc isTrue_or_nil e
 |true=>exact e
def R6(j:QT X E a f)(l:QW X E (.BoolOp .And (b::rest) c) g):QW X E (.BoolOp .And (a::b::rest) c) (BJ f g):=PW.weak (Op j l) λZ H Q m=>by
 let(B F e,r,n):=m;calc ji B F e (r,(Res.need_bind n).mono (λk h i o d=>?_) λ_ _ q=>q);cases k with
 |true=>calc ji B i e (r.step d,HQ h d)
 |false=>exact h i o d
def Y4(j:QT X E a f)(l:QW X E (.BoolOp .Or (b::rest) c) g):QW X E (.BoolOp .Or (a::b::rest) c) (yx f g):=PW.weak (kZ j l) λZ H Q m=>by
 let(B F e,r,n):=m;calc ji B F e (r,(Res.need_bind n).mono (λk h i o d=>?_) λ_ _ q=>q);cases k with
 |true=>calc h i o d
 |false=>exact ji B i e (r.step d,HQ h d)
def yT (h:QW X E e f):QT X E e f:=bR h
def Wb(fa fb:FE):FE:=λa=>(JC fa a).bind λb=>if b then fb a else .ok (.bl 7)
def DO(fa:FE):FE:=λa=>(JC fa a).bind λb=>.ok<|.bl<|not b
def BK (h:QE X E a fa):QE X E (.BoolOp d [a] b) fa:=λY s Z H Q I c=>BoolOp_one<|h Y s Z H Q I c
def Ao(j:QE X E a fa)(l:QE X E (.BoolOp .And (b::rest) c) fb):QE X E (.BoolOp .And (a::b::rest) c) (Wb fa fb):=PE.weak (Oq j l) λZ H Q m=>by
 let(B F e,r,n):=m;calc Am<|ji B F e (r,(Res.need_bind n).mono (λk h i o d=>?_) λ_ _ q=>q);cases k with
 |true=>calc ji B i e (r.step d,DM h d)
 |false=>exact h _ i o d<|jz.mpr 9
def kU(e:QE X E a fa):QE X E (.UnaryOp .Not a i) (DO fa):=PE.weak (by
 intro Y s Z H Q I h;calc UnaryOp_<|jS (e Y s Z H _ I h) λv u=>j8 λx b=>jC λj l d=>?_;let(c,rfl,d):=d;cases l;calc not_of<|wpAny_truthy_bool (.bl<|not c,b,j,9,d)) λZ H Q=>qy λB F m=>jF λr n=>Am<|ji B F m (r,(Res.need_bind n).mono (λk o p b t=>o _ p b t<|jz.mpr 9) λ_ _ q=>q)
def jd:FA:=λ_=>.ok []
def J1(fa:FE)(a:FA):FA:=λsd=>(fa sd).bind λx=>(a sd).bind λb=>.ok<|x::b
def J6:QA X E [] jd:=PA.weak VZ λZ H Q=>qy λB F a=>jF λr n=>n [] F H (.refl r.ext.fh) .nil
def J3    (h:QE X E e i)(j:QA X E a l)(m:starEach (e::a) X.env=%[7|eval e X.env]::starEach a X.env:=by rfl):QA X E (e::a) (J1 i l):=
 PA.weak (Wa h j m) λZ H Q=>qy λB F c=>jF λr n=>ji B F c (r,(Res.need_bind n).mono (λx o v p z b s=>ji B p c (r.step b,(Res.need_bind o).mono (λA t C u w d y=>t _ u w (b.trans d)<|.mk (jh.same d.ff _ _ s) y) λ_ _ q=>q.ext b)) λ_ _ q=>q)
def xb(b:FA):FE:=λc=>(b c).bind λa=>if a.length<=1000 then .ok (.lst a)else .no
def qJ(b:FA):FE:=λc=>(b c).bind λa=>if a.length<=1000 then .ok (.tup a)else .no
def KE  (h:QA X E i j):QN X E (.List i l) (xb j):=PE.weak (Dq h) λZ H Q m=>by
 let(B F o,r,n):=m;refine ji B F o (r,(Res.need_bind n).mono (λu b d s t a e=>?_) λ_ _ q=>q)
 split at b
 .let v:=e.length;exact(Qt (),λp c=>b p s (jD t p<|.lst d) (a.trans<|.keep a.fh c _) (Qa a.hh c) (Qa a.fh c) (d,JL,e))
 .exact b.elim
def WS   (h:QA X E i j):QE X E (.Tuple i t l) (qJ j):=PE.weak (Go h) λZ H Q m=>by
 let(B F o,r,n):=m;refine ji B F o (r,(Res.need_bind n).mono (λu a b v w c d=>?_) λ_ _ q=>q)
 split at a
 .let x:=d.length;calc(Qt (),λp s=>?_);let e:=Ext.alloc c.fh s<|.tup b;exact a _ _ _ (c.trans e)<|jy.mpr (p,b,9,.of JL,je.same e.ff _ _ d)
 .exact a.elim
def zD(K:W.Frag)(b:YC->Res D):Sp:=λc H Q _=>∃F a,jk F H/\je K F a c/\(b a).need (yW K F H Q) (XW K E0 F H)
def wI(K:W.Frag)(b:YC->Res D):Sp:=λc H Q _=>∃F a,jk F H/\je K F a c/\(b a).need (yG K F H Q) (XW K E0 F H)
def J8(a:YC->Res D)(b:FA):FE:=λsd=>(b sd).bind a
def qE        (c:wD X.prog X.w X.K X.mg X.base a k G (zD X.K j))(m:Room k X.A)(o:Gl X a)(s:QA X E0 (e::b) t)
 (d:(a==("__debug__":Str))=7:=by decide)(u:starEach (e::b) X.env=%[7|eval e X.env]::starEach b X.env:=by rfl)(h:(backTo i<|starEach b X.env).any (·.1)=7:=by rfl):
 QE X E0 (.Call (.Name a p) (e::b) [] i) (J8 j t):=PE.weak (XV c m o s d u h) λZ H Q v=>by
 let(B F w,r,n):=v;calc ji B F w (r,(Res.need_bind n).mono (λx y z A C l E=>?_) λ_ _ q=>q);show zD X.K j (z++[]) C Q E0;rw[ZA];exact(A,x,l.fh,E,DM y l)
def Ap        (c:wD X.prog X.w X.K X.mg X.base a k G (wI X.K j))(m:Room k X.A)(o:Gl X a)(s:QA X E0 (e::b) t)
 (d:(a==("__debug__":Str))=7:=by decide)(u:starEach (e::b) X.env=%[7|eval e X.env]::starEach b X.env:=by rfl)(h:(backTo i<|starEach b X.env).any (·.1)=7:=by rfl):
 QN X E0 (.Call (.Name a p) (e::b) [] i) (J8 j t):=PE.weak (XV c m o s d u h) λZ H Q v=>by
 let(B F w,r,n):=v;calc ji B F w (r,(Res.need_bind n).mono (λx y z A C l E=>?_) λ_ _ q=>q);show wI X.K j (z++[]) C Q E0;rw[ZA];exact(A,x,l.fh,E,DN y l)
def jq(g:YC->YD)(a:FA):FE:=λsd=>(a sd).bind λb=>.ofO<|g b
def Qc{id:String}    {g:YC->YD} (i:qq X (.builtin id) (wR X.K g))(j:Gl X x)(l:X.mg x=8)(m:bootBuiltins x=! .builtin id)(o:QA X E (e::a) s)(t:x ≠"__name__":=by decide)(b:(x==("__debug__":Str))=7:=by decide)
 (u:starEach (e::a) X.env=%[7|eval e X.env]::starEach a X.env:=by rfl)(c:(backTo d<|starEach a X.env).any (·.1)=7:=by rfl):QE X E (.Call (.Name x p) (e::a) [] d) (jq g s):=
 PE.weak (ZV i j l m o t b u c) λZ H Q v=>by
  let(B F w,r,n):=v;calc ji B F w (r,(Res.need_bind n).mono (λy A J C L h G=>?_) λ_ _ q=>q);let(z,I,q):=jj A;exact ji C y z (h.fh,G,I,q.ext h)
def HS{id:String}    {g:YC->YD} (i:qq X (.builtin id) (wQ X.K g))(j:Gl X x)(l:X.mg x=8)(m:bootBuiltins x=! .builtin id)(o:QA X E (e::a) s)(t:x ≠"__name__":=by decide)(b:(x==("__debug__":Str))=7:=by decide)
 (u:starEach (e::a) X.env=%[7|eval e X.env]::starEach a X.env:=by rfl)(c:(backTo d<|starEach a X.env).any (·.1)=7:=by rfl):QN X E (.Call (.Name x p) (e::a) [] d) (jq g s):=
 PE.weak (ZV i j l m o t b u c) λZ H Q v=>by
  let(B F w,r,n):=v;calc ji B F w (r,(Res.need_bind n).mono (λy A J C L h G=>?_) λ_ _ q=>q);let(z,I,q):=jj A;exact ji C y z (h.fh,G,I,q.ext h)
def WT     {g:YC->YD} (i:qq X (.type T) (wR X.K g))(j:Gl X x)(l:X.mg x=8)(m:bootBuiltins x=! .type T)(o:QA X E (e::a) s)(t:x ≠"__name__":=by decide)(b:(x==("__debug__":Str))=7:=by decide)
 (u:starEach (e::a) X.env=%[7|eval e X.env]::starEach a X.env:=by rfl)(c:(backTo d<|starEach a X.env).any (·.1)=7:=by rfl):QE X E (.Call (.Name x p) (e::a) [] d) (jq g s):=
 PE.weak (Ds i j l m o t b u c) λZ H Q v=>by
  let(B F w,r,n):=v;calc ji B F w (r,(Res.need_bind n).mono (λy A J C L h G=>?_) λ_ _ q=>q);let(z,I,q):=jj A;exact ji C y z (h.fh,G,I,q.ext h)
def X0     {g:YC->YD} (i:qq X (.type T) (wQ X.K g))(j:Gl X x)(l:X.mg x=8)(m:bootBuiltins x=! .type T)(o:QA X E (e::a) s)(t:x ≠"__name__":=by decide)(b:(x==("__debug__":Str))=7:=by decide)
 (u:starEach (e::a) X.env=%[7|eval e X.env]::starEach a X.env:=by rfl)(c:(backTo d<|starEach a X.env).any (·.1)=7:=by rfl):QN X E (.Call (.Name x p) (e::a) [] d) (jq g s):=
 PE.weak (Ds i j l m o t b u c) λZ H Q v=>by
  let(B F w,r,n):=v;calc ji B F w (r,(Res.need_bind n).mono (λy A J C L h G=>?_) λ_ _ q=>q);let(z,I,q):=jj A;exact ji C y z (h.fh,G,I,q.ext h)
def Uk:D->Bool
 |.tup _=>7
 |.lst _=>7
 |.dct _ _=>7
 |.ins _ _ _=>7
 |.exc _=>7
 |.exr _ _=>7
 |.dcf _ _=>7
 |.pin _ _=>7
 |.scr _=>7
 |_=>6
def jh.scal{K:W.Frag}   (s:Uk d=6)(h:jh K F d v):jh K c d v:=by
 cases d with
 |tup _=>calc JF s
 |lst _=>calc JF s
 |dct _ _=>calc JF s
 |ins _ _ _=>calc JF s
 |exc _=>calc JF s
 |exr _ _=>calc JF s
 |dcf _ _=>calc JF s
 |pin _ _=>calc JF s
 |scr _=>calc JF s
 |_=>exact h
def Res.bare{α:Type}(r:Res α):Res α:=match r with
 |.ok a=>.ok a
 |.ex c []=>.ex c []
 |_=>.no
def yP {K:W.Frag} {r:Res α} (e:jk F H)(h:r.bare.need p (XW K E0 F H)):r.need p (XW K E0 q H):=by
 cases r with
 |ok a=>calc h
 |no=>calc h
 |ex c fs=>
  cases fs with
  |nil=>calc λi a s j l=>yf λC=>jC λn o _=>h i 8 F j (.grow e l.hh) (C,n,o,.inl 9)
  |cons d r=>exact h.elim
def zU(a:Yh)(f:FE):FE:=λb=>(f<|qo a b).bare.bind λd=>if Uk d then .ok d else .no
def Aq  (is)(h:QE X E0 e b):QE X E0 e (zU is b):=PE.weak h λZ H Q i=>by
 let(B F t,r,n):=i;let(j,u,l):=r.frz is;refine ji B j _ (l,(yP r.ext.fh<|Res.need_bind n).mono (λd a v w m o p=>?_) λc fs q=>q)
 split at a
 .rename_i s;exact a v F m (.grow r.ext.fh o.hh)<|p.scal s
 .exact a.elim
end
inductive Out where
 |next(sd:SD)|ret(d:D)|brk(sd:SD)|cont(sd:SD)
def n9(K:W.Frag)(F H:Hp)(Q:VK)(d:D):4:=if Uk d=6 then yW K F H Q d else yG K F H Q d
def BL(K:W.Frag)(m:Option Bool)(B:Bs)(Q:VK)(d:D):4:=match m with
 |some true=>yG K B.F0 B.H0 Q d
 |some false=>yW K B.F0 B.H0 Q d
 |none=>n9 K B.F0 B.H0 Q d
def zN(K:W.Frag)(m:Option Bool)(B:Bs)(F:Hp)(T:Ends):Out->4
 |.next c=>∀Z a b,jk F a->RS K B a b c Z->T.nx Z b
 |.brk c=>∀Z a b,jk F a->RS K B a b c Z->T.bk Z b
 |.cont c=>∀Z a b,jk F a->RS K B a b c Z->T.ct Z b
 |.ret d=>BL K m B T.rt d
abbrev FS:=SD->Res Out
def uK(K:W.Frag)(E:XK)(m:Option Bool)(g:FS):TS:=λT Z H=>∃B F a,RS K B F H a Z/\(g a).need (zN K m B F T) (XW K E B.F0 B.H0)
abbrev QS(X:Cx)(E:XK)(m:Option Bool)(st:Stmt)(g:FS):4:=PS X st<|uK X.K E m g
abbrev wx(X:Cx)(E:XK)(m:Option Bool)(st:List Stmt)(g:FS):4:=xh X st<|uK X.K E m g
section
variable {K:W.Frag}
def zN.mono (h:zN K m B F T o)(e:jk F j):zN K m B j T o:=by
 cases o with
 |next i=>calc λZ c f s r=>h Z c f (e.trans s) r
 |brk i=>calc λZ c f s r=>h Z c f (e.trans s) r
 |cont i=>calc λZ c f s r=>h Z c f (e.trans s) r
 |ret d=>exact h
end
section
variable  {E:XK}  {st:Stmt}  {g g1 g2:FS}
def Qz:FS:=λsd=>.ok<|.next sd
def jN(g1 g2:FS):FS:=λb=>(g1 b).bind λo=>match o with
 |.next a=>g2 a
 |o=>.ok o
def Kr:wx X E m [] Qz:=xh.weak ZQ λT Z H=>qy λB F a=>jF λr n=>n Z F H (.refl _) r
def JJ(h:QS X E m st g):wx X E m [st] g:=Bm h
def JV(e:QS X E m st g1)(f:wx X E m c g2):wx X E m (st::c) (jN g1 g2):=xh.weak (XO e f) λT Z H h=>by
 let(B F i,r,n):=h;calc ji B F i (r,(Res.need_bind n).mono (λo b=>?_) λ_ _ q=>q);cases o with
 |next a=>calc λp j t s l=>ji B j a (l,b.mono (λo q=>q.mono s) λ_ _ q=>q)
 |ret d=>calc b
 |brk a=>calc b
 |cont a=>exact b
def X1(is)(h:QS X E m st g):QS X E m st λa=>g<|qo is a:=PS.weak h λT Z H b=>by
 let(B F a,r,n):=b;let(c,d,e):=r.frz is;exact ji B c _ (e,n.mono (λ_ q=>q.mono d) λ_ _ q=>q)
def uv:FS:=λa=>.ok<|.brk a
def R7:QS X E m (.Break a) uv:=PS.weak (λ_ _ Z H _ I h=>wpAny_Break (Z,H,I,h)) λT Z H=>qy λB F b=>jF λr n=>n Z F H (.refl _) r
def jE(i:5)(f:FE):FS:=λsd=>(f sd).bind λd=>.ok<|.next<|sd.set i<|~~~d
def qD(i:5)(f:FE):FS:=λa=>(f a).bind λd=>.ok<|.next<|a.set i<|! .own 7 d
def Q9   (f:X.N.Nodup)(h:X.N[i]?=!x)(j:zr X.env.scope x)(l:QE X E e o)(p:swapsWith e (! .Name x a) b.line X.env=pure 7:=by rfl)
 (s:X.fn x=6\/X.env.scope.names.lookup x=!.local:=by trivial):QS X E m (.Assign [.Name x a] e b) (jE i o):=PS.weak (XQ f h j l p s) λT Z H=>qy λB F t=>jF λr n=>ji B F t (r,(Res.need_bind n).mono (λd u v w y c z=>u _ w y c.ff<|(r.step c).setVal z) λ_ _ q=>q.ext r.ext)
def Ks   (f:X.N.Nodup)(h:X.N[i]?=!x)(s:zr X.env.scope x)(t:QN X E e u)(v:swapsWith e (! .Name x a) b.line X.env=pure 7:=by rfl)
 (w:X.fn x=6\/X.env.scope.names.lookup x=!.local:=by trivial):QS X E m (.Assign [.Name x a] e b) (qD i u):=PS.weak (XQ f h s t v w) λT Z H y=>by
 let(B F z,r,n):=y;calc ji B F z (r,(Res.need_bind n).mono (λd A l C G c I J L=>A _ C G c.ff<|(r.step c).setOwn (Qa r.ext.hh I) J L λj p O M P=>?_) λ_ _ q=>q.ext r.ext);let(-Q,R,_,_,N,_):=r.own M;let(o,S):=N.has
 simp_all
def jP(f:FE):FS:=λsd=>(f sd).bind λd=>.ok<|.ret d
def Q4(a:QE X E e b):QS X E 7 (.Return (!e) c) (jP b):=PS.weak (ZR a) λT Z H=>qy λB F f=>jF λr n=>ji B F f (r,(Res.need_bind n).mono (λd h v i j l m=>h v i j (r.ext.trans l) m) λ_ _ q=>q.ext r.ext)
def WU(a:QN X E e b):QS X E 6 (.Return (!e) c) (jP b):=PS.weak (ZR a) λT Z H=>qy λB F f=>jF λr n=>ji B F f (r,(Res.need_bind n).mono (λd h l i j m o p s=>h l i j (r.ext.trans m) (Qa r.ext.hh o) p s) λ_ _ q=>q.ext r.ext)
def KM(i:5):FS:=λa=>match a[i]? with
 |some (some<|.own _ d)=>.ok (.ret d)
 |_=>.no
def BM (a:PE X e (yI i)):QS X E 6 (.Return (!e) b) (KM i):=PS.weak (ZR a) λT Z H c=>by
 let(B F o,r,n):=c;unfold KM at n
 split at n
 .rename_i d q;let(-l,f,h,j,m,_):=r.own q;exact(.ref l,f,n l F H r.ext h j m)
 .exact n.elim
def Ar(f:FE):FS:=λa=>(f a).bind λ_=>.ok<|.next a
def yc(c:FT)(g1 g2:FS):FS:=λsd=>(c sd).bind λb=>if b then g1 sd else g2 sd
def Kt   (i:QT X E c j)(l:wx X E m a g1)(o:wx X E m b g2):QS X E m (.If c a b p) (yc j g1 g2):=PS.weak (Bn i l o) λT Z H s=>by
 let(B F e,r,n):=s;calc ji B F e (r,(Res.need_bind n).mono (λb f h t d=>?_) λ_ _ q=>q.ext r.ext);cases b with
 |true=>calc(B,h,e,r.step d,f.mono (λ_ q=>q.mono d.ff) λ_ _ q=>q)
 |false=>exact ji B h e (r.step d,f.mono (λ_ q=>q.mono d.ff) λ_ _ q=>q)
def Wc(i:5)(f:FE):FS:=λa=>match a[i]? with
 |some (some<|.own false<|.lst b)=>(f a).bind λd=>if b.length<sizeLine then .ok (.next<|a.set i<|!(.own 7<|.lst<|b++[d]))else .no
 |_=>.no
def DP   (J:PE X o (yI i))(L:QE X E e x)
 (M:∀{y:TE}{t:TA},PE X o y->PA X [e] t->PE X (.Call (.Attribute o "append" a) [e] [] b) (uu X.K "list" XT y t))
 (N:swapsWith (.Call (.Attribute o "append" a) [e] [] b) 8 j.line X.env=pure 7:=by rfl)
 (p:starEach [e] X.env=%[7|eval e X.env]::starEach [] X.env:=by rfl):QS X E m (.Expr (.Call (.Attribute o "append" a) [e] [] b) j) (Wc i x):=
 PS.weak (XP (M J<|J3 L J6 p) N) λT Z H O=>by
  let(B F z,r,n):=O;unfold Wc at n
  split at n
  .rename_i U A;let(-l,C,Y,h3,(s,G,I),_):=r.own A;calc(.ref l,C,.inl (9,s,xo.of G),B,F,z,r,?_);unfold J1 jd;let f:=Res.need_bind n;cases q:x z with
   |no=>rwa[q]at f
   |ex c fs=>rw[q]at f;calc f.ext r.ext
   |ok d=>
    rw[q]at f;intro vs P H1 h Q;let(v,w,rfl,R,S):=Q;subst S;let u:=f
    split at u
    .let hl:=I.length;exact ji l s v (9,9,h.hh _ _ G,(),u Z P _ h.ff<|(r.step h).chg A C (s++[v],JL,(je.same h.ff _ _ I).snoc R))
    .exact u.elim
  .exact n.elim
def Y5(i:5)(f:FE):FS:=λsd=>match sd[i]? with
 |some (some<|.own false<|.lst ds)=>(f sd).bind λd=>match d with
  |.lst a=>if ds.length+a.length<=sizeLine then .ok (.next<|sd.set i<|!(.own 7<|.lst<|ds++a))else .no
  |_=>.no
 |_=>.no
def R8   (J:PE X o (yI i))(L:QN X E e M)
 (N:∀{u:TE}{t:TA},PE X o u->PA X [e] t->PE X (.Call (.Attribute o "extend" a) [e] [] c) (uu X.K "list" G0 u t))
 (O:swapsWith (.Call (.Attribute o "extend" a) [e] [] c) 8 h.line X.env=pure 7:=by rfl)
 (j:starEach [e] X.env=%[7|eval e X.env]::starEach [] X.env:=by rfl):QS X E m (.Expr (.Call (.Attribute o "extend" a) [e] [] c) h) (Y5 i M):=
 PS.weak (XP (N J<|Wa L VZ j) O) λT Z H P=>by
  let(B F v,r,n):=P;unfold Y5 at n
  split at n
  .rename_i w x;let(-l,y,U,Y,(p,z,A),_):=r.own x;calc(.ref l,y,.inl (9,p,xo.of z),B,F,v,r,(Res.need_bind n).mono (λd C b Q H1 f i1 i2 R=>?_) λ_ _ q=>q.ext r.ext);cases d with
   |lst G=>
    have(I,g1,g2):=R;let s:(if w.length+G.length<=sizeLine then Res.ok (Out.next<|v.set i<|!(.own 7<|.lst<|w++G))else .no).need (zN X.K m B F T) (XW X.K E B.F0 B.H0):=C
    split at s
    .let hl:=A.length;let S:=g2.length;exact qb l b p I (9,9,f.hh _ _ z,g1,(),s Z Q _ f.ff<|(r.step f).chg x y (p++I,JL,(je.same f.ff _ _ A).append g2))
    .calc s.elim
   |_=>exact C.elim
  .exact n.elim
inductive Tg where
 |one(i:Nat)|tup(is:Yh)
def setAll:Yh->YC->SD->SD
 |i::is,d::b,a=>setAll is b (a.set i<|~~~d)
 |_,_,a=>a
def JW:Tg->D->SD->Res SD
 |.one i,d,a=>.ok (a.set i<|~~~d)
 |.tup is,.tup b,a=>if b.length=is.length then .ok (setAll is b a)else .no
 |_,_,_=>.no
def BN:Yh->YB->St->St
 |i::is,v::a,Z=>BN is a (Z.set i<|!v)
 |_,_,Z=>Z
theorem RS.setAll{K:W.Frag}{B:Bs}{F H:Hp}:∀{is:Yh}{f:YC}{c:YB}{e:SD}{Z:St},RS K B F H e Z->je K F f c->RS K B F H (setAll is f e) (BN is c Z)
 |[],f,c,e,Z,r,_=>r
 |i::is,[],c,e,Z,r,h=>by
  subst h;calc r
 |i::is,d::f,c,e,Z,r,h=>by
  let(v w,rfl,j,l):=h;exact RS.setAll (is:=is) (r.setVal j) l
def RS.forget{K:W.Frag}    (r:RS K B F H e Z)(f:c.length=e.length)(h:∀(i:5)x,c[i]?=! !x->e[i]?=! !x):RS K B F H c Z:=
 (r.ext,by rw[r.len,f],λq=>r.val<|h _ _ q,λq=>r.own<|h _ _ q,λn j l o=>r.apart n (h _ _ j) (h _ _ l) o)
def gT:Tg->W.Frag->TG
 |.one i,_=>V7 i
 |.tup is,K=>λv Z H Q=>∃a b,v=.ref a/\zk K H a b/\b.length=is.length/\Q (BN is b Z) H
def X2{K:W.Frag}          (r:RS K B F H e Z)(o:jh K F d v)(n:(JW l d e).need p q)
 (h:∀b s,p b->JW l d e=.ok b->RS K B F H b s->Q s H):gT l K v Z H Q:=by
 cases l with
 |one i=>calc h _ _ n 9<|r.setVal o
 |tup f=>
  cases d with
  |tup j=>
   let(a,u,rfl,w,t):=o;let c:JW (.tup f) (.tup j) e=if j.length=f.length then .ok (setAll f j e)else .no:=9
   by_cases m:j.length=f.length
   .rw[Zd m]at c;rw[c]at n;exact(a,u,9,(w.same r.ext.fh).sq,by rw[t.length,m],h _ _ n c<|r.setAll t)
   .rw[Ze m]at c;rw[c]at n;calc n.elim
  |_=>exact n.elim
abbrev QG(X:Cx)(e:Expr)(tg:Tg):4:=PG X e<|gT tg X.K
def vH(K:W.Frag)(h:Hp)(J:It)(b:YC):4:=∀(i:5)(c a:Hp),jk h c->jk c a->
 (i<b.length->J.go i a/\∀x e,J.yld i a x e->∃d f,b[i]?=!d/\Ext c a f e/\jh K f d x)/\(b.length<=i->J.stop i a)
def k8(K:W.Frag)(E:XK)(f:FA):TI:=λZ H R=>∃B F a,RS K B F H a Z/\(f a).need (λd=>∀J b c,Ext F H b c->vH K b J d->R J c) (XW K E F H)
abbrev QI(X:Cx)(E:XK)(tg iter:Expr)(f:FA):4:=PI X tg iter<|k8 X.K E f
def zf(b:D->FS):YC->FS
 |[],c=>.ok (.next c)
 |x::e,c=>(b x c).bind λo=>match o with
  |.next a=>zf b e a
  |.cont a=>zf b e a
  |.brk a=>.ok (.next a)
  |.ret d=>.ok (.ret d)
def qT(c:FA)(d:Tg)(b:FS):FS:=λa=>(c a).bind λe=>zf (λx a=>(JW d x a).bind b) e a
def Ku    (hp:PassesOwn (model X.prog X.w) X.A X.env X.xe)(hc:X.calm=6)(R:QI X E S f fi)(hg:QG X S t)(hb:wx X E m u g)
 (C:∀x,foldedSetIterable f X.env x=pure x:=by intro _;rfl):QS X E m (.For S f u [] pos) (qT fi t g):=PS.weak (Bp hp hc R hg hb C) λT Z H zh=>by
 let(B F a,r,n):=zh;refine ji B F a (r,(Res.need_bind n).mono (λb n1 J G H1 U wk=>(λi k Z H=>k=b.length-i/\i<=b.length/\∃p a,jk G p/\RS X.K B p H a Z/\(zf (λx a=>(JW t x a).bind g) (b.drop i) a).need (zN X.K m B p T) (XW X.K E B.F0 B.H0),
  (b.length,9,Uc _,G,a,.refl _,r.step U,n1.mono (λ_ q=>q.mono U.ff) λ_ _ q=>q),?_)) λ_ _ q=>q.ext r.ext)
 rintro i k Z2 Y ⟨rfl,R,p,sd2,I,L,v⟩;let(w1,w2):=wk i p Y I L.ext.fh;by_cases h:i<b.length
 .let(go,yl):=w1 h;refine .inr (go,λM H'=>∃j c,jk G j/\RS X.K B j H' c M/\(zf (λx a=>(JW t x a).bind g) (b.drop<|i+1) c).need (zN X.K m B j T) (XW X.K E B.F0 B.H0),
   λM H'=>j8 λj c=>jC λq1 q2 q3=>(b.length-(i+1),(),9,h,j,c,q1,q2,q3),λx H3 y=>?_)
  let(d j,hd,s,i3):=yl x H3 y;rw[Uj h]at v;let N:b[i]=d:=by simp_all
  rw[N]at v;calc X2 (L.step s) i3 (Res.need_bind<|Res.need_bind v) λO M n4 _ r4=>ji B j O (r4,n4.mono (λo A=>?_) λ_ _ q=>q);cases o with
  |next e=>calc λP w Q l z=>(w,e,(I.trans s.ff).trans l,z,A.mono (λ_ q=>q.mono<|s.ff.trans l) λ_ _ q=>q)
  |cont e=>calc λP w Q l z=>(w,e,(I.trans s.ff).trans l,z,A.mono (λ_ q=>q.mono<|s.ff.trans l) λ_ _ q=>q)
  |brk e=>calc λP w Q l z=>A P w Q (s.ff.trans l) z
  |ret d=>exact A
 .let he:i=b.length:=()
  calc .inl (w2 (),?_);subst he;rw[UT]at v;exact v Z2 p Y (.refl _) L
def yM{α β:Type}(f:α->Res β):List α->Res (List β)
 |[]=>.ok []
 |x::a=>(f x).bind λy=>(yM f a).bind λb=>.ok<|y::b
def jZ(cap:List (Option 5))(a:SD):SD:=cap.map λo=>o.bind λj=>match a[j]? with
 |some (~~~d)=>~~~d
 |_=>8
def W9(a:SD)(i:5):Bool:=match a[i]? with
 |some none=>6
 |_=>7
def KN(a:SD):Tg->Bool
 |.one i=>W9 a i
 |.tup is=>is.all (W9 a)
def Qf(cap:List (Option 5))(b:FA)(a:Tg)(f:FE):FE:=λsd=>(b sd).bind λds=>if KN (jZ cap sd) a=6/\ds.length<sizeLine then
 (yM (λx=>(JW a x<|jZ cap sd).bind f) ds).bind λc=>.ok<|.lst c else .no
theorem RS.cap{K:W.Frag}    (cap:List (Option 5))(r:RS K B F H n Z):RS K B F H (jZ cap n) (Wt cap Z):=by
 let c:∀{i:5}{x:SV},(jZ cap n)[i]?=! !x->∃j d,cap[i]?=! !j/\n[j]?=!~~~d/\x=.val d:=λ{i x}q=>by
  unfold jZ at q;rw[Zv]at q;cases y:cap[i]? with
  |none=>rw[y]at q;calc J7 q
  |some o=>
   rw[y]at q;cases o with
   |none=>cases q
   |some j=>
    let q:(match n[j]? with
     |some (~~~d)=>! SV.val d
     |_=>8)=!x:=Zqi q
    split at q
    .rename_i d G;exact(j,d,9,G,(Zqi q).symm)
    .exact J7 q
 refine(r.ext,by unfold jZ Wt;rw[Zql,Zql],λ{i d}q=>?_,λ{i p d}q=>?_,λ{i j p L d e l}_ q=>?_)
 .let(j z,s,u,f):=c q;cases f;let(v,I,J):=r.val u;calc(v,?_,J);unfold Wt;rw[Zv,s];show some (Option.bind (!j) λj=>(Z[j]?).join)=_;rw[Option.bind_some,I];rfl
 .let(j z,s,u,f):=c q;cases f
 .let(j z,s,u,f):=c q;cases f
theorem DQ:∀c e a b,c.all (W9 a)=6->b.length=a.length->(∀(i:5)x,a[i]?=! !x->b[i]?=! !x)->
 (setAll c e b).length=a.length/\∀(i:5)x,a[i]?=! !x->(setAll c e b)[i]?=! !x
 |[],e,a,b,_,hl,h=>(hl,h)
 |i::c,[],a,b,_,hl,h=>(hl,h)
 |i::c,d::e,a,b,hn,hl,h=>by
  rw[U0,Ui]at hn;calc DQ c e a (b.set i<|~~~d) hn.2 (by rw[U9,hl]) λj x q=>?_;let ne:i≠j:=λz=>by
   subst z;let:=hn.1;unfold W9 at this;rw[q]at this;exact JF this
  rw[Kh ne];exact h j x q
def BO   (j:KN a e=6)(h:JW e d a=.ok f):a.length=f.length/\∀(i:5)x,a[i]?=! !x->f[i]?=! !x:=by
 cases e with
 |one i=>
  cases h;let:=DQ [i] [d] a a (by rwa[U0,List.all_nil,Bool.and_true]) 9 λ_ _ q=>q;calc(this.1.symm,this.2)
 |tup b=>
  cases d with
  |tup c=>
   let l:JW (.tup b) (.tup c) a=if c.length=b.length then .ok (setAll b c a)else .no:=9
   rw[l]at h
   split at h
   .cases h;let:=DQ b c a a j 9 λ_ _ q=>q;exact(this.1.symm,this.2)
   .cases h
  |_=>cases h
def HU  {a:List α}  {p:List β->4} (l:a[i]?=!x)(h:(yM f<|a.drop i).need p q):(f x).need (λy=>(yM f<|a.drop<|i+1).need (λc=>p<|y::c) q) q:=by
 let b:i<a.length:=();rw[Uj b]at h;let e:a[i]=x:=by simp_all
 rw[e]at h;exact(Res.need_bind h).mono (λy d=>(Res.need_bind d).mono (λc j=>j) λ_ _ z=>z) λ_ _ z=>z
def HV{K:W.Frag}       (o:uL K E (Qf cap O t f) Z H Q):Xt cap (k8 K E O) (gT t K) (tD K E f) Z H Q:=by
 let(B F p,r,n):=o;refine ji B F p (r,(Res.need_bind n).mono (λb s J M P m wk=>?_) λ_ _ q=>q)
 split at s
 .rename_i o;let(R,hz):=o;refine(λi k u Z c=>k=b.length-i/\i<=b.length/\∃a e,Ext M P a c/\RS K B a c (jZ cap p) Z/\je K a e u/\e.length=i/\
   (yM (λx=>(JW t x<|jZ cap p).bind f)<|b.drop i).need (λw=>yG K a c Q<|.lst<|e++w) (XW K E a c),(b.length,9,Uc _,M,[],.refl m.fh,(r.step m).cap cap,.nil,9,?_),?_)
  .exact(Res.need_bind s).mono (λw q=>(q).ext m) λ_ _ q=>q.ext m
  rintro i k u Z2 c ⟨rfl,hi,a,e,z,A,C,hl,G⟩;let ly:=C.length;calc((),?_);let(S,T):=wk i a c z.ff z.fh;by_cases j:i<b.length
  .let(go,U):=S j;calc .inr (go,λx X y=>?_);let(d Y,hd,h,i3):=U x X y;let n3:=HU hd G;let r3:=A.step h;calc X2 r3 i3 (Res.need_bind n3) λI Z' n4 hb N=>?_;let(b1,b2):=BO R hb;calc ji B Y I (N,n4.mono (λy n5 v F4 H4 l i4=>(b.length-(i+1),(),9,j,F4,e++[y],(z.trans h).trans l,(N.step l).forget b1 b2,(je.same (h.ff.trans l.ff) _ _ C).snoc i4,(),n5.mono (λw q=>?_) λ_ _ q=>q.ext<|h.trans l)) λ_ _ q=>q.ext h);rw[Ug];exact q.ext<|h.trans l
  .let he:i=b.length:=()
   subst he;calc .inl (T<|Zf _,λD L=>?_);rw[UT]at G;let q:yG K a c Q (.lst<|e++[]):=G;rw[ZA]at q;exact q D a _ (.keep A.ext.fh L _) L (Qa A.ext.fh L) (u,JL,C)
 .exact s.elim
def Kv     (N)(cap)(l:X.calm=6)(c:Kg a X.env N X.N cap=6)(m:QI X E j b n)
 (o:∀d C s H e,QG (JM X a N d C s H e) j t)(p:∀d C s H e,QE (JM X a N d C s H e) E i f)(q:∀x,foldedSetIterable b X.env x=pure x:=by intro _;rfl):
 QN X E (.ListComp i [(j,b,[],0)] a r) (Qf cap n t f):=PE.weak (GJ N cap l c m o p q) λ_ _ _ h=>HV h
def JT(n:5)(a:YC):SD:=a.map (λd=>~~~d)++List.replicate (n-a.length) 8
def qu(n ar:5)(g:FS)(a:YC):Res D:=if a.length=ar then(g<|JT n a).bind λo=>match o with
 |.ret d=>.ok d
 |.next _=>.ok .non
 |_=>.no else .no
def qF(n ar:5)(g:FS)(a:YC):Res D:=if a.length=ar then(g<|JT n a).bind λo=>match o with
 |.ret d=>.ok d
 |_=>.no else .no
theorem RS.start{K:W.Frag}{F H:Hp}{N:Yi}{f:YC}{o:YB}(s:jk F H)(h:je K F f o):RS K (F,H,λ_=>8) F H (JT N.length f) (start N o):=by
 let c:∀{i:5}{x:SV},(JT N.length f)[i]?=! !x->∃d,f[i]?=!d/\x=.val d:=λ{i x}q=>by
  unfold JT at q;by_cases r:i<f.length
  .rw[UY (by rwa[Zql]),Zv,Zqg r]at q;exact(f[i],Zqg r,(Zqi<|Zqi q).symm)
  .rw[UK (by rw[Zql];lia),List.getElem?_replicate]at q
   split at q<;>(first|calc J7 q|cases q)
 refine(.refl s,by unfold JT L2.start;simp[h.length],λ{i d}q=>?_,λ{i p d}q=>?_,λ{i j p B d e l}_ q=>?_)
 .let(G,y,n):=c q;cases n;let(v,u,z):=h.get y;calc(v,?_,z);unfold L2.start;rw[UY (by rw[Zql];calc(Jd.mp u).1),Zv,u];rfl
 .let(_,_,n):=c q;cases n
 .let(_,_,n):=c q;cases n
section
variable   {K:W.Frag}
def yw (F:Fun K x c st f m)(S:FnScope N j (JP st))
 (p:∀b A a s H E,Room k (A.deeper<|envOfC c (JP st) s.heap.objs.size f b)->wx (qp yo P w K t e N c (JP st) f b A a s H E).nox E0 7 (QP st) g):
 FnOk P w K t e yo (k+1) f m j (zD K<|qu N.length j.length g):=by
 refine F.ok S (λu H Q E=>j8 λF v=>jC λ_ h n=>?_) λb A a s H u Q E y=>j8 λF v=>jC λz h n=>(_,p b A a s H E y,?_)
 .unfold qu at n
  split at n
  .rw[h.length];lia
  .exact n.elim
 .unfold qu at n
  split at n
  .calc ji (F,H,λ_=>8) F _ (RS.start z h,(Res.need_bind n).mono (λo i=>?_) λ_ _ q=>q);cases o with
   |next l=>calc λZ B C _ r=>i .non B C r.ext<|jB.mpr 9
   |ret d=>calc i
   |brk l=>calc i.elim
   |cont l=>exact i.elim
  .exact n.elim
def zT (F:Fun K x c st f m)(S:FnScope N j (JP st))
 (p:∀b A a s H E,Room k (A.deeper<|envOfC c (JP st) s.heap.objs.size f b)->wx (qp yo P w K r e N c (JP st) f b A a s H E).nox E0 6 (QP st) g):
 FnOk P w K r e yo (k+1) f m j (wI K<|qF N.length j.length g):=by
 refine F.ok S (λt H Q E=>j8 λF u=>jC λ_ h n=>?_) λb A a s H t Q E v=>j8 λF u=>jC λy h n=>(_,p b A a s H E v,?_)
 .unfold qF at n
  split at n
  .rw[h.length];lia
  .exact n.elim
 .unfold qF at n
  split at n
  .calc ji (F,H,λ_=>8) F _ (RS.start y h,(Res.need_bind n).mono (λo i=>?_) λ_ _ q=>q);cases o with
   |next l=>calc i.elim
   |ret d=>calc i
   |brk l=>calc i.elim
   |cont l=>exact i.elim
  .exact n.elim
end
end
def qB(p:3×3):D:=.tup [.int p.1,.int p.2]
def js(r:Jz):D:=.tup<|r.map qB
def BP:D->Option (3×3)
 |.tup [.int i,.int j]=>!%[i|j]
 |_=>8
def QF{α:Type}(f:D->Option α):YC->Option (List α)
 |[]=>![]
 |d::a=>(f d).bind λx=>(QF f a).map λb=>x::b
def Um:D->Option Jz
 |.tup a=>QF BP a
 |_=>8
def Au:D->Option 3
 |.int i=>!i
 |_=>8
theorem Av{α β:Type}{f:D->Option α}{g:β->D}{k:β->α}(h:∀x,f (g x)=! k x):∀l:List β,QF f (l.map g)=! l.map k
 |[]=>9
 |x::r=>by rw[Zl];unfold QF;rw[h,Av h r];rfl
theorem Aw  {g:α->D}(h:∀d x,f d=!x->d=g x):∀{a:YC}{l:List α},QF f a=!l->a=l.map g
 |[],l,e=>by cases e;rfl
 |d::a,l,e=>by
  unfold QF at e;cases b:f d with
  |none=>simp_all
  |some x=>
   cases c:QF f a with
   |none=>simp_all
   |some i=>
    rw[b,c]at e;obtain rfl:=Zqi e;rw[Zl,<-h d x b,<-Aw h c]
def R9(p):BP (qB p)=!p:=rfl
def RA  (h:BP d=!p):d=qB p:=by
 cases d with
 |tup a=>
  cases a with
  |nil=>calc J7 h
  |cons x a=>
   cases x with
   |int i=>
    cases a with
    |nil=>calc J7 h
    |cons y a=>
     cases y with
     |int j=>
      cases a with
      |nil=>obtain rfl:=Zqi h;rfl
      |cons _ _=>calc J7 h
     |_=>calc J7 h
   |_=>calc J7 h
 |_=>exact J7 h
def HW(r):Um (js r)=!r:=by
 show QF BP (r.map qB)=!r;rw[Av (k:=id) R9,List.map_id]
def HX  (h:Um d=!r):d=js r:=by
 cases d with
 |tup a=>unfold js;rw[<-Aw (λ_ _=>RA) h]
 |_=>exact J7 h
def RB  (h:Au d=!i):d=.int i:=by
 cases d with
 |int j=>cases h;rfl
 |_=>exact J7 h
def RC  (h:QF Au a=!l):a=l.map D.int:=Aw (λ_ _=>RB) h
def RE(l):QF Au (l.map D.int)=!l:=by
 rw[Av (f:=Au) (λ_=>9) l,List.map_id']
def DR(l):QF Um (l.map js)=!l:=by rw[Av (k:=id) HW,List.map_id]
def DS  (h:QF Um a=!l):a=l.map js:=Aw (λ_ _=>HX) h
section
variable {K:W.Frag}
def tL  :jh K H (qB p) v↔Is H (pD p) v:=by
 rfl
theorem uV:∀{r:Jz}{a:YB},je K H (r.map qB) a↔qK H (r.map pD) a
 |[],a=>by rfl
 |p::r,a=>by
  constructor
  .rintro⟨x,w,rfl,b,c⟩;exact(x,w,9,tL.mp b,uV.mp c)
  .intro h;let(x w,e,b,c):=h;exact(x,w,e,tL.mpr b,uV.mpr c)
def nE  :jh K H (js r) v↔Is H (rD r) v:=by
 constructor
 .rintro⟨a,b,e,c,d⟩;exact(a,b,e,c,uV.mp d)
 .rintro⟨a,b,e,c,d⟩;exact(a,b,e,c,uV.mpr d)
theorem vp:∀{r:J0}{a:YB},je K H (r.map js) a↔qK H (r.map rD) a
 |[],a=>by rfl
 |p::r,a=>by
  constructor
  .rintro⟨x,w,rfl,b,c⟩;exact(x,w,9,nE.mp b,vp.mp c)
  .intro h;let(x w,e,b,c):=h;exact(x,w,e,nE.mpr b,vp.mpr c)
end
section
variable {X:Cx}
def gI(f:3->3->D):D->D->YD
 |.int i,.int j=>! f i j
 |_,_=>8
def uQ(c:3->3->Bool)(f:3->3->D):D->D->YD
 |.int i,.int j=>if c i j then ! f i j else 8
 |_,_=>8
def BQ   (o:yj X h (rF g))(b:∀i j F,jh X.K F (f i j) (g i j)):yV X h (gI f):=yj.weak o λx y H Q c=>by
 let(F d e z,l,id,m,a,q):=c;cases d with
 |int i=>
  cases e with
  |int j=>cases a;calc(i,j,jg.mp id,jg.mp m,q _ F H (.refl l)<|b i j F)
  |_=>calc J7 a
 |_=>exact J7 a
def Ax     (o:yj X h (rI C g))(l:∀i j,c i j=6->C i j)(m:∀i j F,jh X.K F (f i j) (g i j)):yV X h (uQ c f):=yj.weak o λx y H Q n=>by
 let(F d e z,p,id,r,a,q):=n;cases d with
 |int i=>
  cases e with
  |int j=>
   let a:(if c i j then ! f i j else 8)=!z:=a
   split at a
   .rename_i b;cases a;exact(i,j,jg.mp id,jg.mp r,l i j b,q _ F H (.refl p)<|m i j F)
   simp_all
  |_=>calc J7 a
 |_=>exact J7 a
def z8(i)(F):jh X.K F (.int i) (.int i):=jg.mpr 9
def zY(b)(F):jh X.K F (.bl b) (.bl b):=jz.mpr 9
def za:=gI λi j=>.int<|i-j
def yz:5:=10715086071862673209484250490600018105614048117055336074437503883703510511249361224931983788156958581275946729175531468251871452856923140435984577574698574803934567774824230985421074605062371141877954182153046474983581941267398767559165543946077062914571196477686542167660429831652624386837205668069376
def WV(i j:3):Bool:=Uv i.natAbs 18446744073709551616||Uv j.natAbs 18446744073709551616||Uv i.natAbs yz&&Uv j.natAbs yz
def HY (h:k.natAbs<yz):Builtin.Int.intBits k<=2^20:=by
 let e:yz<=2^1000:=VC 9;let a:k.natAbs<2^1000:=Zg h e;unfold Builtin.Int.intBits
 split
 .exact Uc _
 .let l:k.natAbs.log2<1000:=by
   rcases Vo k.natAbs with h0|hp
   .rw[h0];decide
   .exact(Nat.log2_lt<|UW hp).mpr a
  let e:(2:5)^20=1048576:=by decide
  lia
def zb:=uQ WV λi j=>.int<|i*j
def Ay:=uQ (λ_ j=>Uv 0 j.toNat&&Uv j.toNat 1073741824) λi j=>.int<|i/j
def zc:=uQ (λ_ j=>Uv 0 j.toNat) λi j=>.int<|i%j
def yu:=uQ (λi j=>Nat.ble (-j).toNat 0&&(Nat.ble j.toNat 1000000&&Uv i.natAbs 18446744073709551616)) λi j=>.int<|i^j.toNat
def sx:=gI λi j=>.bl<|decide<|i<j
def fB:=gI λi j=>.bl<|decide<|i<=j
def wa:=gI λi j=>.bl<|decide<|j<i
def Az:yV X (binaryOp .Sub) za:=BQ (gu λ_ _ _ _ _ _ _ q=>sub_int q) λ_ _ F=>z8 _ F
def A0:yV X (binaryOp .Mult) zb:=Ax (gv λ_ _ _ _ _ _ _ hc q=>mul_int q<|by
 unfold WV at hc;rw[Vv,Vv,Ui,UU,UU,UU,UU]at hc;rcases hc with(hc|hc)|⟨a,h2⟩
 .exact .of_left<|intBits_le_64 () ()
 .exact .of_right<|intBits_le_64 () ()
 .calc .of_bits (HY a)<|HY h2) (λi j h=>h) λ_ _ F=>z8 _ F
def HZ:yV X (binaryOp .FloorDiv) Ay:=Ax O0 λi j h=>by simp_all[me] λ_ _ F=>z8 _ F
def X3:yV X (binaryOp .Mod) zc:=Ax O1 () λ_ _ F=>z8 _ F
def Y6:yV X (binaryOp .Pow) yu:=Ax O2 λi j h=>by simp_all[ma] λ_ _ F=>z8 _ F
def rL:yV X (compareOp .Lt) sx:=BQ (u0 λ_ _ _ _ _ _ _ q=>lt_int q) λ_ _ F=>zY _ F
def rM:yV X (compareOp .LtE) fB:=BQ (u0 λ_ _ _ _ _ _ _ q=>le_int q) λ_ _ F=>zY _ F
def zy:yV X (compareOp .Gt) wa:=BQ (u0 λ_ _ _ _ _ _ _ q=>gt_int q) λ_ _ F=>zY _ F
def xC:D->YD
 |.int i=>!(.int<|-i)
 |_=>8
def Y7:u7 X (unaryOp .USub) (da X.K xC):=u7.weak (aI λ_ _ _ _ _ q=>neg_int q) λx H Q b=>by
 let(F d z,c,id,a,q):=b;cases d with
 |int i=>cases a;calc(i,jg.mp id,q _ F H (.refl c)<|z8 _ F)
 |_=>exact J7 a
def jG:D->D->YD
 |.int i,.int j=>!(.int<|i+j)
 |.str x,.str y=>if x.length+y.length<=sizeLine then !(.str<|x++y)else 8
 |.tup a,.tup b=>if a ≠[]/\b ≠[]/\a.length+b.length<=sizeLine then !(.tup<|a++b)else 8
 |.lst a,.lst b=>if a.length+b.length<=sizeLine then !(.lst<|a++b)else 8
 |_,_=>8
def kO(K:W.Frag):R2:=λx y H Q=>∃l b a c,x=.ref l/\y=.ref b/\xN K H l a/\xN K H b c/\a.length+c.length<=sizeLine/\∀p,H p=8->Q (.ref p) (jD H p<|.lst<|a++c)
def Ia:yj X (binaryOp .Add) (kO X.K):=by
 intro Y s Z H x y v u Q I f g h;let(l b w z,rfl,rfl,i,j,A,q):=h;obtain rfl:=f;obtain rfl:=g;let(_,c,n,d,m):=i.ok I.hok;let(_,a,B,e,o):=j.ok I.hok;let p:=d.length;let r:=e.length;calc PySem.P.add_list m o ?_ ();let t:c.toArray++a.toArray=(c++a).toArray:=by simp
 rw[t];exact(.ref _,_,I.lnew (d.append e) (),9,q _ I.fresh)
def Qq:yV X (binaryOp .Add) jG:=by
 intro Y s Z H x y v u Q I o r(F,d,e,z,f,id,t,c,q);cases d with
 |int i=>
  cases e with
  |int j=>cases c;calc(gu λ_ _ _ _ _ _ _ q=>add_int q) Y s Z H x y v u Q I o r (i,j,jg.mp id,jg.mp t,q _ F H (.refl f)<|z8 _ F)
  |_=>calc J7 c
 |str a=>
  cases e with
  |str b=>
   let c:(if a.length+b.length<=sizeLine then !(D.str<|a++b)else 8)=!z:=c
   split at c
   .rename_i G;cases c;exact O3 Y s Z H x y v u Q I o r (a,b,jt.mp id,jt.mp t,G,q _ F H (.refl f)<|jt.mpr 9)
   simp_all
  |_=>calc J7 c
 |tup a=>
  cases e with
  |tup b=>
   let c:(if a ≠[]/\b ≠[]/\a.length+b.length<=sizeLine then !(D.tup<|a++b)else 8)=!z:=c
   split at c
   .obtain rfl:=Zqi c;let(w,g,rfl,A,l):=id;let(B,h,rfl,C,m):=t;let J:=l.length;let L:=m.length;let M:g ≠[]:=by grind
    let N:h ≠[]:=by grind
    calc OQ Y s Z H _ _ v u Q I o r<|qb w B g h (9,9,(A.same f).sq,(C.same f).sq,M,(),λz=>Zn z N,λ_ p E=>?_);let n:=Ext.alloc f E<|.tup<|g++h;exact q _ _ _ n<|jy.mpr (p,_,9,.of JL,je.same n.ff _ _<|l.append m)
   simp_all
  |_=>calc J7 c
 |lst a=>
  cases e with
  |lst b=>
   let c:(if a.length+b.length<=sizeLine then !(D.lst<|a++b)else 8)=!z:=c
   split at c
   .obtain rfl:=Zqi c;let(w,g,rfl,A,l):=id;let(B,h,rfl,C,m):=t;let J:=l.length;let L:=m.length;calc Ia Y s Z H _ _ v u Q I o r<|qb w B g h (9,9,A.same f,C.same f,(),λp E=>?_);let n:=Ext.alloc f E<|.lst<|g++h;exact q _ _ _ n<|jl.mpr (p,_,9,.of JL,je.same n.ff _ _<|l.append m)
   simp_all
  |_=>calc J7 c
 |_=>exact J7 c
mutual
def yH:D->PyData
 | .non=>.none
 | .bl b=>.bool b
 | .int i=>.int i
 | .str x=>.str x
 | .tup a=>.tuple (Wu a)
 | .lst a=>.list (Wu a)
 | .ty _=>.none
 | .scr _=>.none
 | .dct _ _=>.none
 | .ins _ _ _=>.none
 | .exc _=>.none
 | .exr _ _=>.none
 | .ucl _=>.none
 | .adr _=>.none
 | .dcf _ _=>.none
 | .pin _ _=>.none
def Wu:YC->List PyData
 | []=>[]
 |d::a=>yH d::Wu a
end
def qM:5->D->Bool
 |0,_=>7
 |_+1,.int _=>6
 |_+1,.str x=>PyData.strOk x
 |_+1,.non=>6
 |n+1,.tup a=>a.all (qM n)
 |n+1,.lst a=>a.all (qM n)
 |_+1,_=>7
def Y8:∀n d,qM n d=6->(yH d).canLay0=6/\(yH d).depth<=n:=λn=>by
 induction n with
 |zero=>intro _ h;calc JF h
 |succ n b=>
  intro d h;let all:∀a:YC,a.all (qM n)=6->PyData.canLayAll0 (Wu a)=6/\PyData.depthAll (Wu a)<=n:=by
   intro a
   induction a with
   |nil=>intro _;calc(9,Uc _)
   |cons d a c=>
    intro h;rw[U0,Ui]at h;let(e,f):=b d h.1;let(g,j):=c h.2;exact(Jr.mpr (e,g),Nat.max_le.mpr (f,j))
  cases d with
  |int i=>calc(9,Uc _)
  |str i=>calc(h,Uc _)
  |non=>calc(9,Uc _)
  |tup a=>calc((all a h).1,Vz (all a h).2)
  |lst a=>calc((all a h).1,Vz (all a h).2)
  |_=>exact JF h
def D.ne{d e:D}(h:(d.ctorIdx==e.ctorIdx)=7):¬d=e:=λq=>by
 simp_all
def DU:∀n d e,qM n d=6->qM n e=6->(PyData.eqv (yH d) (yH e)=6↔d=e):=λn=>by
 induction n with
 |zero=>intro _ _ h;calc JF h
 |succ n f=>
  intro d e h c;let all:∀b a:YC,b.all (qM n)=6->a.all (qM n)=6->(PyData.eqvAll (Wu b) (Wu a)=6↔b=a):=by
   intro b
   induction b with
   |nil=>
    intro a _ _;cases a with
    |nil=>calc iff_of_true 9 9
    |cons e a=>calc Zs Zj ()
   |cons d b g=>
    intro a l m;cases a with
    |nil=>calc Zs Zj ()
    |cons e a=>
     show(PyData.eqv (yH d) (yH e)&&PyData.eqvAll (Wu b) (Wu a))=6↔_
     simp_all
  cases d with
  |int i=>
   cases e with
   |int j=>calc(λq=>Zt D.int<|Yp.mp q,λq=>Yp.mpr<|D.int.inj q)
   |str _=>calc Zs Zj<|D.ne 9
   |non=>calc Zs Zj<|D.ne 9
   |tup _=>calc Zs Zj<|D.ne 9
   |lst _=>calc Zs Zj<|D.ne 9
   |_=>calc JF c
  |str i=>
   cases e with
   |str j=>calc(λq=>Zt D.str<|of_decide_eq_true q,λq=>Zp<|D.str.inj q)
   |int _=>calc Zs Zj<|D.ne 9
   |non=>calc Zs Zj<|D.ne 9
   |tup _=>calc Zs Zj<|D.ne 9
   |lst _=>calc Zs Zj<|D.ne 9
   |_=>calc JF c
  |non=>
   cases e with
   |non=>calc iff_of_true 9 9
   |int _=>calc Zs Zj<|D.ne 9
   |str _=>calc Zs Zj<|D.ne 9
   |tup _=>calc Zs Zj<|D.ne 9
   |lst _=>calc Zs Zj<|D.ne 9
   |_=>calc JF c
  |tup b=>
   cases e with
   |tup a=>calc(all b a h c).trans ()
   |int _=>calc Zs Zj<|D.ne 9
   |str _=>calc Zs Zj<|D.ne 9
   |non=>calc Zs Zj<|D.ne 9
   |lst _=>calc Zs Zj<|D.ne 9
   |_=>calc JF c
  |lst b=>
   cases e with
   |lst a=>calc(all b a h c).trans ()
   |int _=>calc Zs Zj<|D.ne 9
   |str _=>calc Zs Zj<|D.ne 9
   |non=>calc Zs Zj<|D.ne 9
   |tup _=>calc Zs Zj<|D.ne 9
   |_=>calc JF c
  |_=>exact JF h
theorem X4  {K:W.Frag}  (ok:xp P w H h):∀n d v u,qM n d=6->jh K H d v->j4 v u->∃l,Reads h u (yH d) l
 |0,_,_,_,p,_,_=>JF p
 |n+1,d,v,u,p,q,r=>by
  let all:∀b f s,b.all (qM n)=6->je K H b f->j1 f s->∃l,ReadsAll h s (Wu b) l:=by
   intro b
   induction b with
   |nil=>
    intro f s _ y g;subst y;cases g;calc(_,.nil)
   |cons d b C=>
    intro f s z y g;rw[U0,Ui]at z;let(x,E,rfl,m,F):=y;cases g with
    |cons G I=>
     let(l,A):=X4 ok n d x _ z.1 m G;let(bs,J):=C E _ z.2 F I;exact(_,.cons A J)
  cases d with
  |int i=>
   subst q;let(t,rfl):=r;calc(_,.int i t)
  |str x=>
   subst q;let(t,rfl):=r;calc(_,.str x t)
  |non=>
   subst q;obtain rfl:=r;calc(_,.none)
  |tup b=>
   let(a,f,rfl,g,m):=q;obtain rfl:=r;let(_,j,B,o,e,c,L,M):=ok a _ g;let(l,A):=all b f j p m B;calc(_,.tuple e c M ())
  |lst b=>
   let(a,f,rfl,g,m):=q;obtain rfl:=r;let(_,j,L,B,e):=g.ok ok;let(l,A):=all b f j p m B;calc(_,.list e 9 9 ())
  |_=>exact JF p
section
open Classical
def Q5(d e:D):Bool:=decide<|d=e
def A1(d):Q5 d d=6:=Zp 9
def nJ :Q5 d e=6↔d=e:=decide_eq_true_iff
def ml :Q5 d e=7↔d≠e:=decide_eq_false_iff_not
def qk:D->D->YD
 |.bl a,.bl b=>!(.bl<|a==b)
 |d,e=>if qM 12 d&&qM 12 e then !(.bl<|Q5 d e)else 8
def wG:D->D->YD
 |.bl a,.bl b=>!(.bl<|a !=b)
 |d,e=>if qM 12 d&&qM 12 e then !(.bl<|not<|Q5 d e)else 8
end
def A4 (a:qM 12 d=6)(b:qM 12 e=6):qk d e=!(.bl<|Q5 d e):=by
 unfold qk
 split
 .exact JF a
 simp_all
def Ib (a:qM 12 d=6)(b:qM 12 e=6):wG d e=!(.bl<|not<|Q5 d e):=by
 unfold wG
 split
 .exact JF a
 simp_all
def RF(i j):qk (.int i) (.int j)=!(.bl<|decide<|i=j):=by
 rw[A4 9 9];by_cases h:i=j
 .simp_all[A1]
 .rw[Zo h,ml.mpr ()]
def RG(i j):wG (.int i) (.int j)=!(.bl<|not<|decide<|i=j):=by
 rw[Ib 9 9];by_cases h:i=j
 .simp_all[A1]
 .rw[Zo h,ml.mpr ()]
def xx(p:X.A.units+64<cLine):yV X (compareOp .Eq) qk:=by
 intro Y s Z H x y v u Q I i j(F,d,e,z,g,id,h,f,q);unfold qk at f
 split at f
 .rename_i a b;obtain rfl:=Zqi f;refine gt Y s Z H x y v u Q I i j (?_,?_)
  .rw[jz.mp id,jz.mp h];rfl
  .rw[jz.mp id,jz.mp h];calc q _ F H (.refl g) ?_;cases a<;>cases b<;>rfl
 .split at f
  .rename_i c;rw[Ui]at c;obtain rfl:=Zqi f;let(r,l):=X4 I.hok 12 d x v c.1 (jh.same g _ _ id) i;let(bs,m):=X4 I.hok 12 e y u c.2 (jh.same g _ _ h) j;have(n,t):=Y8 12 d c.1;have(o,w):=Y8 12 e c.2;calc PySem.SeqAt.compareEq_reads l m n o () ?_;rw[Vf.mpr<|(DU 12 d e c.1 c.2).trans nJ.symm];exact(.bl _,H,I,9,q _ F H (.refl g)<|zY _ F)
  simp_all
def u2(p:X.A.units+64<cLine):yV X (compareOp .NotEq) wG:=by
 intro Y s Z H x y v u Q I i j(F,d,e,z,g,id,h,f,q);unfold wG at f
 split at f
 .rename_i a b;obtain rfl:=Zqi f;refine gr Y s Z H x y v u Q I i j (?_,?_)
  .rw[jz.mp id,jz.mp h];rfl
  .rw[jz.mp id,jz.mp h];calc q _ F H (.refl g) ?_;cases a<;>cases b<;>rfl
 .split at f
  .rename_i c;rw[Ui]at c;obtain rfl:=Zqi f;let(r,l):=X4 I.hok 12 d x v c.1 (jh.same g _ _ id) i;let(bs,m):=X4 I.hok 12 e y u c.2 (jh.same g _ _ h) j;have(n,t):=Y8 12 d c.1;have(o,w):=Y8 12 e c.2;calc PySem.SeqAt.compareNe_reads l m n o () ?_;rw[Vf.mpr<|(DU 12 d e c.1 c.2).trans nJ.symm];exact(.bl _,H,I,9,q _ F H (.refl g)<|zY _ F)
  simp_all
end
def PE.or   (h:PE X e t)(c:PE X e f):PE X e λZ H Q=>t Z H Q\/f Z H Q:=λY s Z H Q I q=>q.elim (h Y s Z H Q I)<|c Y s Z H Q I
def PT.or   (h:PT X e t)(c:PT X e f):PT X e λZ H Q=>t Z H Q\/f Z H Q:=λY s Z H Q I q=>q.elim (h Y s Z H Q I)<|c Y s Z H Q I
def Kj:D->Option jT
 |.int i=>! .inl i
 |.str x=>! .inr x
 |_=>8
def Y9{K:W.Frag}    (h:Kj d=!k)(i:jh K H d v):v=kV k:=by
 cases d with
 |int j=>cases h;calc jg.mp i
 |str x=>cases h;calc jt.mp i
 |_=>exact J7 h
def jX:List jT->YC->jT->YD
 |k::a,d::b,q=>if k=q then !d else jX a b q
 |_,_,_=>8
theorem RH(k q:jT)(v)(r):qS (%[k|v]::r) q=if k=q then !v else qS r q:=by
 grind[qS,List.find?_cons]
theorem DV    :jX (k::a) (d::b) q=if k=q then !d else jX a b q:=rfl
theorem A5{K:W.Frag} (q):∀{a:List jT}{c:YC}{b:YB},a.length=b.length->je K H c b->
 (∀d,jX a c q=!d->∃x,qS (a.zip b) q=!x/\jh K H d x)/\(jX a c q=8->qS (a.zip b) q=8)
 |[],c,b,hl,h=>by
  calc(λd e=>?_,λ_=>9);cases c<;>calc J7 e
 |k::a,[],b,hl,h=>by
  simp_all[je.nil_iff]
 |k::a,d::c,b,hl,h=>by
  let(x,r,rfl,g,f):=h;let i:=A5 q (UL hl) f
  grind[List.zip_cons_cons,RH,DV]
def wr:List jT->YC->jT->D->YC
 |k::a,d::b,q,v=>(if k=q then v else d)::wr a b q v
 |_,_,_,_=>[]
def wq:List jT->YB->jT->V->YB
 |k::a,d::b,q,v=>(if k=q then v else d)::wq a b q v
 |_,_,_,_=>[]
def Ic    :wr (k::a) (d::b) q v=(if k=q then v else d)::wr a b q v:=rfl
def RJ    :wq (k::a) (d::b) q v=(if k=q then v else d)::wq a b q v:=rfl
theorem Ie{K:W.Frag}    (g:jh K H d v):∀{a:List jT}{c:YC}{b:YB},a.length=b.length->je K H c b->je K H (wr a c q d) (wq a b q v)/\(wq a b q v).length=a.length/\
 (a.zip b).map (λf=>if f.1=q then%[f.1|v]else f)=a.zip (wq a b q v)
 |[],c,b,hl,h=>by
  calc(?_,9,9);rfl
 |k::a,[],b,hl,h=>by
  simp_all[je.nil_iff]
 |k::a,m::c,b,hl,h=>by
  let(x r,rfl,n,i):=h;let(j,l,o):=Ie g (UL hl) i;rw[Ic,RJ];refine(je.mk ?_ j,by rw[Zu,l];rfl,?_)
  .by_cases e:k=q
   .rwa[Zd e,Zd e]
   .rwa[Ze e,Ze e]
  grind[List.zip_cons_cons,List.map_cons]
def z9(q:jT)(a:List jT):Bool:=a.any λk=>decide<|k=q
theorem Ig(q):∀{a:List jT}{b:YB},a.length=b.length->(a.zip b).any λc=>decide<|c.1=q=z9 q a
 |[],b,_=>9
 |k::a,[],h=>by cases h
 |k::a,x::b,h=>by
  rw[Vu,List.any_cons,Ig q (UL h)];rfl
def Wv(a:List jT)(q:jT):List jT:=if z9 q a=6 then a else a++[q]
def WA(a:List jT)(b:YC)(q:jT)(v:D):YC:=if z9 q a=6 then wr a b q v else b++[v]
def Ih{K:W.Frag}       (c:b.length=e.length)(h:je K H i e)(g:jh K H d v):
 ∃f,qU (b.zip e) q v=(Wv b q).zip f/\(Wv b q).length=f.length/\je K H (WA b i q d) f:=by
 unfold qU Wv WA;rw[Ig q c];by_cases a:z9 q b=6
 .rw[Zd a,Zd a,Zd a];let(j,l,m):=Ie g c h;exact(_,m,l.symm,j)
 .rw[Ze a,Ze a,Ze a];exact(e++[v],by rw[List.zip_append c];rfl,by simp[c],h.snoc g)
def YH{K:W.Frag}     (h:je K H a b)(e:xy a k=!d):∃x,xy b k=!x/\jh K H d x:=by
 unfold xy at e ⊢;rw[h.length];cases c:wl a.length k with
 |none=>simp_all
 |some j=>
  rw[c]at e;exact h.get e
def jJ:D->D->YD
 |.lst a,.int k=>xy a k
 |.tup a,.int k=>xy a k
 |.scr d,.int k=>(xy d k).map .int
 |.str x,.int k=>if x.length<=sizeLine then(xy x.cps.toList k).map λc=>.str ⟨#[c]⟩ else 8
 |.dct b a,k=>(Kj k).bind λq=>jX b a q
 |.dcf b a,k=>(Kj k).bind λq=>jX b a q
 |_,_=>8
def Ii{K:W.Frag}     (j:d=.dct c i\/d=.dcf c i)(h:jh K H d v):∃a b,v=.ref a/\Rd H a (.dK<|c.zip b)/\c.length=b.length/\je K H i b:=by
 rcases j with rfl|rfl
 .let(a,b,e,f,g):=qh.mp h;exact(a,b,e,.inl f,g)
 .let(a o b,e,f,g):=x5.mp h;exact(a,b,e,.inr (o,f),g)
def DW   (e:jk H b)(h:Rd H a u):Rd b a u:=h.imp (λq=>e _ _ q)<|yf λo q=>(o,e _ _ q)
def Ij    (e:Rd H a (.dK b)):yE H a (kV k) (qS b k):=.inl (b,k,e,9,9)
def Ik:zV X (uw X.K λd e=>match d with
 |.dct _ _=>8
 |.dcf _ _=>8
 |d=>jJ d e):=zV.weak OR λx y H Q=>rK λF d e z=>gF λb id g a q=>by
 cases d with
 |lst r=>
  cases e with
  |int k=>
   let(p,l,rfl,f,m):=id;let(x,h,n):=YH m a;calc .inl<|qb p l k x (9,jg.mp g,(f.same b).sq,h,q _ F H (.refl b) n)
  |_=>calc J7 a
 |tup r=>
  cases e with
  |int k=>
   let(p,l,rfl,f,m):=id;let(x,h,n):=YH m a;calc .inr<|.inl<|qb p l k x (9,jg.mp g,(f.same b).sq,h,q _ F H (.refl b) n)
  |_=>calc J7 a
 |scr s=>
  cases e with
  |int k=>
   let(p,rfl,f):=id;let(j,u,a):=Jj.mp a;subst a;calc .inl<|qb p _ k (.int j) (9,jg.mp g,jk.seq b f,?_,q _ F H (.refl b)<|z8 _ F);unfold xy at u ⊢;cases h:wl s.length k with
   |none=>simp_all
   |some i=>simp_all
  |_=>calc J7 a
 |str t=>
  cases e with
  |int k=>
   let a:(if t.length<=sizeLine then(xy t.cps.toList k).map λc=>D.str ⟨#[c]⟩ else 8)=!z:=a
   split at a
   .rename_i v;cases o:xy t.cps.toList k with
    |none=>rw[o]at a;calc J7 a
    |some c=>
     rw[o]at a;obtain rfl:=Zqi a;exact .inr<|.inr<|ji t k c (jt.mp id,jg.mp g,v,o,q _ F H (.refl b)<|jt.mpr 9)
   simp_all
  |_=>calc J7 a
 |_=>exact J7 a
def Q0(G:X.A.units+1<cLine)(u:QE X E a l)(A:QE X E b I)(J:Xo b)(m:vM b):QE X E (.Subscript a b L) (jm jJ l I):=
 PE.weak (PE.or (G9 G u A m)<|XS Ik u A J) λZ H Q h=>by
  let(B F e,r,n):=h;by_cases o:∃d g i,l e=.ok d/\(d=.dct g i\/d=.dcf g i)
  .let(d g i,o,C):=o;calc .inl<|ji B F e (r,(Res.need_bind n).monoE (λx f M v N H1 j O=>?_) λ_ _ q=>q);rw[o]at f;cases f;calc ji B N e (r.step j,(Res.need_bind M).mono (λy P w R S s T=>?_) λ_ _ q=>q.ext j);let(z,t,q):=jj P;let(k,U,t):=Jf.mp (show(Kj y).bind (λq=>jX g i q)=!z by rcases C with rfl|rfl<;>calc t);let(p xs,rfl,Y,h2,h3):=Ii C O;let(x,f,ix):=(A5 k h2 h3).1 z t;calc(p,x,9,?_,q x R S (j.trans s)<|jh.same s.ff _ _ ix);rw[Y9 U T,<-f];exact Ij<|DW s.hh<|DW j.fh Y
  .calc .inr<|Ak<|ji B F e (r,?_);unfold jm at n ⊢;cases f:l e with
   |ok d=>
    simp_all
   |no=>simp_all
   |ex c fs=>simp_all
def vw(b:Bool):D->D->YD
 |k,.dct c a=>(Kj k).map λq=>.bl<|if b then not<|(jX c a q).isSome else(jX c a q).isSome
 |k,.dcf c a=>(Kj k).map λq=>.bl<|if b then not<|(jX c a q).isSome else(jX c a q).isSome
 |d,.lst a=>if qM 12 d&&a.all (qM 12)then !(.bl<|if b then not<|a.any<|λe=>Q5 e d else a.any λe=>Q5 e d)else 8
 |d,.tup a=>if qM 12 d&&a.all (qM 12)then !(.bl<|if b then not<|a.any<|λe=>Q5 e d else a.any λe=>Q5 e d)else 8
 |_,_=>8
theorem Il{K:W.Frag} :∀n d e v,qM n d=6->qM n e=6->jh K H d v->jh K H e v->d=e
 |0,_,_,_,h,_,_,_=>by calc JF h
 |n+1,d,e,v,hd,he,f,b=>by
  let all:∀m c g,m.all (qM n)=6->c.all (qM n)=6->je K H m g->je K H c g->m=c:=by
   intro m
   induction m with
   |nil=>
    intro c g _ _ f b;rw[je.nil_iff]at f;subst f;let:=b.length
    grind
   |cons d m B=>
    intro c g w y f b;rw[U0,Ui]at w;rw[jo]at f;let(x,r,rfl,C,E):=f;cases c with
    |nil=>rw[je.nil_iff]at b;cases b
    |cons e c=>
     rw[U0,Ui]at y;rw[jo]at b;let(J L,t,F,G):=b;cases t;rw[Il n d e x w.1 y.1 C F,B c r w.2 y.2 E G]
  let ne:∀{a:Addr}{g A:YB},yO K H a g->xN K H a A->False:=λ{a g A}p l=>by
   rcases l with l|⟨o,l⟩
   .rw[p]at l;cases l
   .rw[p]at l;cases l
  cases d with
  |int i=>
   rw[jg]at f;subst f;cases e with
   |int j=>rw[jg]at b;cases b;rfl
   |str j=>rw[jt]at b;cases b
   |non=>rw[jB]at b;cases b
   |tup c=>grind[jy]
   |lst c=>grind[jl]
   |_=>calc JF he
  |str i=>
   rw[jt]at f;subst f;cases e with
   |int j=>rw[jg]at b;cases b
   |str j=>rw[jt]at b;cases b;rfl
   |non=>rw[jB]at b;cases b
   |tup c=>simp_all[jy]
   |lst c=>simp_all[jl]
   |_=>calc JF he
  |non=>
   rw[jB]at f;subst f;cases e with
   |int j=>rw[jg]at b;cases b
   |str j=>rw[jt]at b;cases b
   |non=>rfl
   |tup c=>grind[jy]
   |lst c=>grind[jl]
   |_=>calc JF he
  |tup m=>
   rw[jy]at f;let(a,g,rfl,p,l):=f;cases e with
   |int j=>rw[jg]at b;cases b
   |str j=>simp_all[jt]
   |non=>simp_all[jB]
   |tup c=>
    rw[jy]at b;let(I,q,t,s,z):=b;cases t;let u:H a=! .tup g:=p;rw[show H a=! .tup q from s]at u;cases u;rw[all m c _ hd he l z]
   |lst c=>
    grind[jl]
   |_=>calc JF he
  |lst m=>
   rw[jl]at f;let(a,g,rfl,p,l):=f;cases e with
   |int j=>rw[jg]at b;cases b
   |str j=>cases b
   |non=>cases b
   |tup c=>
    grind[jy]
   |lst c=>
    rw[jl]at b;let(I,q,t,s,z):=b;cases t;let:g=q:=by
     rcases p with p|⟨_,p⟩<;>rcases s with s|⟨_,s⟩<;>rw[p]at s<;>cases s<;>rfl
    subst this;rw[all m c _ hd he l z]
   |_=>calc JF he
  |_=>exact JF hd
def bN(K:W.Frag)(H:Hp)(d:D)(u:Value):4:=∃v,j4 v u/\jh K H d v
def xV(K:W.Frag)(H:Hp)(d:D)(u:Value):Bool:=@decide (bN K H d u)<|Classical.propDecidable _
def RK{K:W.Frag}    (b:qM 12 d=6)(c:qM 12 e=6)(h:jh K H e v)(r:j4 v u):xV K H d u=Q5 e d:=by
 by_cases q:e=d
 .rw[q,A1];exact@decide_eq_true _ (Classical.propDecidable _) (v,r,q ▸ h)
 .rw[ml.mpr q];calc@decide_eq_false _ (Classical.propDecidable _)<|yf λg=>jF λf a=>q ?_;rw[f.inj r]at a;exact Il 12 e d v c b h a
def Im  {K:W.Frag}   (t:A.units+60<cLine)(ok:xp P w H s.heap)   (f:qM 12 d=6)(m:jh K H d x)(n:j4 x v):
 ∀{a:YC}{g:YB}{c:Ye},a.all (qM 12)=6->je K H a g->j1 g c->c.map (xV K H d)=a.map (λe=>Q5 e d)/\∀u∈c,SeqAt.EqAt A s u v (xV K H d u):=by
 intro a
 induction a with
 |nil=>
  intro g c _ h i;subst h;cases i;simp
 |cons e a o=>
  intro g c b h i;rw[U0,Ui]at b;let(y,z,rfl,j,p):=h;cases i with
  |cons l q=>
   let(B,C):=o b.2 p q;let(E,F):=X4 ok 12 e y _ b.1 j l;let(G,I):=X4 ok 12 d x v f m n;let(J,L):=Y8 12 e b.1;let(M,N):=Y8 12 d f;let r:=RK f b.1 j l;calc((),λu hm=>?_);rcases U4.mp hm with hm|hm
   .subst hm;rw[r,<-(Vf.mpr ((DU 12 e d b.1 f).trans nJ.symm):PyData.eqv (yH e) (yH d)=Q5 e d)]
    grind[SeqAt.eqAt_reads]
   simp_all
def BR{α:Type}{f:α->Bool}{l:List α}:l.any f=(l.map f).any id:=()
def RL(G:X.A.units+64<cLine)(b:Bool):yj X (compareOp<|if b then .NotIn else .In) (uw X.K λd e=>match e with
 |.dct _ _=>8
 |.dcf _ _=>8
 |e=>vw b d e):=by
 intro Y s Z H x y v u Q I t w(F,d,e,z,c,id,m,f,q);let i:=jh.same c _ _ id;cases e with
 |lst g=>
  let f:(if qM 12 d&&g.all (qM 12)then !(D.bl<|if b then not<|g.any<|λe=>Q5 e d else g.any λe=>Q5 e d)else 8)=!z:=f
  split at f
  .rename_i h;rw[Ui]at h;obtain rfl:=Zqi f;rw[jl]at m;let(p,B,rfl,n,o):=m;obtain rfl:u=Value.ref p:=w;let(a,ri,j,C):=I.list (n.same c).sq;let(r,E):=Im (A:=X.A.in1) (by show X.A.units+1+60<cLine;lia) I.hok h.1 i t h.2 (je.same c _ _ o) ri;let l:a.toArray.any (xV X.K H d)=g.any λe=>Q5 e d:=by
    rw[show a.toArray.any (xV X.K H d)=a.any (xV X.K H d)by simp,BR,r,<-BR]
   cases b with
   |true=>
    calc SeqAt.notIn_listAt (xV X.K H d) j.isList () (.bl _,H,I,9,?_);rw[l];calc q _ F H (.refl c)<|zY _ F
   |false=>
    calc SeqAt.in_listAt (xV X.K H d) j.isList () (.bl _,H,I,9,?_);rw[l];exact q _ F H (.refl c)<|zY _ F
  simp_all
 |tup g=>
  let f:(if qM 12 d&&g.all (qM 12)then !(D.bl<|if b then not<|g.any<|λe=>Q5 e d else g.any λe=>Q5 e d)else 8)=!z:=f
  split at f
  .rename_i h;rw[Ui]at h;obtain rfl:=Zqi f;let(p,B,rfl,n,o):=m;obtain rfl:=w;let(a,ri,j,C):=I.tuple (n.same c).sq;let(r,E):=Im (A:=X.A.in1) (by show X.A.units+1+60<cLine;lia) I.hok h.1 i t h.2 (je.same c _ _ o) ri;let l:a.toArray.any (xV X.K H d)=g.any λe=>Q5 e d:=by
    rw[show a.toArray.any (xV X.K H d)=a.any (xV X.K H d)by simp,BR,r,<-BR]
   cases b with
   |true=>
    calc SeqAt.notIn_tupleAt (xV X.K H d) j () (.bl _,H,I,9,?_);rw[l];calc q _ F H (.refl c)<|zY _ F
   |false=>
    calc SeqAt.in_tupleAt (xV X.K H d) j () (.bl _,H,I,9,?_);rw[l];exact q _ F H (.refl c)<|zY _ F
  simp_all
 |_=>exact J7 f
def DX(N:X.A.units+64<cLine)(u:QE X E a A)(C:QE X E b l)(G:behindInMarks .NotIn b=7:=by rfl):QT X E (.Compare a [.NotIn] [b] O) (JC<|jm (vw 6) A l):=
 PT.weak (PT.or (Oo (Pf () u C) G)<|Dl (RL N 6) u C G) λZ H Q h=>by
  let(B F i,r,n):=Am h;by_cases m:∃d f g,l i=.ok d/\(d=.dct f g\/d=.dcf f g)
  .let(d f g,m,I):=m;calc .inl<|ji B F i (r,(Res.need_bind n).mono (λx P v R H1 o S=>ji B R i (r.step o,(Res.need_bind P).monoE (λy j T w U Y J i2=>?_) λ_ _ q=>q.ext o)) λ_ _ q=>q);rw[m]at j;cases j;let(z,s,q):=jj T;let(k,hk,s):=Jj.mp (show(Kj x).map (λq=>D.bl<|if 6 then not<|(jX f g q).isSome else(jX f g q).isSome)=!z by rcases I with rfl|rfl<;>calc s);subst s;let(p L,rfl,h1,h2,h3):=Ii I i2;let(g1,g2):=A5 k h2 h3;refine(p,qS (f.zip L) k,9,?_,?_)
   .rw[Y9 hk S];exact Ij<|DW J.fh h1
   .let es:(qS (f.zip L) k).isSome=(jX f g k).isSome:=by
     cases M:jX f g k with
     |none=>rw[g2 M];rfl
     |some d=>let(x,t,_):=g1 d M;rw[t];rfl
    rw[es];exact q _ U Y (o.trans J)<|jz.mpr 9
  .calc .inr<|Ak<|ji B F i (r,?_);unfold jm at n ⊢;cases t:A i with
   |ok d=>
    rw[t]at n;cases j:l i with
    |ok e=>
     simp_all
    |no=>rwa[j]at n
    |ex c fs=>rwa[j]at n
   |no=>simp_all
   |ex c fs=>simp_all
section
variable    {a b o i e f tg:Expr}{fa fb fo fi fv:FE}{fr:FA}
theorem QR{K:W.Frag}   (h:je K H [d] c):∃v,c=[v]/\jh K H d v:=by
 simp_all[jo,je.nil_iff]
def DY{K:W.Frag}{H:Hp}{d e:D}{c:YB}(h:je K H [d,e] c):∃v w,c=[v,w]/\jh K H d v/\jh K H e w:=by
 grind[jo,QR]
def jO:YC->YD
 |[.lst c]=>! .int c.length
 |[.tup c]=>! .int c.length
 |[.dct d _]=>! .int d.length
 |[.scr g]=>! .int g.length
 |[.str x]=>if x.length<=sizeLine then ! .int x.length else 8
 |_=>8
def t9(d:YC)(z:D):4:=(∃c,d=[.lst c]/\z=.int c.length)\/(∃c,d=[.tup c]/\z=.int c.length)\/(∃g c,d=[.dct g c]/\z=.int g.length)\/(∃h,d=[.scr h]/\z=.int h.length)\/∃x,x.length<=sizeLine/\d=[.str x]/\z=.int x.length
def RM  (c:jO g=!z):t9 g z:=by
 cases g with
 |nil=>calc J7 c
 |cons d g=>
  cases g with
  |nil=>
   cases d with
   |lst g=>calc .inl (_,9,(Zqi c).symm)
   |tup g=>calc .inr<|.inl (_,9,(Zqi c).symm)
   |dct h g=>calc .inr<|.inr<|.inl (_,_,9,(Zqi c).symm)
   |scr j=>calc .inr<|.inr<|.inr<|.inl (_,9,(Zqi c).symm)
   |str x=>calc let q:=DK c;.inr (.inr<|.inr<|.inr (_,q.1,9,q.2.symm))
   |_=>calc J7 c
  |cons e g=>cases d<;>exact J7 c
def Kw:qq X (.builtin "len") (wR X.K jO):=qq.weak (qq.or OU<|qq.or Pq OV) λr H Q m=>by
 let(F s z,c,id,n,q):=m;rcases RM n with ⟨l,rfl,rfl⟩|⟨l,rfl,rfl⟩|⟨t,l,rfl,rfl⟩|⟨u,rfl,rfl⟩|⟨x,p,rfl,rfl⟩
 .let(v,rfl,h):=QR id;let(a,j,rfl,d,g):=h;rw[<-g.length]at q;exact .inl (a,j,9,.inl (d.same c).sq,q _ F H (.refl c)<|z8 _ F)
 .let(v,rfl,h):=QR id;let(a,j,rfl,d,g):=h;rw[<-g.length]at q;exact .inl (a,j,9,.inr (d.same c).sq,q _ F H (.refl c)<|z8 _ F)
 .let(v,rfl,h):=QR id;let(a j,rfl,d,g,w):=h;calc .inr<|.inl (a,_,9,c _ _ d,?_);rw[List.length_zip,<-g,Nat.min_self];exact q _ F H (.refl c)<|z8 _ F
 .let(v,rfl,h):=QR id;let(a,rfl,d):=h;calc .inl (a,_,9,.inl<|jk.seq c d,?_);rw[Zql];exact q _ F H (.refl c)<|z8 _ F
 .let(v,rfl,h):=QR id;subst h;exact .inr<|.inr (_,9,p,q _ F H (.refl c)<|z8 _ F)
def X5:YC->YD
 |[.int i,.int j]=>!(.int<|if j>i then j else i)
 |_=>8
def A6:YC->YD
 |[.int i,.int j]=>!(.int<|if j<i then j else i)
 |_=>8
def Io(c:YC):4:=∃i j,c=[.int i,.int j]
def RN  (g:X5 c=!z):Io c:=by
 cases c with
 |nil=>calc J7 g
 |cons d c=>
  cases c with
  |nil=>cases d<;>calc J7 g
  |cons e c=>
   cases d with
   |int i=>
    cases e with
    |int j=>
     cases c with
     |nil=>calc jI _ _ 9
     |cons _ _=>calc J7 g
    |_=>calc J7 g
   |_=>exact J7 g
def RO  (g:A6 c=!z):Io c:=by
 cases c with
 |nil=>calc J7 g
 |cons d c=>
  cases c with
  |nil=>cases d<;>calc J7 g
  |cons e c=>
   cases d with
   |int i=>
    cases e with
    |int j=>
     cases c with
     |nil=>calc jI _ _ 9
     |cons _ _=>calc J7 g
    |_=>calc J7 g
   |_=>exact J7 g
def DZ(d:X.calm=6):qq X (.builtin "max") (wR X.K X5):=qq.weak (O4 d) λn H Q g=>by
 let(F p z,h,id,c,q):=g;let(i,j,rfl):=RN c;obtain rfl:=Zqi c;let(v,w,rfl,l,m):=DY id;exact(_,_,by rw[jg.mp l,jg.mp m],q _ F H (.refl h)<|z8 _ F)
def RP(d:X.calm=6):qq X (.builtin "min") (wR X.K A6):=qq.weak (O5 d) λn H Q g=>by
 let(F p z,h,id,c,q):=g;let(i,j,rfl):=RO c;obtain rfl:=Zqi c;let(v,w,rfl,l,m):=DY id;exact(_,_,by rw[jg.mp l,jg.mp m],q _ F H (.refl h)<|z8 _ F)
def BS:D->Option Yf
 |.lst c=>QF Au c
 |_=>8
def RQ{K:W.Frag}    (h:BS d=!g)(i:jh K H d v):∃a,v=.ref a/\xN K H a (g.map V.int):=by
 cases d with
 |lst l=>
  let(a,m,rfl,j,c):=i;rw[RC h]at c;rw[qP c]at j
  simp_all
 |_=>exact J7 h
def RR(c):BS (.lst<|c.map D.int)=!c:=RE c
def Us:YC->YD
 |[d]=>(BS d).bind λc=>if c=[]then 8 else !(.int<|qO c)
 |_=>8
def BT(g:X.calm=6):qq X (.builtin "max") (wR X.K Us):=qq.weak (P1 g) λr H Q j=>by
 let(F s z,d,id,c,q):=j;unfold Us at c
 split at c
 .let(l,m,c):=Jf.mp c
  split at c
  .exact J7 c
  .rename_i n;obtain rfl:=Zqi c;let(v,rfl,h):=QR id;let(a,rfl,p):=RQ m h;exact(a,l,9,(p.same d).sq,n,q _ F H (.refl d)<|z8 _ F)
 simp_all
def tQ:D->Option String
 |.non=>!"NoneType"
 |.bl _=>!"bool"
 |.int _=>!"int"
 |.str _=>!"str"
 |.lst _=>!"list"
 |.tup _=>!"tuple"
 |.dct _ _=>!"dict"
 |_=>8
def uj(t n:String):Bool:=t==n||t=="bool"&&n=="int"
def BU(t n:String):Bool:=["NoneType","bool","int","str","list","tuple","dict"].contains t&&["bool","int","str","list","tuple","dict"].contains n
def RU(K)(t n)(h:BU t n=6):W.kitOne K (.type t) (.type n)=! uj t n:=by
 unfold BU at h;rw[Ui,List.contains_iff_mem,List.contains_iff_mem]at h;let(c,d):=h;simp only[U4,Va,or_false]at c d;rcases c with rfl|rfl|rfl|rfl|rfl|rfl|rfl<;>rcases d with rfl|rfl|rfl|rfl|rfl|rfl<;>first|rfl|kernel_rfl
def xD:YC->YD
 |[d,.ty n]=>(tQ d).bind λt=>if BU t n then !(.bl<|uj t n)else 8
 |_=>8
def tE(c:YC)(z:D):4:=∃d n t,c=[d,.ty n]/\tQ d=!t/\BU t n=6/\z=.bl (uj t n)
def RV  (c:xD g=!z):tE g z:=by
 cases g with
 |nil=>calc J7 c
 |cons d g=>
  cases g with
  |nil=>calc J7 c
  |cons e g=>
   cases g with
   |nil=>
    cases e with
    |ty n=>
     let(t,h,c):=Jf.mp c;calc ji d n t (9,h,(DK c).1,(DK c).2.symm)
    |_=>calc J7 c
   |cons _ _=>cases e<;>exact J7 c
def YI:qq X (.builtin "isinstance") (wR X.K xD):=qq.weak P3 λl H Q p=>by
 let(F h z,m,id,r,q):=p;let(d n t,rfl,g,s,rfl):=RV r;let(v,w,rfl,u,y):=DY id;exact qb v _ _ _ (by rw[yB.mp y],by
  let i:=jh.same m _ _ u;cases d with
  |non=>cases g;rw[jB.mp i];calc .non
  |bl b=>cases g;rw[jz.mp i];calc .bl b
  |int j=>cases g;rw[jg.mp i];calc .int j
  |str x=>cases g;rw[jt.mp i];calc .str x
  |lst h=>
   obtain rfl:=Zqi g;let(a,l,rfl,g,_):=i;rcases g with g|⟨o,g⟩
   .exact .lst g
   .calc .frz g
  |tup h=>
   obtain rfl:=Zqi g;let(a,l,rfl,g,_):=i;calc .tup g
  |dct A h=>
   obtain rfl:=Zqi g;let(a,l,rfl,g,_):=i;calc .dK g
  |ty n=>calc J7 g
  |scr n=>calc J7 g
  |ins C fs h=>calc J7 g
  |exc c=>calc J7 g
  |exr c n=>calc J7 g
  |ucl c=>calc J7 g
  |adr c=>calc J7 g
  |dcf c h=>calc J7 g
  |pin c h=>calc J7 g,RU _ _ _ s,q _ F H (.refl m)<|zY _ F)
def YJ   (c:Gl X x)(d:X.mg x=8)(g:bootBuiltins x=!u)(r:j4 (.ty n) u)(j:x ≠"__name__":=by decide)(l:(x==("__debug__":Str))=7:=by decide):QE X E (.Name x m) (dC<|.ty n):=
 BI (λ_ _ _ H _ I h=>XN I c d g (V.ty n,H,I,r,h) j l) λ_=>yB.mpr 9
def Ww:YC->YD
 |[.lst c]=>! .lst c
 |[.tup c]=>! .lst c
 |[.scr d]=>!(.lst<|d.map .int)
 |_=>8
def bV(d:YC)(z:D):4:=(∃c,d=[.lst c]/\z=.lst c)\/(∃c,d=[.tup c]/\z=.lst c)\/∃g,d=[.scr g]/\z=.lst (g.map .int)
def RW  (g:Ww c=!z):bV c z:=by
 cases c with
 |nil=>calc J7 g
 |cons d c=>
  cases c with
  |nil=>
   cases d with
   |lst c=>calc .inl (_,9,(Zqi g).symm)
   |tup c=>calc .inr<|.inl (_,9,(Zqi g).symm)
   |scr h=>calc .inr<|.inr (_,9,(Zqi g).symm)
   |_=>calc J7 g
  |cons e c=>cases d<;>exact J7 g
def Ea:qq X (.type "list") (wQ X.K Ww):=qq.weak OW λt H Q r=>by
 let(F u z,g,id,s,q):=r;let d:∀{j:YC}{c:YB},je X.K F j c->yG X.K F H Q (.lst j)->∀l,H l=8->Q (.ref l) (jD H l<|.lst c):=λ{j c}h q l n=>
  q l F _ (.keep g n _) n (Qa g n) (c,JL,h)
 rcases RW s with ⟨j,rfl,rfl⟩|⟨j,rfl,rfl⟩|⟨w,rfl,rfl⟩
 .let(v,rfl,h):=QR id;let(a,c,rfl,m,p):=h;exact(a,c,9,.inl (m.same g).sq,d p q)
 .let(v,rfl,h):=QR id;let(a,c,rfl,m,p):=h;exact(a,c,9,.inr (m.same g).sq,d p q)
 .let(v,rfl,h):=QR id;let(a,rfl,m):=h;exact(a,_,9,.inl<|jk.seq g m,d (qW _) q)
def WC:YC->YD
 |[.lst c]=>! .tup c
 |[.tup c]=>! .tup c
 |_=>8
def to(d:YC)(z:D):4:=(∃c,d=[.lst c]/\z=.tup c)\/∃c,d=[.tup c]/\z=.tup c
def RX  (g:WC c=!z):to c z:=by
 cases c with
 |nil=>calc J7 g
 |cons d c=>
  cases c with
  |nil=>
   cases d with
   |lst c=>calc .inl (_,9,(Zqi g).symm)
   |tup c=>calc .inr (_,9,(Zqi g).symm)
   |_=>calc J7 g
  |cons e c=>cases d<;>exact J7 g
def A7:qq X (.type "tuple") (wR X.K WC):=qq.weak OX λu H Q n=>by
 let(F w z,d,id,p,q):=n;rcases RX p with ⟨r,rfl,rfl⟩|⟨r,rfl,rfl⟩
 .let(v,rfl,h):=QR id;let(a,c,rfl,g,j):=h;calc(a,c,9,.inl ((g.same d).sq,λl s=>?_));let m:=Ext.alloc d s<|.tup c;exact q _ _ _ m<|jy.mpr (l,c,9,.of JL,je.same m.ff _ _ j)
 .let(v,rfl,h):=QR id;let t:=h;let(a c,rfl,g,j):=h;exact(a,c,9,.inr ((g.same d).sq,q _ F H (.refl d) t))
def yk(r:Jz):D:=.dct (r.map λp=>.inl p.1)<|r.map λp=>.int p.2
def YK(r:Jz):Jz:=r.foldl (λa p=>xl a p.1 p.2) []
def RY(r):Bz r=xT (YK r):=HH r []
def RZ (h:jA r):YK r=r:=by
 grind[YK,HJ]
def Ip(r):xT r=(r.map λp=>(Uh p.1:jT)).zip (r.map λp=>V.int p.2):=by
 grind[xT,List.map_cons]
def Sa(K)(F)(r:Jz):je K F (r.map λp=>D.int p.2) (r.map λp=>V.int p.2):=by
 let:=qW (K:=K) (H:=F)<|r.map (·.2)
 rwa[Zw,Zw]at this
def WD:YC->YD
 |[d]=>(Um d).bind λr=>if r.length<=100 then !(yk<|YK r)else 8
 |_=>8
def BV(j:X.calm=6):qq X (.type "dict") (wQ X.K WD):=qq.weak (PH j) λl H Q m=>by
 let(F t z,d,id,c,q):=m;unfold WD at c
 split at c
 .let(r,n,c):=Jf.mp c
  split at c
  .rename_i s;obtain rfl:=Zqi c;let(v,rfl,h):=QR id;rw[HX n,nE]at h;let(a u,e,_):=(show ∃a l,v=.ref a/\_ by unfold rD at h;rwa[zn]at h);subst e;calc(a,r,9,Is.same d _ _ h,s,λp g=>q p F _ (.keep d g _) g (Qa d g) ((YK r).map λp=>V.int p.2,?_,(),Sa _ _ _));rw[JL,RY,Ip]
  .exact J7 c
 simp_all
def Iq:FE:=λ_=>.ok<|.dct [] []
def Sb:QN X E (.Dict [] [] d) Iq:=PE.weak (λY s Z H Q I h=>
 wpAny_Dict_empty (.ref s.heap.objs.size,_,I.laid (λ_ _ q=>Zq _ q) (Zf _)<|Pg s.heap I.big,9,h _<|I.hok.fresh<|Zf _)) λZ H Q=>qy λB F g=>jF λr n=>λp c=>n p F _ (.keep r.ext.fh c _) c (Qa r.ext.fh c) ([],JL,9,.nil)
def A8(fo g h:FE):FE:=λc=>(fo c).bind λd=>match d with
 |.dct j l=>(g c).bind λk=>(h c).bind λx=>.ofO<|(Kj k).map λq=>(jX j l q).getD x
 |_=>.no
def Ir(M:X.A.units+1<cLine)(N:QE X E o fo)(O:QE X E e fa)(P:QE X E f fb)(R:M2 X o "get" h e f j):QE X E (.Call (.Attribute o "get" h) [e,f] [] j) (A8 fo fa fb):=PE.weak (Pk M N O P R) λZ H Q S=>by
 let(B F s,r,n):=S;calc ji B F s (r,(Res.need_bind n).mono (λd C v T H1 c U=>?_) λ_ _ q=>q);cases d with
 |dct G Y=>
  let(p xs,rfl,h1,h2,h3):=U;let I:=c.fh _ _ h1;calc(p,9,.inl (_,.inl I),B,T,s,r.step c,(Res.need_bind C).mono (λk n2 w F2 H2 g i2=>ji B F2 s ((r.step c).step g,(Res.need_bind n2).mono (λx n3 u J L l i3=>?_) λ_ _ q=>q.ext<|c.trans g)) λ_ _ q=>q.ext c);let(z,t,q):=jj n3;let(A,hk,t):=Jj.mp t;subst t;let(g1,g2):=A5 A h2 h3;refine(qS (G.zip xs) A,?_,?_)
  .rw[Y9 hk i2];exact yE.k<|l.hh _ _<|g.hh _ _ I
  .cases m:jX G Y A with
   |none=>
    rw[m]at q;rw[g2 m];calc q _ J L ((c.trans g).trans l) i3
   |some d=>
    rw[m]at q;let(y,hy,iy):=g1 d m;rw[hy];calc q _ J L ((c.trans g).trans l)<|jh.same (g.ff.trans l.ff) _ _ iy
 |_=>exact C.elim
def YL(i:5)(g fv:FE):FS:=λc=>(fv c).bind λv=>match c[i]? with
 |some (some<|.own false<|.dct d h)=>(g c).bind λk=>match Kj k with
  |some q=>if d.length<sizeLine then .ok (.next<|c.set i<|!(.own 7<|.dct (Wv d q)<|WA d h q v))else .no
  |none=>.no
 |_=>.no
def Iu (z:X.A.units+1<cLine)(A:PE X o (yI j))(C:QE X E i fi)(G:QE X E e fv)(I:swapsWith e (! .Subscript o i c) s.line X.env=pure 7:=by rfl):
 QS X E m (.Assign [.Subscript o i c] e s) (YL j fi fv):=PS.weak (GA z A C G I) λT Z H J=>by
 let(B F u,r,n):=J;refine ji B F u (r,(Res.need_bind n).mono (λd t v L H1 g M=>?_) λ_ _ q=>q.ext r.ext)
 split at t
 .rename_i ks ds x;let(-l,y,h2,h3,(xs,N,O,P),_):=(r.step g).own x;refine(.ref l,y,B,L,u,r.step g,(Res.need_bind t).mono (λk h w Q H2 p R=>?_) λ_ _ q=>q.ext (r.step g).ext)
  split at h
  .rename_i q S
   split at h
   .let(U,Y,y2,y3):=Ih O (je.same p.ff _ _ P) (jh.same p.ff _ _ M);exact(l,_,9,by rw[Y9 S R];calc wB.k (p.hh _ _ N) (),h Z Q _ (g.ff.trans p.ff)<|((r.step g).step p).chg x y (U,by rw[JL,Y],y2,y3))
   .exact h.elim
  .exact h.elim
 .exact t.elim
def kf:D->Option YC
 |.lst c=>!c
 |.scr d=>! d.map .int
 |_=>8
def ka:D->Option YC
 |.tup c=>!c
 |_=>8
def iL(f:FE):FA:=λc=>(f c).bind λd=>.ofO<|kf d
def iT(f:FE):FA:=λc=>(f c).bind λd=>.ofO<|ka d
def Eb{K:W.Frag}    {S:Hp->4}(h:je K n u j)(v:∀F H,jk n F->jk F H->S H)(g:∀i H x,S H->j[i]?=!x->J.go i H)(w:∀i H,S H->j.length<=i->J.stop i H)
 (z:∀i H x p,S H->J.yld i H x p->p=H/\j[i]?=!x):vH K n J u:=λi q c r s=>by
 let l:=v q c r s;calc(λt=>?_,λt=>w i c l<|by rwa[h.length]);let(x,A,_):=h.get (Zqg t);calc(g i c x l A,λy B C=>?_);let(rfl,m):=z i c y B l C;let(d,E,id):=h.getV m;exact(d,q,E,.refl s,jh.same r _ _ id)
def Sc(h:QE X E e fa):QI X E tg e (iL fa):=PI.weak (Ox h) λZ H R C=>by
 let(B F G,r,n):=C;calc ji B F G (r,(Res.need_bind n).mono (λd I v y z l A=>?_) λ_ _ q=>q);let(N,p,q):=jj I;cases d with
 |lst O=>
  obtain rfl:=Zqi p;let(a,m,rfl,g,J):=A;calc(a,9,(m,(g.same l.fh).sq),q _ y z l<|Eb J (λF H s t=>((g.same s).same t).sq) (λi H x c u=>(m,x,c,u)) (λi H c w=>(m,c,w)) λi H x L c j=>(j.1,j.2 m c))
 |scr M=>
  obtain rfl:=Zqi p;let(a,rfl,g):=A;calc(a,9,(_,jk.seq l.fh g),q _ y z l<|Eb (qW M) (λF H s t=>jk.seq t<|jk.seq s g) (λi H x c u=>(_,x,c,u)) (λi H c w=>(_,c,w)) λi H x L c j=>(j.1,j.2 _ c))
 |_=>exact J7 p
def Se(h:QE X E e fa):QI X E tg e (iT fa):=PI.weak (Oy h) λZ H R s=>by
 let(B F t,r,n):=s;calc ji B F t (r,(Res.need_bind n).mono (λd u v w y j z=>?_) λ_ _ q=>q);let(L,l,q):=jj u;cases d with
 |tup M=>
  obtain rfl:=Zqi l;let(a,g,rfl,m,A):=z;calc(a,9,(g,(m.same j.fh).sq),q _ w y j<|Eb A (λF H C G=>((m.same C).same G).sq) (λi H x c I=>(g,x,c,I)) (λi H c J=>(g,c,J)) λi H x N c p=>(p.1,p.2 g c))
 |_=>exact J7 l
def tw   (h:PI X tg e t)(c:PI X tg e d):PI X tg e λZ H R=>t Z H R\/d Z H R:=λY s Z H R I q=>q.elim (h Y s Z H R I)<|c Y s Z H R I
def Wd:D->Option YC
 |.lst c=>!c
 |.scr d=>! d.map .int
 |.tup c=>!c
 |_=>8
def iS(f:FE):FA:=λsd=>(f sd).bind λd=>.ofO<|Wd d
def JQ(h:QE X E e fa):QI X E tg e (iS fa):=PI.weak (tw (Sc h)<|Se h) λZ H R p=>by
 let(B F g,r,n):=p;by_cases j:∃l,fa g=.ok (.tup l)
 .let(l,j):=j;calc .inr<|ji B F g (r,?_);unfold iS at n;unfold iT
  rwa[j]at n ⊢
 .calc .inl<|ji B F g (r,?_);unfold iS at n;unfold iL;cases m:fa g with
  |ok d=>
   rw[m]at n;cases d with
   |tup l=>simp_all
   |_=>calc n
  |no=>rwa[m]at n
  |ex c fs=>rwa[m]at n
def JY(lo:3)(n:5):YC:=(List.range n).map λk:5=>.int<|lo+k
def WE(j:3):Bool:=Nat.ble j.toNat 1000000000&&Nat.ble (-j).toNat 1000000000
def BW (h:WE j=6):-2^62<=j/\j<2^62:=by
 unfold WE at h;rw[Ui,Nat.ble_eq,Nat.ble_eq]at h;lia
def BX (c:-1000000000<=j)(d:j<=1000000000):WE j=6:=by
 unfold WE;rw[Ui,Nat.ble_eq,Nat.ble_eq];lia
def wF(fr:FA):FA:=λc=>(fr c).bind λd=>match d with
 |[.int j]=>if WE j then .ok (JY 0 j.toNat)else .no
 |_=>.no
def Iv{K:W.Frag} (lo)(n):vH K l (tA lo n) (JY lo n):=λi d m p g=>by
 let h:(JY lo n).length=n:=by unfold JY;simp
 rw[h];calc(λc=>(c,λx q j=>?_),λc=>c);let(rfl,rfl):=j;refine(.int<|lo+i,d,?_,.refl g,jg.mpr 9)
 simp_all[JY]
def YM (g:Gl X "range")(l:X.mg "range"=8)(m:QA X E [a] fr)(s:starEach [a] X.env=[%[7|eval a X.env]]:=by rfl):QI X E tg (.Call (.Name "range" p) [a] [] t) (wF fr):=PI.weak (Gg g l m s) λZ H R u=>by
 let(B F w,r,n):=u;refine ji B F w (r,(Res.need_bind n).mono (λC c G x y z A=>?_) λ_ _ q=>q)
 split at c
 .split at c
  .rename_i j d;let(v,rfl,h):=QR A;rw[jg.mp h];exact(j,9,(BW d).1,(BW d).2,c _ x y z<|Iv 0 _)
  .exact c.elim
 .exact c.elim
end
section
variable    {a b o i e f tg:Expr}{fa fb fo fi fv:FE}
def PG.weak  (h:PG X e t)(w:∀v Z H Q,c v Z H Q->t v Z H Q):PG X e c:=λY s Z H v u Q I r q=>h Y s Z H v u Q I r<|w _ _ _ _ q
def Ec:Yh->uR
 |[]=>f5
 |i::is=>Gf (V7 i) (Ec is)
theorem Iw:∀{d:Yh}{c:YB}{Z:St}{H:Hp}{Q:St->Hp->4},c.length=d.length->Q (BN d c Z) H->Ec d c Z H Q
 |[],c,Z,H,Q,hl,q=>((),q)
 |i::d,[],Z,H,Q,hl,q=>by cases hl
 |i::d,x::c,Z,H,Q,hl,q=>jI x c (9,Iw (UL hl) q)
def JX{i:5} (h:PG X e (V7 i)):QG X e (.one i):=h
def We(is) (h:PG X e (fu X.K is.length<|Ec is)):QG X e (.tup is):=PG.weak h λv Z H Q=>j8 λa d=>xm λe g c q=>(a,d,e,g,c,Iw c q)
def Ux(tg:Tg)(c:FT)(f:FE)(d:SD):YC->Res YC
 |[]=>.ok []
 |x::g=>(JW tg x d).bind λs=>(c s).bind λb=>if b then(f s).bind λy=>(Ux tg c f d g).bind λh=>.ok<|y::h else Ux tg c f d g
def V0(cap:List (Option 5))(h:FA)(tg:Tg)(c:FT)(f:FE):FE:=λd=>(h d).bind λg=>if KN (jZ cap d) tg=6/\g.length<sizeLine then
 (Ux tg c f (jZ cap d) g).bind λj=>.ok<|.lst j else .no
def Ed{K:W.Frag} {fi:FA} {f:FE}    (L:uL K E (V0 cap fi t T f) Z H Q):Bt cap (k8 K E fi) (gT t K) (k7 K E T) (tD K E f) Z H Q:=by
 let(B F M,r,n):=L;refine ji B F M (r,(Res.need_bind n).mono (λh N J U H1 z wk=>?_) λ_ _ q=>q)
 split at N
 .rename_i L;let(hn,hz):=L;refine(λi k O Z m=>k=h.length-i/\i<=h.length/\∃j p,Ext U H1 j m/\RS K B j m (jZ cap M) Z/\je K j p O/\p.length<=i/\
   (Ux t T f (jZ cap M)<|h.drop i).need (λA=>yG K j m Q<|.lst<|p++A) (XW K E j m),(h.length,9,Uc _,U,[],.refl z.fh,(r.step z).cap cap,.nil,Zf _,?_),?_)
  .exact(Res.need_bind N).mono (λA q=>(q).ext z) λ_ _ q=>q.ext z
  rintro i k O Z2 m ⟨rfl,hi,j,p,C,P,G,X,s⟩;let ly:=G.length;calc((),?_);let(w1,w2):=wk i j m C.ff C.fh;by_cases l:i<h.length
  .let(go,yl):=w1 l;calc .inr (go,λx H3 y=>?_);let(d F3,hd,g,i3):=yl x H3 y;rw[Uj l]at s;let R:h[i]=d:=by grind[Zqg,Zqi]
   rw[R]at s;calc X2 (P.step g) i3 (Res.need_bind s) λu Z' n4 hb I=>?_;have(Y,b2):=BO hn hb;calc ji B F3 u (I,(Res.need_bind n4).mono (λb n5 F4 H4 c=>?_) λ_ _ q=>q.ext g);cases b with
   |true=>
    calc ji B F4 u (I.step c,(Res.need_bind n5).mono (λy n6 v F5 H5 w i5=>(h.length-(i+1),(),9,l,F5,p++[y],((C.trans g).trans c).trans w,((I.step c).step w).forget Y b2,(je.same ((g.ff.trans c.ff).trans w.ff) _ _ G).snoc i5,by rw[Ua];calc Vz X,(Res.need_bind n6).mono (λA q=>?_) λ_ _ q=>q.ext<|(g.trans c).trans w)) λ_ _ q=>q.ext<|g.trans c);rw[Ug];calc(q).ext<|(g.trans c).trans w
   |false=>
    exact(h.length-(i+1),(),9,l,F4,p,(C.trans g).trans c,(I.step c).forget Y b2,je.same (g.ff.trans c.ff) _ _ G,Vl X,(n5).mono (λA q=>q.ext<|g.trans c) λ_ _ q=>q.ext<|g.trans c)
  .let he:i=h.length:=()
   subst he;calc .inl (w2<|Zf _,λD S=>?_);rw[UT]at s;let q:yG K j m Q (.lst<|p++[]):=s;rw[ZA]at q;exact q D j _ (.keep P.ext.fh S _) S (Qa P.ext.fh S) (O,JL,G)
 .exact N.elim
def Ee   {fi:FA} {f:FE}(N)(cap)(p:X.calm=6)(m:Kg d X.env N X.N cap=6)(q:QI X E tg g fi)
 (r:∀j C s H l,QG (JM X d N j C s H l) tg t)(u:∀j C s H l,QT (JM X d N j C s H l) E c v)(w:∀j C s H l,QE (JM X d N j C s H l) E n f)(y:∀x,foldedSetIterable g X.env x=pure x:=by intro _;rfl):
 QN X E (.ListComp n [(tg,g,[c],0)] d z) (V0 cap fi t v f):=PE.weak (λY s Z H Q I h=>HA N cap p m q r u w y I h GF) λ_ _ _ h=>Ed h
def A9:List jT->YC->Option Jz
 |.inl k::c,.int v::d=>(A9 c d).map λr=>%[k|v]::r
 |[],[]=>![]
 |_,_=>8
def Sf(c:List jT)(d:YC)(r:Jz):4:=c=r.map (λp=>.inl p.1)/\d=r.map λp=>.int p.2
def Sh   (h:A9 g c=!r):Sf g c r:=by
 induction g generalizing c r with
 |nil=>
  cases c with
  |nil=>obtain rfl:=Zqi h;calc(9,9)
  |cons _ _=>calc J7 h
 |cons k g j=>
  cases k with
  |inr _=>calc J7 h
  |inl k=>
   cases c with
   |nil=>calc J7 h
   |cons d c=>
    cases d with
    |int v=>
     let(n,l,m):=Jj.mp h;subst m;calc(Zt (Uh k::·) (j l).1,Zt (D.int v::·) (j l).2)
    |_=>exact J7 h
def Si(r):A9 (r.map λp=>.inl p.1) (r.map λp=>.int p.2)=!r:=by
 induction r with
 |nil=>rfl
 |cons p r c=>exact Zt (Option.map λr=>%[p.1|p.2]::r) c
def vm  (s:jk F H)(l:∀p∈L,H p.1=8):Ext F H (qY F L) (qY H L):=by
 let c:∀{G:Hp}{b:Addr},H b≠8->qY G L b=G b:=λ{G b}n=>BE ();let ne:∀{b:Addr}{o:HO},H b=!o->H b≠8:=by grind
 calc(λb o e=>by rwa[c (ne<|s _ _ e)],λb o e=>?_,λb o e=>by rwa[c (ne e)],());rcases HC e with h|⟨j,h2⟩
 .grind[qY]
 .rw[BE j];exact s _ _ h2
def Ef:D->YD
 |.dct c d=>(A9 c d).bind λr=>if r ≠[]/\r.length<1000 then !(.lst<|(Qe qw r).map qB)else 8
 |_=>8
def BY(fo:FE):FE:=λc=>(fo c).bind λd=>.ofO<|Ef d
def Ix (h:∀{A:TE},PE X o A->PE X e (ut (λs H Q=>∃c d r,s=[.ref c]/\H c=! WR c d/\H d=!(.dK<|xT r)/\r ≠[]/\r.length<1000/\∀l L,(∀p∈L,H p.1=8)->(L.map (·.1)).Nodup->(∀G,Is (qY G L) (.list<|(Qe qw r).map pD) (.ref l))->Q (.ref l) (qY H L))
<|Dp (kA X.K "dict" (λx N H Q=>∃d t,x=.ref d/\N=[]/\H d=! .dK t/\∀p,H p=8->Q (.ref p) (jD H p<|WR p d)) A) uq))(O:QE X E o fo):QE X E e (BY fo):=PE.weak (h O) λZ H Q P=>by
 let(B F R,r,n):=P;calc ji B F R (r,(Res.need_bind n).mono (λd S v m C u T=>?_) λ_ _ q=>q);let(z,I,q):=jj S;cases d with
 |dct ks ds=>
  let(w,U,y):=Jf.mp I
  split at y
  .rename_i J;obtain rfl:=Zqi y;let(Y,k2):=Sh U;let(d s,rfl,g1,g2,g3):=T;let ex:s=w.map λp=>V.int p.2:=by
    rw[k2]at g3;let:=qP (by rwa[Zw]);rw[this,Zw];rfl
   let hd:m d=!(.dK<|xT w):=by rw[g1,Y,ex,<-Ip]
   let g:=u.fh _ _ hd;calc(.inr<|.inr<|.inl (9,.inl (_,g)),d,_,9,9,g,λc j=>ji c d w (9,JL,(KW j<|WR c d) _ _ g,J.1,J.2,λl L fr nd hl=>?_));let M:Ext m C m (jD C c<|WR c d):=.keep u.fh j _;calc q _ _ _ (u.trans<|M.trans<|vm M.fh fr) ?_;let(l' ys,e',g4,g5):=xZ.mp (hl m);exact jl.mpr (l',ys,e',.of g4,uV.mpr g5)
  .calc J7 y
 |_=>exact J7 I
end
section
variable    {a b o i e f tg:Expr}{fa fb fo fi fv:FE}
def V1(i:5)(fb:FE):FE:=λc=>match c[i]? with
 |some (some<|.own _ d)=>(fb c).bind λy=>.ofO<|jJ d y
 |_=>.no
def Iy{i:5}(R:X.A.units+1<cLine)(M:PE X a (yI i))(N:QE X E b fb)(S:Xo b)(u:vM b):QE X E (.Subscript a b T) (V1 i fb):=
 PE.weak (PE.or (G9 R M N u)<|XS uW M N S) λZ H Q U=>by
  let(B F v,r,n):=U;unfold V1 at n
  split at n
  .rename_i p d Y;let(-l,A,h2,h3,C,_):=r.own Y;cases d with
   |lst O=>
    let(P,G,I):=C;calc .inr (.ref l,A,B,F,v,r,(Res.need_bind n).mono (λy j w m s g t=>?_) λ_ _ q=>q);let(z,h,q):=jj j;cases y with
    |int k=>
     let(x,J,L):=YH I h;calc qb l P k x (9,jg.mp t,xo.of<|g.hh _ _ G,J,q _ m s g<|jh.same g.ff _ _ L)
    |_=>calc J7 h
   |dct ks O=>
    let(-P,G,I,g3):=C;calc .inl (.ref l,A,B,F,v,r,(Res.need_bind n).mono (λy j w m s g t=>?_) λ_ _ q=>q);let(z,h,q):=jj j;let(k,hk,h):=Jf.mp h;let(x,J,L):=(A5 k I g3).1 z h;calc(l,x,9,?_,q x m s g<|jh.same g.ff _ _ L);rw[Y9 hk t,<-J];calc yE.k<|g.hh _ _ G
   |ins c fs O=>
    calc .inr (.ref l,A,B,F,v,r,(Res.need_bind n).mono (λy j w m s g t=>?_) λ_ _ q=>q);let(z,h,q):=jj j;cases y<;>calc J7 h
   |_=>exact C.elim
  .exact n.elim
end
end L2.DL
namespace L2
section
variable     {wi:TI}
def Iz      (a:X.N.Nodup)(c:X.N[x]?=!y)(d:zr X.env.scope y)(f:X.fn y=6\/X.env.scope.names.lookup y=!.local):
 Aa X Y Z (λv z=>A.nx (Z.set x<|!v) z) (! assign (.Name y O) X.env) λ_ B=>SP X Y A .next B:=λC D m g r E F P sz G H k=>by
 let(Q u,w,h,I,J):=k g.heap (9,λ_ _=>9);let(i j l,L,n,q):=id E;let M:Inv X (Y++[%[C|i]]) Z u {g with heap:=g.heap}:=w.pins_of λp hp=>by
  rcases Jb.mp hp with hp|hp
  .exact w.pin p ()
  simp_all
 exact wpAny_assign_Name<|Dh M a c d h (λR s=>(m,ji i j l ((s.pin %[C|i] ()).1,n,q),λS t=>(_,u,(s.pins_of λp hp=>s.pin p ()).turned (λb o N e=>(t.2 b N).trans e) I F (.inr sz) G H,J))) f
def IA   (f:swapsWith (.ListComp c [(i,b,[],0)] a j) (! .Name y t) d.line X.env=pure 6)(l:X.N.Nodup)(m:X.N[u]?=!y)(n:zr X.env.scope y)(o:X.fn y=6\/X.env.scope.names.lookup y=!.local)(N)(cap)(v:X.calm=6)(p:Kg a X.env N X.N cap=6)(w:PI X i b wi)(z:∀q C s H r,PG (JM X a N q C s H r) i g)(F:∀q C s H r,PE (JM X a N q C s H r) c A)
 (B:∀x,foldedSetIterable b X.env x=pure x:=by intro _;rfl):PS X (.Assign [.Name y t] (.ListComp c [(i,b,[],0)] a j) d) (zO (Xt cap wi g A)<|V7 u):=by
 intro Y s Z H G I h;rw[exec_Assign_Name_used _ _ _ _ f];refine Za<|wpAny_standAt<|Za<|Za<|Zc (GH N cap v p w z () B I h<|Iz l m n o) (λ_ J E=>Zb<|Zb E) λ_ _ e=>e
def IB   (l:swapsWith (.ListComp d [(m,b,[c],0)] a n) (! .Name y u) f.line X.env=pure 6)(o:X.N.Nodup)(p:X.N[v]?=!y)(q:zr X.env.scope y)(r:X.fn y=6\/X.env.scope.names.lookup y=!.local)(N)(cap)(w:X.calm=6)(t:Kg a X.env N X.N cap=6)(z:PI X m b wi)(A:∀i C s H j,PG (JM X a N i C s H j) m g)(B:∀i C s H j,PT (JM X a N i C s H j) c tt)(E:∀i C s H j,PE (JM X a N i C s H j) d te)
 (F:∀x,foldedSetIterable b X.env x=pure x:=by intro _;rfl):PS X (.Assign [.Name y u] (.ListComp d [(m,b,[c],0)] a n) f) (zO (Bt cap wi g tt te)<|V7 v):=by
 intro Y s Z H J I h;rw[exec_Assign_Name_used _ _ _ _ l];refine Za<|wpAny_standAt<|Za<|Za<|Zc (HA N cap w t z A B E F I h<|Iz o p q r) (λ_ L G=>Zb<|Zb G) λ_ _ e=>e
end
end L2
namespace L2.DL
def IC{K:W.Frag}   (w:∀Z H Q,uL K E b Z H Q->c Z H Q)   (h:uK K E m (jE i b) T Z H):zO c (V7 i) T Z H:=w _ _ _<|by
 let(B F e,r,n):=h;exact ji B F e (r,(Res.need_bind n).mono (λd f=>yW.new λv g j a l=>f _ g j a.ff<|(r.step a).setVal l) λ_ _ q=>q.ext r.ext)
def Sj{K:W.Frag}   (w:∀Z H Q,uL K E b Z H Q->c Z H Q)   (h:uK K E m (qD i b) T Z H):zO c (V7 i) T Z H:=w _ _ _<|by
 let(B F e,r,n):=h;calc ji B F e (r,(Res.need_bind n).mono (λd f l g s a t u v=>f _ g s a.ff<|(r.step a).setOwn (Qa r.ext.hh t) u v λj p z x A=>?_) λ_ _ q=>q.ext r.ext);let(-C,G,_,_,y,_):=r.own x;let(o,I):=y.has
 simp_all
def Sk(N)(cap)(j:X.N.Nodup)(l:X.N[w]?=!y)(n:zr X.env.scope y)(z:X.calm=6)(o:Kg a X.env N X.N cap=6)(A:QI X E p b B)
 (F:∀d C s H e,QG (JM X a N d C s H e) p t)(G:∀d C s H e,QT (JM X a N d C s H e) E c I)(J:∀d C s H e,QE (JM X a N d C s H e) E g f)(r:swapsWith (.ListComp g [(p,b,[c],0)] a u) (! .Name y L) i.line X.env=pure 6:=by rfl)
 (v:X.fn y=6\/X.env.scope.names.lookup y=!.local:=by trivial)(M:∀x,foldedSetIterable b X.env x=pure x:=by intro _;rfl):
 QS X E m (.Assign [.Name y L] (.ListComp g [(p,b,[c],0)] a u) i) (jE w<|V0 cap B t I f):=PS.weak (IB r j l n v N cap z o A F G J M) λT Z H h=>IC (λ_ _ _ q=>Ed q) h
def Sl(N:Yi)(cap:List (Option 5))(l:X.N.Nodup)(n:X.N[A]?=!y)(o:zr X.env.scope y)(B:X.calm=6)(p:Kg a X.env N X.N cap=6)(F:QI X E r b G)
 (I:∀d C s H e,QG (JM X a N d C s H e) r t)(J:∀d C s H e,QT (JM X a N d C s H e) E c z)(L:∀d C s H e,QE (JM X a N d C s H e) E i f)(u:swapsWith (.ListComp i [(r,b,[c],0)] a v) (! .Name y M) j.line X.env=pure 6:=by rfl)
 (w:X.fn y=6\/X.env.scope.names.lookup y=!.local:=by trivial)(O:∀x,foldedSetIterable b X.env x=pure x:=by intro _;rfl):
 QS X E m (.Assign [.Name y M] (.ListComp i [(r,b,[c],0)] a v) j) (qD A<|V0 cap G t z f):=by
 let P:=IB (g:=gT t X.K) (tt:=k7 X.K E z) (te:=tD X.K E f) u l n o w N cap B p F I J L O;exact PS.weak P λT Z H h=>Sj (λ_ _ _ q=>Ed q) h
def ID:Option (Option SV)->Res D
 |some (~~~d)=>.ok d
 |_=>.no
@[simp]def eS(d):ID (!~~~d)=.ok d:=rfl
@[simp]def sF(i)(a):ja i a=ID a[i]?:=rfl
@[simp]def e7(d)(a):dC d a=.ok d:=rfl
@[simp]def dA(g)(b c)(a):jm g b c a=(b a).bind λx=>(c a).bind λy=>.ofO<|g x y:=rfl
@[simp]def d8(g)(a)(b):qC g a b=(a b).bind λx=>.ofO<|g x:=rfl
def dG:D->Res Bool
 |.bl b=>.ok b
 |_=>.no
@[simp]def ti(b):dG (.bl b)=.ok b:=rfl
@[simp]def nj(a)(b):JC a b=(a b).bind dG:=by
 rfl
@[simp]def mP(f)(a):Q8 f a=(f a).bind λb=>.ok<|not b:=rfl
@[simp]def nt(f g)(a):BJ f g a=(f a).bind λb=>if b then g a else .ok 7:=rfl
@[simp]def sP(f g)(a):yx f g a=(f a).bind λb=>if b then .ok 6 else g a:=rfl
@[simp]def nq(c d)(a):Wb c d a=(JC c a).bind λb=>if b then d a else .ok (.bl 7):=rfl
@[simp]def mO(a)(c):DO a c=(JC a c).bind λb=>.ok<|.bl<|not b:=rfl
@[simp]def sQ(a):jd a=.ok []:=rfl
@[simp]def nc(b)(c)(a):J1 b c a=(b a).bind λx=>(c a).bind λd=>.ok<|x::d:=rfl
@[simp]def sR(a)(b):xb a b=(a b).bind λc=>if c.length<=1000 then .ok (.lst c)else .no:=rfl
@[simp]def sH(a)(b):qJ a b=(a b).bind λc=>if c.length<=1000 then .ok (.tup c)else .no:=rfl
@[simp]def nh(a)(b)(c):J8 a b c=(b c).bind a:=rfl
@[simp]def sX(g)(a)(b):jq g a b=(a b).bind λc=>.ofO<|g c:=rfl
@[simp]def n0 (a:α):(Res.ok a).bare=.ok a:=rfl
@[simp]def sI(is)(f)(a):zU is f a=(f<|qo is a).bare.bind λd=>if Uk d then .ok d else .no:=rfl
@[simp]def kH(i):Uk (.int i)=6:=rfl
@[simp]def mu(i):Uk (.bl i)=6:=rfl
@[simp]def fL(a):qo [] a=a:=rfl
def frz1(i:5)(a:SD):Option (Option SV)->SD
 |some (some<|.own _ d)=>a.set i (~~~d)
 |_=>a
@[simp]def fM(i)(a)(p)(d):frz1 i a (! ! .own p d)=a.set i (~~~d):=rfl
@[simp]def eM(i)(is)(a):qo (i::is) a=qo is (frz1 i a a[i]?):=by
 rfl
def yb(g:FS):Out->Res Out
 |.next a=>g a
 |o=>.ok o
@[simp]def eF(g)(a):yb g (.next a)=g a:=rfl
@[simp]def kE(g)(d):yb g (.ret d)=.ok (.ret d):=rfl
@[simp]def kF(g)(d):yb g (.brk d)=.ok (.brk d):=rfl
@[simp]def sL(a b)(c):jN a b c=(a c).bind (yb b):=by
 rfl
@[simp]def mQ(a):Qz a=.ok (.next a):=rfl
@[simp]def sW(a):uv a=.ok (.brk a):=rfl
@[simp]def sK(i)(f)(a):jE i f a=(f a).bind λd=>.ok<|.next<|a.set i<|~~~d:=rfl
@[simp]def sO(i)(f)(a):qD i f a=(f a).bind λd=>.ok<|.next<|a.set i<|! .own 7 d:=rfl
@[simp]def sN(f)(a):jP f a=(f a).bind λd=>.ok<|.ret d:=rfl
def uy:Option (Option SV)->Res D
 |some (some<|.own _ d)=>.ok d
 |_=>.no
@[simp]def gh(p)(d):uy (! ! .own p d)=.ok d:=rfl
@[simp]def iw(i)(a):KM i a=(uy a[i]?).bind λd=>.ok<|.ret d:=by
 unfold KM;cases a[i]? with
 |none=>rfl
 |some o=>
  cases o with
  |none=>rfl
  |some v=>cases v<;>rfl
@[simp]def mY(f:FE)(a:SD):Ar f a=(f a).bind λ_=>.ok<|.next a:=rfl
@[simp]def sS(c)(d e)(a):yc c d e a=(c a).bind λb=>if b then d a else e a:=rfl
def uz:Option (Option SV)->Res YC
 |some (some<|.own false<|.lst a)=>.ok a
 |_=>.no
@[simp]def gj(a):uz (! !(.own 7<|.lst a))=.ok a:=rfl
@[simp]def eN(i)(f)(a):Wc i f a=(uz a[i]?).bind λb=>(f a).bind λd=>if b.length<sizeLine then .ok (.next<|a.set i<|!(.own 7<|.lst<|b++[d]))else .no:=by
 unfold Wc;cases a[i]? with
 |none=>rfl
 |some o=>
  cases o with
  |none=>rfl
  |some v=>
   cases v with
   |val d=>rfl
   |own p d=>cases p<;>cases d<;>rfl
def IE:D->Res YC
 |.lst a=>.ok a
 |_=>.no
@[simp]def eV(a):IE (.lst a)=.ok a:=rfl
@[simp]def i7(i)(f)(a):Y5 i f a=(uz a[i]?).bind λb=>(f a).bind λd=>(IE d).bind λe=>if b.length+e.length<=sizeLine then .ok (.next<|a.set i<|!(.own 7<|.lst<|b++e))else .no:=by
 unfold Y5;cases a[i]? with
 |none=>rfl
 |some o=>
  cases o with
  |none=>rfl
  |some v=>
   cases v with
   |val d=>rfl
   |own p d=>
    cases p with
    |true=>cases d<;>rfl
    |false=>
     cases d with
     |lst b=>
      cases f a with
      |ok x=>cases x<;>rfl
      |ex c fs=>rfl
      |no=>rfl
     |_=>rfl
noncomputable def gm:Option (Option SV)->Res (List jT×YC)
 |some (some<|.own false<|.dct a b)=>.ok %[a|b]
 |_=>.no
@[simp]def gk(a)(b):gm (! !(.own 7<|.dct a b))=.ok %[a|b]:=rfl
@[simp]def mZ(i)(fk b)(a):YL i fk b a=(b a).bind λv=>(gm a[i]?).bind λo=>(fk a).bind λk=>(Res.ofO<|Kj k).bind λq=>if o.1.length<sizeLine then .ok (.next<|a.set i<|!(.own 7<|.dct (Wv o.1 q)<|WA o.1 o.2 q v))else .no:=by
 unfold YL;cases b a with
 |ok v=>
  cases a[i]? with
  |none=>rfl
  |some o=>
   cases o with
   |none=>rfl
   |some w=>
    cases w with
    |val d=>rfl
    |own p d=>
     cases p with
     |true=>cases d<;>rfl
     |false=>
      cases d with
      |dct e f=>
       cases fk a with
       |ok k=>show(match Kj k with|some q=>_|none=>_)=(Res.ofO<|Kj k).bind _;cases Kj k<;>rfl
       |ex c fs=>rfl
       |no=>rfl
      |_=>rfl
 |ex c fs=>rfl
 |no=>rfl
def yJ:Out->Res D
 |.ret d=>.ok d
 |.next _=>.ok .non
 |_=>.no
@[simp]def gn(d):yJ (.ret d)=.ok d:=rfl
def IF(n ar)(g)(a)(h:a.length=ar):qu n ar g a=(g<|JT n a).bind yJ:=by
 unfold qu;rw[Zd h];rfl
def yK:Out->Res D
 |.ret d=>.ok d
 |_=>.no
@[simp]def gq(d):yK (.ret d)=.ok d:=rfl
def kJ(n ar)(g)(a)(h:a.length=ar):qF n ar g a=(g<|JT n a).bind yK:=by
 unfold qF;rw[Zd h];rfl
@[simp]def rB(n)(g)(a):qu n 1 g [a]=(g<|~~~a::List.replicate (n-1) 8).bind yJ:=IF n 1 g [a] 9
@[simp]def rA(n)(g)(a b):qu n 2 g [a,b]=(g<|~~~a::~~~b::List.replicate (n-2) 8).bind yJ:=rfl
@[simp]def r9(n)(g)(a b c):qu n 03 g [a,b,c]=(g<|~~~a::~~~b::~~~c::List.replicate (n-03) 8).bind yJ:=rfl
@[simp]def r8(n:5)(g:FS)(a b c d:D):qu n 04 g [a,b,c,d]=(g<|~~~a::~~~b::~~~c::~~~d::List.replicate (n-04) 8).bind yJ:=IF n 04 g [a,b,c,d] 9
@[simp]def rx(n)(g)(a):qF n 1 g [a]=(g<|~~~a::List.replicate (n-1) 8).bind yK:=kJ n 1 g [a] 9
@[simp]def rq(n)(g)(a b):qF n 2 g [a,b]=(g<|~~~a::~~~b::List.replicate (n-2) 8).bind yK:=rfl
@[simp]def rp(n)(g)(a b c):qF n 03 g [a,b,c]=(g<|~~~a::~~~b::~~~c::List.replicate (n-03) 8).bind yK:=rfl
@[simp]def fK(i j):jG (.int i) (.int j)=!(.int<|i+j):=rfl
@[simp]def fw(i j):za (.int i) (.int j)=!(.int<|i-j):=rfl
@[simp]def f6(i):xC (.int i)=!(.int<|-i):=rfl
@[simp]def mz(i j):sx (.int i) (.int j)=!(.bl<|decide<|i<j):=rfl
@[simp]def m7(i j:3):fB (.int i) (.int j)=!(.bl<|decide<|i<=j):=rfl
@[simp]def mH(i j):wa (.int i) (.int j)=!(.bl<|decide<|j<i):=rfl
@[simp]def fJ(i j):qk (.int i) (.int j)=!(.bl<|decide<|i=j):=RF i j
@[simp]def f7(i j):wG (.int i) (.int j)=!(.bl<|not<|decide<|i=j):=RG i j
def Eg (h:WV i j=6):zb (.int i) (.int j)=!(.int<|i*j):=by
 show(if WV i j then _ else _)=_
 simp_all
def IG (a:-18446744073709551616<i)(b:i<18446744073709551616):WV i j=6:=by
 unfold WV;rw[Vv,Vv,UU,UU];lia
def Sm (a:i.natAbs<yz)(b:j.natAbs<yz):WV i j=6:=by
 simp_all[WV]
@[simp]def my (h:0<j):zc (.int i) (.int j)=!(.int<|i%j):=by
 show(if Uv 0 j.toNat then _ else _)=_;rw[Zd (by rw[UU];lia)]
@[simp]def fI (h:0<j)(a:j<1073741824):Ay (.int i) (.int j)=!(.int<|i/j):=by
 show(if Uv 0 j.toNat&&Uv j.toNat 1073741824 then _ else _)=_;rw[Zd (by rw[Ui,UU,UU];lia)]
@[simp]def fA(a):jO [.lst a]=! .int a.length:=rfl
@[simp]def f9(a):jO [.scr a]=! .int a.length:=rfl
@[simp]def eT(i j):X5 [.int i,.int j]=!(.int<|if j>i then j else i):=rfl
@[simp]def eH(i j):A6 [.int i,.int j]=!(.int<|if j<i then j else i):=rfl
@[simp]def eX(a):Ww [.lst a]=! .lst a:=rfl
@[simp]def ip(a):WC [.lst a]=! .tup a:=rfl
@[simp]def mE(a)(k):jJ (.lst a) (.int k)=xy a k:=rfl
@[simp]def m8(a)(k):jJ (.scr a) (.int k)=(xy a k).map .int:=rfl
@[simp]def mF(a)(b)(k):jJ (.dct a b) (.int k)=jX a b (.inl k):=rfl
@[simp]def mG(neg)(a)(b)(k):vw neg (.int k) (.dct a b)=!(.bl<|if neg then not<|(jX a b<|.inl k).isSome else(jX a b<|.inl k).isSome):=rfl
@[simp]def eU(k):Kj (.int k)=! .inl k:=rfl
@[simp]def Eh (h:r.length<=100)(o:jA r):WD [js r]=! yk r:=by
 show(Um<|js r).bind _=_;rw[HW];show(if r.length<=100 then !(yk<|YK r)else 8)=_;rw[Zd h,RZ o]
theorem BZ:∀{r:Jz},jA r->∀t:3,jX (r.map λp=>.inl p.1) (r.map λp=>.int p.2) (.inl t)=(JE r t).map .int
 |[],_,t=>9
 |p::r,o,t=>by
  let a:jA r:=by simp_all[jA]
  let n:p.1∉r.map (·.1):=by simp_all[jA]
  rw[Zl,Zl,DV,BF];by_cases h:p.1=t
  .cases q:JE r t with
   |none=>simp_all
   |some w=>exact Zn (Ja.mpr (%[t|w],Q2 q,h.symm)) n
  .rw[Ze λz=>h<|by injection z,BZ a t]
   grind
def II:D->Res (List jT×YC)
 |.dct a b=>.ok %[a|b]
 |_=>.no
@[simp]def ic(a)(b):II (.dct a b)=.ok %[a|b]:=rfl
@[simp]def mV(b fk fx)(a):A8 b fk fx a=(b a).bind λd=>(II d).bind λo=>(fk a).bind λk=>(fx a).bind λx=>.ofO<|(Kj k).map λq=>(jX o.1 o.2 q).getD x:=by
 unfold A8;cases b a with
 |ok d=>cases d<;>rfl
 |ex c fs=>rfl
 |no=>rfl
def Sn(r:Jz)(t:3):z9 (.inl t) (r.map λp=>.inl p.1)=r.any λp=>decide<|p.1=t:=by
 unfold z9;rw[List.any_map]
 congr 1
 funext p
 exact HG
def So(r)(t w):D.dct (Wv (r.map λp=>.inl p.1)<|.inl t) (WA (r.map λp=>.inl p.1) (r.map λp=>.int p.2) (.inl t)<|.int w)=yk (xl r t w):=by
 unfold Wv WA yk xl;rw[Sn];let a:∀r:Jz,wr (r.map λp=>.inl p.1) (r.map λp=>.int p.2) (.inl t) (.int w)=(r.map λp=>if p.1=t then%[p.1|w]else p).map λp=>D.int p.2:=by
  intro r
  induction r with
  |nil=>rfl
  |cons p r b=>
   rw[Zl,Zl,Zl,Zl,Ic,b];by_cases h:p.1=t
   .rw[Zd (by rw[h]),Zd h]
   .rw[Ze λz=>h<|by injection z,Ze h]
 let c:∀r:Jz,(r.map λp=>if p.1=t then%[p.1|w]else p).map (λp=>(Uh p.1:jT))=r.map λp=>.inl p.1:=by
  intro r;rw[Zw]
  congr 1
  funext p
  show(Uh (if p.1=t then%[p.1|w]else p).1:jT)=_;by_cases h:p.1=t
  .rw[Zd h]
  .rw[Ze h]
 by_cases q:r.any λp=>decide<|p.1=t=6
 .rw[Zd q,Zd q,Zd q,a,c]
 .rw[Ze q,Ze q,Ze q,Ud,Ud];rfl
@[simp]def iG(a)(b):BY a b=(a b).bind λd=>.ofO<|Ef d:=rfl
def Sq (h:r ≠[])(a:r.length<1000):Ef (yk r)=!(.lst<|(Qe qw r).map qB):=by
 show(A9 _ _).bind _=_
 simp_all[Si]
@[simp]def dB(f)(a):iS f a=(f a).bind λd=>.ofO<|Wd d:=rfl
@[simp]def eO(a):Wd (.lst a)=!a:=rfl
@[simp]def i6(a):Wd (.tup a)=!a:=rfl
def WW:YC->Res YC
 |[.int j]=>if WE j then .ok (JY 0 j.toNat)else .no
 |_=>.no
@[simp]def sT(a)(b):wF a b=(a b).bind WW:=by
 rfl
def Cb (a:-1000000000<=j)(b:j<=1000000000):WW [.int j]=.ok (JY 0 j.toNat):=Zd<|BX a b
def X6{lo:3}{n i:5} (h:(JY lo n)[i]?=!x):x=.int (lo+i)/\i<n:=by
 grind[JY,List.getElem?_map,List.length_range]
def Cc(lo)(n):(JY lo n).length=n:=by unfold JY;simp
def xI(c:Tg)(b:FS)(d:YC)(a:SD):Res Out:=zf (λx a=>(JW c x a).bind b) d a
@[simp]def sU(c)(d)(b)(a):qT c d b a=(c a).bind λe=>xI d b e a:=rfl
@[simp]def fN(c:Tg)(b:FS)(a:SD):xI c b [] a=.ok (.next a):=rfl
@[simp]def IJ(i)(d)(a):JW (.one i) d a=.ok (a.set i<|~~~d):=rfl
@[simp]def i9(i j)(a b)(c):JW (.tup [i,j]) (.tup [a,b]) c=.ok ((c.set i<|~~~a).set j<|~~~b):=rfl
@[simp]def iB(i j)(p)(a):JW (.tup [i,j]) (qB p) a=.ok ((a.set i<|~~~.int p.1).set j<|~~~.int p.2):=rfl
def WX {b:FS}  (P:5->SD->4)(m:P 0 sd)(d:∀i(x:D)sd,ds[i]?=!x->P i sd->∃a,(JW tg x sd).bind b=.ok (.next a)/\P (i+1) a):∃a,xI tg b ds sd=.ok (.next a)/\P ds.length a:=by
 let f:∀k i sd,ds.length-i=k->i<=ds.length->P i sd->∃a,xI tg b (ds.drop i) sd=.ok (.next a)/\P ds.length a:=by
  intro k
  induction k with
  |zero=>
   intro i sd e g p;let:i=ds.length:=()
   simp_all
  |succ k h=>
   intro i sd e g p;let c:i<ds.length:=()
   rw[Uj c];let(a,n,j):=d i ds[i] sd () p;have(l,o,q):=h (i+1) a () c j
   simp_all[xI,zf]
 grind
def AA {b:FS}  (R:Res Out->4)(P:5->SD->4)(q:P 0 c)(r:∀c,P f.length c->R (.ok<|.next c))
 (m:∀i x c,f[i]?=!x->P i c->(∃a,((JW h x c).bind b=.ok (.next a)\/(JW h x c).bind b=.ok (.cont a))/\P (i+1) a)\/(∃a,(JW h x c).bind b=.ok (.brk a)/\R (.ok<|.next a))\/∃d,(JW h x c).bind b=.ok (.ret d)/\R (.ok<|.ret d)):R (xI h b f c):=by
 let n:∀k i c,f.length-i=k->i<=f.length->P i c->R (xI h b (f.drop i) c):=by
  intro k
  induction k with
  |zero=>
   intro i c e o p;let:i=f.length:=()
   simp_all
  |succ k l=>
   intro i c e o p;let g:i<f.length:=()
   rw[Uj g];unfold xI zf;rcases m i f[i] c () p with ⟨a,h1|h1,j⟩|⟨a,h1,j⟩|⟨d,h1,j⟩
   .rw[h1];exact l (i+1) a () g j
   .rw[h1];exact l (i+1) a () g j
   .rwa[h1]
   .rwa[h1]
 grind
def IK{α β γ:Type}{f:α->Res β}{k:γ->α}{g:γ->β}{a:List γ}(h:∀x∈a,f (k x)=.ok (g x)):yM f (a.map k)=.ok (a.map g):=by
 induction a with
 |nil=>rfl
 |cons x a b=>
  simp_all[yM]
def qz(a:Tg)(f:FE)(c:SD)(b:YC):Res YC:=yM (λx=>(JW a x c).bind f) b
@[simp]def ng(cap)(c)(b)(f)(a):Qf cap c b f a=(c a).bind λd=>if KN (jZ cap a) b=6/\d.length<sizeLine then(qz b f (jZ cap a) d).bind λe=>.ok<|.lst e else .no:=rfl
def bI:Option (Option SV)->Option SV
 |some (~~~d)=>~~~d
 |_=>8
@[simp]def bH(d):bI (!~~~d)= ~~~d:=rfl
@[simp]def bJ(a):jZ [] a=[]:=rfl
@[simp]def tf(cap)(a):jZ (8::cap) a=8::jZ cap a:=rfl
@[simp]def td(j)(cap)(a):jZ (some j::cap) a=bI a[j]?::jZ cap a:=rfl
@[simp]def io(a)(i):KN a (.one i)=W9 a i:=rfl
@[simp]def iA(a)(is):KN a (.tup is)=is.all (W9 a):=rfl
@[simp]def gJ(a:SD):W9 (8::a) 0=6:=rfl
@[simp]def gH(o)(a:SD)(i):W9 (o::a) (i+1)=W9 a i:=rfl
def K4{α:Type} {f:FE} {k:α->D}{g:α->D}{a:List α}(h:∀x∈a,(JW b (k x) c).bind f=.ok (g x)):qz b f c (a.map k)=.ok (a.map g):=IK h
def IL {f:FE} {lo:3}{n:5} (h:∀i,i<n->(JW a (.int<|lo+i) c).bind f=.ok (g i)):qz a f c (JY lo n)=.ok ((List.range n).map g):=IK λi b=>h i<|Je.mp b
@[simp]def eE(cap)(d)(b)(c)(f)(a):V0 cap d b c f a=(d a).bind λe=>if KN (jZ cap a) b=6/\e.length<sizeLine then(Ux b c f (jZ cap a) e).bind λg=>.ok<|.lst g else .no:=rfl
def AB{α:Type}    {k:α->D}{s:α->SD}{p:α->Bool}{g:α->D}{a:List α}(e:∀x∈a,JW b (k x) d=.ok (s x))(h:∀x∈a,c (s x)=.ok (p x))(i:∀x∈a,p x=6->f (s x)=.ok (g x)):
 Ux b c f d (a.map k)=.ok ((a.filter p).map g):=by
 induction a with
 |nil=>rfl
 |cons x a j=>
  grind[Ux,List.map_cons,List.filter_cons,Res.bind_ok]
def Ql (h:n<=1000):n<sizeLine:=GD h
@[simp]def iE(i):xD [.int i,.ty "bool"]=! .bl 7:=rfl
@[simp]def iC(i):xD [.int i,.ty "int"]=! .bl 6:=rfl
noncomputable def QC{α:Type}(a:List α)(lo b c:Option 3):List α:=(sliceRange (sliceBounds lo b c a.length).1 (sliceBounds lo b c a.length).2.1 (sliceBounds lo b c a.length).2.2).filterMap (a[·]?)
def IM(a)(lo b c):slicePick a.toArray lo b c=(QC a lo b c).toArray:=by
 simp_all[slicePick,QC]
def IN (f:α->β)(a)(lo b c):QC (a.map f) lo b c=(QC a lo b c).map f:=by
 grind[QC,Zql,List.filterMap_cons,List.getElem?_map]
section
variable  {E:XK}  {a b o i e f tg:Expr}{fa fb fo fi fv fe:FE}   {lo hi st:Option Expr}
abbrev FO:=SD->Res (Option 3)
def aM(K:W.Frag)(E:XK)(f:FO):TO:=λZ H Q=>∃B F c,RS K B F H c Z/\(f c).need (λo=>∀g d,Ext F H g d->Q o d) (XW K E F H)
def K5:FO:=λ_=>.ok 8
def Wx(f:FE):FO:=λc=>(f c).bind λd=>match d with
 |.int i=>.ok !i
 |_=>.no
abbrev QO(X:Cx)(E:XK)(e:Option Expr)(f:FO):4:=PO X e<|aM X.K E f
def PO.weak{e:Option Expr} (h:PO X e t)(w:∀Z H Q,c Z H Q->t Z H Q):PO X e c:=λY s Z H Q I q=>h Y s Z H Q I<|w _ _ _ q
def WF:QO X E 8 K5:=PO.weak (λY s Z H Q I h=>Zb (8,H,I,.none,h)) λZ H Q=>qy λB F c=>jF λr n=>n F H<|.refl r.ext.fh
def YN(h:QE X E e fe):QO X E (!e) (Wx fe):=PO.weak (OP h) λZ H Q g=>by
 let(B F j,r,n):=g;calc ji B F j (r,(Res.need_bind n).mono (λd c v l m p s=>?_) λ_ _ q=>q);cases d with
 |int i=>calc(i,jg.mp s,c l m p)
 |_=>exact c.elim
def rC(K:W.Frag):V->Option 3->Option 3->Option 3->Hp->VK->4:=λx lo hi st H Q=>∃a c,x=.ref a/\xo K H a c/\st≠!0/\∀p,H p=8->Q (.ref p) (jD H p<|.lst<|QC c lo hi st)
def nQ(r:V->Option 3->Option 3->Option 3->Hp->VK->4)(d:TE)(g h j:TO):TE:=λZ H Q=>d Z H λx m=>g Z m λl n=>h Z n λu p=>j Z p λc q=>r x l u c q Q
def Sr  (C:PE X e F)(G:PO X lo J)(m:PO X hi L)(M:PO X st N):PE X (.Subscript e (.Slice lo hi st p2) O) (nQ (rC X.K) F J L N):=by
 intro Y s Z H Q I h;calc Subscript_<|jS (C Y s Z H _ I h) λv P=>j8 λx R=>jC λS T U=>wpAny_Slice<|jS (G Y P Z R _ S U) λw s2=>j8 λl H2=>jC λI2 pl q2=>jS (m Y s2 Z H2 _ I2 q2) λy s3=>j8 λu H3=>jC λI3 pu q3=>jS (M Y s3 Z H3 _ I3 q3) λz d=>j8 λc H4=>jC λI4 ps q4=>?_;let(a n,rfl,j,h0,q):=q4;obtain rfl:=T;let p:Inv X Y Z H4 {d with heap:=d.heap.push {cls:=.type "slice",data:=.fields #[w,y,z]}}:=I4.kept λb ob q=>Zq _ q;let(-its,r,t,hz):=p.list j;let A:=r.length
 suffices g:YE X (getItem (.ref a)<|.ref d.heap.objs.size) (EP X Y Z Q) X.xe {d with heap:=d.heap.push {cls:=.type "slice",data:=.fields #[w,y,z]}}by
  cases st with
  |none=>calc tail_any t.isList.typeIs slot_list_getitem.lookup g<|by rfl
  |some c=>exact tail_any t.isList.typeIs slot_list_getitem.lookup g<|by rfl
 calc wpAny_getItem_list_slice t.isList (Heap.IsSliceOf.new ..) pl pu ps h0 ?_ ();rw[IM];exact(.ref _,_,p.laid (o:=.lst<|QC n l u c) (λb ob q=>Zq _ q) (Zf _) (Zh (by
  let h:=slicePick_size_le (n.map λ_=>Value.none).toArray l u c
  simp_all[IM,IN]) hz,_,0,by
   unfold QC;rw[r.length];generalize sliceRange _ _ _=B
   induction B with
   |nil=>calc .nil
   |cons i B ih=>
    rw[UN,UN];cases j:n[i]? with
    |none=>rwa[r.none_of j]
    |some x=>
     let(u,m,ru):=r.get j;rw[m];calc .cons ru ih,Zr _ 9),9,q _<|p.hok.fresh<|Zf _)
def uP:D->Option 3->Option 3->Option 3->YD
 |.lst c,lo,hi,st=>if st=!0 then 8 else !(.lst<|QC c lo hi st)
 |.scr d,lo,hi,st=>if st=!0 then 8 else !(.lst<|(QC d lo hi st).map .int)
 |_,_,_,_=>8
def vF(fe:FE)(j m fs:FO):FE:=λg=>(fe g).bind λd=>(j g).bind λl=>(m g).bind λh=>(fs g).bind λc=>.ofO<|uP d l h c
def AC (R:QE X E e fe)(S:QO X E lo T)(C:QO X E hi U)(Y:QO X E st fs):QN X E (.Subscript e (.Slice lo hi st p2) pos) (vF fe T U fs):=PE.weak (Sr R S C Y) λZ H Q zh=>by
 let(B F y,r,n):=zh;calc ji B F y (r,(Res.need_bind n).mono (λd n1 v F1 H1 m L=>ji B F1 y (r.step m,(Res.need_bind n1).mono (λl n2 F2 H2 t=>ji B F2 y ((r.step m).step t,(Res.need_bind n2).mono (λh n3 F3 H3 G=>ji B F3 y (((r.step m).step t).step G,(Res.need_bind n3).mono (λc n4 M H4 w=>?_) λ_ _ q=>q.ext<|(m.trans t).trans G)) λ_ _ q=>q.ext<|m.trans t)) λ_ _ q=>q.ext m)) λ_ _ q=>q);let(z,j,q):=jj n4;let g:=(t.trans G).trans w;let A:=m.trans g;cases d with
 |lst N=>
  let j:(if c=!0 then 8 else !(D.lst<|QC N l h c))=!z:=j
  split at j
  .exact J7 j
  .rename_i I;obtain rfl:=Zqi j;let(a,O,rfl,J,h2):=L;calc jI a O (9,((J.same g.ff).same g.fh).sq,I,λp s=>q p M _ (A.trans<|.keep w.fh s _) (Qa A.hh s) (Qa w.fh s) (_,JL,by
    let r:=je.same g.ff _ _ h2;unfold QC;rw[r.length];generalize sliceRange _ _ _=P
    induction P with
    |nil=>rfl
    |cons i P ih=>
     rw[UN,UN];cases hx:N[i]? with
     |none=>
      let hn:O[i]?=8:=List.getElem?_eq_none_iff.mpr<|by rw[r.length];simp_all
      rwa[hn]
     |some x=>
      let(u,C,ru):=r.get hx;rw[C];calc .mk ru ih))
 |scr ns=>
  let j:(if c=!0 then 8 else !(D.lst<|(QC ns l h c).map .int))=!z:=j
  split at j
  .exact J7 j
  .rename_i I;obtain rfl:=Zqi j;let(a,rfl,J):=L;calc jI a _ (9,jk.seq g.fh<|jk.seq g.ff J,I,λp s=>q p M _ (A.trans<|.keep w.fh s _) (Qa A.hh s) (Qa w.fh s) (_,JL,?_));rw[IN];calc qW _
 |_=>exact J7 j
@[simp]def d9(fe)(j m fs)(g):vF fe j m fs g=(fe g).bind λd=>(j g).bind λl=>(m g).bind λh=>(fs g).bind λc=>.ofO<|uP d l h c:=rfl
@[simp]def eW(c):K5 c=.ok 8:=rfl
def IP:D->Res (Option 3)
 |.int i=>.ok !i
 |_=>.no
@[simp]def im(i):IP (.int i)=.ok !i:=rfl
@[simp]def mM(f)(c):Wx f c=(f c).bind IP:=by
 rfl
@[simp]def fz(c)(lo hi):uP (.lst c) lo hi 8=!(.lst<|QC c lo hi 8):=rfl
@[simp]def bq(i)(fb)(c):V1 i fb c=(uy c[i]?).bind λd=>(fb c).bind λy=>.ofO<|jJ d y:=by
 unfold V1;cases c[i]? with
 |none=>rfl
 |some o=>
  cases o with
  |none=>rfl
  |some v=>cases v<;>rfl
def WY:YC->YD
 |[.lst d]=>(QF Um d).bind λc=>if(∀r∈c,r ≠[])/\c.length<1000 then !(.lst<|(Qe jH c).map js)else 8
 |_=>8
def IQ(w:X.A.units+64<cLine):qq X (.builtin "sorted") (wQ X.K WY):=qq.weak (Rs w) λI H Q y=>by
 let(F J z,g,id,c,q):=y;unfold WY at c
 split at c
 .let(-p,A,c):=Jf.mp c
  split at c
  .rename_i r;obtain rfl:=Zqi c;let(v,rfl,h):=QR id;rw[DS A,jl]at h;let(a,B,rfl,C,s):=h;calc ji a B p (9,C.same g,vp.mp<|je.same g _ _ s,r.1,r.2,λl t j m u=>q l F _ (.keep g j _) j (Qa g j) (_,JL,?_));rw[<-u,Zw];clear u
   induction t with
   |nil=>calc .nil
   |cons i t L=>
    rw[Zl,Zl];let hi:=m i Zqs;let(x,G,n):=s.get (d:=js<|p.getD i []) (by rw[Zv,Zqg hi,Qn (Zqg hi)];rfl);rw[Qn G];exact .mk n ()
  .exact J7 c
 simp_all
end
end L2.DL
namespace L2
def IR{bs:List Bool} (r:j1 (bs.map V.bl) a)(i:5)(v:Value)(h:a.toArray[i]?=!v):v=.bool (bs.getD i 7):=by
 let b:a[i]?=!v:=by simp_all
 let g:=(Jd.mp b).1;let d:=r.length;rw[Zql]at d;let e:bs[i]?=!bs[i]:=by simp
 let(u,c,f):=r.get (i:=i) (x:=.bl bs[i]) ();rw[b]at c;obtain rfl:=Zqi c;rw[f,Ut,e];rfl
def Ss(bs:List Bool):(List.range bs.length).all (λi=>bs.getD i 7)=bs.all id:=by
 apply Vf.mpr;rw[UP,UP];constructor
 .intro h b c;let(i,a,rfl):=UB c;let:=h i<|Je.mpr a
  rwa[Ut,Zqg a]at this
 .intro h i a;let a:=Je.mp a;rw[Ut,Zqg a];exact h _<|UE a
def Su(bs:List Bool):(List.range bs.length).any (λi=>bs.getD i 7)=bs.any id:=by
 apply Vf.mpr;rw[Vn,Vn];constructor
 .rintro⟨i,a,h⟩;let a:=Je.mp a;rw[Ut,Zqg a]at h;exact(_,UE a,h)
 .rintro⟨b,c,h⟩;let(i,a,rfl):=UB c;calc(i,Je.mpr a,?_);rw[Ut,Zqg a];exact h
def Sv(l:X.calm=6):qq X (.builtin "all") λg H Q=>∃(a:Addr)(bs:List Bool),g=[.ref a]/\xo X.K H a (bs.map V.bl)/\Q (.bl<|bs.all id) H:=by
 intro Y s Z H g B Q I r h;let(a,bs,rfl,m,q):=h;let(u,rfl,n):=K2 r;obtain rfl:=n;let(-d,j,p,C):=I.list m;let f:a<s.heap.objs.size:=by let(_,e,_):=p.isList;exact Zk e
 let c:=j.length;rw[Zql]at c;refine call_all_walk<|wpAny_pyIter_list p.isList<|zx _ _ _ _ _ _ (λi=>bs.getD i 7) (9,Walks.list (A:=X.A.in1) (I.ok.hd l) s.heap.objs.size a (Zi f) d.toArray,((_,Zr _ 9,9,9),p.isList.push _),?_,λE F t=>?_)
 .intro i v G J L w x;let y:=IR j i v w;subst y;exact wpAny_of_eq 9 x
 .rw[Zm,<-c,Ss];calc(.bl _,H,I.kept λb o e=>t b o ?_<|Zq _ e,9,q);intro z;rw[Jc.mp z]at e;exact Zy _<|Zk e
def Sw(l:X.calm=6):qq X (.builtin "any") λg H Q=>∃(a:Addr)(bs:List Bool),g=[.ref a]/\xo X.K H a (bs.map V.bl)/\Q (.bl<|bs.any id) H:=by
 intro Y s Z H g E Q I r h;let(a,bs,rfl,m,q):=h;let(u,rfl,n):=K2 r;obtain rfl:u=Value.ref a:=n;let(-d,j,p,F):=I.list m;let f:a<s.heap.objs.size:=by let(_,e,_):=p.isList;exact Zk e
 let c:=j.length;rw[Zql]at c;refine call_any_walk<|wpAny_pyIter_list p.isList<|zx _ _ _ _ _ _ (λi=>bs.getD i 7) (9,Walks.list (A:=X.A.in1) (I.ok.hd l) s.heap.objs.size a (Zi f) d.toArray,((_,Zr _ 9,9,9),p.isList.push _),?_,λG t w=>?_)
 .intro i v J L M x y;let z:=IR j i v x;subst z;exact wpAny_of_eq 9 y
 .rw[Zm,<-c,Su];calc(.bl _,H,I.kept (t':=t) λb o e=>w b o ?_<|Zq _ e,9,q);intro B;let C:=Jc.mp B;rw[C]at e;exact Zy _<|Zk e
end L2
namespace L2.DL
def u5:D->Option Bool
 |.bl i=>!i
 |_=>8
def Sx  (h:u5 d=!i):d=.bl i:=by
 cases d with
 |bl j=>cases h;rfl
 |_=>exact J7 h
theorem xO{K:W.Frag} :∀{bs:List Bool}{c:YB},je K H (bs.map D.bl) c->c=bs.map V.bl
 |[],_,h=>je.nil_iff.mp h
 |b::bs,_,h=>by
  let(x r,rfl,e,f):=h;rw[jz.mp e,xO f];rfl
def YO:D->Option (List Bool)
 |.lst a=>QF u5 a
 |_=>8
def IS{K:W.Frag}    (h:YO d=!c)(i:jh K H d v):∃a,v=.ref a/\xN K H a (c.map V.bl):=by
 cases d with
 |lst f=>
  let(a,g,rfl,e,b):=i;rw[Aw (λ_ _=>Sx) h]at b;rw[xO b]at e
  simp_all
 |_=>exact J7 h
def IT(a:List Bool):YO (.lst<|a.map D.bl)=!a:=by
 let h:=Av (f:=u5) (g:=D.bl) (λ_=>9) a
 rwa[List.map_id']at h
def ze:YC->YD
 |[d]=>(YO d).bind λa=>!(.bl<|a.all id)
 |_=>8
def vD:YC->YD
 |[d]=>(YO d).bind λa=>!(.bl<|a.any id)
 |_=>8
def Ei(d:X.calm=6):qq X (.builtin "all") (wR X.K ze):=qq.weak (Sv d) λj H Q e=>by
 let(F l z,c,id,b,q):=e;unfold ze at b
 split at b
 .let(f,g,b):=Jf.mp b;obtain rfl:=Zqi b;let(v,rfl,h):=QR id;let(a,rfl,i):=IS g h;exact(a,f,9,(i.same c).sq,q _ F H (.refl c)<|zY _ F)
 simp_all
def bK(d:X.calm=6):qq X (.builtin "any") (wR X.K vD):=qq.weak (Sw d) λj H Q e=>by
 let(F l z,c,id,b,q):=e;unfold vD at b
 split at b
 .let(f,g,b):=Jf.mp b;obtain rfl:=Zqi b;let(v,rfl,h):=QR id;let(a,rfl,i):=IS g h;exact(a,f,9,(i.same c).sq,q _ F H (.refl c)<|zY _ F)
 .exact J7 b
def IU(a:List Bool):ze [.lst (a.map .bl)]=!(.bl<|a.all id):=by
 show(YO _).bind _=_;rw[IT];rfl
def Sy(a:List Bool):vD [.lst (a.map .bl)]=!(.bl<|a.any id):=by
 show(YO _).bind _=_;rw[IT];rfl
end L2.DL
namespace L2
def Ej:bootBuiltins "all"=! .builtin "all":=boot_all
def Sz:bootBuiltins "any"=! .builtin "any":=boot_any
end L2
namespace L2.DL
end L2.DL
namespace L2.ST
open PySem
def zq:5->5->5
 |0,z=>z
 |n+1,z=>zq n (05*z+1)
def IV(a b z):zq (a+b) z=zq b (zq a z):=by
 induction a generalizing z with
 |zero=>rw[Nat.zero_add];rfl
 |succ a c=>rw[Nat.succ_add];exact c _
def IW(n z d):zq n (z+d)=zq n z+05^n*d:=by
 induction n generalizing z d with
 |zero=>simp[zq]
 |succ n a=>
  show zq n (05*(z+d)+1)=zq n (05*z+1)+05^(n+1)*d
  grind
def rH(n):05^n%04=1:=by
 induction n with
 |zero=>rfl
 |succ n a=>lia
def S0(k z):∃u,zq (2^k) z=z+2^k*(2*u+1):=by
 induction k generalizing z with
 |zero=>calc(2*z,by show 05*z+1=z+1*(2*(2*z)+1);lia)
 |succ k b=>
  let(u,a):=b z;let e:2^(k+1)=2^k+2^k:=()
  rw[e,IV,a,IW,a];let c:=rH<|2^k;have(v,hv):∃v,05^2^k=04*v+1:=(05^2^k/04,());calc(2*u*(2*v+1)/2+v,?_);let:2*u*(2*v+1)/2=u*(2*v+1):=by grind
  grind
def S3(m n z):zq n z%m=zq n (z%m)%m:=by
 let h:=IW n (z%m)<|m*(z/m);rw[Nat.mod_add_div]at h;rw[h,<-Nat.mul_assoc,Nat.mul_comm _ m,Nat.mul_assoc,Nat.add_mul_mod_self_left]
theorem Ek:∀k x y,y<2^k->∃q,q<2^k/\zq q x%2^k=y
 |0,x,y,h=>by grind
 |k+1,x,y,h=>by
  let e:2^(k+1)=2*2^k:=()
  let f:0<2^k:=Nat.two_pow_pos k;let(q,o,g):=Ek k x (y%2^k) (UF _ f);rw[e]at h ⊢;by_cases c:zq q x%(2*2^k)=y
  .grind
  .calc(q+2^k,(),?_);rw[IV];let(u,i):=S0 k (zq q x);rw[i];generalize zq q x=w at*;generalize 2^k=m at*;let j:w+m*(2*u+1)=w+m+2*m*u:=by grind
   rw[j,Nat.add_mul_mod_self_left];let l:=Nat.div_add_mod w m;let d:=UF w<|show 0<2*m from();rw[g]at l;let a:w%(2*m)%m=y%m:=by rwa[Nat.mod_mul_left_mod]
   let a1:w%(2*m)<m\/m<=w%(2*m):=()
   let a2:y<m\/m<=y:=()
   let b:∀t,t<2*m->m<=t->t%m=t-m:=λt p n=>by
    rw[Nat.mod_eq_sub_mod n,UV ()]
   rw[Nat.add_mod,UV (show m<2*m from())];generalize w%(2*m)=t at*;rcases a1 with a1|a1<;>rcases a2 with a2|a2
   .rw[UV a1,UV a2]at a;exact Zn a c
   .rw[UV a1,b y h a2]at a;rw[UV ()];lia
   .rw[UV a2,b t d a1]at a;rw[Nat.mod_eq_sub_mod (),UV ()];lia
   .rw[b t d a1,b y h a2]at a;exact Zn () c
def JK(t:YA):5->SetTable.Probe->SetTable.Probe
 |0,p=>p
 |n+1,p=>JK t n (t.advance p)
def AD(t)(a b)(p):JK t (a+b) p=JK t b (JK t a p):=by
 induction a generalizing p with
 |zero=>rw[Nat.zero_add];rfl
 |succ a c=>rw[Nat.succ_add];exact c _
def S4(t)(n)(p):JK t (n+1) p=t.advance (JK t n p):=AD t n 1 p
def KO(a i b:5):SetTable.Probe:={j:=i,more:=SetTable.runEnd a i-i,i:=i,perturb:=b,dummy:=8}
def xj(a:5):5->5×5->5×5
 |0,s=>s
 |n+1,s=>xj a n (SetTable.leap a s.1 s.2)
def Cd(a i):SetTable.runEnd a i-i<=09:=by
 grind[SetTable.runEnd]
def IX(t)(m):∀p,p.more=m->p.dummy=8->JK t (m+1) p=KO t.mask (SetTable.leap t.mask p.i p.perturb).1 (SetTable.leap t.mask p.i p.perturb).2:=by
 induction m with
 |zero=>
  intro p a b;show t.advance p=_
  simp_all[SetTable.advance,KO]
 |succ m c=>
  intro p a b;show JK t (m+1) (t.advance p)=_
  simp_all[SetTable.advance]
theorem IY(t):∀r i a,∃n,n<=10*r/\JK t n (KO t.mask i a)=KO t.mask (xj t.mask r %[i|a]).1 (xj t.mask r %[i|a]).2
 |0,i,a=>(0,Zf _,9)
 |r+1,i,a=>by
  have(n,b,c):=IY t r (SetTable.leap t.mask i a).1 (SetTable.leap t.mask i a).2;let d:=Cd t.mask i;refine(SetTable.runEnd t.mask i-i+1+n,(),?_)
  rwa[AD,IX t (SetTable.runEnd t.mask i-i) (KO t.mask i a) 9 9]
def IZ(c a b)(s):xj c (a+b) s=xj c b (xj c a s):=by
 induction a generalizing s with
 |zero=>rw[Nat.zero_add];rfl
 |succ a d=>rw[Nat.succ_add];exact d _
theorem El(a):∀r s,(xj a r s).2=s.2/32^r
 |0,s=>by show s.2=_;rw[Nat.pow_zero,Nat.div_one]
 |r+1,s=>by
  show(xj a r<|SetTable.leap a s.1 s.2).2=_;rw[El a r];show s.2/32/32^r=_;rw[Nat.div_div_eq_div_mul,Nat.pow_succ,Nat.mul_comm 32]
theorem Em(a):∀r i,i<a+1->xj a r %[i|0]=%[zq r i%(a+1)|0]
 |0,i,h=>by
  show%[i|0]=%[i%(a+1)|0];rw[UV h]
 |r+1,i,h=>by
  show xj a r %[(i*05+1+0/32)%(a+1)|0/32]=%[zq r (05*i+1)%(a+1)|0];rw[Nat.zero_div,Nat.add_zero,Em a r _ (UF _ ()),<-S3,Nat.mul_comm i 05]
def La(a r)(s)(h:s.1<a+1):(xj a r s).1<a+1:=by
 induction r generalizing s with
 |zero=>calc h
 |succ r b=>exact b _<|UF _ ()
def bF  (d:t.mask+1=2^k)(h) (f:y<=t.mask):∃n,n<10*SetTable.turns t.mask/\(JK t n<|t.probeStart h).j=y:=by
 let a:t.probeStart h=KO t.mask (SetTable.bits h%(t.mask+1)) (SetTable.bits h):=9;let g:SetTable.bits h<2^64:=by
  grind[SetTable.bits]
 let i:=La t.mask 13 %[SetTable.bits h%(t.mask+1)|SetTable.bits h]<|UF _ ();let j:(xj t.mask 13 %[SetTable.bits h%(t.mask+1)|SetTable.bits h]).2=0:=by
  grind[El]
 have(q,l,e):=Ek k (xj t.mask 13 %[SetTable.bits h%(t.mask+1)|SetTable.bits h]).1 y ();let b:xj t.mask (13+q) %[SetTable.bits h%(t.mask+1)|SetTable.bits h]=%[y|0]:=by
  rw[IZ]
  grind[Em]
 have(n,m,c):=IY t (13+q) (SetTable.bits h%(t.mask+1)) (SetTable.bits h);calc(n,by unfold SetTable.turns;lia,?_);rw[a,c,b];rfl
def Lb{t:YA} (h:p.dummy=8):(t.advance p).dummy=8:=by
 grind[SetTable.advance]
def S5  (h:p.dummy=8)(n):(JK t n p).dummy=8:=by
 induction n generalizing p with
 |zero=>calc h
 |succ n a=>exact a<|Lb h
theorem Lc   :∀k a p,k<a->p.dummy=8->(∀m,m<k->∃i,t.slot (JK t m p).j=.live i)->t.slot (JK t k p).j=.empty->
 (∃m i,m<k/\t.slot (JK t m p).j=.live i/\hashAt i=h/\SetTable.probe.go t hashAt h a p=!(.candidate (JK t m p).j i<|JK t (m+1) p)/\∀b d,b<m->t.slot (JK t b p).j=.live d->hashAt d≠h)\/
 SetTable.probe.go t hashAt h a p=! .empty (JK t k p).j 8/\∀b d,b<k->t.slot (JK t b p).j=.live d->hashAt d≠h
 |0,0,p,hf,_,_,_=>()
 |0,a+1,p,_,hd,_,e=>by
  let e:t.slot p.j=.empty:=e;calc .inr (?_,());unfold SetTable.probe.go;rw[e,hd];rfl
 |k+1,0,p,hf,_,_,_=>()
 |k+1,a+1,p,hf,hd,hl,e=>by
  have(i,f):=hl 0 (Vb _);let f:t.slot p.j=.live i:=f;by_cases c:hashAt i=h
  .calc .inl (0,i,Vb _,f,c,?_,());unfold SetTable.probe.go;rw[f];show(if(hashAt i==h)=6 then _ else _)=_;rw[Zd ()];rfl
  .let l:SetTable.probe.go t hashAt h (a+1) p=SetTable.probe.go t hashAt h a (t.advance p):=by
    simp_all[SetTable.probe.go]
   rcases Lc k a (t.advance p) () (Lb hd) (λm n=>hl (m+1) ()) e with ⟨m,o,q,g,r,u,s⟩|⟨q,g⟩
   .calc .inl (m+1,o,(),g,r,by rwa[l],λb d n j=>?_);cases b with
    |zero=>
     simp_all
    |succ b=>exact s b d () j
   .calc .inr (by rwa[l],λb d n j=>?_);cases b with
    |zero=>
     simp_all
    |succ b=>exact g b d () j
open PySem
def vx(a:Yg):4:=∀i j,i<j->j<a.size->a.getD i 0<a.getD j 0
def K6{α:Type}{a:Array α} (h)(d):a.getD i d=a[i]:=()
theorem En  (u:vx a):∀fuel lo b,b-lo<=fuel->lo<=b->b<=a.size->(∀i,i<lo->a.getD i 0<j)->(∀i,b<=i->i<a.size->j<=a.getD i 0)->
 SetTable.below.go a j fuel lo b<=a.size/\(∀i,i<SetTable.below.go a j fuel lo b->a.getD i 0<j)/\∀i,SetTable.below.go a j fuel lo b<=i->i<a.size->j<=a.getD i 0
 |0,lo,b,hf,hl,g,h,h2=>by
  let e:lo=b:=()
  subst e;unfold SetTable.below.go;calc(g,h,h2)
 |fuel+1,lo,b,hf,hl,g,h,h2=>by
  unfold SetTable.below.go;by_cases c:lo<b
  .rw[Zd c];let(-m,e,p,m2,r,s):=GU (k:=fuel+1) (x:=0) c hf;let l:m<a.size:=Zg m2 g;let o:a.getD m j=a.getD m 0:=by rw[K6 l,K6 l]
   show(if a.getD ((lo+b)/2) j<j then _ else _)<=a.size/\(∀i,i<(if a.getD ((lo+b)/2) j<j then _ else _)->_)/\∀i,(if a.getD ((lo+b)/2) j<j then _ else _)<=i->_;rw[e];by_cases d:a.getD m j<j
   .rw[Zd d];rw[o]at d;calc En u fuel (m+1) b s m2 g (λi f=>?_) h2;by_cases q:i=m
    .rw[q];exact d
    .exact Ul (u i m (UH (Uu f) q) l) d
   .rw[Ze d];rw[o]at d;calc En u fuel lo m r p (Zz l) h λi f n=>?_;by_cases q:i=m
    .rw[q];exact Nat.le_of_not_lt d
    .exact Zz<|UD (Nat.le_of_not_lt d)<|u m i (UH f<|Ne.symm q) n
  .rw[Ze c];let e:lo=b:=()
   subst e;exact(g,h,h2)
def Ce (u:vx a)(j):SetTable.below a j<=a.size/\(∀i,i<SetTable.below a j->a.getD i 0<j)/\∀i,SetTable.below a j<=i->i<a.size->j<=a.getD i 0:=
 En u a.size 0 a.size () () (Zf _) () ()
def yZ(t:YA)(j:5):4:=∃i,i<t.place.size/\t.place.getD i 0=j
def Ld(j):SetTable.has #[] j=7:=rfl
def Le{t:YA}(u:vx t.place) (c:i<t.place.size)(e:t.place.getD i 0=j):t.slot j=.live i:=by
 unfold SetTable.slot;let g:SetTable.below t.place j=i:=by rw[<-e];(
  let(!h,d,f):=Ce u (t.place.getD i 0);generalize SetTable.below t.place (t.place.getD i 0)=p at*;rcases Vc p i with q|q|q
  .let a:=u p i q c;let b:=f p (Zf _) ();lia
  .exact q
  .let:=d i q;lia)
 simp_all
def S6 (b:t.dummies=#[]) (h:¬yZ t j):t.slot j=.empty:=by
 unfold SetTable.slot;let c:¬(t.place[SetTable.below t.place j]?==!j)=6:=by
  intro z;let z:t.place[SetTable.below t.place j]?=!j:=by simpa using z
  let(a,d):=Jo.mp z;exact h (_,a,by rwa[K6 a])
 simp_all[Ld]
def S7 (u:vx t.place) (h:yZ t j):∃i,t.slot j=.live i/\i<t.place.size/\t.place.getD i 0=j:=by
 let(i,a,e):=h;exact(i,Le u a e,a,e)
def S8{t a:YA}(h:t.mask=a.mask)(p):t.advance p=a.advance p:=by
 unfold SetTable.advance;rw[h]
def Lf (h:t.mask=a.mask)(n)(p):JK t n p=JK a n p:=by
 induction n generalizing p with
 |zero=>rfl
 |succ n b=>show JK t n (t.advance p)=JK a n (a.advance p);rw[S8 h,b]
def Lg{t a:YA}(h:t.mask=a.mask)(x):t.probeStart x=a.probeStart x:=by
 unfold SetTable.probeStart;rw[h]
def vY(t:YA)(o:5->4)(x:3)(y:5):4:=∃n,(JK t n<|t.probeStart x).j=y/\∀m,m<n->o (JK t m<|t.probeStart x).j
def vY.mono    (h:vY t o x y)(c:t.mask=f.mask)(i:∀j,o j->l j):vY f l x y:=by
 let(n,q,p):=h;refine(n,?_,λm e=>?_)
 .rwa[<-Lf c,<-Lg c]
 .rw[<-Lf c,<-Lg c];exact i _<|p m e
structure TabOk(t:YA)(hs:Array 3):4 where
 size:t.place.size=hs.size
 up:vx t.place
 le:∀i,i<t.place.size->t.place.getD i 0<=t.mask
 nod:t.dummies=#[]
 pow:∃k,t.mask+1=2^k
 room:t.place.size<=t.mask
 ways:∀i,i<t.place.size->vY t (yZ t) (hs.getD i 0) (t.place.getD i 0)
def S9 (u:vx d) (o:d.size<=m):∃y,y<=m/\∀i,i<d.size->d.getD i 0≠y:=by
 by_cases h:∀i,i<d.size->d.getD i 0=i
 .exact(m,Zf _,λi g e=>by let:=h i g;lia)
 .let(i,g,hne,hmin):∃i,i<d.size/\d.getD i 0≠i/\∀k,k<i->d.getD k 0=k:=by
   let j:∀n,n<=d.size->(∀k,k<n->d.getD k 0=k)\/∃i,i<d.size/\d.getD i 0≠i/\∀k,k<i->d.getD k 0=k:=by
    intro n
    induction n with
    |zero=>intro _;calc .inl λk f=>Zn f<|UX _
    |succ n l=>
     intro p;rcases l ()with q|q
     .by_cases c:d.getD n 0=n
      .calc .inl λk f=>?_;by_cases e:k=n
       .rw[e];exact c
       .exact q k ()
      .exact .inr (n,(),c,q)
     .exact .inr q
   rcases j d.size (Zf _)with q|q
   .exact Zn q h
   .exact q
  calc(i,(),λk f e=>?_);rcases Vc k i with q|q|q
  .let:=hmin k q;lia
  .subst q;exact hne e
  .let a:=u i k q f;let b:i<=d.getD i 0:=by
    cases i with
    |zero=>calc Uc _
    |succ i=>
     let:=u i (i+1) () g;let:=hmin i ();lia
   lia
def SA  (T:TabOk t s)(x):∃n,n<10*SetTable.turns t.mask/\(∀m,m<n->yZ t (JK t m<|t.probeStart x).j)/\¬yZ t (JK t n<|t.probeStart x).j:=by
 let(k,g):=T.pow;let(y,h,j):=S9 T.up T.room;let(n,b,e):=bF g x h;let a:¬yZ t (JK t n<|t.probeStart x).j:=by
  rw[e];rintro⟨i,l,q⟩;exact j i l q
 let f:∀d n,n<=d->n<10*SetTable.turns t.mask->¬yZ t (JK t n<|t.probeStart x).j->∃n,n<10*SetTable.turns t.mask/\(∀m,m<n->yZ t (JK t m<|t.probeStart x).j)/\¬yZ t (JK t n<|t.probeStart x).j:=by
  intro d
  induction d with
  |zero=>
   grind
  |succ d o=>
   intro n u b a;by_cases c:∀m,m<n->yZ t (JK t m<|t.probeStart x).j
   .exact(n,b,c,a)
   .have(m,p):=Classical.not_forall.mp c;have(v,r):=Classical.not_imp.mp p;exact o m () () r
 exact f n n (Zf _) b a
def Eo (a:Array α) (b:p<=a.size)(x):(SetTable.insertAt a p x).size=a.size+1:=by
 grind[SetTable.insertAt]
def Lh (a:Array α) (b:p<=a.size)(x d)(i):(SetTable.insertAt a p x).getD i d=if i<p then a.getD i d else if i=p then x else a.getD (i-1) d:=by
 unfold SetTable.insertAt;simp only[VD]
 grind
def SC  (T:TabOk t l)  (w:y<=t.mask)(A:¬yZ t y)(B:vY t (yZ t) x y)(J:t.place.size+1<=t.mask):TabOk (t.put y).1 (SetTable.insertAt l (t.put y).2 x)/\(t.put y).2<=l.size/\(t.put y).1.mask=t.mask:=by
 let(!q,C,E):=Ce T.up y;let F:(t.put y).2=SetTable.below t.place y:=9;let a:(t.put y).1.place=SetTable.insertAt t.place (SetTable.below t.place y) y:=9;let b:(t.put y).1.mask=t.mask:=9;let m:(t.put y).1.dummies=#[]:=by
  show(if SetTable.has t.dummies y then SetTable.eraseAt t.dummies (SetTable.below t.dummies y)else t.dummies)=_;rw[T.nod,Ld];rfl
 rw[F];let G:∀i,SetTable.below t.place y<=i->i<t.place.size->y<t.place.getD i 0:=λi H r=>by
  let:=E i H r;let:t.place.getD i 0≠y:=λz=>A (i,r,z);lia
 generalize SetTable.below t.place y=p at*;let sz:(SetTable.insertAt t.place p y).size=t.place.size+1:=Eo _ q _;let g:=Lh t.place q y 0;let n:∀j,yZ t j->yZ (t.put y).1 j:=by
  rintro j ⟨i,h,e⟩;by_cases c:i<p
  .exact(i,by rw[a,sz];lia,by rw[a,g,Zd c];calc e)
  .exact(i+1,by rw[a,sz];lia,by rw[a,g,Ze (),Ze (),Nat.add_sub_cancel];calc e)
 let I:=T.size;refine((?_,?_,?_,m,by rw[b];calc T.pow,(),?_),(),b)
 .rw[a,sz,Eo _ ()];lia
 .intro i j o s;rw[a]at s ⊢;rw[sz]at s;rw[g,g];by_cases d:j<p
  .rw[Zd d,Zd ()];exact T.up i j o ()
  .rw[Ze d];by_cases f:j=p
   .rw[Zd f,Zd ()];exact C i ()
   .rw[Ze f];by_cases u:i<p
    .rw[Zd u];exact T.up i (j-1) () ()
    .rw[Ze u];by_cases v:i=p
     .rw[Zd v];exact G (j-1) () ()
     .rw[Ze v];exact T.up (i-1) (j-1) (Nat.sub_lt_sub_right ()<|by assumption) ()
 .intro i h;rw[a]at h ⊢;rw[sz]at h;rw[g,b]
  split
  .exact T.le i ()
  .split
   .exact w
   .exact T.le (i-1) ()
 .intro i h;rw[a]at h ⊢;rw[sz]at h;rw[g,Lh l () x 0];by_cases d:i<p
  .rw[Zd d,Zd d];exact(T.ways i ()).mono b.symm n
  .rw[Ze d,Ze d];by_cases f:i=p
   .rw[Zd f,Zd f];exact B.mono b.symm n
   .rw[Ze f,Ze f];exact(T.ways (i-1) ()).mono b.symm n
open PySem
theorem Cf(t)(i a):∀k,k<=SetTable.runEnd t.mask i-i->JK t k (KO t.mask i a)={j:=i+k,more:=SetTable.runEnd t.mask i-i-k,i:=i,perturb:=a,dummy:=8}
 |0,_=>9
 |k+1,h=>by
  rw[S4,Cf t i a k ()]
  grind[SetTable.advance]
def Ep (h:i<=a):i<=SetTable.runEnd a i/\SetTable.runEnd a i<=a:=by
 grind[SetTable.runEnd]
def yL(a:Array (Option 5))(j:5):4:=∃i,a.getD j 8=!i
theorem Li  (l:a.size=t.mask+1):∀fuel i b y,i<=t.mask->SetTable.layClean.free t.mask a fuel i b=!y->
 y<=t.mask/\a.getD y 8=8/\∃n,(JK t n<|KO t.mask i b).j=y/\∀m,m<n->yL a (JK t m<|KO t.mask i b).j
 |0,i,b,y,_,h=>by unfold SetTable.layClean.free at h;calc J7 h
 |fuel+1,i,b,y,z,h=>by
  let o:=Ep z;unfold SetTable.layClean.free at h;let p:∀{k},k<SetTable.runEnd t.mask i+1-i->k<=SetTable.runEnd t.mask i-i:=λd=>by
   rw[Nat.succ_sub o.1]at d;exact Uu d
  let r:∀{k},k<SetTable.runEnd t.mask i+1-i->i+k<a.size:=λd=>by
   rw[l];exact Nat.lt_succ_of_le<|Zh (Nat.add_le_of_le_sub' o.1<|p d) o.2
  let f:∀k,k<SetTable.runEnd t.mask i+1-i->a.getD (i+k) (!0)=a.getD (i+k) 8:=λk d=>by
   rw[K6 (r d),K6 (r d)]
  let bz:∀k,k<SetTable.runEnd t.mask i+1-i->(not<|(a.getD (i+k)<|!0).isNone)=6->yL a (i+k):=λk d s=>by
   rw[f k d]at s;unfold yL;cases q:a.getD (i+k) 8 with
   |none=>rw[q]at s;calc JF s
   |some v=>exact(v,9)
  split at h
  .rename_i k d;let(!u,e,w):=List.find?_range_eq_some.mp d;let e:=Je.mp e;obtain rfl:=Zqi h;refine(Uu<|by let:=r e;rwa[l]at this,?_,k,?_,λm g=>?_)
   .rw[f k e]at u;cases q:a.getD (i+k) 8 with
    |none=>rfl
    |some v=>rw[q]at u;exact JF u
   .rw[Cf t i b k (p e)]
   .rw[Cf t i b m (p<|Ul g e)];exact bz m (Ul g e)<|w m g
  .rename_i d;let w:=Jy.mp d;let A:(SetTable.leap t.mask i b).1<=t.mask:=Jp.mp<|UF _<|Vb _;let(B,C,n,E,F):=Li l fuel _ _ y A h;let j:=IX t (SetTable.runEnd t.mask i-i) (KO t.mask i b) 9 9;let j:JK t (SetTable.runEnd t.mask i-i+1) (KO t.mask i b)=KO t.mask (SetTable.leap t.mask i b).1 (SetTable.leap t.mask i b).2:=j;calc(B,C,SetTable.runEnd t.mask i-i+1+n,by rw[AD,j];calc E,λm g=>?_);by_cases c:m<=SetTable.runEnd t.mask i-i
   .rw[Cf t i b m c];exact bz m ()<|w m ()
   .let(x,rfl):∃x,m=SetTable.runEnd t.mask i-i+1+x:=(m-(SetTable.runEnd t.mask i-i+1),());rw[AD,j];exact F x ()
theorem Lj  (f:a.size=b+1):∀(fuel i c:5),i<=b->SetTable.layClean.free b a fuel i c=8->∀r,r<fuel->yL a (xj b r %[i|c]).1
 |0,i,c,_,_,r,hr=>Zn hr (UX _)
 |fuel+1,i,c,g,h,r,hr=>by
  let j:=Ep g;unfold SetTable.layClean.free at h
  split at h
  .cases h
  .rename_i l;let m:=Jy.mp l;let n:(SetTable.leap b i c).1<=b:=Jp.mp<|UF _<|Vb _;cases r with
   |zero=>
    let d:=m 0 ();let e:a.getD (i+0) (!0)=a.getD i 8:=by rw[Nat.add_zero,K6 (),K6 ()]
    rw[e]at d;show yL a i;unfold yL;cases q:a.getD i 8 with
    |none=>rw[q]at d;calc JF d
    |some v=>calc(v,9)
   |succ r=>exact Lj f fuel _ _ n h r ()
def SE (b:a+1=2^k)(h) (c:y<=a):∃r,r<SetTable.turns a/\(xj a r %[SetTable.bits h%(a+1)|SetTable.bits h]).1=y:=by
 let d:SetTable.bits h<2^64:=by
  grind[SetTable.bits]
 let f:=La a 13 %[SetTable.bits h%(a+1)|SetTable.bits h]<|UF _ ();let g:(xj a 13 %[SetTable.bits h%(a+1)|SetTable.bits h]).2=0:=by
  grind[El]
 have(q,i,e):=Ek k (xj a 13 %[SetTable.bits h%(a+1)|SetTable.bits h]).1 y ();calc(13+q,by unfold SetTable.turns;lia,?_);rw[IZ]
 grind[Em]
structure LayOk(t:YA)(owner:Array (Option 5))(hs:Yf):4 where
 size:owner.size=t.mask+1
 lt:∀j i,owner.getD j 8=!i->i<hs.length
 one:∀j j' i,owner.getD j 8=!i->owner.getD j' 8=!i->j=j'
 all:∀i,i<hs.length->∃j,j<=t.mask/\owner.getD j 8=!i/\vY t (yL owner) (hs.getD i 0) j
def SF{f:5->5} (h:∀a b,a<n->b<n->f a=f b->a=b):((List.range n).map f).Nodup:=by
 grind[List.pairwise_map,List.Pairwise.imp_of_mem,List.nodup_range]
def SG   (L:LayOk t c h)(s:h.length<=t.mask):∃y,y<=t.mask/\c.getD y 8=8:=by
 apply Classical.byContradiction;intro l;let g:∀y,y<t.mask+1->∃i,c.getD y 8=!i:=λy j=>by
  cases q:c.getD y 8 with
  |none=>grind
  |some i=>simp
 let m:((List.range<|t.mask+1).map λy=>(c.getD y 8).getD 0).Nodup:=SF λa b n o e=>by
  let(i,d):=g a n;let(p,f):=g b o;rw[d,f]at e;let e:i=p:=e;subst e;exact L.one a b i d f
 let sub:((List.range<|t.mask+1).map λy=>(c.getD y 8).getD 0)⊆ List.range h.length:=λz r=>by
  let(y,j,rfl):=Ja.mp r;let(i,d):=g y (Je.mp j);rw[d];exact Je.mpr<|L.lt y i d
 let:=VY m sub
 grind
def SH{owner:Array (Option 5)} (a:y<owner.size)(v)(j):(owner.setIfInBounds y v).getD j 8=if j=y then v else owner.getD j 8:=by
 simp
 grind
def SI   (L:LayOk t owner g)(A:g.length<=t.mask)(B:∃k,t.mask+1=2^k)(h):
 ∃y,SetTable.layClean.free t.mask owner (SetTable.turns t.mask) (SetTable.bits h%(t.mask+1)) (SetTable.bits h)=!y/\LayOk t (owner.setIfInBounds y<|!g.length) (g++[h]):=by
 let p:SetTable.bits h%(t.mask+1)<=t.mask:=Jp.mp<|UF _<|Vb _;cases q:SetTable.layClean.free t.mask owner (SetTable.turns t.mask) (SetTable.bits h%(t.mask+1)) (SetTable.bits h)with
 |none=>
  let(k,C):=B;let(y,E,F):=SG L A;let(r,G,e):=SE C h E;let(i,s):=Lj L.size _ _ _ p q r G;rw[e,F]at s;calc J7 s
 |some y=>
  let(H,u,n,I,J):=Li L.size _ _ _ y p q;let l:=SH (owner:=owner) (y:=y) (by rw[L.size];lia)<|!g.length;let v:∀j,yL owner j->yL (owner.setIfInBounds y<|!g.length) j:=by
   rintro j ⟨i,d⟩;calc(i,?_);rw[l,Ze λz=>by rw[z,u]at d;cases d];exact d
  refine(y,9,(by rw[Array.size_setIfInBounds];calc L.size,λj i d=>?_,λj w i d f=>?_,λi o=>?_))
  .rw[Ua,Ub];rw[l]at d
   split at d
   .simp_all
   .let:=L.lt j i d;lia
  .rw[l]at d f
   split at d
   .rename_i a;obtain rfl:=Zqi d
    split at f
    .rename_i b;rw[a,b]
    .let:=L.lt w _ f;lia
   .split at f
    .obtain rfl:=Zqi f;let:=L.lt j _ d;lia
    .exact L.one j w i d f
  .rw[Ua,Ub]at o;by_cases c:i<g.length
   .have(j,M,x,N):=L.all i c;refine(j,M,?_,?_)
    .rwa[l,Ze λz=>by rw[z,u]at x;cases x]
    .let e:(g++[h]).getD i 0=g.getD i 0:=by
      rw[Ut,Ut,UY c]
     rw[e];exact N.mono 9 v
   .let e:i=g.length:=()
    subst e;calc(y,H,by rw[l,Zd 9],?_);let e:(g++[h]).getD g.length 0=h:=by
     rw[Ut,UK (Zf _),Vi];rfl
    rw[e];exact(n,I,λm O=>v _<|J m O)
theorem Lk (f:∃k,t.mask+1=2^k):∀rest c a,LayOk t a c->c.length+rest.length<=t.mask+1->
 ∃b,rest.foldl (init:=!%[a|c.length]) (λd h=>do
  let%[a|k]<-d
  let j<-SetTable.layClean.free t.mask a (SetTable.turns t.mask) (SetTable.bits h%(t.mask+1)) (SetTable.bits h)
  pure %[a.setIfInBounds j !k|k+1])=!%[b|c.length+rest.length]/\LayOk t b (c++rest)
 |[],c,a,L,_=>by grind
 |h::rest,c,a,L,hl=>by
  rw[Zu]at hl;let(y,e,g):=SI L () f h;let(-i,l,m):=Lk f rest (c++[h]) _ g ()
  grind
def SJ (c:∃k,t.mask+1=2^k)(b)(f:b.size<=t.mask+1):∃a,SetTable.layClean t.mask b=!a/\LayOk t a b.toList:=by
 let d:LayOk t (Array.replicate (t.mask+1) 8) []:=by
  let z:∀j i,(Array.replicate (t.mask+1) (8:Option 5)).getD j 8≠!i:=λj i h=>by
   simp[Array.getElem?_replicate]at h
   split at h<;>exact J7 h
  exact((),(),(),())
 have(o,e,L):=Lk c b.toList [] _ d ()
 simp_all[SetTable.layClean]
open PySem
def SK{a:Array (Option 5)} (h:a.getD j 8=!i):j<a.size:=()
def Wf(b:5)(a:Array (Option 5)):List (5×5):=(List.range<|b+1).filterMap λj=>(a.getD j 8).map<|λz=>%[j|z]
def SL   :p∈Wf mask owner↔p.1<=mask/\owner.getD p.1 8=!p.2:=by
 unfold Wf;rw[List.mem_filterMap];constructor
 .rintro⟨j,a,e⟩;let(i,b,e):=Jj.mp e;subst e;exact(Jp.mp<|Je.mp a,b)
 grind
def SN(d)(c):(Wf d c).Pairwise λa b=>a.1<b.1:=by
 unfold Wf;rw[List.pairwise_filterMap];calc List.pairwise_lt_range.imp λ{a b}e x f y g=>?_;let(i,_,rfl):=Jj.mp f;let(h,_,rfl):=Jj.mp g;exact e
def Er{α:Type}(l:List α)(i)(d):l.toArray.getD i d=l.getD i d:=()
def Es{α β:Type}(l:List α)(f:α->β)(i)(a)(d):(l.map f).getD i d=f l[i]:=()
def SO (v:∃k,mask+1=2^k)(f)(Z:f.size<=mask)(finger moves)(led plain):
 ∃r c,SetTable.laid mask finger moves led plain f=!%[r|c]/\r.mask=mask/\r.moves=moves/\r.led=led/\r.plain=plain/\r.finger=finger/\c.size=f.size/\(∀k,k<c.size->c.getD k 0<f.size)/\(∀k l,k<c.size->l<c.size->c.getD k 0=c.getD l 0->k=l)/\(∀i,i<f.size->∃k,k<c.size/\c.getD k 0=i)/\TabOk r (c.map λi=>f.getD i 0):=by
 refine let F:YA:={mask:=mask,place:=#[],dummies:=#[],finger:=0,led:=7,moves:=0,plain:=6};?_
 let(owner,e,L):=SJ (t:=F) v f ();let e:SetTable.layClean mask f=!owner:=e;let G:owner.size=mask+1:=L.size;let mem:=λp=>SL (mask:=mask) (owner:=owner) (p:=p);let E:=SN mask owner;let A:((Wf mask owner).map (·.2)).Nodup:=by
  unfold List.Nodup;rw[U5];calc List.Pairwise.imp_of_mem (λ{a b}H I J n=>?_) E;let m:=((mem a).mp H).2;let w:=((mem b).mp I).2;rw[n]at m;let:=L.one _ _ _ m w;lia
 let x:(Wf mask owner).map (·.2)⊆ List.range f.size:=λz M=>by
  let(p,v,rfl):=Ja.mp M;let:=L.lt _ _ ((mem p).mp v).2;exact Je.mpr<|by simpa using this
 let o:List.range f.size ⊆(Wf mask owner).map (·.2):=λi g=>by
  let(j,m,w,_):=L.all i (by simpa using Je.mp g);exact Ja.mpr (%[j|i],(mem %[j|i]).mpr (m,w),9)
 let len:(Wf mask owner).length=f.size:=by
  let a:=VY A x;let b:=VY List.nodup_range o;rw[Zql,ZB]at a b;lia
 let N:SetTable.laid mask finger moves led plain f=!%[{mask:=mask,place:=((Wf mask owner).map (·.1)).toArray,dummies:=#[],finger:=finger,led:=led,moves:=moves,plain:=plain}|((Wf mask owner).map (·.2)).toArray]:=by
  unfold SetTable.laid;rw[e];rfl
 generalize O:Wf mask owner=lv at*;let y:∀i g,((lv.map (·.1)).toArray).getD i 0=lv[i].1:=λi g=>by rw[Er,Es _ _ _ g]
 let go:∀i g,((lv.map (·.2)).toArray).getD i 0=lv[i].2:=λi g=>by rw[Er,Es _ _ _ g]
 let s:=Jm.mp E;refine jI _ _ (N,9,9,9,9,9,by simpa using len,λk d=>?_,λk l d h n=>?_,λi g=>?_,?_)
 .let d:k<lv.length:=by simpa using d
  rw[go k d];let:=L.lt _ _ ((mem lv[k]).mp<|UE d).2;simpa using this
 .let d:k<lv.length:=by simpa using d
  let h:l<lv.length:=by simpa using h
  rw[go k d,go l h]at n;let m:=((mem lv[k]).mp<|UE d).2;let w:=((mem lv[l]).mp<|UE h).2;rw[n]at m;let e3:=L.one _ _ _ m w;rcases Vc k l with q|q|q
  .let:=s k l d h q;lia
  .exact q
  .let:=s l k h d q;lia
 .let(p,v,n):=Ja.mp (o<|Je.mpr g);let(k,d,rfl):=UB v;exact(k,by simpa using d,by rw[go k d];calc n)
 .let P:∀j,yL owner j->yZ {mask:=mask,place:=(lv.map (·.1)).toArray,dummies:=#[],finger:=finger,led:=led,moves:=moves,plain:=plain} j:=by
   rintro j ⟨i,u⟩;let Q:=SK u;let R:%[j|i]∈lv:=(mem %[j|i]).mpr (by show j<=mask;lia,u);let(k,d,n):=UB R;exact(k,by simpa using d,by show((lv.map (·.1)).toArray).getD k 0=j;rw[y k d,n])
  refine((),λi j B u=>?_,λi g=>?_,9,v,by show((lv.map (·.1)).toArray).size<=mask;simp;lia,λk d=>?_)
  .let u:j<lv.length:=by simpa using u
   show((lv.map (·.1)).toArray).getD i 0<((lv.map (·.1)).toArray).getD j 0;rw[y i (),y j u];exact s i j () u B
  .let g:i<lv.length:=by simpa using g
   show((lv.map (·.1)).toArray).getD i 0<=mask;rw[y i g];exact((mem lv[i]).mp<|UE g).1
  .let d:k<lv.length:=by simpa using d
   let m:=((mem lv[k]).mp<|UE d).2;let C:=L.lt _ _ m;let(-j,g1,S,T):=L.all lv[k].2 C;let U:=L.one _ _ _ S m;subst U;let X:(((lv.map (·.2)).toArray).map λi=>f.getD i 0).getD k 0=f.toList.getD lv[k].2 0:=by
    let Y:((lv.map (·.2)).toArray).map (λi=>f.getD i 0)=((lv.map (·.2)).map λi=>f.getD i 0).toArray:=by simp
    rw[Y,Er,Zw,Es _ _ _ d];show f.getD lv[k].2 0=_;rw[VD,Ut,Vm]
   rw[X];show vY _ _ _ (((lv.map (·.1)).toArray).getD k 0);rw[y k d];exact T.mono 9 P
theorem Ll:∀(fuel a n:5),(∃k,a=2^k)->n<a*2^fuel->(∃k,SetTable.sizeAbove.go n fuel a=2^k)/\n<SetTable.sizeAbove.go n fuel a
 |0,a,n,b,h=>by
  unfold SetTable.sizeAbove.go;calc(b,by simpa using h)
 |fuel+1,a,n,(k,hk),h=>by
  unfold SetTable.sizeAbove.go
  split
  .exact Ll fuel (a*2) n (k+1,by rw[Nat.pow_succ,hk])<|by rw[Nat.mul_assoc,<-Nat.pow_succ'];exact h
  .exact((k,hk),())
def Lm (h:n<1000000000):(∃k,SetTable.sizeAbove n=2^k)/\n<SetTable.sizeAbove n:=
 Ll 64 08 n (03,9)<|Zg h<|by decide
theorem Ln:∀fuel a n,a<=2*n+08->SetTable.sizeAbove.go n fuel a<=2*n+08
 |0,a,n,h=>h
 |fuel+1,a,n,h=>by
  unfold SetTable.sizeAbove.go
  split
  .exact Ln fuel (a*2) n ()
  lia
def SQ(n):SetTable.sizeAbove n<=2*n+08:=Ln 64 08 n ()
def SR{t:YA}  (r:hs.size<=wanted)(f:wanted<1000000000):
 ∃b a,t.relaid hs wanted=!%[b|a]/\b.led=t.led/\b.plain=t.plain/\b.mask+1=SetTable.sizeAbove wanted/\a.size=hs.size/\(∀k,k<a.size->a.getD k 0<hs.size)/\(∀k c,k<a.size->c<a.size->a.getD k 0=a.getD c 0->k=c)/\(∀i,i<hs.size->∃k,k<a.size/\a.getD k 0=i)/\TabOk b (a.map λi=>hs.getD i 0):=by
 let((k,s),g):=Lm f;let h:SetTable.sizeAbove wanted-1+1=SetTable.sizeAbove wanted:=()
 let(b,a,e,j,_,l,m,_,n,o,p,q,d):=SO (k,by rwa[h]) hs () t.finger (t.movedTo<|SetTable.sizeAbove wanted-1) t.led t.plain;exact(b,a,e,l,m,by rwa[j],n,o,p,q,d)
open PySem
theorem TabOk.fits {c:Array (3×Value)}(T:TabOk t (c.map (·.1))):t.fits c.size=6:=by
 let e:=T.size;rw[Ur]at e;unfold SetTable.fits SetTable.fill;rw[T.nod];simp[e,show c.size<=t.mask by let:=T.room;lia]
def Lo{a:Array (3×Value)} (b):(a.map (·.1)).getD i 0=a[i].1:=()
def Et{a:Array (3×Value)}{i:5}(b):(a[i]?.map (·.1)).getD 0=a[i].1:=()
def YP(t:YA)(p:SetTable.Probe):4:=p.j+p.more<=t.mask
def Lp(t) (h:i<=t.mask):YP t (KO t.mask i pert):=by
 let:=Ep h;show i+(SetTable.runEnd t.mask i-i)<=t.mask;lia
def SS  (h:YP t p)(n):YP t (JK t n p):=by
 induction n generalizing p with
 |zero=>calc h
 |succ n a=>exact a<|(by
  unfold YP at h;unfold SetTable.advance
  split
  .show p.j+1+(p.more-1)<=t.mask;lia
  .let b:(SetTable.leap t.mask p.i p.perturb).1<=t.mask:=Jp.mp<|UF _<|Vb _;calc Lp t (pert:=(SetTable.leap t.mask p.i p.perturb).2) b)
def SU(t)(h):YP t (t.probeStart h):=Lp t<|Jp.mp<|UF _<|Vb _
theorem Lq       {same:Value->Bool}
 (X:s.heap.get? a=!o)(Y:o.data=.set d ep t)(T:TabOk t (d.map (·.1)))(v:t.mask%2=1)
 (hq:∀i(p:i<d.size),d[i].1=h->∀Q:Bool->Yz,Q (same d[i].2) s->YF l w A (eqBool d[i].2 x) Q E s)
 (hr:∀i(p:i<d.size),∃b,d[i].2=.ref b)
 (hsn:t.led=6\/∀Q:Bool->Yz,Q 7 s->YF l w A (searchCouldBeSeen x<|(d.filter (·.1==h)).toList.map (·.2)) Q E s)
 (he:e<10*SetTable.turns t.mask)(L:∀m,m<e->yZ t (JK t m<|t.probeStart h).j)(u:¬yZ t (JK t e<|t.probeStart h).j)
 (M:∀i(p:i<d.size),d[i].1=h->same d[i].2=6->Q (.there 8) s)
 (B:(∀i(p:i<d.size),d[i].1=h->same d[i].2=7)->Q (.free (JK t e<|t.probeStart h).j 7) s):
 ∀(fuel c:5)(G:Option SetTable.Probe),c<=e->e-c<fuel->G.getD (t.probeStart h)=JK t c (t.probeStart h)->
  (∀m i(p:i<d.size),m<c->t.slot (JK t m<|t.probeStart h).j=.live i->d[i].1=h->same d[i].2=7)->
  YF l w A (setSearchFrom a x h 6 fuel G) Q E s
 |0,c,G,hc,hf,_,_=>Zn hf (UX _)
 |fuel+1,c,G,hc,hf,hst,hno=>by
  let hsz:t.place.size=d.size:=by let:=T.size;rwa[Ur]at this
  show wpAny _ _ (_>>=_) _ _ _;calc Za<|wpAny_setState_of X Y T.fits ?_;dsimp only;let hg:t.gaveWay=7:=by unfold SetTable.gaveWay;rw[v];rfl
  rw[hg];simp only[UJ,if_false];let live:∀m,m<e->∃i,t.slot (JK t m<|t.probeStart h).j=.live i/\i<d.size/\t.place.getD i 0=(JK t m<|t.probeStart h).j:=λm hm=>by
   let(-i,Z,h2,h3):=S7 T.up (L m hm);exact(i,Z,(),h3)
  let step:∀m,JK t m (JK t c<|t.probeStart h)=JK t (c+m) (t.probeStart h):=λm=>(AD t c m _).symm;let H:∀g:5->3,(∀i,g i=(d[i]?.map (·.1)).getD 0)->(∃m i,c<=m/\m<e/\t.slot (JK t m<|t.probeStart h).j=.live i/\g i=h/\t.probe g h (G.getD<|t.probeStart h)=!(.candidate (JK t m<|t.probeStart h).j i<|JK t (m+1)<|t.probeStart h)/\∀f j,c<=f->f<m->t.slot (JK t f<|t.probeStart h).j=.live j->g j≠h)\/
   t.probe g h (G.getD<|t.probeStart h)=! .empty (JK t e<|t.probeStart h).j 8/\∀f j,c<=f->f<e->t.slot (JK t f<|t.probeStart h).j=.live j->g j≠h:=λg _=>by
   rw[hst];let sd:(JK t c<|t.probeStart h).dummy=8:=S5 9 c;let ek:c+(e-c)=e:=()
   rcases Lc (t:=t) (hashAt:=g) (h:=h) (e-c) (10*SetTable.turns t.mask) (JK t c<|t.probeStart h) () sd (λm hm=>by
    rw[step];let(i,Z,_):=live (c+m) ();calc(i,Z)) (by rw[step,ek];calc S6 T.nod u)with ⟨m,i,g1,S,g3,g4,g5⟩|⟨g1,S⟩
   .rw[step]at S g4;rw[step]at g4;refine .inl<|jI (c+m) i ((),(),S,g3,g4,λf j a1 a2 a3=>g5 (f-c) j ()<|by rw[step,show c+(f-c)=f by lia];calc a3)
   .rw[step,ek]at g1;exact .inr (g1,λf j a1 a2 a3=>S (f-c) j ()<|by rw[step,show c+(f-c)=f by lia];calc a3)
  generalize C:t.probe _ h (G.getD<|t.probeStart h)=met;let N:∀i(p:i<d.size),d[i].1=h->∃m,m<e/\t.slot (JK t m<|t.probeStart h).j=.live i:=λi p F=>by
   let(-n,n1,n2):=T.ways i ();rw[Lo p,F]at n1 n2;calc(n,?_,by rw[n1];calc Le T.up () 9);rcases Vc n e with q|q|q
   .exact q
   .subst q;exact Zn (i,(),n1.symm) u
   .exact Zn (n2 e q) u
  rcases H _ λi=>9 with ⟨m,i,c1,c2,c3,c4,c5,c6⟩|⟨c1,c2⟩
  .let em:=C.symm.trans c5;subst em;let(-i2,k1,J,k3):=live m c2;rw[c3]at k1;cases k1;let F:d[i].1=h:=by rw[<-Et J];exact c4
   dsimp only;let rest:YF l w A (do
    let !%[_|y]:=d[i]?|unsupported "internal:set-entry"
    let r<-holding [y] (eqBool y x)
    let%[es',_|t']<-setState a
    if 6&&r then return SetFound.there 8
    let !same:=t'.sameMemory t.moves t.mask|unsupported "set.changed-during-lookup:is-the-new-block-at-the-old-address"
    let I<-match if same then t'.slot (JK t m<|t.probeStart h).j else .empty with
     |.live j=>match es'[j]? with
      |some %[_|y']=>do pure (if<-isSame y' y then !j else 8)
      |none=>pure 8
     |_=>pure 8
    match I with
    |none=>rule "set.search.anew";setSearchFrom a x h 6 fuel 8
    |some j=>if r then return .there !j else setSearchFrom a x h 6 fuel !(JK t (m+1)<|t.probeStart h)) Q E s:=by
    rw[UA J];dsimp only;calc Za<|wpAny_holding<|hq i J F _ ?_;calc Za<|wpAny_setState_of X Y T.fits ?_;dsimp only;cases hs:same d[i].2 with
    |true=>
     simp only[Bool.and_self,if_true];calc Zb<|M i J F hs
    |false=>
     simp only[Bool.and_false,UJ,if_false];let hsm:t.sameMemory t.moves t.mask=!6:=by unfold SetTable.sameMemory;rw[Zd (beq_self_eq_true _)]
     rw[hsm];dsimp only;simp only[if_true];rw[c3];dsimp only;rw[UA J];dsimp only;let(b,hb):=hr i J;let his:∀{Q':Bool->Yz},Q' 6 s->YF l w A (isSame d[i].2 d[i].2) Q' E s:=λ{Q'}hq'=>by
      rw[hb];unfold isSame;dsimp only;rw[Zd (beq_self_eq_true _)];exact Zb hq'
     calc Za<|his ?_;simp only[if_true];calc Za<|Zb ?_;dsimp only;calc Lq X Y T v hq hr hsn he L u M B fuel (m+1) _ () () 9 λf j O hm' U P=>?_;by_cases d1:f<c
     .exact hno f j O d1 U P
     .by_cases d2:f=m
      .subst d2;rw[c3]at U;cases U;exact hs
      .exact Zn (by rw[Et O];calc P)<|c6 f j () () U
   cases R:t.led with
   |true=>
    rw[Ze ()];calc rest
   |false=>
    rw[Zd ()];rcases hsn with z|hsn
    .rw[z]at R;cases R
    .calc Za<|hsn _ ?_;rw[Ze ()];exact rest
  .let em:=C.symm.trans c1;subst em;dsimp only;calc Zb<|B λi p F=>?_;let(m,m1,m2):=N i p F;by_cases d1:m<c
   .exact hno m i p d1 m2 F
   .exact Zn (by rw[Et p];calc F)<|c2 m i () m1 m2
def SW       {same:Value->Bool}
 (q:s.heap.get? a=!o)(r:o.data=.set c C t)(T:TabOk t (c.map (·.1)))(f:t.mask%2=1)(F:t.mask<=9000)
 (u:∀i(m:i<c.size),c[i].1=h->∀Q:Bool->Yz,Q (same c[i].2) s->YF d w A (eqBool c[i].2 x) Q E s)
 (v:∀i(m:i<c.size),∃b,c[i].2=.ref b)
 (n:t.led=6\/∀Q:Bool->Yz,Q 7 s->YF d w A (searchCouldBeSeen x<|(c.filter (·.1==h)).toList.map (·.2)) Q E s)
 (p:∀i(m:i<c.size),c[i].1=h->same c[i].2=6->Q (.there 8) s)
 (g:(∀i(m:i<c.size),c[i].1=h->same c[i].2=7)->∀y,y<=t.mask->¬yZ t y->vY t (yZ t) h y->Q (.free y 7) s):
 YF d w A (setSearch a x h 6) Q E s:=have(e,B,j,l):=SA T h;Lq q r T f u v n B j l p (λz=>g z _ (by
  let:=SS (SU t h) e
  grind[YP]) l (e,9,j)) 100000 0 8 (Uc _) (by grind[SetTable.turns]) 9 ()
open PySem
theorem Lr:∀fuel a n,a<=SetTable.sizeAbove.go n fuel a
 |0,a,n=>by simp_all[SetTable.sizeAbove.go]
 |fuel+1,a,n=>by
  unfold SetTable.sizeAbove.go
  split
  .exact Zh ()<|Lr fuel (a*2) n
  .exact Zf _
def SX(n):08<=SetTable.sizeAbove n:=Lr 64 08 n
def SY (h:m+1=2^k)(a:07<=m):m%2=1:=by
 cases k with
 |zero=>lia
 |succ k=>lia
def SZ{b:Yg} (m:∀k,k<b.size->b.getD k 0<n)(o:∀k l,k<b.size->l<b.size->b.getD k 0=b.getD l 0->k=l)(p:∀i,i<n->∃k,k<b.size/\b.getD k 0=i):b.toList.Perm (List.range n):=by
 let q:b.toList.Nodup:=by
  unfold List.Nodup;rw[List.pairwise_iff_getElem];intro i j r s t e;let c:i<b.size:=by simpa using r
  let d:j<b.size:=by simpa using s
  let:=o i j c d (by rw[K6 c,K6 d];simpa using e);lia
 calc List.perm_iff_count.mpr λa=>?_;rw[q.count,List.nodup_range.count];let:a∈b.toList↔a∈List.range n:=by
  rw[List.mem_range];constructor
  .intro h;let(k,g,e):=UB h;let f:k<b.size:=by simpa using g
   let:=m k f;rw[K6 f]at this;let e:b[k]=a:=by simpa using e
   lia
  .intro h;have(k,g,e):=p a h;rw[K6 g]at e;rw[<-e,VQ];exact VR g
 simp only[this]
def Ta{α:Type}{es:Array α}{a:Yg}(d)(c:∀k,k<a.size->a.getD k 0<es.size):a.filterMap (es[·]?)=a.map λi=>es.getD i d:=by
 apply Array.toList_inj.mp;rw[Array.toList_filterMap,Array.toList_map];let:∀l:Yh,(∀i∈l,i<es.size)->l.filterMap (es[·]?)=l.map λi=>es.getD i d:=by
  intro l
  induction l with
  |nil=>intro _;rfl
  |cons i l g=>
   simp_all
 calc this _ λi f=>?_;let(k,h,e):=UB f;let b:k<a.size:=()
 let:=c k b
 simp_all
structure SetIs(hp:Heap)(a:Addr)(es:Array (3×Value))(t:YA):4 where
 at_:∃ep,hp.get? a=!{cls:=.type "set",dict:=8,data:=.set es ep t,slots:=#[]}
 tab:TabOk t (es.map (·.1))
 seven:07<=t.mask
 most:t.mask<=08*es.size+07
 room:es.size*05<t.mask*03
 refs:∀i(hi:i<es.size),∃b,es[i].2=.ref b
def SetIs.odd    (S:SetIs e a f t):t.mask%2=1:=have(k,c):=S.tab.pow;SY c S.seven
def Ls{b:Heap}    (c:b.get? a=!{cls:=.type "set",dict:=8,data:=.set e d t,slots:=#[]}):
 (b.update a<|Obj.putSet es' t').get? a=!{cls:=.type "set",dict:=8,data:=.set es' (d+1) t',slots:=#[]}:=by
 let:=Heap.get?_update_self (Obj.putSet es' t') c<|by rfl
 rwa[putSet_of es' t' 9]at this
def Tb
 (o:s.heap.get? a=!{cls:=.type "set",dict:=8,data:=.set es G t,slots:=#[]})(T:TabOk t (es.map (·.1)))(hn:1<=es.size)(hl:es.size<=1000)(H:∀i(g:i<es.size),∃b,es[i].2=.ref b)
 (h:∀d f,d.toList.Perm es.toList->f.led=t.led->f.plain=t.plain->SetIs (s.heap.update a<|Obj.putSet d f) a d f->Q Yq {s with heap:=s.heap.update a (Obj.putSet d f)}):
 YF u w A (setRelay a<|SetTable.grown es.size) Q E s:=by
 let I:SetTable.grown es.size=es.size*04:=by unfold SetTable.grown;rw[Ze ()]
 let J:=SQ<|es.size*04;let(_,L):=Lm (n:=es.size*04) ();let M:=SX<|es.size*04;let(f,c,e,N,O,e3,v,m,P,x,R):=SR (t:=t) (hs:=es.map (·.1)) (wanted:=es.size*04) (by rw[Ur];lia) ();rw[Ur]at v m x;rw[I];unfold setRelay;calc Za<|wpAny_setState_of o 9 T.fits ?_;dsimp only;rw[Ze (by rw[sizeLine_eq];lia)];rw[e];let y:=Ta (es:=es) %[0|Value.none] m;let l:(c.filterMap (es[·]?)).size=es.size:=by rw[y,Ur];exact v
 let p:(c.filterMap (es[·]?)).toList.Perm es.toList:=by
  rw[Array.toList_filterMap];exact((SZ m P x).filterMap _).trans<|by rw[filterMap_getElem?_range]
 let z:(c.filterMap (es[·]?)).map (·.1)=c.map λi=>(es.map (·.1)).getD i 0:=by
  rw[y,Array.map_map];apply Array.map_congr_left;intro i g;let(k,B,S):=Array.getElem_of_mem g;let:=m k B;rw[K6 B,S]at this;show(es.getD i %[0|Value.none]).1=_;rw[K6 this,Lo this]
 let C:TabOk f ((c.filterMap (es[·]?)).map (·.1)):=by rw[z];exact R
 let F:∀i(g:i<(c.filterMap (es[·]?)).size),∃b,(c.filterMap (es[·]?))[i].2=.ref b:=λi g=>by
  let U:(c.filterMap (es[·]?))[i]∈es.toList:=p.mem_iff.mp (by rw[VQ];calc VR g);let(j,X,Y):=UB U;let q:j<es.size:=by simpa using X
  let(b,Z):=H j q;calc(b,?_);rw[<-Y];simpa using Z
 let r:¬((c.filterMap (es[·]?)).size !=es.size)=6:=by rw[l];simp
 refine Za<|wpAny_of_eq (a:=%[c.filterMap (es[·]?)|f]) ?_ ?_
 .show(if((c.filterMap (es[·]?)).size !=es.size)=6 then _ else _)=_;rw[Ze r]
 .dsimp only;generalize c.filterMap (es[·]?)=d at l p C F z;exact wpAny_storeSet_of o 9 (h d f p N O ((G+1,Ls o),C,(),(),(),F))<|by rw[sizeLine_eq];lia
def Tc{c a:Array (3×Value)}(f:∀i(d:i<c.size),∃b,c[i].2=.ref b)   (g:x=.ref b)(l:a.toList.Perm (c.toList++[%[h|x]])):∀i(d:i<a.size),∃b,a[i].2=.ref b:=λi d=>by
 rcases Jb.mp (l.mem_iff.mp<|by rw[VQ];calc VR d)with z|z
 .let(j,m,n):=UB z;let e:j<c.size:=by simpa using m
  let(b,o):=f j e;calc(b,?_);rw[<-n];simpa using o
 .rw[Jc.mp z];exact(b,g)
def Td      {same:Value->Bool}
 (S:SetIs s.heap a d t)(T:x=.ref b)(hl:d.size+1<=1000)
 (Y:∀i(F:i<d.size),d[i].1=h->∀Q:Bool->Yz,Q (same d[i].2) s->YF e w A (eqBool d[i].2 x) Q E s)
 (I:t.led=6\/∀Q:Bool->Yz,Q 7 s->YF e w A (searchCouldBeSeen x<|(d.filter (·.1==h)).toList.map (·.2)) Q E s)
 (Z:∀Q:Bool->Yz,Q 6 s->YF e w A (hashByValue 08 x) Q E s)
 (J:∀i(F:i<d.size),d[i].1=h->same d[i].2=6->Q 7 s)
 (m:(∀i(F:i<d.size),d[i].1=h->same d[i].2=7)->∀L es' t',Heap.SameBut a s.heap L->SetIs L a es' t'->es'.toList.Perm (d.toList++[%[h|x]])->t'.led=t.led->t'.plain=t.plain->Q 6 {s with heap:=L}):
 YF e w A (setAddHashed a x h) Q E s:=by
 let(ep,q):=S.at_;let M:t.mask<=9000:=by let:=S.most;lia
 unfold setAddHashed setAddHashedIn;calc wpAny_holding<|Za<|wpAny_setState_of q 9 S.tab.fits ?_;dsimp only;let hb:byScan x d=7:=by subst T;rfl
 rw[hb];simp only[UJ,if_false];calc Za<|SW q 9 S.tab S.odd M Y S.refs I (λi F h1 h2=>Zb<|J i F h1 h2) λr y hy hf hw=>?_;dsimp only;calc Za<|wpAny_setState_of q 9 S.tab.fits ?_;dsimp only;let hsz:t.place.size=d.size:=by let:=S.tab.size;rwa[Ur]at this
 let N:=S.room;let G:=S.seven;let(!n,g,u):=SC S.tab hy hf hw ();rw[Ur]at g;let j:(t.put y).1.led=t.led:=9;let l:(t.put y).1.plain=t.plain:=9;generalize U:t.put y=tp at n g u j l;let(f,p):=tp;dsimp only at n g u j l ⊢;let em:(SetTable.insertAt d p %[h|x]).map (·.1)=SetTable.insertAt (d.map (·.1)) p h:=by
  unfold SetTable.insertAt;simp
 rw[<-em]at n;let H:(SetTable.insertAt d p %[h|x]).toList.Perm (d.toList++[%[h|x]]):=by
  let:=SetTable.insertAt_perm d p %[h|x]
  rwa[Array.toList_push]at this
 let v:(SetTable.insertAt d p %[h|x]).size=d.size+1:=Eo d g _;let o:=Tc S.refs T H;generalize SetTable.insertAt d p %[h|x]=es1 at n H v o;let X:YF e w A (do
  storeSet a es1 f
  if not 7&&f.tooFull then setRelay a (SetTable.grown<|d.size+1)
  return 6) Q E s:=by
  calc Za (wpAny_storeSet_of q 9 ?_<|by rw[sizeLine_eq];lia);let B:=Ls (es':=es1) (t':=f) q;let C:=Heap.SameBut.update s.heap a<|Obj.putSet es1 f;by_cases c:f.tooFull=6
  .rw[Zd (by rw[c];rfl)];rw[<-v];refine Za<|Tb B n () () o λO t2 P l2 p2 S2=>Zb<|m r _ O t2 (C.trans<|Heap.SameBut.update _ a _) S2 (P.trans H) (l2.trans j)<|p2.trans l
  .rw[Ze (by simpa using c)];let R:¬ f.fill*05 ≥ f.mask*03:=by
    intro z;exact c<|Zp z
   let hfl:f.fill=es1.size:=by
    unfold SetTable.fill;let:=n.size;rw[Ur]at this;rw[this,n.nod];rfl
   let S1:SetIs (s.heap.update a<|Obj.putSet es1 f) a es1 f:=((ep+1,B),n,(),by let:=S.most;lia,(),o);exact Zb<|m r _ es1 f C S1 H j l
 grind[wpAny_bind,wpAny_pure]
open PySem
inductive HashAll(prog:Program)(w:World)(A:Around)(E:Ya)(s:Shared):Ye->List Int->Prop
 |nil:HashAll prog w A E s [] []
 |cons{v:Value}{vs:Ye}{h:Int}{hs:Yf}:(∀(tk:Nat)(Q:Int->Yz),(∀tk',tk<=tk'->Q h {s with toks:=tk'})->YF prog w A (pyHash v) Q E {s with toks:=tk})->HashAll prog w A E s vs hs->HashAll prog w A E s (v::vs) (h::hs)
noncomputable def Eu(a:Yf):3:=reduceHash<|Builtin.Tuple.tupleHashOf a
def Lu       (t:s.heap.get? a=!o)(u:o.cls=.type "tuple")(v:o.data=.seq f n)(y:A.units<cLine)
 (H:HashAll d w A.in1 E s f.toList l)(h:∀e,c<=e->Q (Eu l) {s with toks:=e}):YF d w A (pyHash<|.ref a) Q E {s with toks:=c}:=by
 let z:Shared.TypeIs {s with toks:=c} (.ref a) "tuple":=(o,t,u);unfold pyHash;calc W.pyHash_slot (T:="tuple") z F.slot_tuple_hash F.entry_tuple_hash (F.args_tuple_hash_1 _) (beq_builtin_none _) (.inr y) ?_;show wpAny _ _ (Builtin.Tuple.tupleItemsOf (.ref a)>>=_) _ _ _;calc Za<|wpAny_tupleItemsOf t v ?_;calc Za ?_;rw[<-Vp];refine wpAny_forIn_list _ (λrest(b:Array 3)m=>∃left e,HashAll d w A.in1 E s rest left/\b.toList++left=l/\m={s with toks:=e}/\c<=e) _ ?_ ?_ _ _ (l,c,H,9,9,Zf _)
 .rintro x rest b m ⟨left,e,p,j,rfl,g⟩;cases p with
  |cons B q=>
   calc Za<|B e _ λr i=>?_;exact Zb (_,r,q,by simp[<-j],9,Zh g i)
 .rintro b m ⟨left,e,p,j,rfl,g⟩;cases p;rw[ZA]at j;show wpAny _ _ (retInt<|Builtin.Tuple.tupleHashOf b.toList) _ _ _;rw[j];exact Za<|wpAny_mkInt<|Zb<|jI _ _ (9,h _<|Vl g)
theorem Lv :∀{a:Ye}{b:Yf},PyProof.Rows.IntsAre a b->HashAll c w A E s a (b.map hashInt)
 |_,_,.nil=>.nil
 |_,_,.cons n t r=>.cons (λd Q h=>wpAny_pyHash_int<|h _<|Nat.le_succ d) (Lv r)
inductive PlainV(hp:Heap):Nat->Value->Prop
 |int(n:Nat)(i:Int)(t:Tok):PlainV hp n (.int i t)
 |tup{n:Nat}{a:Addr}{o:Obj}{items:Yk}{k:Nat}:hp.get? a=!o->o.cls=.type "tuple"->o.data=.seq items k->(∀v∈items.toList,PlainV hp n v)->PlainV hp (n+1) (.ref a)
def Te  (p:PlainV s.heap n v):∀d Q,n<=d->Q 6 s->YF a w A (hashByValue d v) Q E s:=by
 induction p with
 |int n i t=>
  intro d Q _ h;cases d<;>calc Zb h
 |tup b c e _ l=>
  intro d Q m h;cases d with
  |zero=>lia
  |succ d=>
   let f:Shared.TypeIs s (.ref _) "tuple":=(_,b,c);calc Za<|wpAny_specialOf f F.slot_tuple_hash.lookup<|Za<|wpAny_seqItems b e<|Za ?_;rw[Option.getD_some,<-Vp];refine wpAny_forIn_list _ (λrest r g=>r.1=8/\g=s/\∀v∈rest,v∈_) _ ?_ ?_ _ _ (9,9,λv j=>j)
   .grind[wpAny_bind,wpAny_pure]
   grind[wpAny_pure]
def Lw  (p:PlainV s.heap n v):∀d Q,n<=d->Q 6 s->YF a w A (eqIsQuiet d v) Q E s:=by
 induction p with
 |int n i t=>
  intro d Q _ h;calc wpAny_of_eq (eqIsQuiet_byValue d 9) h
 |tup b e f _ l=>
  intro d Q m h;cases d with
  |zero=>lia
  |succ d=>
   let c:Shared.TypeIs s (.ref _) "tuple":=(_,b,e);unfold eqIsQuiet;calc Za<|wpAny_specialOf c F.slot_tuple_eq.lookup<|Za<|wpAny_isInstance c isSubtype_tuple_tuple<|Za<|wpAny_seqItems b f<|Za ?_;rw[Option.getD_some,<-Vp];refine wpAny_forIn_list _ (λrest r g=>r.1=8/\g=s/\∀v∈rest,v∈_) _ ?_ ?_ _ _ (9,9,λv j=>j)
   .grind[wpAny_bind,wpAny_pure]
   grind[wpAny_pure]
def Lx  (p:PlainV s.heap n v):∀d Q,n<=d->Q 7 s->YF a w A (ofAClassStatement d v) Q E s:=by
 induction p with
 |int n i t=>
  intro d Q _ h;cases d<;>calc Zb h
 |tup b c e _ l=>
  intro d Q m h;cases d with
  |zero=>lia
  |succ d=>
   let f:Shared.TypeIs s (.ref _) "tuple":=(_,b,c);unfold ofAClassStatement;calc Za<|wpAny_typeOf f ?_;simp;calc Za<|wpAny_seqItems b e<|Za ?_;rw[<-Vp];refine wpAny_forIn_list _ (λrest r g=>r.1=8/\g=s/\∀v∈rest,v∈_) _ ?_ ?_ _ _ (9,9,λv j=>j)
   .grind[wpAny_bind,wpAny_pure]
   grind[wpAny_pure]
def Tf    (a:n<=08)(c:PlainV s.heap n x)(i:∀y∈b,PlainV s.heap n y)(h:Q 7 s):YF d w A (searchCouldBeSeen x b) Q E s:=by
 refine Za<|wpAny_forIn_list _ (λrest r e=>r.1=8/\e=s/\∀v∈rest,v∈b) _ ?_ ?_ _ _ ()
 .rintro y rest r e ⟨l,rfl,j⟩;let f:=i y<|j y Zqs;let g:∀v∈rest,v∈b:=by grind
  dsimp only
  split
  all_goals
   split
   .exact Zb (9,9,g)
   .exact Za<|Lw c 08 _ a<|Za<|Lw f 08 _ a<|Za<|Lx c 08 _ a<|Za<|Lx f 08 _ a<|Zb (9,9,g)
 grind[wpAny_pure]
structure KeyFam(prog:Program)(w:World)(hp:Heap)(PV:Value->4)(hsh:Value->3)(same:Value->Value->Bool):4 where
 ref:∀v,PV v->∃b,v=.ref b
 plain:∀v,PV v->PlainV hp 08 v
 hash:∀v,PV v->∀(A:Around)(E:Ya)(s:Shared)(Q:3->Yz),(∀b o,hp.get? b=!o->s.heap.get? b=!o)->A.units+08<cLine->(∀tk,s.toks<=tk->Q (hsh v) {s with toks:=tk})->YF prog w A (pyHash v) Q E s
 eq:∀v u,PV v->PV u->∀(A:Around)(E:Ya)(s:Shared)(Q:Bool->Yz),(∀b o,hp.get? b=!o->s.heap.get? b=!o)->A.units+08<cLine->Q (same v u) s->YF prog w A (eqBool v u) Q E s
 coh:∀v u,PV v->PV u->same v u=6->hsh v=hsh u
def PlainV.keep (k:∀b o,c.get? b=!o->hp'.get? b=!o)  (p:PlainV c n v):PlainV hp' n v:=by
 induction p with
 |int n i t=>calc .int n i t
 |tup e f j _ l=>exact .tup (k _ _ e) f j l
noncomputable def WZ(same:Value->Value->Bool)(D:Ye)(v:Value):Ye:=if D.any (same · v)then D else D++[v]
def yN(same:Value->Value->Bool)(val:5->Value)(i:5):Ye:=((List.range i).map val).foldl (WZ same) []
theorem Cg(same)(val)(i):yN same val (i+1)=WZ same (yN same val i) (val i):=by
 grind[yN,List.range_succ,List.map_append,List.foldl_append]
theorem Ly(same)(val):∀i,(yN same val i).length<=i
 |0=>Zf _
 |i+1=>by
  let:=Ly same val i
  grind[WZ,Cg,List.length_append,List.length_singleton]
theorem Ew(same)(val):∀i v,v∈yN same val i->∃j,j<i/\v=val j
 |0,v,h=>by cases h
 |i+1,v,h=>by
  rw[Cg]at h;unfold WZ at h
  split at h
  .have(j,a,e):=Ew same val i v h;exact(j,(),e)
  .rcases Jb.mp h with z|z
   .have(j,a,e):=Ew same val i v z;exact(j,(),e)
   grind
def Holds(a:Value->3)(c:Heap)(S:Addr)(ld:Bool)(D:Ye):4:=∃b t,SetIs c S b t/\b.toList.Perm (D.map λv=>%[a v|v])/\t.led=ld/\t.plain=6
def Th   {same:Value->Value->Bool}(K:KeyFam j w X M c same) {ld:Bool}
 (C:∀b o,X.get? b=!o->s.heap.get? b=!o)(Y:A.units+08<cLine)(H:Holds c s.heap S ld D)(F:∀v∈D,M v)(u:M x)(hl:D.length<=999)
 (h:∀l b,Heap.SameBut S s.heap l->Holds c l S ld (WZ same D x)->Q b {s with heap:=l}):YF j w A (setAddHashed S x<|c x) Q E s:=by
 let(d t,N,m,n,p):=H;let(b,Z):=K.ref x u;let O:d.size=D.length:=by
  let:=m.length_eq
  simp_all
 let f:∀i(a:i<d.size),d[i].2∈D/\d[i].1=c d[i].2:=λi a=>by
  let G:=m.mem_iff.mp (by rw[VQ];calc VR a);let(v,g,e):=Ja.mp G;rw[<-e];exact(g,9)
 let q:∀v∈D,∃i,∃a:i<d.size,d[i]=%[c v|v]:=λv g=>by
  let G:=m.mem_iff.mpr<|Ja.mpr (v,g,9);let(i,a,e):=UB G;exact(i,by simpa using a,by simpa using e)
 let P:=(K.plain x u).keep C;refine Td (same:=λy=>same y x) N Z () (λi a _ B r=>K.eq _ _ (F _ (f i a).1) u A E s B C Y r) (.inr λB r=>?_) (λB r=>Te P 08 B (Zf _) r) (λi a h1 h2=>?_) λI l J t' sb S' L l' p'=>?_
 .calc Tf (Zf 08) P (λy hy=>?_) r;let(e,R,rfl):=Ja.mp hy;let R:e∈d:=by
   simp_all
  let(i,a,rfl):=Array.getElem_of_mem R;exact(K.plain _<|F _ (f i a).1).keep C
 .let e:WZ same D x=D:=Zd<|Vn.mpr (_,(f i a).1,h2);let:=h s.heap 7 (Heap.SameBut.refl S s.heap) (d,t,N,by rw[e];calc m,n,p);exact this
 .let e:WZ same D x=D++[x]:=Ze λz=>by
   let(v,g,T):=Vn.mp z;let(i,a,U):=q v g;let:=I i a (by rw[U];calc K.coh v x (F v g) u T);rw[U]at this;rw[T]at this;cases this
  calc h l 6 sb (J,t',S',?_,l'.trans n,p'.trans p);rw[e,Ud];exact L.trans<|m.append_right _
section
variable          {St:Nat->Yz}
def Holds.keep   {ld:Bool} (H:Holds e f S ld D)(k:∀o,f.get? S=!o->hp'.get? S=!o):Holds e hp' S ld D:=by
 let(i t,c,r):=H;let(j,l):=c.at_;exact(i,t,((j,k _ l),c.tab,c.seven,c.most,c.room,c.refs),r)
def Ti(W:WalksS d w A.in1 I fp p G n P St)(S)(E:S∉fp) (q:∀b o,hp.get? b=!o->b∉p/\b≠S)
 {same:Value->Value->Bool}(K:KeyFam d w hp Q r same)(val)(t:∀i v,P i v->v=val i)(J:∀i,i<n->Q (val i))(hn:n<=999)(T:A.in1.units+08<cLine)(ld):
 ∀k i s,n-i=k->i<=n->St i s->(∀b o,hp.get? b=!o->s.heap.get? b=!o)->Holds r s.heap S ld (yN same val i)->
  (∀a,Moved (S::p) G s a->Holds r a.heap S ld (yN same val n)->R (.ok<|.ret .none) a)->
  codeAny (model d w) A (.builtin "set.update.loop" ([.ref S,.ref I],[])) R s:=by
 let x:S∉p:=λh=>E<|W.sub _ h;let f:∀b∈p,b∈S::p:=by grind
 intro k
 induction k with
 |zero=>
  intro i s U hi g y H L;let M:i=n:=()
  subst M;calc codeAny_builtin F.entry_set_update_loop ?_;rw[Around.under_plainId F.plain_set_update_loop _];show wpAny _ A.in1 (pyNext (.ref I)>>=_) _ _ s;calc Za<|W.done s _ _ g λa m=>?_;show wpAny _ A.in1 (ret Value.none) _ _ a;calc Zb<|L a (m.mono f)<|H.keep λo e=>m.heap S _ x e
 |succ k ih=>
  intro i s U hi g y H L;let j:i<n:=()
  calc codeAny_builtin F.entry_set_update_loop ?_;rw[Around.under_plainId F.plain_set_update_loop _];show wpAny _ A.in1 (pyNext (.ref I)>>=_) _ _ s;calc Za<|W.item i s _ _ j g λv a hP z m=>?_;let X:=t i v hP;let H':=H.keep (hp':=a.heap) λo e=>m.heap S _ x e;let c:∀b o,hp.get? b=!o->a.heap.get? b=!o:=λb o e=>m.heap b o (q b o e).1<|y b o e;let Y:Q v:=by rw[X];exact J i j
  show wpAny _ A.in1 (holding [v] (setAdd S v)>>=_) _ _ a;calc Za<|wpAny_holding ?_;unfold setAdd;calc wpAny_holding ?_;calc Za<|K.hash v Y _ _ _ _ c T λtk B=>?_;let hl:=Ly same val i;refine Th K c T H' (λu hu'=>?_) Y () λh' b l Z=>?_
  .grind[Ew]
  .rw[X,<-Cg]at Z;refine Zb (plainId_quiet F.plain_set_update_loop _,ih (i+1) _ (by rw[Nat.sub_succ,U];rfl) j (W.frame _ a _ _ z ?_ λb hb o e=>?_) (λb o e=>?_) Z λN C O=>?_)
   .exact B
   .rw[l.2 b ()];exact e
   .rw[l.2 b (q b o e).2];exact c b o e
   .refine L N (Moved.trans W.gtrans ((m.mono f).then_heap ?_ λb o hb e=>?_) C) O
    .exact B
    .rw[l.2 b ()];exact e
end
def Tj    (b:c.get? S=!{cls:=.type "set",dict:=8,data:=.set #[] 0 (.fresh 0 0 a)}):Holds d c S a []:=
 (#[],.fresh 0 0 a,((0,b),by calc(by rw[Ur];rfl,λi j _ h=>Zn h<|UX _,λi h=>Zn h<|UX _,9,(03,9),Uc _,λi h=>Zn h<|UX _),Zf _,Zf _,show 0*05<07*03 by decide,λi h=>Zn h<|UX _),VA _,9,9)
section
variable  {w:World}
def zS(w:World):Bool:=not<|w.params.followText "set-order"
def Tk(a:Value)
 (h:Q₁ (.ref s.heap.objs.size) {s with heap:=s.heap.push {cls:=.type "set",dict:=8,data:=.set #[] 0 (.fresh 0 0<|zS w)}}):
 codeAny (model prog w) A (.call (.builtin "set.__new__") ([.type "set",a],[])) (wants Q₁ E) s:=by
 calc codeAny_of_tree ?_;show wpAny _ A.in1 (do checkBuiltinCall "set.__new__" ([.type "set",a],[]);again (.builtin "set.__new__" ([.type "set",a],[]))) _ _ s;calc Za<|wpAny_of_eq (F.newCall_set_1 a)<|Zb (plainId_quiet F.plain_set_new _,codeAny_builtin F.entry_set_new ?_);rw[Around.under_plainId F.plain_set_new _];unfold Builtin.«set.__new__» Builtin.Frozenset.newClass;let b:=sub_set_self;let(c,g,d,e,os):=s;dsimp only
 wp_walk
 calc wpAny_askSetting<|Zb ?_;dsimp only;simp only[newObj];calc Za<|wpAny_alloc<|Zb ?_;exact Zb h
set_option maxRecDepth 100000 in
set_option maxHeartbeats 3200000 in
def Tl{l:Addr}{a:Yk}{PV:Value->4}{n:Value->3}{same:Value->Value->Bool}{Q:Ya}(hh:A.handled=8)(hl:s.heap.IsList l a)(K:KeyFam prog w s.heap PV n same)
 (L:∀(i:5)(v:Value),a[i]?=!v->PV v)(hn:a.size<=999)(hu:A.in1.in1.in1.units+08<cLine)
 (h:∀(f:Heap)(I:5),Holds n f s.heap.objs.size (zS w) (yN same (λi=>a.getD i .none) a.size)->(∀b o,b<s.heap.objs.size->s.heap.get? b=!o->f.get? b=!o)->Q (.ref s.heap.objs.size) {s with heap:=f,toks:=I}):
 YF prog w A (call (.type "set") [.ref l]) Q E s:=by
 let cn:=λA:Around=>Tk (prog:=prog) (w:=w) (A:=A) (E:=E) (s:=s) (.ref l) (Q₁:=λt s₁=>t=.ref s.heap.objs.size/\s₁={s with heap:=s.heap.push {cls:=.type "set",dict:=8,data:=.set #[] 0 (.fresh 0 0<|zS w)}}) (9,9);generalize zS w=g at h cn;let(c,tl,hmro):=F.called_set.mro;let M:=F.called_set.made;let hsub:=F.called_set.sub;calc wpAny_call<|codeAny_of_tree ?_;show wpAny _ _ (callAny (.type "set") _) _ _ _;calc Zb (Code.quiet_builtin _<|by decide+kernel,codeAny_builtin F.entry_type_call ?_);rw[Around.under_plain (weight_type_call_type "set" [.ref l] []) 9];let h1:=F.called_set.notType;let h2:=F.called_set.canCreate;let hct:=F.typeCall_set_1<|.ref l
 repeat(any_goals(first|assumption|wp_step))
 calc codeAny_mono (cn _) λr s₁ p=>?_;cases r with
 |error e=>calc p
 |ok N=>
  cases N with
  |ret t=>
   let(rfl,rfl):=p;generalize d:({cls:=.type "set",dict:=8,data:=.set #[] 0 (.fresh 0 0 g)}:Obj)=no at*;let hS:(s.heap.push no).get? s.heap.objs.size=!no:=Zr _ (by rw[<-d];rfl);let hT:Shared.TypeIs {s with heap:=s.heap.push no} (.ref s.heap.objs.size) "set":=(_,hS,by rw[<-d]);let hli:=F.called_set.init.lookup;let hbi:=F.called_set.init.bind<|.ref s.heap.objs.size
   repeat(any_goals(first|assumption|wp_step))
   refine codeAny_mono (codeAny_call_builtin (R:=wants (λr s₂=>r=.none/\∃f I,s₂={s with heap:=f,toks:=I}/\Holds n f s.heap.objs.size g (yN same (λi=>a.getD i .none) a.size)/\
    ∀b o,b<s.heap.objs.size->s.heap.get? b=!o->f.get? b=!o) E) F.called_set.init.plain F.entry_set_init<|check_set_init_1 hT ?_) λr₂ s₂ hr₂=>?_
   .let(ol,u,x,nl,y):=hl;let(ocls,q,O,j):=ol;simp only at x y;subst x;subst y;let z:(s.heap.push no).get? l=!{cls:=.type "list",dict:=q,data:=.seq a nl,slots:=j}:=Zq _ u;let hsls:=F.sub_list_set;let hslf:=F.sub_list_frozenset;let hne:(Value.type "list"==Value.type "dict")=7:=by decide
    let B:(s.heap.push no).IsList l a:=(_,z,9,nl,9);subst d;unfold Builtin.«set.__init__» noKeywords Builtin.Frozenset.updateFrom;generalize P:pyIter=PI
    wp_walk
    subst P;calc wpAny_pyIter_list B ?_;calc Za<|wpAny_runValue ?_;let C:l<s.heap.objs.size:=Zk u;let S:A.in1.in1.in1.handled=8:=by simp[hh]
    generalize d:({cls:=.type "set",dict:=8,data:=.set #[] 0 (.fresh 0 0 g)}:Obj)=no at*;let m:(s.heap.push no).objs.size=s.heap.objs.size+1:=Heap.size_push ..;let G:l≠(s.heap.push no).objs.size:=by rw[m];exact Zi<|Uw C
    let T:s.heap.objs.size ∉[(s.heap.push no).objs.size,l]:=by
     simp only[U4,Va,or_false,not_or];exact(by rw[m];calc Zi<|UG _,UW C)
    let hw:∀(i:5)(v:Value),a[i]?=!v->v=(λi=>a.getD i .none) i:=λi v hv=>by
     show v=a.getD i .none;rw[VD,hv];rfl
    refine Ti (Walks.list S _ l G a).toS s.heap.objs.size T (hp:=s.heap) (λb o e=>?_) K (λi=>a.getD i .none) hw (λi hi=>?_) hn (by calc hu) g (a.size-0) 0 _ () (Uc _)
     ((_,Zr _ 9,9,9),B.push _) (λb o e=>Zq _<|Zq _ e) (Tj<|by rw[d];calc Zq _ hS) λs' J H'=>?_
    .let H:=Zk e;calc(?_,Zi H);simp only[U4,Va,or_false];rw[m];exact Zi<|Uw H
    .exact L i _<|by show a[i]?=! a.getD i .none;rw[K6 hi,UA hi]
    .let(f,g',d',U,X):=s';let eg:g'=s.gens:=J.gens;let ed:d'=s.drawn:=J.drawn;let eo:X=s.os:=J.os;subst eg;subst ed;subst eo;show wpAny _ _ _ _ _ _;calc Zb ?_;show wpAny _ _ (ret Value.none) _ _ _;calc Zb (9,f,U,9,H',λb o H e=>?_);exact J.heap b o (by simp only[U4,Va,or_false,not_or];calc(Zi H,by rw[m];calc Zi<|Uw H))<|Zq _<|Zq _ e
   .cases r₂ with
    |error e=>calc hr₂
    |ok fl₂=>
     cases fl₂ with
     |ret r=>
      let(rfl,f,I,rfl,Y,Z):=hr₂
      repeat(any_goals(first|assumption|wp_step))
      calc h _ _ Y Z
     |_=>calc hr₂.elim
  |_=>exact p.elim
end
def Wg(p:3×3):PyData:=.tuple [.int p.1,.int p.2]
def qG(r:Jz):PyData:=.tuple<|r.map Wg
def Lz(p:3×3):3:=Eu<|[p.1,p.2].map hashInt
def Tn(r:Jz):3:=Eu<|r.map Lz
def v0(c:Heap)(v:Value)(p:3×3):4:=∃a o b n t u,v=.ref a/\c.get? a=!o/\o.cls=.type "tuple"/\o.data=.seq b n/\b.toList=[.int p.1 t,.int p.2 u]
inductive IsPairs(hp:Heap):Ye->Jz->Prop
 |nil:IsPairs hp [] []
 |cons{v vs p r}:v0 hp v p->IsPairs hp vs r->IsPairs hp (v::vs) (p::r)
def wC(b:Heap)(v:Value)(r:Jz):4:=∃a o c n,v=.ref a/\b.get? a=!o/\o.cls=.type "tuple"/\o.data=.seq c n/\IsPairs b c.toList r
def Tp   (h:v0 b v p):Reads b v (Wg p) []:=by
 let(a o g n t u,rfl,c,d,e,f):=h;calc .tuple c d e ?_;rw[f];exact .cons (.int _ _)<|.cons (.int _ _) .nil
def Tq :∀{a:Ye}{r:Jz},IsPairs b a r->ReadsAll b a (r.map Wg) []:=λh=>by
 induction h with
 |nil=>calc .nil
 |cons c _ d=>exact .cons (Tp c) d
def L0   (h:wC b v r):Reads b v (qG r) []:=by
 let(a o g n,rfl,c,d,e,f):=h;exact .tuple c d e<|Tq f
def v0.keep (k:∀b o,c.get? b=!o->hp'.get? b=!o)  (h:v0 c v p):v0 hp' v p:=by
 let(a o f n t u,e,i,r):=h;exact wS a o f n t u (e,k _ _ i,r)
theorem IsPairs.keep (k:∀b o,c.get? b=!o->hp'.get? b=!o)  (h:IsPairs c e r):IsPairs hp' e r:=by
 induction h with
 |nil=>calc .nil
 |cons f _ i=>exact .cons (f.keep k) i
theorem wC.keep (k:∀b o,c.get? b=!o->hp'.get? b=!o)  (h:wC c v r):wC hp' v r:=by
 let(a o f n,e,i,j,l,p):=h;exact qb a o f n (e,k _ _ i,j,l,p.keep k)
theorem Tr   (h:v0 c v p)(n):PlainV c (n+1) v:=by
 let(a o j k t u,rfl,d,f,g,i):=h;calc .tup d f g λx b=>?_;rw[i]at b;rcases U4.mp b with e|e
 .rw[e];exact .int _ _ _
 .rw[Jc.mp e];exact .int _ _ _
def Ts(d:A.units<cLine):∀{b:Ye}{r:Jz},IsPairs s.heap b r->HashAll c w A E s b (r.map Lz):=λh=>by
 induction h with
 |nil=>calc .nil
 |cons e _ f=>
  calc .cons (λm Q h=>?_) f;let(a o b n t u,rfl,g,i,j,l):=e;calc Lu g i j d ?_ h;rw[l];exact Lv<|.cons _ _<|.cons _ _ .nil
def Tt(p q):PyData.eqv (Wg p) (Wg q)=decide (p=q):=by
 grind[Wg,PyData.eqv,PyData.eqvAll]
theorem L4:∀r q:Jz,PyData.eqvAll (r.map Wg) (q.map Wg)=decide (r=q)
 |[],[]=>by rfl
 |[],_::_=>by rfl
 |_::_,[]=>by rfl
 |p::r,q::s=>by
  rw[Zl,Zl];unfold PyData.eqvAll;rw[Tt,L4 r s,Vf];simp
def Tu(r q):PyData.eqv (qG r) (qG q)=decide (r=q):=L4 r q
theorem L5:∀r:Jz,PyData.canLayAll0 (r.map Wg)=6
 |[]=>9
 |p::r=>by
  rw[Zl];unfold PyData.canLayAll0;rw[L5 r];rfl
def L6(r):(qG r).canLay0=6:=L5 r
theorem L8:∀r:Jz,PyData.depthAll (r.map Wg)<=1
 |[]=>Uc _
 |p::r=>by
  rw[Zl];unfold PyData.depthAll;let a:(Wg p).depth=1:=9;let b:=L8 r;rw[a];lia
def Tv(r):(qG r).depth<=2:=Vz<|L8 r
def v0.inj   (h:v0 c v p)(f:v0 c v q):p=q:=by
 let(a o j n t u,rfl,l,r,s,x):=h;let(y z i B E F,e,G,H,I,J):=f
 grind
theorem IsPairs.inj :∀{c:Ye}{r q:Jz},IsPairs e c r->IsPairs e c q->r=q:=λ{c r q}g h=>by
 induction g generalizing q with
 |nil=>cases h;rfl
 |cons f _ i=>
  cases h with
  |cons j l=>rw[f.inj j,i l]
theorem wC.inj   (h:wC i v r)(j:wC i v q):r=q:=by
 let(a o y n,rfl,l,z,p,s):=h;let(B E u F,e,c,G,f,x):=j;cases e;rw[l]at c;obtain rfl:=Zqi c;rw[p]at f;cases f;exact s.inj x
open Classical in
def yY(a:Heap)(v:Value):Jz:=if h:∃r,wC a v r then h.choose else[]
def AE   (h:wC a v r):yY a v=r:=by
 unfold yY;let e:∃r,wC a v r:=(r,h);rw[dif_pos e];exact e.choose_spec.inj h
def Tw(b)(w)(c):KeyFam b w c (λv=>∃r,wC c v r) (λv=>Tn<|yY c v) λv u=>decide<|yY c v=yY c u where
 ref:=by
  rintro v ⟨r,a,o,d,n,e,_⟩;exact(a,e)
 plain:=by
  rintro v ⟨r,h⟩;let(a,o,d,k,rfl,j,m,p,f):=h;calc .tup j m p ?_;generalize d.toList=l at f
  induction f with
  |nil=>simp
  |cons g _ z=>
   grind[Tr]
 hash:=by
  rintro v ⟨r,h⟩ A E s Q hk hu hq;rw[AE h]at hq;let(a o d n,rfl,g,t,x,y):=h.keep hk;exact Lu g t x () (Ts (show A.units+1<cLine from()) y) hq
 eq:=by
  rintro v u ⟨r,h⟩ ⟨q,i⟩ A E s Q hk hu hq;rw[AE h,AE i,<-Tu]at hq;let B:=Tv r;exact SeqAt.eqBoolOverData b w A E s v u (qG r) (qG q) [] [] Q (L0<|h.keep hk) (L0<|i.keep hk) (L6 r) (L6 q) () hq
 coh:=()
def uJ:Slot "set_iterator" "__next__" "set_iterator.__next__":=
 .of (owner:="set_iterator") (n:="__next__") (by kernel_rfl) (by rfl) (by rfl) (by rfl)
  (by first|calc .inl<|by decide+kernel|calc .inr<|by decide+kernel)<|by kernel_rfl
def L9:entryFor table "set_iterator.__next__"=!Builtin.«set_iterator.__next__»:=entryFor_of_tree<|by rfl
def LA:Manifest.owners.lookup (String.ofList ['r','o','t','a','r','e','t','i','_','t','e','s'].reverse)=!Manifest.sig_set_iterator:=by kernel_rfl
def LB(a):argsOk "set_iterator.__next__" ([a],[]):=by
 unfold argsOk;rw[signature?_of (n:=['_','_','t','x','e','n','_','_']) (by kernel_rfl) LA];rfl
def Tx:entryFor table "set.__iter__"=!Builtin.«frozenset.__iter__»:=entryFor_alias (id':="frozenset.__iter__") (by kernel_rfl) 9 (by decide+kernel)<|by kernel_rfl
def LC:Slot "set_iterator" "__iter__" "set_iterator.__iter__":=
 .of (owner:="set_iterator") (n:="__iter__") (by rw[typeLookup_type,builtinLookup_eq_fast];kernel_rfl) (by decide+kernel) (by rfl) (by rfl)
  (by first|calc .inl<|by decide+kernel|calc .inr<|by decide+kernel)<|by rw[isSubtype_type];kernel_rfl
def Tz:entryFor table "set_iterator.__iter__"=!Builtin.«dict_keyiterator.__iter__»:=
 entryFor_alias (id':="dict_keyiterator.__iter__") (by kernel_rfl) (by rfl) (by decide+kernel)<|by kernel_rfl
abbrev LD(h:Heap)(it S:Addr)(slot i n ep:5):4:=h.get? it=!{cls:=.type "set_iterator",dict:=8,data:=.fields #[.int slot 0,.int i 0,.ref S,.int n 0,.int ep 0],slots:=#[]}
abbrev X7(es:Array (3×Value))(ep:5)(t:YA):Obj:={cls:=.type "set",dict:=8,data:=.set es ep t,slots:=#[]}
def KP(w:World)(S b:5)(a:Array (3×Value)):Array (3×Value):=if w.params.followText "set-order"then pickOrder (w.params.setOrder S b) a else a
theorem LF (next):∀fuel k(left:List α)a,left.length<=fuel->(pickOrder.go next fuel k left a).toList.Perm (a.toList++left)
 |0,k,left,a,h=>by
  simp_all[pickOrder.go]
 |fuel+1,k,left,a,h=>by
  unfold pickOrder.go;cases q:left[next k%left.length]? with
  |none=>
   let b:left.length=0:=by
    grind[Nat.eq_zero_or_pos,Nat.mod_lt,Zqg]
   simp_all
  |some x=>
   let b:=List.length_eraseIdx_of_lt<|(Jd.mp q).1;calc(LF next fuel (k+1) _ _ ()).trans ?_;rw[Array.toList_push,Ug];calc List.Perm.append_left _ ?_;let c:left=left.take (next k%left.length)++x::left.drop (next k%left.length+1):=by
    grind[List.take_append_drop,List.drop_eq_getElem_cons]
   rw[List.eraseIdx_eq_take_drop_succ];exact Vy (List.perm_middle (l₁:=left.take<|next k%left.length)).symm<|List.Perm.of_eq c.symm
theorem T1 (next)(a:Array α):(pickOrder next a).toList.Perm a.toList:=by
 grind[pickOrder,LF]
def LG(w)(S b)(a):(KP w S b a).toList.Perm a.toList:=by
 grind[KP,T1,List.Perm.refl]
def Ex(w)(S b)(a):(KP w S b a).size=a.size:=by
 let:=(LG w S b a).length_eq;omega
def T2 (u:vx c) (d):SetTable.below c (c[i]+1)=i+1:=by
 let(!g,f,h):=Ce u (c[i]+1);let e:=K6 d 0;rcases Vc (SetTable.below c<|c[i]+1) (i+1)with q|q|q
 .grind
 .exact q
 .let a:=f (i+1) q;let b:=u i (i+1) () ();lia
def T3(a)(u:vx a):SetTable.below a 0=0:=by
 let(!c,b,d):=Ce u 0;rcases Vo (SetTable.below a 0)with q|q
 .exact q
 .let:=b 0 q;lia
def T4{S l:5}   (d:s.heap.get? S=! X7 m l t)(g:t.fits m.size=6)(q:t.plain=6)
 (r:Q (.ref s.heap.objs.size) {s with heap:=s.heap.push {cls:=.type "set_iterator",data:=.fields #[.int 0 0,.int 0 0,.ref S,.int m.size 0,.int l 0]}}):YF a w A (pyIter<|.ref S) Q E s:=by
 let n:s.TypeIs (.ref S) "set":=(_,d,9);calc wpAny_pyIter_slot n F.slot_set_iter<|wpAny_call_entry F.slot_set_iter n Tx ?_<|F.args_set_iter_1 _;unfold Builtin.«frozenset.__iter__» Builtin.Frozenset.slot0 slotArgs;simp only[bind_assoc];calc Za<|Zb<|Za<|Zb<|Za<|Za<|wpAny_setEntries_of d 9 g<|Zb ?_;let u:wpAny (model a w) A.in1 (setDrawn S) (λb o=>b=7/\o=s) E s:=by
  calc Za<|wpAny_setState_of d 9 g<|Za<|Za<|wpAny_askSetting<|Zb<|Zb (?_,9);let(p,h,c,f,v,i,j):=t;cases q;exact Bool.and_false _
 calc Za<|Zc u (λb o z=>?_) λ_ _ e=>e;let(rfl,rfl):=z;refine Za<|Zb<|Za<|Za<|wpAny_setState_of d 9 g<|Zb<|Za<|wpAny_newObj_type (Zb (_,9,"set_iterator",_,(_,Zr _ 9,9),uJ.lookup,r))<|by simp_all[sizeOk,sizeLine_eq]
def LH     (p:s.heap.get? S=! X7 f j t)(r:t.fits f.size=6)(y:t.plain=6)(l:t.led=zS w)(B:vx t.place)(C:t.place.size=f.size)
 (F:w.params.followText "set-order"=7->SetTable.below t.place d=i)
 (m:∀b,(w.params.followText "set-order"=7->i<f.size->SetTable.below t.place b=i+1)->Q (((KP w S j f)[i]?).map λe=>%[e.2|b]) s):YF a w A (setNext S d i j) Q E s:=by
 calc Za<|wpAny_setState_of p 9 r ?_;calc Za<|Za<|wpAny_askSetting<|Zb ?_;cases q:w.params.followText "set-order"with
 |true=>
  let e:({program:=(model a w).prog,params:=(model a w).w.params}:Setting).params.followText "set-order"=6:=q;rw[Zd e];rw[Ze ()];calc Za<|Za<|wpAny_setState_of p 9 r ?_;calc Za<|Za<|wpAny_askSetting<|Zb ?_;rw[Zd e];calc Za<|wpAny_askSetting<|Zb<|Zb ?_;let:=m d λz=>by rw[q]at z;cases z
  unfold KP at this
  rwa[Zd q]at this
 |false=>
  let e:¬({program:=(model a w).prog,params:=(model a w).w.params}:Setting).params.followText "set-order"=6:=by
   show ¬w.params.followText "set-order"=6;rw[q];simp
  rw[Ze e];let G:KP w S j f=f:=by unfold KP;rw[q];rfl
  rw[G]at m;rw[F q];let l:t.led=6:=by rw[l];unfold zS;rw[q];rfl
  let(u,c,g,h,H,n,o):=t;cases y;cases l
  split
  .rename_i z;exact Zn z Zj
  .calc Za<|Zb<|Zb ?_;by_cases v:i<f.size
   .let x:i<c.size:=by rwa[C]
    let:=m (c[i]+1) λ_ _=>T2 B x;rw[UA v]at this
    rwa[UA v,UA x]
   grind[Array.getElem?_eq_none]
abbrev Ey(w:World)(it S:Addr)(es:Array (3×Value))(ep:5)(t:YA)(i:5)(h:Heap):4:=(∃slot,LD h it S slot i es.size ep/\(w.params.followText "set-order"=7->i<=es.size->SetTable.below t.place slot=i))/\h.get? S=! X7 es ep t
structure SetGood(w:World)(es:Array (3×Value))(t:YA):4 where
 fits:t.fits es.size=6
 plain:t.plain=6
 led:t.led=zS w
 up:vx t.place
 size:t.place.size=es.size
def T5     (G:SetGood w e t)(u:Ey w f S e j t i s.heap)(v:i<e.size)
 (y:∀l x,(∃k,(KP w S j e)[i]?=!%[k|x])->Ey w f S e j t (i+1) l->Heap.SameBut f s.heap l->Q (!x) {s with heap:=l}):YF p w A (pyNext<|.ref f) Q E s:=by
 let((q,c,m),n):=u;let r:s.TypeIs (.ref f) "set_iterator":=(_,c,9);let g:S≠f:=by grind
 unfold pyNext;refine Za<|wpAny_attempt<|wpAny_callSpecial?_slot r uJ
 <|wpAny_call_entry uJ r L9 ?_<|LB _
 unfold Builtin.«set_iterator.__next__» slotArgs;simp only[UJ,bind_assoc];calc Za<|Zb ?_;calc Za<|wpAny_fieldsOf c 9<|Za<|wpAny_setEntries_of n 9 G.fits ?_;simp;calc Za<|LH n G.fits G.plain G.led G.up G.size () λd a=>?_;let B:i<(KP w S j e).size:=by rwa[Ex]
 rw[UA B];calc Za<|wpAny_setField_rec c () λh₁ he₁ hs₁=>Za<|wpAny_setField_rec he₁ () λh₂ he₂ hs₂=>?_;calc Zb (_,9,Zb<|y h₂ _ () ((d,?_,λz _=>a z v),hs₂.extBut _ _ g<|hs₁.extBut _ _ g n) (hs₂.1.trans hs₁.1,λb m=>(hs₂.2 b m).trans<|hs₁.2 b m));unfold LD;simpa[rawInt]using he₂
def T6:typeLookup (.type "set") "__len__"=pure ! .builtin "set.__len__":=by rw[typeLookup_type,builtinLookup_eq_fast];kernel_rfl
def T7 (a:s.TypeIs (.ref r) "set") (h:Q 7 s):YF e w A (Builtin.List.listLengthHint<|.ref r) Q E s:=by
 calc Za<|wpAny_specialOf a T6 ?_;generalize c:("set.__len__":String)=id0;subst c;exact Za<|wpAny_isInstance (b:=6) a (by rw[isSubtype_type];kernel_rfl)<|wpAny_ite_split (λd=>Zn d<|by decide)<|λ_=>Za<|wpAny_typeOf a<|Zb h
def T8{S u:5}   (hh:A.handled=8)(p:s.heap.get? S=! X7 f u t)(G:SetGood w f t)(hn:f.size<=1000)
 (h:∀(d:Heap)(g:5)(vs:Ye),(∀b o,s.heap.get? b=!o->d.get? b=!o)->vs.Perm (f.toList.map (·.2))->s.heap.objs.size<d.objs.size->R vs {s with heap:=d,toks:=g}):YF q w A (collect<|.ref S) R E s:=by
 let hS:S<s.heap.objs.size:=Zk p;let y:s.TypeIs (.ref S) "set":=(_,p,9);unfold collect;calc Za<|wpAny_runValue<|codeAny_builtin F.entry_proto_collect ?_;rw[Around.under_plainId F.plain_proto_collect _];show wpAny _ A.in1 (newList []>>=λl=>again<|.builtin "list.__iadd__" ([l,.ref S],[])) _ _ s;calc Za<|wpAny_newObj_type ?_;calc Zb (plainId_quiet F.plain_list_iadd _,codeAny_builtin F.entry_list_iadd ?_);rw[Around.under_plainId F.plain_list_iadd _];generalize J:({cls:=.type "list",data:=.seq ([]:Ye).toArray}:Obj)=no;let hL₁:(s.heap.push no).get? s.heap.objs.size=!no:=Zr _ (by rw[<-J];rfl);let ho₁:(s.heap.push no).get? S=! X7 f u t:=Zq _ p;let hT₁:Shared.TypeIs {s with heap:=s.heap.push no} (.ref S) "set":=(_,ho₁,9);let C:S≠s.heap.objs.size:=Zi hS;show wpAny _ A.in1 (Builtin.List.listExtendWith (.ref s.heap.objs.size) (.ref S)<|.ref s.heap.objs.size) _ _ _;unfold Builtin.List.listExtendWith;calc Za<|wpAny_typeOf hT₁ ?_;let h1:Builtin.List.listSameRef (.ref s.heap.objs.size) (.ref S)=7:=by simp[Builtin.List.listSameRef,Ne.symm C]
 let h2:(Value.type "set"==Value.type "list")=7:=by decide
 let h3:(Value.type "set"==Value.type "tuple")=7:=by decide
 simp only[h1,h2,h3,Bool.or_false,UJ,if_false];calc Za<|T4 (s:={s with heap:=s.heap.push no}) ho₁ G.fits G.plain ?_;let szp:(s.heap.push no).objs.size=s.heap.objs.size+1:=Heap.size_push ..;generalize hI:(s.heap.push no).objs.size=I at*;generalize L:({cls:=.type "set_iterator",data:=.fields #[.int 0 0,.int 0 0,.ref S,.int f.size 0,.int u 0]}:Obj)=ni;let hS₂:=Zq ni ho₁;let hL₂:=Zq ni hL₁;let hI₂:((s.heap.push no).push ni).get? I=!ni:=by rw[<-hI];exact Zr _<|by rw[<-L];rfl
 calc Za<|wpAny_holding<|T7 (_,hS₂,9) ?_;let M:I≠s.heap.objs.size:=()
 let N:∀(R':Result->Yz),(∀(d:Heap)(g c:5)(a:Yk),(∀b o,s.heap.get? b=!o->d.get? b=!o)->d.get? s.heap.objs.size=!{cls:=.type "list",dict:=8,data:=.seq a c,slots:=#[]}->a.toList.Perm (f.toList.map (·.2))->R' (.ok<|.ret<|.ref s.heap.objs.size) {s with heap:=d,toks:=g})->
  ∀(h:Heap)(c₁ g:5),(∀b o,b≠s.heap.objs.size->((s.heap.push no).push ni).get? b=!o->h.get? b=!o)->h.get? s.heap.objs.size=!{cls:=.type "list",dict:=8,data:=.seq #[] c₁,slots:=#[]}->
  codeAny (model q w) A (.builtin "list.extend.loop" ([.ref s.heap.objs.size,.ref I,.ref s.heap.objs.size],[])) R' {s with heap:=h,toks:=g}:=by
  intro R' hR h₀ c₁ g O m;let hSf:s.heap.objs.size ∉[I,S]:=by
   simp only[U4,Va,or_false,not_or];exact(Ne.symm M,Ne.symm C)
  let P:h₀.get? I=!ni:=O I _ M hI₂;rw[<-L]at P;refine codeAny_extend_loopS (show Walks q w A.in1 I [I,S] [I] f.size (λi v=>∃k,(KP w S u f)[i]?=!%[k|v]) λi h=>Ey w I S f u t i h from{
   sub:=by simp
   frame:=by grind
   item:=λi s Q E hi T U=>T5 G T hi λd x hx st' sb=>U x d s.toks hx st' λb o z e=>sb.extBut b o () e
   done:=λs Q E T U=>by
    let((X,r,z),p):=T;let y:s.TypeIs (.ref I) "set_iterator":=(_,r,9);unfold pyNext;refine Za<|wpAny_attempt<|wpAny_callSpecial?_slot (name:=Str.ofString "__next__") y uJ
    <|wpAny_call_entry uJ y L9 ?_<|LB _
    unfold Builtin.«set_iterator.__next__» slotArgs;simp only[List.isEmpty_nil,Bool.not_true,UJ,↓reduceIte,ZC];calc Za<|Zb ?_;calc Za<|wpAny_fieldsOf r 9 ?_;dsimp only;calc Za<|wpAny_setEntries_of p 9 G.fits ?_;simp[Int.toNat_natCast];calc Za<|LH p G.fits G.plain G.led G.up G.size () λslot' hs=>?_;rw[VW (by rw[Ex];lia)];calc Za<|wpAny_setField r 9 ()<|Za ?_;calc Za (wpAny_newObj_type (Za<|wpAny_of_eq (by first|rfl|(simp only)) ?_)<|by size_fits);calc wpAny_newObj_type (Za<|wpAny_handled ?_) (by size_fits);rw[hh];calc Za<|Zb<|wpAny_throw ?_;exact Za<|wpAny_isInstance (_,Zr _ 9,9) isSubtype_stop<|Zb<|(λd eb=>U d s.toks λb o z e=>eb b o () e) _<|((Heap.SameBut.update ..).extBut.push _).push _
   self:=λi s Q E T U=>have((X,r,z),p):=T;have y:=(_,r,9);wpAny_pyIter_slot y LC (wpAny_call_entry LC y Tz (Zb (_,9,"set_iterator",_,y,uJ.lookup,U))<|by unfold argsOk;rw[signature?_of (n:=['_','_','r','e','t','i','_','_']) (by kernel_rfl) LA];rfl)}).toS (Zh hn<|by rw[sizeLine_eq];lia) s.heap.objs.size hSf _ f.size 0 {s with heap:=h₀,toks:=g} #[] c₁ 9 (Uc _)
   ((0,P,λ_ _=>T3 _ G.up),O S _ C hS₂) m (ItemsOf.nil _) λs' a c hm hL' B=>?_
  let(d,g',d',tk',os'):=s';let eg:g'=s.gens:=hm.gens;let ed:d'=s.drawn:=hm.drawn;let eo:os'=s.os:=hm.os;subst eg;subst ed;subst eo;refine hR d tk' c a (λb o e=>?_) hL' ?_
  .let z:=Zk e;let Y:b≠s.heap.objs.size:=Zi z;let hbI:b≠I:=Zi (Zg z<|by rw[szp];calc Nat.le_succ _);exact hm.heap b o (by simp only[U4,Va,or_false,not_or];calc(Y,hbI))<|O b o Y<|Zq _<|Zq _ e
  .let el:a.toList=(KP w S u f).toList.map (·.2):=by
    apply List.ext_getElem?;intro j;rw[Zv];by_cases hj:j<a.size
    .let(k,O):=B.2 j a[j] (UA hj);let:(KP w S u f).toList[j]?=!%[k|a[j]]:=by simpa using O
     rw[this];simp[hj]
    .let hw:(KP w S u f).toList[j]?=8:=VE (by rw[Uy,Ex,<-B.1];lia);rw[hw];exact VE<|by rw[Uy];lia
   rw[el];exact(LG w S u f).map _
 let Z:∀(d:Heap)(g c:5)(a:Yk),(∀b o,s.heap.get? b=!o->d.get? b=!o)->d.get? s.heap.objs.size=!{cls:=.type "list",dict:=8,data:=.seq a c,slots:=#[]}->a.toList.Perm (f.toList.map (·.2))->
  YF q w A (do
   let o<-load s.heap.objs.size
   match o.data with
    |.seq xs _=>pure xs.toList
    |_=>unsupported "internal:collect") R E {s with heap:=d,toks:=g}:=λd g c a kk H hp=>by
  calc Za<|wpAny_load H ?_;exact Zb<|h d g a.toList kk hp<|Zk H
 let hL₂':((s.heap.push no).push ni).get? s.heap.objs.size=!{cls:=.type "list",dict:=8,data:=.seq #[] 0,slots:=#[]}:=by rw[hL₂,<-J]
 calc wpAny_ite_split (λ_=>?_)<|λ_=>Zb (plainId_quiet F.plain_extend_loop _,N _ (λd g c a kk H hp=>Z d g c a kk H hp) _ 0 _ (λb o _ e=>e) hL₂');calc Za<|wpAny_rule ?_;calc Za ?_;show wpAny _ _ (updateSeq s.heap.objs.size (·.push .none)>>=λ_=>updateSeq s.heap.objs.size (·.pop)) _ _ _;calc Za<|wpAny_updateSeq hL₂' 9 ?_;let hL₃:=Heap.get?_update_self (Obj.mapSeq (·.push Value.none)) hL₂' 9;calc wpAny_updateSeq (hz:=by seq_fits) hL₃ 9 ?_;let hL₄:=Heap.get?_update_self (Obj.mapSeq (·.pop)) hL₃ 9;calc Zb (plainId_quiet F.plain_extend_loop _,N _ (λd g c a kk H hp=>Z d g c a kk H hp) _ _ _ (λb o z e=>?_) hL₄);exact(Heap.get?_update_other _ _<|Ne.symm z).trans<|(Heap.get?_update_other _ _<|Ne.symm z).trans e
theorem LJ :∀{a:Ye}{r:Jz},Xy h a r->IsPairs h a r
 |[],[],_=>.nil
 |[],_::_,p=>by let:=p.1;simp at this
 |_::_,[],p=>by let:=p.1;simp at this
 |u::a,q::r,p=>by
  let(b c nb t v,d,e,f,g):=p.2 0 q 9;obtain rfl:=Zqi d;refine .cons (wS b c _ nb t v (9,e,f,g,9))<|LJ (by let:=p.1;simpa using this,λi x j=>p.2 (i+1) x j)
noncomputable def qr(a:J0):5->List 5
 |0=>[]
 |n+1=>if(qr a n).any λi=>decide<|a.getD i []=a.getD n []then qr a n else qr a n++[n]
def T9(a)(n):qr a (n+1)=if(qr a n).any λi=>decide<|a.getD i []=a.getD n []then qr a n else qr a n++[n]:=rfl
def xK(a:J0):J0:=(qr a a.length).map λi=>a.getD i []
theorem YQ(a):∀n i,i∈qr a n->i<n
 |0,i,h=>by cases h
 |n+1,i,h=>by
  unfold qr at h
  split at h
  .let:=YQ a n i h;lia
  .rcases Jb.mp h with q|q
   .let:=YQ a n i q;lia
   simp_all
theorem Ez(a):∀n,(qr a n).length<=n
 |0=>Zf _
 |n+1=>by
  let:=Ez a n
  grind[qr,List.length_append,List.length_singleton]
theorem LK(a):∀n,((qr a n).map λi=>a.getD i []).Nodup
 |0=>UZ
 |n+1=>by
  let b:=LK a n;unfold qr
  grind
theorem LL(a):∀n r,r∈((qr a n).map λi=>a.getD i [])↔∃i,i<n/\a.getD i []=r
 |0,r=>by
  constructor
  .intro h;cases h
  lia
 |n+1,r=>by
  let b:=LL a n;unfold qr
  grind
def LM(a):(xK a).Nodup:=LK a _
def LN(a):(xK a).length<=a.length:=by unfold xK;rw[Zql];exact Ez a _
theorem nI  :r∈xK a↔r∈a:=by
 unfold xK;rw[LL];constructor
 .grind
 .intro h;let(i,b,z):=UB h;exact(i,b,())
theorem LO{same:Value->Value->Bool}   (h:∀i j,i<n->j<n->same (val i) (val j)=decide (a.getD i []=a.getD j [])):∀k,k<=n->yN same val k=(qr a k).map val
 |0,_=>9
 |k+1,hk=>by
  rw[Cg,LO h k (),T9];unfold WZ;let e:((qr a k).map val).any (same ·<|val k)=(qr a k).any λi=>decide<|a.getD i []=a.getD k []:=by
   rw[List.any_map,Vf,Vn,Vn];constructor
   .rintro⟨i,b,z⟩;exact(i,b,by rwa[<-h i k (by let:=YQ a k i b;lia) ()])
   .rintro⟨i,b,z⟩;exact(i,b,by show same (val i) (val k)=6;rwa[h i k (by let:=YQ a k i b;lia) ()])
  grind
theorem Ch {b:J0} (h:qK G (b.map rD) c):∀a:Yh,(∀i∈a,i<b.length)->qK G ((a.map λi=>b.getD i []).map rD) (a.map λi=>c.getD i .non)
 |[],_=>by rfl
 |i::a,g=>by
  have(x,e,f):=h.get (i:=i) (d:=rD<|b.getD i []) ();rw[Zl,Zl,Zl];calc(x,_,?_,f,Ch h a ());rw[Qn e]
def wv(w:World)(S:Addr)(c:YB):HO:=.ext λh=>∃a d t b,h.get? S=! X7 a d t/\SetGood w a t/\a.size<=1000/\(a.toList.map (·.2)).Perm b/\j1 c b
def LQ(w:World):YB->Hp->VK->4:=λd H Q=>∃a c b,d=[.ref a]/\Rd H a (.lst c)/\qK H (b.map rD) c/\b.length<=999/\∀S,H S=8->Q (.ref S) (jD H S<|wv w S<|(qr b b.length).map λi=>c.getD i .non)
def LR(w:World):YB->Hp->VK->4:=λd H Q=>∃S b a,d=[.ref S]/\H S=! wv w S b/\qK H (a.map rD) b/\(∀r∈a,r ≠[])/\a.length<1000/\
 ∀l c,H l=8->(∀G,qK G (a.map rD) b->qK G ((Qe jH a).map rD) c)->Q (.ref l) (jD H l<|.lst c)
def TC (p:A.Perm B):∀{f:YB}{a:J0},j1 f A->f.length=a.length->∃(b:YB)(c:J0),j1 b B/\c.Perm a/\b.length=c.length/\∀G,qK G (a.map rD) f->qK G (c.map rD) b:=by
 induction p with
 |nil=>calc λ{f a}h d=>(f,a,h,.refl _,d,λ_ h=>h)
 |cons x _ C=>
  intro f a h d;cases h with
  |cons r h=>
   cases a with
   |nil=>simp at d
   |cons q a=>
    let(b c,j,m,n,o):=C h (by simpa using d);calc(_::b,q::c,.cons r j,m.cons q,by simp[n],λG g=>?_);let(y,w,e,i,s):=g;cases e;calc(_,_,9,i,o G s)
 |swap x y l=>
  intro f a h d;cases h with
  |cons r h=>
   cases h with
   |cons E h=>
    cases a with
    |nil=>simp at d
    |cons q a=>
     cases a with
     |nil=>simp at d
     |cons F a=>
      calc(_,F::q::a,.cons E<|.cons r h,.swap _ _ _,by simpa using d,λG g=>?_);let(y w,e,i,s):=g;cases e;let(y w,e,H,I):=s;cases e;calc(_,_,9,H,(_,_,9,i,I))
 |trans _ _ t u=>
  intro f a h d;let(b c,j,m,n,o):=t h d;let(v z,i,J,L,M):=u j n;exact(v,z,i,J.trans m,L,λG g=>M G<|o G g)
def call_setRows(U:X.calm=6)(hu:X.A.units+64<cLine):qq X (.type "set") (LQ X.w):=by
 intro Y s Z H xs O Q I rv h;let(a A f,rfl,ha,P,hl,q):=h;let(u,rfl,ru):=K2 rv;obtain rfl:u=Value.ref a:=ru;let(-c,ri,pl,hz):=I.list (.inl ha);let l1:=P.length;let l2:=ri.length;rw[Zql]at l1;let sz:c.toArray.size=c.length:=Zm;let B:∀i,c.toArray.getD i .none=c.getD i .none:=λi=>by
  rw[VD,Ut];simp
 let g:∀i,i<c.length->wC s.heap (c.getD i .none) (f.getD i []):=λi m=>by
  let S:i<f.length:=()
  let(x,C,hI):=P.get (i:=i) (d:=rD<|f.getD i []) (by rw[Zv,Zqg S,Qn (Zqg S)];rfl);let(v,p,F):=ri.get C;let(b o ws n,R):=DI I.hok hI F;rw[Qn p];exact qb b o ws.toArray n (R.isv,R.get,R.cls,R.dat,LJ R.prs)
 refine Tl (I.ok.hd U) pl.isList (Tw X.prog X.w s.heap) (λi v p=>?_) (by rw[sz];lia) (by show X.A.units+1+1+1+08<cLine;lia) λh' tk H' kk=>?_
 .let m:i<c.length:=by
   let:=(Jo.mp p).1;lia
  let e:v=c.getD i .none:=by
   rw[<-B,VD,p];rfl
  rw[e];exact(_,g i m)
 .let same:∀i j,i<c.toArray.size->j<c.toArray.size->(λv u=>decide<|yY s.heap v=yY s.heap u) ((λi=>c.toArray.getD i .none) i) ((λi=>c.toArray.getD i .none) j)=decide (f.getD i []=f.getD j []):=λi j m hj=>by
   show decide (yY s.heap (c.toArray.getD i .none)=yY s.heap (c.toArray.getD j .none))=_;rw[B,B,AE (g i ()),AE (g j ())]
  let(w t,E,G,J,l):=H';rw[LO same _ (Zf _)]at G;let(L,T):=E.at_;let en:c.toArray.size=f.length:=()
  rw[en]at G;let y:(w.toList.map (·.2)).Perm ((qr f f.length).map λi=>c.getD i .none):=by
   let:=G.map (·.2);rw[Zw,Zw]at this;calc this.trans<|List.Perm.of_eq<|UM λi _=>?_;exact B i
  let vl:j1 ((qr f f.length).map λi=>A.getD i .non) ((qr f f.length).map λi=>c.getD i .none):=Y2 λi m=>by
   let m:=YQ f _ i m;let(x,C):∃x,A[i]?=!x:=(A[i]'(),Zqg ());let(v,p,F):=ri.get C;rw[Qn C,Qn p];exact F
  let M:w.size<=1000:=by
   let:=y.length_eq;rw[Zql,Zql,Uy]at this;let:=Ez f f.length;lia
  let N:t.place.size=w.size:=by
   let:=E.tab.size;rw[Ur]at this;exact this
  calc(.ref s.heap.objs.size,jD H s.heap.objs.size<|wv X.w s.heap.objs.size<|(qr f f.length).map λi=>A.getD i .non,I.laid (t':=tk) (λb o e=>kk b o (Zk e) e) (Zf _) ?_,9,q _<|I.hok.fresh<|Zf _);calc(qb w L t _ (T,(E.tab.fits,l,J,E.tab.up,N),M,y,vl),(_,T),λh1 h2 z kp=>?_);let(w L t O,e,r):=z;exact qb w L t O (kp _ e,r)
def TD {Z:St}  (I:Inv X Y Z H s)  (h:H S=! wv X.w S c):∃a d t b,s.heap.get? S=! X7 a d t/\SetGood X.w a t/\a.size<=1000/\(a.toList.map (·.2)).Perm b/\j1 c b:=(I.hok S _ h).1
def TF
 (j:wpAny (model d w) A.in1 (collect x) (λa c=>∃lt,Wk lt/\a.length<1000/\(∀f,(∀b o,c.heap.get? b=!o->f.get? b=!o)->2<=a.length->vd d w A.in1.in1 {c with heap:=f} a lt)/\
  ∀g f l,Pl a.length g a.length->Up lt g a.length->(∀b o,c.heap.get? b=!o->f.get? b=!o)->c.heap.objs.size<=l->(∃e,f.get? l=! seqObj "list" (g.map<|jM a) e)->Q (.ref l) {c with heap:=f}) E s):
 YF d w A (call (.builtin "sorted") [x]) Q E s:=by
 calc Calls.call_function_entry kind_sorted plain_sorted entry_sorted (args_sorted1 _)<|Za<|Zb<|Za<|Zc j (λa c z=>?_) λ_ _ e=>e;let(lt,W,h,m,n):=z;let i:(c.heap.push<|seqObj "list" a.toArray 0).get? c.heap.objs.size=! seqObj "list" a.toArray 0:=Zr _ 9;let q:∀b o,c.heap.get? b=!o->b≠c.heap.objs.size:=λb o e=>Zi<|Zk e;refine Za<|wpAny_newList<|Za<|wpAny_holding<|wpAny_call_entry slot_list_sort (_,i,9) entry_list_sort (Hr W i h (λf r=>m f λb o e=>r b o (q b o e)<|Zq _ e) λg p u=>(_,9,Zb (_,9,n g _ _ p u (λb o e=>?_) (Zf _)<|sortedHeap_at i)))<|args_list_sort _
 grind[size_push',sortedHeap_old,Nat.lt_succ_of_lt,Heap.lt_size,Heap.get?_push_of_some]
def call_sortedSet(hc:X.calm=6)(hu:X.A.units+64<cLine):qq X (.builtin "sorted") (LR X.w):=by
 intro Y s Z H xs us Q I rv h;let(S ys C,rfl,hS,hA,F,h64,q):=h;let(u,rfl,ru):=K2 rv;obtain rfl:u=Value.ref S:=ru;let(es ep t ws,ho,G,J,pm,vl):=TD I hS;let l1:=hA.length;rw[Zql]at l1;let L:∀g:Ye,g.Perm (es.toList.map (·.2))->g.length=C.length:=λg m=>by
  let a:=m.length_eq;let b:=pm.length_eq;let c:=vl.length;lia
 calc TF<|T8 (A:=X.A.in1) (E:=X.xe) (I.ok.hd hc) ho G J λh1 tk g kk m hsz1=>?_;let(f d,n,M,l2,g2):=TC (pm.symm.trans m.symm) vl ();let lv:=L g m;let lr:=M.length_eq;let A2:=g2 H hA;let N:∀r∈d,r ≠[]:=λr hr=>F r<|M.mem_iff.mp hr;calc(λi j=>jH (d.getD i [])<|d.getD j [],yr.wk λi=>d.getD i [],(),λh' O h2=>Hz (by show X.A.units+1+1+04<cLine;lia) (I.hok.kept λb o e=>O b o<|kk b o e) A2 n N h2,λw h' l p u O hl P=>?_);have(e,P):=P;let R:g.length=d.length:=()
 rw[R]at p u;let y:s.heap.objs.size<=l:=by
  let hl:h1.objs.size<=l:=hl;lia
 let T:∀i∈w.toList,∃x v,f[i]?=!x/\g[i]?=!v/\j4 x v:=λi z=>by
  let hn:=p.mem z;have(x,B):∃x,f[i]?=!x:=(f[i]'(),());have(v,m,rr):=n.get B;exact(x,v,B,m,rr)
 let sp:=DH yr p u;let se:=BD yr (((Q3 d).trans M).trans (Q3 C).symm) (Xx yr d)<|Xx yr C;let U:=q l (w.toList.map λi=>f.getD i .non) (I.hok.fresh y) λG hG=>by
  let:=Ch (g2 G hG) w.toList λi z=>p.mem z
  rwa[sp,se]at this
 refine(.ref l,jD H l<|.lst<|w.toList.map λi=>f.getD i .non,I.laid (λb o e=>O b o<|kk b o e) y (?_,w.toList.map<|jM g,e,?_,?_),9,U)
 .rw[Zql,p.len];exact Qt ()
 .calc Y2 λi z=>?_;have(x,v,B,m,rr):=T i z;unfold jM
  rwa[Qn B,Qn m]
 .rw[P]
  congr 03
  apply Vk;simp
end L2.ST
namespace L2.DL
open PySem PySem.Spec PyProof.Rows L2.ST
def Ci:YC->YD
 |[.lst b]=>(QF Um b).bind λa=>if(∀r∈a,r ≠[])/\(xK a).length<1000/\a.length<=999 then !(.lst<|(Qe jH<|xK a).map js)else 8
 |_=>8
def TH(h:∀{u:TA},PA X C u->PE X e (ut (LR X.w)<|Dp (ut (LQ X.w) u) uq))(I:QA X E C J):QN X E e (jq Ci J):=PE.weak (h I) λZ H Q L=>by
 let(B F M,r,n):=L;calc ji B F M (r,(Res.need_bind n).mono (λds N vs f m d O=>?_) λ_ _ q=>q);let(z,c,q):=jj N;unfold Ci at c
 split at c
 .let(-b,P,c):=Jf.mp c
  split at c
  .rename_i o;obtain rfl:=Zqi c;let(v,rfl,h):=QR O;rw[DS P,jl]at h;let(a,g,rfl,R,p):=h;calc ji a g b (9,R.same d.fh,vp.mp<|je.same d.fh _ _ p,o.2.2,λS w=>?_);let x:∀G,qK G (b.map rD) g->qK G ((xK b).map rD) ((qr b b.length).map λi=>g.getD i .non):=λG s=>Ch s _ λi T=>YQ b _ i T;calc ji S _ (xK b) (9,JL,x _<|qK.same (KW w<|wv X.w S<|(qr b b.length).map λi=>g.getD i .non) _ _<|vp.mp<|je.same d.fh _ _ p,λr U=>o.1 r<|nI.mp U,o.2.1,λl Y y s=>?_);let t:l≠S:=λz=>by simp_all[JL]
   let j:m l=8:=by rwa[JI t]at y
   let A:Ext f m f (jD m S<|wv X.w S<|(qr b b.length).map λi=>g.getD i .non):=.keep d.fh w _;exact(q.ext d) l f _ (A.trans<|.keep A.fh y _) j (Qa d.fh j) (Y,JL,vp.mpr<|s f<|x f<|vp.mp p)
  .exact J7 c
 simp_all
def bt_set:bootBuiltins "set"=! .type "set":=by kernel_rfl
end L2.DL
namespace L2.ST
def wE(a b:Jz):Bool:=decide (a.length<b.length)||decide (a.length=b.length)&&jH a b
theorem YR :wE a b=6↔a.length<b.length\/a.length=b.length/\jH a b=6:=by
 simp_all[wE]
def E1 :wE a b=7↔b.length<a.length\/a.length=b.length/\jH a b=7:=by
 grind[YR]
def uG:Tot wE where
 asy:=λa b h=>by
  rw[YR]at h;rw[E1];rcases h with h|⟨e,d⟩
  .exact .inl h
  .exact .inr (e.symm,yr.asy _ _ d)
 neg:=λa b c h=>by
  rw[YR]at h;rw[YR,YR];rcases h with h|⟨e,d⟩
  .omega
  .rcases Vc a.length b.length with z|z|z
   .exact .inl<|.inl z
   .rcases yr.neg a b c d with y|y
    .exact by grind
    simp_all
   lia
 tot:=λa b e d=>by
  rw[E1]at e d;rcases e with e|⟨e,h3⟩<;>rcases d with d|⟨d,h4⟩
  .omega
  .omega
  .omega
  .exact yr.tot _ _ h3 h4
def TJ  (g:l.Pairwise λa b=>jH a b=6)(p:Pl l.length c l.length)(u:Up (λi j=>decide<|((l.getD i []).length:3)<((l.getD j []).length:3)) c l.length):c.toList.map (λi=>l.getD i [])=Qe wE l:=by
 refine BD uG ?_ ?_<|Xx uG l
 .calc Vy ?_ (Q3 l).symm;let q:c.toList.Perm (List.range l.length):=by
   let:=Js.mp p.perm;simpa using this
  calc(q.map _).trans<|List.Perm.of_eq ?_;apply List.ext_getElem
  .simp
  .intro i t h;simp[h]
 .calc Jm.mpr λa b m n o=>?_;rw[VP,VP];let sz:c.toList.length=l.length:=by rw[Uy,p.size]
  rw[Zql]at m n;let r:c.toList[a]=gx c a:=by
   simp_all[gx]
  let s:c.toList[b]=gx c b:=by
   simp_all[gx]
  rw[r,s];let e:=p.lt (Zf _)<|show a<l.length from();let f:=p.lt (Zf _)<|show b<l.length from();let d:=u a b o ();generalize gx c a=i at d e;generalize gx c b=j at d f;rw[E1];rcases d with d|⟨d,ij⟩
  .simp_all
  .let:=of_decide_eq_false d;rcases Nat.lt_or_ge (l.getD i []).length (l.getD j []).length with z|z
   .exact .inl z
   .calc .inr ((),yr.asy _ _ ?_);let:=Jm.mp g i j e f ij
    simp_all
def TK  (l:IntsAre a b)(m:b.length=c.length):yU d w A s oneType' (λi=>%[jM a i|jM c i]) (λi j=>decide<|b.getD i 0<b.getD j 0) c.length:=by
 let e:∀{a:Ye}{b:Yf},IntsAre a b->∀i,i<b.length->∃t,jM a i=.int (b.getD i 0) t:=by
  intro a b h
  induction h with
  |nil=>simp
  |cons n t _ f=>
   intro i g;cases i with
   |zero=>calc(t,9)
   |succ i=>exact f i ()
 intro i j g o E Q p
 grind[W.kat_lt_int]
def TL      (x:IntsAre d.toList m)(M:m.length=f.length)(y:f.length<1000)(z:l≠a)
 (H:s.heap.get? l=! seqObj "list" d e)(N:s.heap.get? a=! seqObj "list" #[] B)
 (h:∀g C,Pl f.length g f.length->Up (λi j=>decide<|m.getD i 0<m.getD j 0) g f.length->(∀b o,b≠l->b≠a->s.heap.get? b=!o->C.get? b=!o)->(∃c,C.get? a=! seqObj "list" (g.map<|jM f) c)->P (.done<|.ret .none) {s with heap:=C}):
 YF q w A (ksk_end a 7 f.toArray B (.ref l) d) P E s:=by
 let r:d.size=f.length:=by
  let Y:=x.length
  simp_all
 let Z:d=d.toList.toArray:=Array.toArray_toList.symm;let I:d.zip f.toArray=(Array.range f.length).map λi=>%[jM d.toList i|jM f i]:=by
  apply Array.ext_getElem?;intro k;rw[UQ];by_cases F:k<f.length
  .rw[Array.getElem?_range,Zd F]
   grind[jM,List.getD_eq_getElem?_getD,Array.length_toList,Array.getElem?_zip_eq_some,Zqg]
  grind
 let t:∀u(g:Yg),arrOf u=g.map (λi=>%[jM d.toList i|jM f i])->failedOf u=8->Pl f.length g f.length->Up (λi j=>decide<|m.getD i 0<m.getD j 0) g f.length->YF q w A (ksk_tail a 7 B (.ref l) u) P E s:=by
  intro u g O R J S;let T:(arrOf u).map (·.2)=g.map (jM f):=by rw[O,Array.map_map];rfl
  unfold ksk_tail;dsimp only;rw[T,R];let(L,g1):∃L,(s.heap.update l<|Obj.mapSeq λ_=>#[]).get? l=! seqObj "list" #[] L:=(_,get?_update_seq H<|λ_=>#[]);let n:(s.heap.update l<|Obj.mapSeq λ_=>#[]).get? a=! seqObj "list" #[] B:=by rw[Heap.get?_update_ne _ _ _ _ (Ne.symm z)];exact N
  calc Za<|listUpdate_at H 9 ?_ (by rw[r,sizeLine_eq];lia)<|Uc _;calc Za<|wpAny_letGo ?_;calc Za (seqEpoch_at (s:={s with heap:=s.heap.update l (Obj.mapSeq λ_=>#[])}) n 9<|Za<|listUpdate_at (s:={s with heap:=s.heap.update l (Obj.mapSeq λ_=>#[])}) n 9 ?_ (Uc _)<|by rw[Ze Zj,Ur,J.size,sizeLine_eq];lia);simp only[bne_self_eq_false,UJ,if_false];refine Zb<|h g _ J S (λb o U G X=>?_) ?_
  .show((s.heap.update l<|Obj.mapSeq λ_=>#[]).update a<|Obj.mapSeq λ_=>g.map<|jM f).get? b=!o;rw[Heap.get?_update_ne _ _ _ _ G,Heap.get?_update_ne _ _ _ _ U];exact X
  .exact(_,get?_update_seq n<|λ_=>g.map<|jM f)
 unfold ksk_end;dsimp only;simp only[UJ,if_false];by_cases p:f.toArray.size<2
 .rw[Zd p,Zd p];calc Za<|Zb<|t _ (Array.range f.length) I 9 (BC _ _<|Zf _) λi j ij jn=>?_;rw[Zm]at p;lia
 .rw[Ze p,Ze p];rw[Zm]at p;rw[ksk_kind x (by rw[r];lia)];calc Za<|Zb ?_;refine Za<|Zc (Ho (λi j h=>(),()) (TK x M) (Q:=λ_ v=>∃g,arrOf v=g.map (λi=>%[jM d.toList i|jM f i])/\failedOf v=8/\Pl f.length g f.length/\Up (λi j=>decide<|m.getD i 0<m.getD j 0) g f.length)
   (I,9,9,9) (BC _ _ ()) () y ()) ?_ λ_ _ e=>e
  exact()
def TN   {l:Yf}  (X:l.length=m.length)(N:m.length<1000)(F:kS≠a)
 (Y:s.heap.get? kS=! seqObj "list" #[] 0)(Z:s.heap.get? a=! seqObj "list" #[] e1)
 (G:∀(i:5)(v:Value)(k:3),m[i]?=!v->l[i]?=!k->∀(h:Heap)(n:5),(∀b o,b≠kS->b≠a->s.heap.get? b=!o->h.get? b=!o)->
  YF H w A (call f [v]) (λr I=>∃t O,r=.int k t/\I={s with heap:=h,toks:=O}) (λ_ _=>False) {s with heap:=h,toks:=n})
 (h:∀J d n,Pl m.length J m.length->Up (λi j=>decide<|l.getD i 0<l.getD j 0) J m.length->(∀b o,b≠kS->b≠a->s.heap.get? b=!o->d.get? b=!o)->(∃c,d.get? a=! seqObj "list" (J.map<|jM m) c)->P (.done<|.ret .none) {s with heap:=d,toks:=n}):
 YF H w A (ksk_rest a f 7 m.toArray e1<|.ref kS) P E s:=by
 unfold ksk_rest;refine Za<|wpAny_rule ?_
 first
  |rw[List.forIn_toArray]
  |(rw[<-Vp];simp only[List.toList_toArray])
  |rw[<-Vp]
 refine Za<|ksk_fold (λi I=>∃d n y e,I={s with heap:=d,toks:=n}/\(∀b o,b≠kS->s.heap.get? b=!o->d.get? b=!o)/\d.get? kS=! seqObj "list" y e/\IntsAre y.toList (l.take i)) m 0 s
  (qb s.heap s.toks #[] 0 (9,λ_ _ _ e=>e,Y,by simpa using IntsAre.nil)) ?step ?done
 case step=>
  rintro j x I U ⟨d,n,y,e,rfl,L,q,C⟩;simp only[Nat.zero_add]at C ⊢;let hj:j<m.length:=(Jd.mp U).1;let(k,hkj):∃k,l[j]?=!k:=(_,Zqg ());let hz:y.size<=m.length:=by
   let h1:=C.length;rw[Uy,Uq]at h1;lia
  calc Za<|wpAny_attempt<|Zc (G j x k U hkj d n λb o z _ M=>L b o z M) (λv s'' he=>?_) λ_ _ hF=>hF.elim;let(B,Q,rfl,rfl):=he
  try dsimp only
  let(R,hc2):∃R,(d.update kS<|Obj.mapSeq (·.push<|.int k B)).get? kS=! seqObj "list" (y.push<|.int k B) R:=(_,get?_update_seq q (·.push<|.int k B));let ek:l.take (j+1)=l.take j++[k]:=by rw[List.take_add_one,hkj];simp
  let ea:(y.push<|Value.int k B).toList=y.toList++[Value.int k B]:=by simp
  calc Za (listUpdate_at (s:={s with heap:=d,toks:=Q}) q 9 ?_ (by rw[sizeLine_eq];lia)<|Zh (Yu<|Array.size_push ..)<|by rw[sizeLine_eq];lia);calc Zb (9,_,_,y.push<|.int k B,R,9,λb o z M=>?_,hc2,by rw[ea,ek];calc ksk_snoc C);show(d.update kS<|Obj.mapSeq (·.push<|.int k B)).get? b=!o;rw[Heap.get?_update_ne _ _ _ _ z];exact L b o z M
 case done=>
  rintro I ⟨d,n,y,e,rfl,L,q,C⟩;let S:IntsAre y.toList l:=by
   let e3:l.take (0+m.length)=l:=UR ();rw[e3]at C;exact C
  try dsimp only
  calc Za<|listItems_at (s:={s with heap:=d,toks:=n}) q 9 ?_;exact TL (s:={s with heap:=d,toks:=n}) S X N F q (L a _ (Ne.symm F) Z) λJ h2 p u k2 g=>h J h2 n p u (λb o z T M=>k2 b o z T<|L b o z M) g
def TQ   {kz:Yf}  (F:s.heap.get? a=! seqObj "list" d.toArray n)(L:kz.length=d.length)(G:d.length<1000)
 (y:∀(i:5)(v:Value)(k:3),d[i]?=!v->kz[i]?=!k->∀(h:Heap)(l:5),(∀b o,b≠a->s.heap.get? b=!o->h.get? b=!o)->
  YF z w A (call f [v]) (λr M=>∃t H,r=.int k t/\M={s with heap:=h,toks:=H}) (λ_ _=>False) {s with heap:=h,toks:=l})
 (h:∀B m l,Pl d.length B d.length->Up (λi j=>decide<|kz.getD i 0<kz.getD j 0) B d.length->(∀b o,b≠a->s.heap.get? b=!o->m.get? b=!o)->(∃c,m.get? a=! seqObj "list" (B.map<|jM d) c)->P (.done<|.ret .none) {s with heap:=m,toks:=l}):
 YF z w A (ksk_tree a f 7) P E s:=by
 let N:a<s.heap.objs.size:=Zk F;let(J,ho1):∃J,(s.heap.update a<|Obj.mapSeq λ_=>(#[]:Yk)).get? a=! seqObj "list" #[] J:=(_,get?_update_seq F λ_=>#[]);let q:((s.heap.update a<|Obj.mapSeq λ_=>(#[]:Yk)).push<|seqObj "tuple" d.toArray 0).objs.size=s.heap.objs.size+1:=by rw[size_push',Heap.size_update]
 unfold ksk_tree;calc Za<|listItems_at F 9 ?_;calc Za<|listUpdate_at F 9 ?_ (by rw[Zm,sizeLine_eq];lia)<|Uc _;calc Za<|seqEpoch_at ho1 9 ?_;calc Za (wpAny_newTuple ?_<|by show d.length<=_;rw[sizeLine_eq];lia);calc Za<|wpAny_newList ?_<|Uc _;calc wpAny_holding ?_;let C:∀{b o},s.heap.get? b=!o->b≠s.heap.objs.size/\b≠s.heap.objs.size+1:=λe=>(Zi<|Zk e,Zi<|Uw<|Zk e);let keep:∀b o,b≠a->s.heap.get? b=!o->(((s.heap.update a<|Obj.mapSeq λ_=>(#[]:Yk)).push<|seqObj "tuple" d.toArray 0).push<|seqObj "list" #[] 0).get? b=!o:=λb o x e=>by
  calc Zq _<|Zq _ ?_;rw[Heap.get?_update_ne _ _ _ _ x];exact e
 refine TN (s:={s with heap:=((s.heap.update a<|Obj.mapSeq λ_=>(#[]:Yk)).push<|seqObj "tuple" d.toArray 0).push (seqObj "list" #[] 0)}) (kS:=((s.heap.update a<|Obj.mapSeq λ_=>(#[]:Yk)).push<|seqObj "tuple" d.toArray 0).objs.size)
  L G (by rw[q];calc UW<|Uw N) (Zr _ 9) (Zq _<|Zq _ ho1)
  (λi v k O Q m l I=>y i v k O Q m l λb o x e=>I b o (by rw[q];calc(C e).2) x<|keep b o x e)
 <|λB m l p u I g=>h B m l p u (λb o x e=>I b o (by rw[q];calc(C e).2) x<|keep b o x e) g
def LS:YB->Hp->VK->4:=λf H Q=>∃a d c,f=[.ref a]/\Rd H a (.lst d)/\qK H (c.map rD) d/\c.Pairwise (λa b=>jH a b=6)/\c.length<1000/\(∀r∈c,r.length<=1000)/\
 ∀l e,H l=8->(∀G,qK G (c.map rD) d->qK G ((Qe wE c).map rD) e)->Q (.ref l) (jD H l<|.lst e)
def TR {Z:St}      (I:Inv X Y Z H s)(ha:Rd H a (.lst t))(hA:qK H (h.map rD) t)(hs:h.Pairwise λa b=>jH a b=6)(h64:h.length<1000)(N:∀r∈h,r.length<=1000)
 (q:∀l zs,H l=8->(∀G,qK G (h.map rD) t->qK G ((Qe wE h).map rD) zs)->Q (.ref l) (jD H l<|.lst zs)):
 YE X (call (.builtin "sorted") [.ref a] [%[Str.ofString "key"|.builtin "len"]]) (EP X Y Z Q) X.xe s:=by
 let(f,ri,pl,hz):=I.list (.inl ha);let l1:=hA.length;let l2:=ri.length;rw[Zql]at l1;let O:f.length=h.length:=()
 let hl:=pl.isList;let keep:∀b o,s.heap.get? b=!o->(((s.heap.push<|seqObj "list" #[] 0).update s.heap.objs.size<|Obj.mapSeq (·++f.toArray)).push<|seqObj "list" f.toArray 0).get? b=!o:=λb o q=>by
  let B:b<s.heap.objs.size:=Zk q;calc Zq _ ?_;rw[Heap.get?_update_ne _ _ _ _ (Zi B),Heap.get?_push_ne _ _ _ (Zi B)];exact q
 let C:((s.heap.push<|seqObj "list" #[] 0).update s.heap.objs.size<|Obj.mapSeq (·++f.toArray)).objs.size=s.heap.objs.size+1:=by
  simp
 let w:(((s.heap.push<|seqObj "list" #[] 0).update s.heap.objs.size<|Obj.mapSeq (·++f.toArray)).push<|seqObj "list" f.toArray 0).get? (s.heap.objs.size+1)=! seqObj "list" f.toArray 0:=by
  rw[<-C];exact Zr _ 9
 calc call_function_entry_kw kind_sorted plain_sorted entry_sorted (ksk_s1 _ _) ?_;unfold Builtin.«sorted»;calc Za (m:=checkCount "sorted" 1 1 _)<|Zb ?_;calc Za (collect_list hl ?_<|by rw[O,sizeLine_eq];lia);calc Za (wpAny_newList ?_<|by rw[O,sizeLine_eq];lia);show wpAny _ _ _ _ _ {s with heap:=((s.heap.push<|seqObj "list" #[] 0).update s.heap.objs.size<|Obj.mapSeq (·++f.toArray)).push (seqObj "list" f.toArray 0)};rw[C];generalize hH:((s.heap.push<|seqObj "list" #[] 0).update s.heap.objs.size<|Obj.mapSeq (·++f.toArray)).push (seqObj "list" f.toArray 0)=hp at keep w;refine Za<|wpAny_holding<|wpAny_call_entry_kw slot_list_sort (_,w,9) entry_list_sort ?body<|ksk_l1 _ _
 case body=>
  show wpAny (model X.prog X.w) X.A.in1.in1 (Builtin.«list.sort» ([.ref (s.heap.objs.size+1)],[%[Str.ofString "key"|.builtin "len"]])) _ _ _;rw[ksk_t4];refine TQ (s:={s with heap:=hp}) (kz:=h.map λr=>(r.length:3)) w () () (λi v k E hk M y P=>?_) λz M y p u P g=>(_,9,Zb (_,9,?_))
  .let n:i<h.length:=by
    let:=(Jd.mp hk).1
    rwa[Zql]at this
   let(x,A,hI):=hA.get (i:=i) (d:=rD<|h.getD i []) (by rw[Zv,Zqg n,Qn (Zqg n)];rfl);let(v',F,J):=ri.get A;rw[E]at F;obtain rfl:=Zqi F;let(b o S m,R):=DI I.hok hI J;obtain rfl:v=Value.ref b:=R.isv;let hb:b≠s.heap.objs.size+1:=Zi<|Uw<|Zk R.get;let ht:IsTup M b S.toArray:=(o,P b o hb<|keep b o R.get,R.cls,m,R.dat);let T:S.length=(h.getD i []).length:=R.prs.1;let ek:k=((h.getD i []).length:3):=by
    simp_all
   let lrow:(h.getD i []).length<=1000:=by
    rw[Qn (Zqg n)];exact N _<|UE n
   let ev:Value.int ((S.toArray.size:5):3) (y+1)=Value.int k (y+1):=by simp_all
   exact len_tuple (s:={s with heap:=M,toks:=y}) ht (by rw[Zm,T];lia)<|jI (y+1) (y+1+1) (ev,9)
  .let(c,g):=g;let U:∀b o,s.heap.get? b=!o->M.get? b=!o:=λb o e=>P b o (Zi<|Uw<|Zk e)<|keep b o e;rw[O]at p u;let ud:λi j=>decide<|(h.map λr=>(r.length:3)).getD i 0<(h.map λr=>(r.length:3)).getD j 0=λi j=>decide<|((h.getD i []).length:3)<((h.getD j []).length:3):=by
    let e:∀i,(h.map λr=>(r.length:3)).getD i 0=((h.getD i []).length:3):=λi=>by
     rw[Ut,Zv,Ut];cases h[i]?<;>rfl
    funext i j
    rw[e,e]
   rw[ud]at u;let sp:=TJ hs p u;let L:s.heap.objs.size<=s.heap.objs.size+1:=Nat.le_succ _;let at_:∀i∈z.toList,∃x v,t[i]?=!x/\f[i]?=!v/\j4 x v:=λi n=>by
    let hn:=p.mem n;let(x,A):∃x,t[i]?=!x:=(t[i]'(),());let(v,E,J):=ri.get A;exact(x,v,A,E,J)
   let fin:=q (s.heap.objs.size+1) (z.toList.map λi=>t.getD i .non) (I.hok.fresh L) λG hG=>by
    let:=Ch hG z.toList λi n=>p.mem n;rw[sp]at this;exact this
   refine(.ref<|s.heap.objs.size+1,jD H (s.heap.objs.size+1)<|.lst<|z.toList.map λi=>t.getD i .non,I.laid (a:=s.heap.objs.size+1) (o:=.lst<|z.toList.map λi=>t.getD i .non) (t':=y) U L (?_,z.toList.map<|jM f,c,?_,?_),9,fin)
   .rw[Zql,p.len];exact Qt ()
   .calc Y2 λi n=>?_;let(x v,A,E,J):=at_ i n;unfold jM;rw[Qn A,Qn E];exact J
   .rw[g]
    congr 03
    apply Vk;simp
def pe_sortLen   (i:Gl X "sorted")(j:X.mg "sorted"=8)(c:Gl X "len")(d:X.mg "len"=8)(l:PA X [e] t)
 (m:backTo b (starEach [e] X.env)=%[7|eval e X.env]::backTo b (starEach [] X.env):=by rfl)(f:(backTo b<|starEach [e] X.env).any (·.1)=7:=by rfl):PE X (.Call (.Name "sorted" p) [e] [(!"key",.Name "len" A,B)] b) (ut LS t):=by
 intro Y s Z H Q I h;calc wpAny_Call_Name_kw (XN I i j (show bootBuiltins "sorted"=! .builtin "sorted"by kernel_rfl) ?_ (by decide)<|by decide);calc callWith_kw (jS (l b Y s Z H _ I h) λC E=>j8 λF G=>jC λg n o=>kws_cons<|XN g c d boot_len (kws_nil ?_) (by decide)<|by decide) m f;let(a J L,rfl,r,v,w,x,y,q):=o;let(u,rfl,z):=K2 n;obtain rfl:=z;exact TR g r v w x y q
end L2.ST
namespace L2.DL
open PySem PySem.Spec PyProof.Rows L2.ST
def Cj:YC->YD
 |[.lst d]=>(QF Um d).bind λc=>if c.Pairwise (λa b=>jH a b=6)/\c.length<1000/\∀r∈c,r.length<=1000 then !(.lst<|(Qe wE c).map js)else 8
 |_=>8
def TU(h:∀{g:TA},PA X m g->PE X e (ut LS g))(o:QA X E m p):QN X E e (jq Cj p):=PE.weak (h o) λZ H Q s=>by
 let(B F t,r,n):=s;calc ji B F t (r,(Res.need_bind n).mono (λJ u L i M c w=>?_) λ_ _ q=>q);let(z,b,q):=jj u;unfold Cj at b
 split at b
 .let(x,y,b):=Jf.mp b
  split at b
  .rename_i d;obtain rfl:=Zqi b;let(v,rfl,h):=QR w;rw[DS y,jl]at h;let(a,A,rfl,C,j):=h;exact ji a A x (9,C.same c.fh,vp.mp<|je.same c.fh _ _ j,d.1,d.2.1,d.2.2,λl G f I=>(q.ext c) l i _ (.keep c.fh f _) f (Qa c.fh f) (G,JL,vp.mpr<|I i<|vp.mp j))
  .exact J7 b
 simp_all
end L2.DL
namespace L2
def yq.has      (x:yq P w H h a o):∃u,h.get? a=!u:=by
 cases o with
 |lst i=>let(_,_,_,_,e):=x;calc(_,e)
 |tup i=>let(_,_,_,o,e,_):=x;calc(_,e)
 |dK c=>let(_,_,_,_,o,_,_,e,_):=x;calc(_,e)
 |dT c=>let(_,_,_,_,o,_,_,e,_):=x;calc(_,e)
 |set S n=>let(o _ _ _,e,_):=x;calc(_,e)
 |ins C j fs=>calc(_,x.2.2.2.1)
 |own y=>calc x
 |xd fs=>let(_,(_,_,_,e,_),_):=x;calc(_,e)
 |rng lo l=>let(_ _ _,e):=x;calc(_,e)
 |frz p u=>calc(_,x.1)
 |tbl q=>calc(_,x)
 |met f y=>calc(_,x)
 |ext φ=>exact x.2.1
def eA(M:Model)(Γ:PySem.Ctx)(p:Pos)(s:Shared)(e:End)(b:Shared):List Frame->Sem PySem.Fin->4
 |[],.pure (.done f)=>e=.ret (.ok f)/\b=s
 |[],.pure (.again c)=>Runs M (Γ.goto c) p (M.den c) [] s e b
 |[],.raise x=>e=.ret (.error x)/\b=s
 |[],.rule _ k=>Runs M Γ p (k Yq) [] s e b
 |[],.at q k=>Runs M Γ q (k Yq) [] s e b
 |[],.load a _ k=>∃o,s.heap.get? a=!o/\Runs M Γ p (k o) [] s e b
 |[],.update a _ f k=>Runs M Γ p (k Yq) [] {s with heap:=s.heap.update a f} e b
 |[],.loadIfAlive a k=>Runs M Γ p (k<|s.heap.get? a) [] s e b
 |[],.point _ k=>Runs M Γ p (k Yq) [] s e b
 |[],.alloc o k=>Runs M Γ p (k s.heap.objs.size) [] {s with heap:=s.heap.push o} e b
 |[],.fresh k=>Runs M Γ p (k s.toks) [] {s with toks:=s.toks+1} e b
 |[],.ask k=>Runs M Γ p (k (M.prog,M.w.params)) [] s e b
 |[],.choose d n k=>Runs M Γ p (k<|M.w.draws d (s.drawn.get d)%n) [] {s with drawn:=s.drawn.bump d} e b
 |[],.os q _ k=>Runs M Γ p (k (Os.step s.os q).2) [] {s with os:=(Os.step s.os q).1} e b
 |[],.handled own k=>Runs M Γ p (k<|if own then Γ.own else Γ.handled) [] s e b
 |[],.genState g k=>∃j,s.gens[g]?=!j/\Runs M Γ p (k j.seen) [] s e b
 |[],.stack k=>Runs M Γ p (k<|%[Γ.code|p]::Γ.below) [] s e b
 |[],.thread k=>Runs M Γ p (k 0) [] s e b
 |[],.newGen c k=>Runs M Γ p (k s.gens.size) [] {s with gens:=s.gens.push (.fresh c)} e b
 |[],.call c h g l k=>∃e₁ s₁,Runs M (Γ.enter c h p) p (M.den c) [] s e₁ s₁/\match e₁ with
  |.ret r=>Runs M Γ p (k r) [] s₁ e b
  |.susp v g₀ l₀ k₀ c₀ p₀ fs=>e=.susp v g₀ l₀ k₀ c₀ p₀ (fs++[.ret k h g l Γ.code p []])/\b=s₁
 |[],.yield v g l k=>e=.susp v g l k Γ.code p []/\b=s
 |[],.resume g r _ k=>∃i s₁,Wakes M Γ p g r s i s₁/\Runs M Γ p (k i) [] s₁ e b
 |[],_=>True
 |F::fs,t=>∃e₁ s₁,Runs M (Γ.over<|F::fs) p t [] s e₁ s₁/\match e₁ with
  |.ret r=>match F with
   |.ret k _ _ _ c₁ p₁ _=>Runs M (Γ.goto c₁) p₁ (k r) fs s₁ e b
   |.gen g k _ c₁ p₁=>Runs M (Γ.goto c₁) p₁ (k (End.ret r).result) fs (s₁.setGen g .finished) e b
  |.susp v g₀ l₀ k₀ c₀ p₀ fs₀=>match splitAtGen (F::fs)with
   |none=>e=.susp v g₀ l₀ k₀ c₀ p₀ (fs₀++F::fs)/\b=s₁
   |some %[pre,%[g,k,c₁|p₁]|rest]=>Runs M (Γ.goto c₁) p₁ (k<|.yielded v) rest (s₁.setGen g (End.susp v g₀ l₀ k₀ c₀ p₀<|fs₀++pre).genState) e b
def LU        (q:s.gens[g]?=! .fresh c)(n:v ≠ .none):Wakes M Γ p g (.send v) s a b↔a=.justStarted/\b=s:=by
 unfold Wakes;rw[q];cases v<;>first|calc Zn 9 n|exact Iff.rfl
def ri       (h:Runs M Γ p t fs s e d):eA M Γ p s e d fs t:=by
 induction h with
 |done|raise|yield=>calc(9,9)
 |again _ h|rule h|«at» h|update _ h|loadIfAlive h|point h|alloc h|fresh h|ask h|choose _ h|os h|handled h|stack h|thread h|newGen h=>calc h
 |load q h|genState q h=>calc(_,q,h)
 |call a b=>calc(_,_,a,b)
 |callSusp a=>calc jI _ _ (a,9,9)
 |resumeFresh q a c b=>calc(_,_,by unfold Wakes;rw[q];calc(_,_,a,c,9,9),b)
 |resumeSuspended q a c b=>calc(_,_,by unfold Wakes;rw[q];calc jI _ _ (a,c,9,9),b)
 |resumeJustStarted q n b=>calc(_,_,(LU q n).mpr (9,9),b)
 |resumeThrowFresh q b|resumeRunning q b|resumeFinished q b=>calc jI _ _ (by unfold Wakes;rw[q];calc(9,9),b)
 |segRet a b|segGen a b=>calc jI _ _ (a,b)
 |segSuspOut q a=>
  calc jI _ _ (a,?_);show match splitAtGen _ with|none=>_|some %[pre,%[g,k,c₁|p₁]|rest]=>_
  rw[q];calc(9,9)
 |segSuspGen q a _ b=>
  calc jI _ _ (a,?_);show match splitAtGen _ with|none=>_|some %[pre,%[g,k,c₁|p₁]|rest]=>_
  rw[q];exact b
theorem LV       (h:Runs M Γ p t fs s e r):∀{f i},Runs M Γ p t fs s f i->e=f/\r=i:=by
 induction h with
 |done|raise|yield=>intro f i k;calc((ri k).1.symm,(ri k).2.symm)
 |again _ _ d|rule _ d|«at» _ d|update _ _ d|loadIfAlive _ d|point _ d|alloc _ d|fresh _ d|ask _ d|choose _ _ d|os _ d|handled _ d|stack _ d|thread _ d|newGen _ d=>intro f i k;calc d<|ri k
 |load q _ d|genState q _ d=>intro f i k;let(o,m,k):=ri k;rw[q]at m;cases m;calc d k
 |call _ _ j l=>intro f i k;let(_,_,a,b):=ri k;let(rfl,rfl):=j a;calc l b
 |callSusp _ j=>intro f i k;let(_ _,a,b):=ri k;let(rfl,rfl):=j a;calc(b.1.symm,b.2.symm)
 |resumeFresh q _ _ _ j l|resumeSuspended q _ _ _ j l=>intro f i k;let(_ _,w,b):=ri k;unfold Wakes at w;rw[q]at w;let(_,_,a,_,rfl,rfl):=w;let(rfl,rfl):=j a;calc l b
 |resumeJustStarted q n _ d=>intro f i k;let(_,_,w,b):=ri k;let(rfl,rfl):=(LU q n).mp w;calc d b
 |resumeThrowFresh q _ d|resumeRunning q _ d|resumeFinished q _ d=>intro f i k;let(_ _,w,b):=ri k;unfold Wakes at w;rw[q]at w;let(rfl,rfl):=w;calc d b
 |segRet _ _ j l|segGen _ _ j l=>intro f i k;let(_ _,a,b):=ri k;let(rfl,rfl):=j a;calc l b
 |segSuspOut q _ j=>
  intro f i k;let(_ _,a,b):=ri k;let(rfl,rfl):=j a;let b:match splitAtGen _ with|none=>_|some %[pre,%[g,k,c₁|p₁]|rest]=>_:=b
  rw[q]at b;calc(b.1.symm,b.2.symm)
 |segSuspGen q _ _ _ j l=>
  intro f i k;let(_ _,a,b):=ri k;let(rfl,rfl):=j a;let b:match splitAtGen _ with|none=>_|some %[pre,%[g,k,c₁|p₁]|rest]=>_:=b
  rw[q]at b;exact l b
def TV       (h:Wakes M Γ p g r s a d)(k:Wakes M Γ p g r s b f):a=b/\d=f:=by
 unfold Wakes at h k;let two{Γ:PySem.Ctx}{p:Pos}{t:Sem PySem.Fin}{fs:List Frame}{z:Shared}(h:∃e₁ s₁,Runs M Γ p t fs z e₁ s₁/\e₁.quiet=6/\a=e₁.result/\d=s₁.setGen g e₁.genState)(k:∃e₁ s₁,Runs M Γ p t fs z e₁ s₁/\e₁.quiet=6/\b=e₁.result/\f=s₁.setGen g e₁.genState):a=b/\d=f:=by
  grind[LV]
 let one{x:GenResult}{z:Shared}(h:a=x/\d=z)(k:b=x/\f=z):a=b/\d=f:=by grind
 cases i:s.gens[g]? with
 |none=>simp_all
 |some j=>
  rw[i]at h k;cases j with
  |fresh c=>
   cases r with
   |send v=>cases v<;>first|calc two h k|calc one h k
   |throw x=>calc one h k
  |suspended=>calc two h k
  |running=>calc one h k
  |finished=>exact one h k
def TW     (t:Sem α):∀p s,Sem.wp M Γ t Q E p s->Sem.wp M Γ t j m p s->Sem.wp M Γ t (λa p s=>Q a p s/\j a p s) (λa p s=>E a p s/\m a p s) p s:=by
 induction t with
 |pure x=>calc λ_ _ a b=>(a,b)
 |raise v=>calc λ_ _ a b=>(a,b)
 |unsupported|finish|yield|fork|await|register=>calc λ_ _ a _=>a
 |rule _ k d|«at» _ k d|alloc _ k d|loadIfAlive _ k d|point _ k d|fresh k d|ask k d|os _ _ k d|handled _ k d|newGen _ k d|stack k d|thread k d=>calc λ_ _ a b=>d _ _ _ a b
 |load a _ k d|genState a k d=>calc λ_ _(o,n,h)(z,ho',i)=>(o,n,d _ _ _ h ())
 |update a _ f k d|choose _ _ k d=>calc λ_ _(q,h)(_,i)=>(q,d _ _ _ h i)
 |call c h g l k d=>
  intro p s(r,e,x,y)(u,s1',x',y');let(w,rfl):=LV x x';cases w;calc jI r e (x,d _ _ _ y y')
 |resume g r l k d=>
  intro p s(r,e,x,y)(u,s1',x',y');let(rfl,rfl):=TV x x';exact(r,e,x,d _ _ _ y y')
def AF       (h:wpAny M A t Q E s)(k:wpAny M A t b c s):wpAny M A t (λa s=>Q a s/\b a s) (λa s=>E a s/\c a s) s:=
 λΓ p i=>TW t p s (h Γ p i)<|k Γ p i
def DT(h:Heap)(e:Addr)(d:Option Addr):4:=∃a b T c f,h.get? e=!a/\a.dict=d/\a.data=.fields b/\b[1]?=! .ref T/\T≠e/\h.get? T=!c/\c.data=.fields f/\03<f.size
def E2 (h:DT s.heap e d):wpAny M A (setFlight (.ref e) f) (λ_ m=>DT m.heap e d) E s:=by
 let(n o T q r,c,p,g,i,b,j,a,l):=h;refine Za<|wpAny_field c g i<|wpAny_setField j a l<|j0 n o T _ _ ((Heap.get?_update_other _ _ b).trans c,p,g,i,b,Heap.get?_update_self _ j<|Obj.isFreed_of_fields<|Obj.data_mapFields a _,Obj.data_mapFields a _,by simpa using l)
def LW    (m:A.frames=! d::c)(q:s.heap.FunFrames r (d::c))(u:d.frame=!L)(f:s.heap.get? e=!t)(n:t.data=.fields v)(g:1<v.size):
 wpAny M A (do let a<-frameOf d;let l<-entryPlaceOf L b;let b<-EntryCells.newEntry i a .none (rawInt L) .none l;setField (.ref e) 1 b) (λ_ w=>DT w.heap e t.dict) E s:=by
 let j:e∉(d::c).filterMap (·.frame):=λx=>by
  let(_,o,B,y):=q.mem x
  simp_all
 calc Za<|wpAny_frameOf_fun m q u λh₁ hs₁=>Za<|wpAny_entryPlaceOf λl p=>Za<|wpAny_newObj_type ?_<|p.sizeOk5 _ _ _ _ _;let he₁:=(hs₁.2.1 e j).trans f;let he₂:=Zq {cls:=.type "traceback",dict:=8,data:=.fields ([i,.ref L,.none,rawInt L,.none]++if l.isEmpty then List.replicate 06 Value.none else l).toArray} he₁;let ne:=UW<|Zk he₁;calc wpAny_setField he₂ n g<|j0 _ _ h₁.objs.size _ _ (Heap.get?_update_self _ he₂<|Obj.isFreed_of_fields<|Obj.data_mapFields n _,?_,Obj.data_mapFields n _,by simp[g],ne,(Heap.get?_update_other _ _<|Ne.symm ne).trans<|Zr h₁ 9,9,());unfold Obj.mapFields
 split<;>rfl
def LX(i:A.frames=! c::f)(w:s.heap.FunFrames m (c::f))(n:c.frame=!L)(h:DT s.heap e d):
 wpAny M A (noteFrame (.ref e) c) (λ_ x=>DT x.heap e d) E s:=by
 let y:=h;let(C F T G H,p,z,r,t,j,u,g,v):=h;unfold noteFrame;simp only[n];calc Za<|wpAny_field p r t ?_;refine Za<|wpAny_field u g (UA v) ?_
 split
 .exact Zb y
 calc Za<|wpAny_setField u g v ?_;let a:∀b,b≠T->(s.heap.update T<|Obj.mapFields (·.setIfInBounds 03 Value.none)).get? b=s.heap.get? b:=λb l=>Heap.get?_update_other _ _<|Ne.symm l;subst z;exact LW i (w.of_keeps λb o l B=>(o,(a b λq=>()).trans l,9)) n ((a e<|Ne.symm j).trans p) r (Jo.mp t).1
def TX  (c:A.frames=! a::b)(l:s.heap.FunFrames d (a::b))(f:a.frame=!L)(g:s.heap.get? e=!h)(i:h.data=.fields m)(j:m[1]?=!.none):
 wpAny M A (leaving a<|.ref e) (λ_ n=>DT n.heap e h.dict) E s:=Za<|Zc (by
  unfold noteFrame;simp only[f];calc Za<|wpAny_field g i j<|LW c l f g i (Jo.mp j).1) (λ_ _ q=>E2 q) λ_ _ z=>z
def LY(c:A.frames=! a::b)(g:s.heap.FunFrames f (a::b))(i:a.frame=!L)(h:DT s.heap e d):
 wpAny M A (leaving a<|.ref e) (λ_ j=>DT j.heap e d) E s:=Za<|Zc (LX c g i h) (λ_ _ q=>E2 q) λ_ _ z=>z
def TY(i:A.frames=! f::c)(m:f.frame=!L)(j:Heap.FlyingW h (f::c) e l n s.heap)(o:DT s.heap e d)
 (q:∀g,Heap.HeldW h (f::c) e l n L g->s.heap.UpToSlots g->DT g e d->Q Yq {s with heap:=g}):wpAny M A (noteFrame (.ref e) f) Q E s:=
 Zc (AF (wpAny_looks_onW (Q:=λ_ p=>∃g,Heap.HeldW h (f::c) e l n L g/\s.heap.UpToSlots g/\p={s with heap:=g}) i m j λg a b=>(g,a,b,9))<|LX (E:=E) i j.2.2.1 m o) () λ_ _ z=>z.1
def TZ(j:A.frames=! i::f)(n:i.frame=!L)(l:Heap.FlyingW h (i::f) e m o s.heap)(p:DT s.heap e d)
 (r:∀g,Heap.FlyingW h f e m o g->s.heap.UpToSlots g->DT g e d->Q Yq {s with heap:=g}):wpAny M A (leaving i<|.ref e) Q E s:=
 Zc (AF (wpAny_leaves_onW (Q:=λ_ t=>∃g,Heap.FlyingW h f e m o g/\s.heap.UpToSlots g/\t={s with heap:=g}) j n l λg a b=>(g,a,b,9))<|LY (E:=E) j l.2.2.1 n p) (λ_ _((g,a,b,c),q)=>by subst c;calc r g a b q) λ_ _ z=>z.1
structure FlyAt(l:List Env)(h₀:Heap)(H:Hp)(x C:Addr)(B h:Heap):4 where
 fly:∃t,Heap.FlyingW B l x (.ref C) (.ref t) h
 trk:∀b o,h.get? b=!o->H b≠8\/(∃u,h₀.get? b=!u)/\b∉frs l->B.get? b=!o
def xR(P:Program)(w:World):uF:=λa H s E e b=>∃c x C B,e=.ref x/\b.os=s.os/\AllBare b.gens/\Un (frs a) [] H c s.heap b.heap/\xp P w c b.heap/\FlyAt a s.heap c x C B b.heap/\∃d,DT b.heap x d/\E (.ref C) d c
structure Thrown(X:Cx)(E:XK):4 where
 on:∀(Y:Yb)(Z:St)(H:Hp)(s:Shared)(h₀:Heap)(x C:Addr)(B:Heap)(d:Option Addr),Inv X Y Z H s->(∀b u,X.s₀.heap.get? b=!u->b∉X.ex->∃u',h₀.get? b=!u')->FlyAt X.stack h₀ H x C B s.heap->DT s.heap x d->E (.ref C) d H->X.xe (.ref x) s
structure Raises(X:Cx)(E:XK):4 where
 new:∀(Y:Yb)(Z:St)(H:Hp)(s:Shared)(h':Heap)(x C:Addr)(args:Ye),Inv X Y Z H s->Heap.MadeExcOf s.heap h' x (.ref C) args->E (.ref C) 8 H->X.xe (.ref x) {s with heap:=h'}
def Thrown.passes  (T:Thrown X E):ZU (xR X.prog X.w) X E:=by
 intro Y Z H s e f I(i,x,C,B,j,os,bare,un,c,l,d,n,o);subst j;exact T.on Y Z i f s.heap x C B d (I.call' os un c bare<|λb z=>Zn z ()) (λb u e p=>I.base.there b u e p) l n o
def E3 :Thrown X E0:=⟨λ_ _ _ _ _ _ _ _ _ _ _ _ _ z=>z.elim⟩
section
variable   {K:W.Frag}
def E4 {Z:St}  {h₀ i B:Heap}  (I:Inv (qp (xR P w) P w K T y N j g f L A a s H E) Y Z F G)
 (U:∀b u,s.heap.get? b=!u->∃X,h₀.get? b=!X)(J:Heap.FlyingW B a x (.ref C) (.ref t) i)(up:G.heap.UpToSlots i)
 (trk:∀b o,G.heap.get? b=!o->F b≠8\/(∃u,h₀.get? b=!u)/\b∉frs (envOfC j g s.heap.objs.size f L::a)->B.get? b=!o)(dt:DT i x S)(hE:E (.ref C) S F):
 xR P w a H s E (.ref x) {G with heap:=i}:=by
 let M:∀b u,s.heap.get? b=!u->b∉frs a->b∉frs (envOfC j g s.heap.objs.size f L::a):=λb u e d z=>by
  unfold frs at z d;rw[UN]at z;let z:b∈s.heap.objs.size::a.filterMap (·.frame):=z;rcases U4.mp z with q|q
  .exact Zn (Zk e)<|by rw[q];exact Zy _
  .exact d q
 let l:∀b:Addr,b∉(qp (xR P w) P w K T y N j g f L A a s H E).ex:=λb z=>Zn (show b∈([]:Yj)from z) ();let keep:∀b o,G.heap.get? b=!o->F b≠8\/(∃u,s.heap.get? b=!u)/\b∉frs a->B.get? b=!o:=λb o e c=>by
  calc trk b o e ?_;rcases c with c|⟨⟨u,hu⟩,d⟩
  .exact .inl c
  .exact .inr (U b u hu,M b u hu d)
 let r:∀b o,s.heap.get? b=!o->b∈frs a->∃O,i.get? b=!{o with slots:=O}:=λb o e d=>by
  let(O,e1):=I.base.slot b o e (I.ok.frf b d) d (l b);let(_,m,p,hd):=I.ok.funs.mem d;let p:s.heap.get? b=!m:=p;rw[e]at p;obtain rfl:=Zqi p;let(Q,e2):=up b _ e1 hd;exact(Q,e2)
 refine qb F x C B (9,I.os,I.bare,(λb o e n d _=>?_,λb o e n d _=>r b o e d,λb o e n _=>I.base.free b o e n<|l b,λb o e _=>?_,I.base.tups,I.base.frzs,I.base.tbls),λb u e=>?_,((t,J),λb o e c=>?_),S,dt,hE)
 .exact J.1 b o<|keep b o (I.base.keep b o e n d<|l b)<|.inr ((o,e),d)
 .by_cases d:b∈frs a
  .let(O,q):=r b o e d;exact(_,q)
  .let(m,R):=I.base.there b o e (l b);exact(m,J.1 b m<|keep b m R<|.inr ((o,e),d))
 .calc(I.hok b u e).stay (λc v hc q=>J.1 c v<|keep c v q<|.inl ?_) (λ_ q=>q) λ_ _ q=>q;rcases hc with z|z
  .rw[z,e];simp
  .rw[z];simp
 .let ex:∃m,G.heap.get? b=!m:=by
   rcases c with c|⟨⟨u,hu⟩,_⟩
   .cases q:F b with
    |none=>calc Zn q c
    |some u=>exact(I.hok b u q).has
   .exact I.base.there b u hu<|l b
  let(m,R):=ex;let k:=keep b m R c;let:=J.1 b m k;let e:i.get? b=!o:=e;rw[e]at this;obtain rfl:=Zqi this;exact k
def KF:Thrown (qp (xR P w) P w K n d N g a f o A c s H E) E:=by
 calc⟨λY Z y F h₀ x C B G I p i q r=>?_⟩;let((t,j),trk):=i;let l:∀b:Addr,b∉(qp (xR P w) P w K n d N g a f o A c s H E).ex:=λb z=>Zn (show b∈([]:Yj)from z) ();exact TZ I.ok.frames 9 j q λJ i v m=>E4 I (λb u e=>p b u e<|l b) i v trk m r
def LZ:Raises (qp (xR P w) P w K T y N i g f n A d s H E) E:=by
 calc⟨λY Z U B G x C F I m J=>?_⟩;let p:∀j∈ envOfC i g s.heap.objs.size f n::d,∀a,j.frame=!a->a∈frs (envOfC i g s.heap.objs.size f n::d):=λj L a M=>Jt.mpr (j,L,M);let(-X,q,_,_):=m.there;let l:=W.funFrames_hide I.stack p;refine Zc (AF (wpAny_leaves_madeW (Q:=λ_ O=>∃h t,Heap.FlyingW (W.hideAll B.heap<|frs<|envOfC i g s.heap.objs.size f n::d) d x (.ref C) (.ref t) h/\G.UpToSlots h/\O={B with heap:=h}) I.ok.frames 9 (λb o e=>W.of_hideAll _ e) l m λh t r R tn v=>(h,t,r,v,9))
 <|TX (E:=λ_ _=>True) I.ok.frames (l.of_keeps λb o S _=>(o,m.keeps b o S,9)) 9 q 9 9) ?_ λ_ _ z=>z.1
 rintro _ _ ⟨⟨h,t,r,v,rfl⟩,dt⟩;calc E4 I λb u e=>I.base.there b u e<|by show b∉([]:Yj);simp r ((Heap.UpToSlots.of_keeps m.keeps).trans v) (λb o e c=>W.hideAll_get _ e λz=>?_) dt J;rcases c with c|c
 .exact c<|I.stkFree b z
 .exact c.2 z
end
def wL(P:Program)(w:World)(K:W.Frag)(c:Yd)(a:Heap)(b:Str)(k:5)(d:Yi)(g:Sp):4:=
 ∃f e,FnOk P w K c a (xR P w) k f e d g/\vo K e d []/\W.keepIn K (.ref f)=6/\c b=! .ref f
theorem wL.mono  {K:W.Frag}      (c:wL P w K l e i j n o)(h:j<=k):wL P w K l e i k n o:=by
 let(f p,F,r):=c;exact jI f p (F.mono h,r)
def E5(c:wL X.prog X.w X.K X.mg X.base a k s j)(T:Thrown X E)(l:Room k X.A)(m:Gl X a)(n:PA X (e::d) t)
 (g:(a==("__debug__":Str))=7:=by decide)(o:starEach (e::d) X.env=%[7|eval e X.env]::starEach d X.env:=by rfl)(h:(backTo i<|starEach d X.env).any (·.1)=7:=by rfl):
 PE X (.Call (.Name a p) (e::d) [] i) (Dr j [] E t):=by
 let(f u,F,b,q,r):=c;exact Gp F l m r q b .nil T.passes n g o h
def Fun.okX  {K:W.Frag}   {n:Stmt}     (F:Fun K x i n f v)(S:FnScope N r (JP n))(len:∀j H Q E,u j H Q E->j.length=r.length)
 (l:∀e A c s H j Q E,Room k (A.deeper<|envOfC i (JP n) s.heap.objs.size f e)->u j H Q E->
  ∃t,xh (qp (xR P w) P w K y o N i (JP n) f e A c s H E) (QP n) t/\t {nx:=λ_ z=>Q .non z,rt:=Q} (start N j) H):FnOk P w K y o (xR P w) (k+1) f v r u:=by
 let(L,O,kV,B,R,T,e,U,G,rfl,I,p):=F.ex;exact Gw I p S len λA c s H j Q E J q=>l e A c s H j Q E J q
end L2
namespace L2.DL
def zC(K:W.Frag)(b:YC->Res D):Sp:=λc H Q E=>∃F a,jk F H/\je K F a c/\(b a).need (yW K F H Q) (XW K E F H)
def zB(K:W.Frag)(b:YC->Res D):Sp:=λc H Q E=>∃F a,jk F H/\je K F a c/\(b a).need (yG K F H Q) (XW K E F H)
def Res.strict{α:Type}:Res α->Res α
 |.ok a=>.ok a
 |_=>.no
@[simp]def vy (a:α):(Res.ok a).strict=.ok a:=rfl
def jQ {r:Res α}  (h:r.strict.need p q):r.need p e:=by
 cases r with
 |ok a=>calc h
 |ex c fs=>calc h.elim
 |no=>exact h
def K7(a:YC->Res D)(b:FA):FE:=λc=>(b c).bind λd=>(a d).strict
@[simp]def bu(a)(b)(c):K7 a b c=(b c).bind λd=>(a d).strict:=rfl
def Ck(c:wL X.prog X.w X.K X.mg X.base a k C (zC X.K h))(T:Thrown X E)(j:Room k X.A)(l:Gl X a)(m:QA X E (e::b) o)
 (d:(a==("__debug__":Str))=7:=by decide)(s:starEach (e::b) X.env=%[7|eval e X.env]::starEach b X.env:=by rfl)(f:(backTo g<|starEach b X.env).any (·.1)=7:=by rfl):
 QE X E (.Call (.Name a p) (e::b) [] g) (J8 h o):=PE.weak (E5 c T j l m d s f) λZ H Q t=>by
 let(B F u,r,n):=t;calc ji B F u (r,(Res.need_bind n).mono (λv w x y z i A=>?_) λ_ _ q=>q);show zC X.K h (x++[]) z Q E;rw[ZA];exact(y,v,i.fh,A,DM w i)
def Wy(c:wL X.prog X.w X.K X.mg X.base a k C (zB X.K h))(T:Thrown X E)(j:Room k X.A)(l:Gl X a)(m:QA X E (e::b) o)
 (d:(a==("__debug__":Str))=7:=by decide)(s:starEach (e::b) X.env=%[7|eval e X.env]::starEach b X.env:=by rfl)(f:(backTo g<|starEach b X.env).any (·.1)=7:=by rfl):
 QN X E (.Call (.Name a p) (e::b) [] g) (J8 h o):=PE.weak (E5 c T j l m d s f) λZ H Q t=>by
 let(B F u,r,n):=t;calc ji B F u (r,(Res.need_bind n).mono (λv w x y z i A=>?_) λ_ _ q=>q);show zB X.K h (x++[]) z Q E;rw[ZA];exact(y,v,i.fh,A,DN w i)
def AG(c:wD X.prog X.w X.K X.mg X.base a k C (wI X.K h))(j:Room k X.A)(l:Gl X a)(m:QA X E (e::b) o)
 (d:(a==("__debug__":Str))=7:=by decide)(s:starEach (e::b) X.env=%[7|eval e X.env]::starEach b X.env:=by rfl)(f:(backTo g<|starEach b X.env).any (·.1)=7:=by rfl):
 QN X E (.Call (.Name a p) (e::b) [] g) (K7 h o):=PE.weak (XV c j l m d s f) λZ H Q t=>by
 let(B F u,r,n):=t;calc ji B F u (r,(Res.need_bind n).mono (λv w x y z i A=>?_) λ_ _ q=>q);show wI X.K h (x++[]) z Q E0;rw[ZA];exact(y,v,i.fh,A,jQ<|DN w i)
section
variable   {K:W.Frag}        {st:Stmt}
def Ma (F:Fun K x c st f m)(S:FnScope N j (JP st))
 (p:∀b A a s H E,Room k (A.deeper<|envOfC c (JP st) s.heap.objs.size f b)->wx (qp (xR P w) P w K t e N c (JP st) f b A a s H E) E 7 (QP st) g):
 FnOk P w K t e (xR P w) (k+1) f m j (zC K<|qu N.length j.length g):=by
 refine F.okX S (λu H Q E=>j8 λF v=>jC λ_ h n=>?_) λb A a s H u Q E y=>j8 λF v=>jC λz h n=>(_,p b A a s H E y,?_)
 .unfold qu at n
  split at n
  .rw[h.length];lia
  .exact n.elim
 .unfold qu at n
  split at n
  .calc ji (F,H,λ_=>8) F _ (RS.start z h,(Res.need_bind n).mono (λo i=>?_) λ_ _ q=>q);cases o with
   |next l=>calc λZ B C _ r=>i .non B C r.ext<|jB.mpr 9
   |ret d=>calc i
   |brk l=>calc i.elim
   |cont l=>exact i.elim
  .exact n.elim
def AH (F:Fun K x c st f m)(S:FnScope N j (JP st))
 (p:∀b A a s H E,Room k (A.deeper<|envOfC c (JP st) s.heap.objs.size f b)->wx (qp (xR P w) P w K r e N c (JP st) f b A a s H E) E 6 (QP st) g):
 FnOk P w K r e (xR P w) (k+1) f m j (zB K<|qF N.length j.length g):=by
 refine F.okX S (λt H Q E=>j8 λF u=>jC λ_ h n=>?_) λb A a s H t Q E v=>j8 λF u=>jC λy h n=>(_,p b A a s H E v,?_)
 .unfold qF at n
  split at n
  .rw[h.length];lia
  .exact n.elim
 .unfold qF at n
  split at n
  .calc ji (F,H,λ_=>8) F _ (RS.start y h,(Res.need_bind n).mono (λo i=>?_) λ_ _ q=>q);cases o with
   |next l=>calc i.elim
   |ret d=>calc i
   |brk l=>calc i.elim
   |cont l=>exact i.elim
  .exact n.elim
end
end L2.DL
namespace L2
def ao (h:n<1000000):n.log2<20:=by
 by_cases z:n=0
 .simp_all
 .exact(Nat.log2_lt z).mpr<|Zg h<|by decide
section
variable  {x:Str}  {tv:TE}{t:TA}  {k}
def nW(x:Str)(tv:TE):TE:=λZ H Q=>tv Z H λy b=>∃a:3,y=.int a/\a.natAbs<1000000/\Q (.str<|Str.empty++x++Str.ofString (toString a)) b
def dU(z:x.length<=1000)(e:PE X v tv):PE X (.JoinedStr [.Constant (.str x) k A,.FormattedValue v (-1) 8 B] f) (nW x tv):=by
 intro Y s Z H Q I h;calc wpAny_JoinedStr ?_;let C:(Str.empty:Str).length=0:=9;calc jS (Di Y s Z H (λy b=>y=.str x/\b=H) I (9,9)) λu g(y,b,i,j,c,l)=>?_;subst c l;let(m,rfl):=j;calc jI x m (9,by grind[strLen_append,sizeLine_eq],wpAny_FormattedValue_plain<|jS (e Y g Z b _ i h) λu E(y,n,o,p,a,c,r,q)=>?_);subst c;let(F,rfl):=p;let w:=ao r;let G:=int_text_length_le (by decide) w;let d:(Str.empty++x++Str.ofString (toString a)).length<=sizeLine:=by grind[strLen_append,PySem.ofString_length,sizeLine_eq]
 exact wpAny_formatField_int ()<|jI _ _ (9,d,d,(.str<|Str.empty++x++Str.ofString (toString a),n,o.tok _,(_,9),q))
structure Exc(K:W.Frag)(mg:Yd)(c:Str)(C:Addr):4 where
 ns:W.nsIn K mainGlobals c=! ! .ref C
 mgc:mg c=! .ref C
 exc:W.excIn K C [.type "ValueError",.type "Exception",.type "BaseException",.type "object"] "ValueError.__new__"=6
def tJ(m:Ye)(l:List (Option Value))(g:Addr->List Value->Option Value->Option Value->Option Value->Option Value->String->Option Value->Bool):4:=
 ∃C a b c d e n f,m=.ref C::a/\l=[b,c,d,e,! .builtin n,f]/\g C a b c d e n f=6
def lP
 (q:W.excIn.match_1 (λ_ _=>Bool) m l g (λ_ _=>7)=6):tJ m l g:=by
 cases m with
 |nil=>calc JF q
 |cons v b=>
  cases v with
  |ref C=>
   cases l with
   |nil=>calc JF q
   |cons c l=>
    cases l with
    |nil=>calc JF q
    |cons d l=>
     cases l with
     |nil=>calc JF q
     |cons e l=>
      cases l with
      |nil=>calc JF q
      |cons f l=>
       cases l with
       |nil=>calc JF q
       |cons a l=>
        cases a with
        |none=>calc JF q
        |some u=>
         cases u with
         |builtin n=>
          cases l with
          |nil=>calc JF q
          |cons h l=>
           cases l with
           |nil=>calc zx _ _ _ _ _ _ _ (_,9,9,q)
           |cons _ _=>calc JF q
         |_=>calc JF q
  |_=>exact JF q
def E6{K:W.Frag}    {P:4}(g:K.In h)(q:W.excIn K C s b=6)
 (k:∀i N u v bs e w sub y c z j m o p r B,h.get? C=! excClassObj u v C N bs i e w sub y c z j m o p r b->h.Ns N B->B "__init__"=8->OwnTail h s i->P):P:=by
 unfold W.excIn at q
 split at q
 .rename_i z H E I;let(U,i,j,m,o,p,n,r,F,J,q):=lP q;simp only[Ui,Yp,Bool.not_eq_true']at q;let(((((L,M),a),O),d),f):=q;subst L M;let G:=g _ _ I;let(u,bs,Q,R,v,S,w,sub,y,c,T):=H;dsimp only at F a d f G;subst F a;let A:E=#[j,m,o,p,! .builtin n,r]:=by
   obtain⟨l⟩:=E;exact Zt Array.mk J
  subst A;exact k i R u v bs S w sub y c z j m o p r _ G (.of_isNs<|W.isNs_of_in g d) (W.nsMap_none_of_in g d f)<|W.tail_of_in g O
 .exact JF q
def cL(C:Addr)(E:XK)(t:TA):TS:=λ_ Z H=>t Z H λa b=>a.length<=1000/\E (.ref C) 8 b
def ls   (R:Raises X E)(f:Exc X.K X.mg c C)(j:X.calm=6)(l:Gl X c)(m:PA X [e] t)(n:(c==("__debug__":Str))=7:=by decide)
 (g:starEach [e] X.env=%[7|eval e X.env]::starEach [] X.env:=by rfl):PS X (.Raise (! .Call (.Name c F) [e] [] a) 8 o) (cL C E t):=by
 intro Y s Z H D I h;refine E6 I.mod.kin f.exc λG N nm q bs hdct sn sub ab col dd k0 k1 k2 k3 k5 J p r d T=>wpAny_Raise_call_subU (nm:=nm) (q:=q) (N:=N) (bs:=bs) (hdct:=hdct) (sn:=sn) (sub:=sub) (ab:=ab) (col:=col) (dd:=dd) (k0:=k0) (k1:=k1) (k2:=k2) (k3:=k3) (k5:=k5)
  PySem.F.excBase_ValueError (by rfl) PySem.F.excBase_ValueError (T.hasType PySem.F.excBase_ValueError.hasBase) (I.ok.hd j) (by rw[g];rfl) d<|XM I l f.mgc (9,?_) n
 let i:=m a Y s Z H _ I h;rw[g]at i ⊢;calc Calls.evalArgs_plain<|Zc i (λL u=>j8 λM v=>xm λb w O z=>?_) λ_ _ y=>y;let P:=w.length;refine(9,Qt (),b.bk _ _ p,r.keeps b.bk,T.keeps b.bk,λA x B=>R.new Y Z v u A x C _ b B z)
end
end L2
namespace L2.DL
def vC(x:Str):D->YD
 |.int a=>if Nat.ble a.natAbs 999999=6 then !(.str<|Str.empty++x++Str.ofString (toString a))else 8
 |_=>8
def l7  (b:-999999<=a)(c:a<=999999):∃z,vC x (.int a)=! .str z:=(_,Zd<|Nat.ble_eq.mpr ())
def AI(c:Str)(f:FE):FS:=λa=>(f a).bind λ_=>.ex c []
@[simp]def bp(c)(f)(a):AI c f a=(f a).bind λ_=>.ex c []:=rfl
section
variable        {k}
def kX(c:x.length<=1000)(e:QE X E v f):QE X E (.JoinedStr [.Constant (.str x) k t,.FormattedValue v (-1) 8 u] g) (qC (vC x) f):=
 PE.weak (dU c e) λZ H Q h=>by
  let(B F i,r,n):=h;calc ji B F i (r,(Res.need_bind n).mono (λd j y l m o p=>?_) λ_ _ q=>q);let(z,b,q):=jj j;unfold vC at b
  split at b
  .rename_i a
   split at b
   .rename_i s;obtain rfl:=Zqi b;exact(a,jg.mp p,by let:=Nat.ble_eq.mp s;lia,q _ l m o<|jt.mpr 9)
   .exact J7 b
  simp_all
def Mb  (R:Raises X E)(ex:Exc X.K X.mg c C)(j:X.calm=6)(l:Gl X c)(o:QE X E e b)(p:(c==("__debug__":Str))=7:=by decide)
 (a:starEach [e] X.env=%[7|eval e X.env]::starEach [] X.env:=by rfl):QS X E m (.Raise (! .Call (.Name c G) [e] [] h) 8 s) (AI c b):=
 PS.weak (ls R ex j l (J3 o J6 a) p a) λT Z H t=>by
  let(B F f,r,n):=t;let u:(J1 b jd f).need (λi=>i.length=1/\XW X.K E B.F0 B.H0 c []) (XW X.K E F H):=by
   unfold AI at n;unfold J1 jd;cases g:b f with
   |ok d=>rw[g]at n;calc(9,n)
   |ex v fs=>rw[g]at n;calc XW.ext (n:XW X.K E B.F0 B.H0 v fs) r.ext
   |no=>rwa[g]at n
  calc ji B F f (r,u.mono (λi w I x y z A=>?_) λ_ _ q=>q);let:=A.length;exact((),w.2 (.ref C) 8 x y (r.ext.trans z) (C,9,ex.ns,.inl 9))
end
end L2.DL
namespace L2
def E7(X:Cx)(Y:Yb)(Z:St)(E:XK)(e:Value)(a:Shared):4:=
 ∃c h₀ x C B,e=.ref x/\Inv X Y Z c a/\(∀b u,X.s₀.heap.get? b=!u->b∉X.ex->∃f,h₀.get? b=!f)/\(∀p∈X.pn++Y,∃u,h₀.get? p.1=!u)/\FlyAt X.stack h₀ c x C B a.heap/\∃d,DT a.heap x d/\E (.ref C) d c
section
variable   {Z: St}
def aC        (F:FnOk X.prog X.w X.K X.mg X.base (xR X.prog X.w) k f m j n)(o:Room k X.A)(q:vo X.K m j [])
 (I:Inv X Y Z H s)(r:j1 l a)(h:n l H Q E):YE X (call (.ref f) a) (EP X Y Z Q) (E7 X Y Z E) s:=by
 let t:(a++[]).length=j.length:=by rw[ZA,<-r.length];exact F.len _ _ _ _ h
 let c:=q s a I.kIn t;rw[ZA]at c;calc wpAny_call<|codeAny_mono (F.run X.A X.stack s H (a,[]) a l Q E o I.env0 c r h) λr J d=>?_;cases r with
 |error e=>
  let(v x C B,w,os,bare,un,g,i,y):=d;subst w;calc j0 v s.heap x C B (9,I.call' os un g bare<|λb z=>Zn z (),λb u e A=>I.base.there b u e A,λp G=>(_,(I.pin p G).1),i,y)
 |ok i=>
  cases i with
  |ret u=>calc I.after d
  |next=>calc False.elim d
  |brk=>calc False.elim d
  |cont=>exact False.elim d
def Inv.flown{h₀ G B:Heap} (I:Inv X Y Z H s)(h0:∀b u,X.s₀.heap.get? b=!u->b∉X.ex->∃u',h₀.get? b=!u')(hp:∀p∈X.pn++Y,∃u,h₀.get? p.1=!u)
 (trk:∀b o,s.heap.get? b=!o->H b≠8\/(∃u,h₀.get? b=!u)/\b∉frs X.stack->B.get? b=!o)(Q:Heap.FlyingW B X.stack x (.ref C) (.ref t) G)(T:s.heap.UpToSlots G):Inv X Y Z H {s with heap:=G}:=by
 let J:∀b u,X.s₀.heap.get? b=!u->b∉X.fs->b∉frs X.stack:=λb u e f z=>by
  rcases U4.mp (I.stkSub b z)with q|q
  .exact Zn (Zk e)<|by rw[q];exact Nat.not_lt.mpr I.ok.above
  .exact f q
 let E:∀b o,X.s₀.heap.get? b=!o->b∈X.fs->b∉X.ex->∃R,G.get? b=!{o with slots:=R}:=λb o e f j=>by
  let(R,e1):=I.base.slot b o e (I.ok.frf b f) f j;let(_,S,L,U):=I.ok.funs.mem f;rw[e]at L;obtain rfl:=Zqi L;let(sl',e2):=T b _ e1 U;exact(sl',e2)
 let F:∀c v,s.heap.IsCell c v->G.IsCell c v:=λc v zh=>by
  let(o,ho,U):=zh;let(R,e):=T c o ho λvs q=>by simp_all
  exact(_,e,U)
 let(m,hn,hl):=id I.loc;refine(I.ok,I.os,I.bare,(λb o e n f j=>?_,λb o e n f j=>E b o e f j,λb o e n j=>I.base.free b o e n j,λb o e j=>?_,I.base.tups,I.base.frzs,I.base.tbls),(m,T.ns hn,λi y v h1 h2 h3=>?_),λy c e=>?_,I.free,I.freeC,λp O=>?_,λb u e=>?_,I.len)
 .exact Q.1 b o<|trk b o (I.base.keep b o e n f j)<|.inr (h0 b o e j,J b o e f)
 .by_cases f:b∈X.fs
  .let(R,q):=E b o e f j;exact(_,q)
  .let(S,e'):=I.base.there b o e j;exact(S,Q.1 b S<|trk b S e'<|.inr (h0 b o e j,J b o e f))
 .let(u,r,l):=hl i y v h1 h2 h3;calc(u,r,?_);rcases l with l|⟨k,c,e,z⟩
  .exact .inl l
  .exact .inr (k,c,e,F c _ z)
 .let(v,q):=I.cell y c e;exact(v,F c v q)
 .let(!q1,q2,q3,q4,q5):=I.pin p O;calc(Q.1 _ _<|trk _ _ q1<|.inr (hp p O,λz=>?_),q2,q3,q4,q5);rcases U4.mp (I.stkSub _ z)with q|q
  .exact q3 q
  .exact q4 q
 .refine(I.hok b u e).stay (λc v hc q=>Q.1 c v<|trk c v q<|.inl ?_) (λ_ q=>q) λ_ _ q=>q
  grind
abbrev Cx.inSuite(X:Cx)(x:Addr):Cx:={X with A:=X.A.mark ! .ref x,calm:=7,xe:=λ_ _=>False}
def Inv.suite(I:Inv X Y Z H s)(x:Addr):Inv (X.inSuite x) Y Z H s:=
 ((I.ok.mod,I.ok.kind,I.ok.glob,I.ok.blt,I.ok.above,I.ok.inj,I.ok.has,I.ok.cab,(),I.ok.frames,I.ok.stk,I.ok.exf,I.ok.bs,I.ok.bsz,I.ok.noex,I.ok.exfs,I.ok.funs,I.ok.frf),I.os,I.bare,I.base,I.loc,I.cell,I.free,I.freeC,I.pin,I.hok,I.len)
def Inv.unsuite (I:Inv (X.inSuite x) Y Z H s)(ok:X.Ok):Inv X Y Z H s:=(ok,I.os,I.bare,I.base,I.loc,I.cell,I.free,I.freeC,I.pin,I.hok,I.len)
theorem SP.unsuite    (h:SP (X.inSuite x) Y D f i)(ok:X.Ok):SP X Y D f i:=by
 cases f with
 |next=>let(c,e,I,q):=h;calc(c,e,I.unsuite ok,q)
 |brk=>let(c,e,I,q):=h;calc(c,e,I.unsuite ok,q)
 |cont=>let(c,e,I,q):=h;calc(c,e,I.unsuite ok,q)
 |ret u=>let(v c e,I,r,q):=h;exact ji v c e (I.unsuite ok,r,q)
end
end L2
namespace L2.DL
end L2.DL
namespace L2
def Cm  {K:W.Frag}            :
 PassesOwn (model (qp (xR P w) P w K g c N d b f h A a s H E).prog (qp (xR P w) P w K g c N d b f h A a s H E).w) (qp (xR P w) P w K g c N d b f h A a s H E).A (qp (xR P w) P w K g c N d b f h A a s H E).env (qp (xR P w) P w K g c N d b f h A a s H E).xe:=
 PassesOwn.leaving (Q₁:=λe i=>xR P w a H s E e i)
end L2
namespace L2.DL
def zj(H:Hp)(l:Addr):Hp:=λa=>if a=l then 8 else H a
def cQ  (h:a≠l):zj H l a=H a:=by simp_all[zj]
def Mc {b:FS}  (R:Res Out->4)(P:5->SD->4)(s:P 0 a)(t:∀a,P f.length a->R (.ok<|.next a))
 (n:∀(i:5)(x:D)(a:SD),f[i]?=!x->P i a->(∃d,(JW h x a).bind b=.ok (.next d)/\P (i+1) d)\/∃c j,(JW h x a).bind b=.ex c j/\R (.ex c j)):R (xI h b f a):=by
 let o:∀(k i:5)(a:SD),f.length-i=k->i<=f.length->P i a->R (xI h b (f.drop i) a):=by
  intro k
  induction k with
  |zero=>
   intro i a e q p;let:i=f.length:=()
   simp_all
  |succ k r=>
   intro i a e q p;let g:i<f.length:=()
   rw[Uj g];unfold xI zf;rcases n i f[i] a () p with ⟨d,l,m⟩|⟨c,j,l,m⟩
   .rw[l];exact r (i+1) d () g m
   .rwa[l]
 grind
def E8:D->D->YD
 |.lst a,.lst b=>if a.length+b.length<=sizeLine then !(.lst<|a++b)else 8
 |_,_=>8
def cy:bS X (binaryOp .Add) E8:=yj.weak Ia λx y H Q j=>by
 let(F d e z,f,id,m,c,q):=j;cases d with
 |lst a=>
  cases e with
  |lst b=>
   let c:(if a.length+b.length<=sizeLine then !(D.lst<|a++b)else 8)=!z:=c
   split at c
   .obtain rfl:=Zqi c;let(l,n,rfl,o,h):=id;let(r,s,rfl,t,i):=m;let u:=h.length;let v:=i.length;exact qb l r n s (9,9,o.same f,t.same f,(),λp g=>q p F _ (.keep f g _) g (Qa f g) (_,JL,h.append i))
   simp_all
  |_=>calc J7 c
 |_=>exact J7 c
@[simp]def iz(a b:YC):E8 (.lst a) (.lst b)=if a.length+b.length<=sizeLine then !(.lst<|a++b)else 8:=rfl
end L2.DL
namespace L2
abbrev TB:=Ends->XK->St->Hp->4
def PB(X:Cx)(a:List Stmt)(t:TB):4:=
 ∀(Y:Yb)(s:Shared)(Z:St)(H:Hp)(D:Ends)(E:XK),Inv X Y Z H s->t D E Z H->YE X (execs a X.env) (SP X Y D) (E7 X Y Z E) s
def PB.weak  (h:PB X b t)(w:∀D E Z H,c D E Z H->t D E Z H):PB X b c:=λY s Z H D E I q=>h Y s Z H D E I<|w _ _ _ _ q
def p4
 (w:wL X.prog X.w X.K X.mg X.base a k O x)(y:Room k X.A)(A:Gl X a)(B:PA X.nox (e::d) t)
 (l:(a==("__debug__":Str))=7:=by decide)(C:starEach (e::d) X.env=%[7|eval e X.env]::starEach d X.env:=by rfl)(m:(backTo c<|starEach d X.env).any (·.1)=7:=by rfl)
 (n:swapsWith (.Call (.Name a p) (e::d) [] c) 8 g.line X.env=pure 7:=by rfl):
 PB X [.Expr (.Call (.Name a p) (e::d) [] c) g] λD E Z H=>t Z H λo i=>x o i (λ_ G=>D.nx Z G) E:=by
 intro Y s Z H D E I h;refine wpAny_execs_cons<|wpAny_Expr_any (Zc (by
  let(f P,F,b,J,L):=w;calc wpAny_Call_Name_kw<|XM I A L (W.callWith_K I.ok.mod.kin J (Zc (B c Y s Z H _ (I.wish _) h) (λQ u=>j8 λo i=>jC λj r q=>(j.kIn,aC F y b j.unwish r q)) λ_ _ z=>z.elim) C m) l) (λv u q=>?_) λe u M=>M) I.quiet n
 let(z i,j,R,N):=q;exact wpAny_execs_nil (_,i,j,N)
def gg     (o:PT X.nox c p)(r:PB X a t)(u:PB X b w):PB X [.If c a b x] λD E Z H=>p Z H λv e=>if v=6 then t D E Z e else w D E Z e:=by
 intro Y s Z H D E I h;let g:∀(f:Flow)(i:Shared),SP X Y D f i->match f with|.next=>YE X (execs [] X.env) (SP X Y D) (E7 X Y Z E) i|f=>SP X Y D f i:=λf i q=>by
  cases f with
  |next=>calc wpAny_execs_nil q
  |ret v=>calc q
  |brk=>calc q
  |cont=>exact q
 calc wpAny_execs_cons<|wpAny_If<|Zc (o Y s Z H _ (I.wish _) h) (λd l q=>?_) λ_ _ z=>z.elim;let(e,m,n):=q;cases d with
 |true=>calc Zc (r Y l Z e D E m.unwish n) g λ_ _ j=>j
 |false=>exact Zc (u Y l Z e D E m.unwish n) g λ_ _ j=>j
end L2
namespace L2.DL
def aN(K:W.Frag)(m:Option Bool)(g:FS):TB:=λD E Z H=>∃B F a,RS K B F H a Z/\(g a).need (zN K m B F D) (XW K E F H)
abbrev QB(X:Cx)(m:Option Bool)(body:List Stmt)(g:FS):4:=PB X body<|aN X.K m g
def AJ(a:YC->Res D)(b:FA):FE:=λc=>(b c).strict.bind a
@[simp]def bt(a:YC->Res D)(b:FA)(c:SD):AJ a b c=(b c).strict.bind a:=rfl
def v8(c:FT)(d e:FS):FS:=λa=>(c a).strict.bind λb=>if b then d a else e a
@[simp]def mU(c:FT)(d e:FS)(a:SD):v8 c d e a=(c a).strict.bind λb=>if b then d a else e a:=rfl
def Md
 (x:wL X.prog X.w X.K X.mg X.base a k O (zC X.K h))(y:Room k X.A)(z:Gl X a)(A:QA X.nox E0 (e::c) u)
 (i:(a==("__debug__":Str))=7:=by decide)(C:starEach (e::c) X.env=%[7|eval e X.env]::starEach c X.env:=by rfl)(j:(backTo b<|starEach c X.env).any (·.1)=7:=by rfl)
 (l:swapsWith (.Call (.Name a p) (e::c) [] b) 8 f.line X.env=pure 7:=by rfl):
 QB X m [.Expr (.Call (.Name a p) (e::c) [] b) f] (Ar<|AJ h u):=
 PB.weak (p4 x y z A i C j l) λT E Z H G=>by
  let(B F o,r,n):=G;calc ji B F o (r,?_);unfold Ar AJ at n;cases q:u o with
  |ex I fs=>rw[q]at n;calc n.elim
  |no=>rwa[q]at n
  |ok s=>
   rw[q]at n;let n:((h s).bind λ_=>Res.ok<|Out.next o).need (zN X.K m B F T) (XW X.K E F H):=n;intro P J Q g L;calc jI J s (g.fh,L,?_);cases t:h s with
   |ok d=>
    rw[t]at n;calc λv M N w R=>n _ M N (g.ff.trans w.ff)<|(r.step g).step w
   |no=>rwa[t]at n
   |ex I fs=>
    rw[t]at n;exact n.ext g
def kR     (j:QT X.nox E0 c h)(l:QB X m a p)(s:QB X m b t):QB X m [.If c a b u] (v8 h p t):=
 PB.weak (gg j l s) λT E Z H w=>by
  let(B F e,r,n):=w;calc ji B F e (r,?_);unfold v8 at n;cases g:h e with
  |ex f fs=>rw[g]at n;calc n.elim
  |no=>rwa[g]at n
  |ok v=>
   rw[g]at n;intro i x d;cases v with
   |true=>calc(B,i,e,r.step d,n.mono (λo(q:zN X.K m B F T o)=>q.mono d.ff) λf fs(q:XW X.K E F H f fs)=>q.ext d)
   |false=>exact ji B i e (r.step d,n.mono (λo(q:zN X.K m B F T o)=>q.mono d.ff) λf fs(q:XW X.K E F H f fs)=>q.ext d)
end L2.DL
namespace L2
def vT(K:W.Frag)(x:Str)(a:Stmt):4:=∃f b,W.nsIn K mainGlobals x=! ! .ref f/\Fun K x x a f b
def vT.callee  {K:W.Frag}   {c:Stmt}   (X:K.In h)(G:h.Ns mainGlobals p)(d:vT K x c)
 (ok:∀{f:Addr}{i:FuncData},Fun K x x c f i->FnOk P w K p e yo k f i j q)
 (r:∀(kV l s:Value)(u:Option Addr)(n v:Value)(o:Ye),o.length=j.length->bindArgs (W.fnOf x x (Xr c) (QP c) (JP c) .none kV l s u n v) (o,[])=pure (j.zip o)):wD P w K p e x k j q:=by
 let(f i,a,F):=d;exact jI f i (ok F,F.binds r,F.kp,W.mg_of X G a)
def vT.calleeX  {K:W.Frag}   {c:Stmt}   (X:K.In h)(G:h.Ns mainGlobals p)(d:vT K x c)
 (ok:∀{f:Addr}{i:FuncData},Fun K x x c f i->FnOk P w K p e (xR P w) k f i j q)
 (r:∀(kV l s:Value)(u:Option Addr)(n v:Value)(o:Ye),o.length=j.length->bindArgs (W.fnOf x x (Xr c) (QP c) (JP c) .none kV l s u n v) (o,[])=pure (j.zip o)):wL P w K p e x k j q:=by
 let(f i,a,F):=d;exact jI f i (ok F,F.binds r,F.kp,W.mg_of X G a)
end L2
namespace L2.DL
def zA:YC->YD
 |[.int i]=>if Nat.ble i.natAbs.log2 1900 then !(.str<|toString i)else 8
 |_=>8
def E9:qq X (.type "str") (wR X.K zA):=qq.weak O6 λg H Q b=>by
 let(F h z,c,id,a,q):=b;unfold zA at a
 split at a
 .rename_i i
  split at a
  .rename_i d;obtain rfl:=Zqi a;let(j l,e,f,id):=jo.mp id;subst id e;exact(i,by rw[jg.mp f],UD (Nat.ble_eq.mp d)<|by decide,q _ F H (.refl c)<|jt.mpr 9)
  .exact J7 a
 simp_all
structure ClsD(K:W.Frag)(mg:Yd)(c:Str)(C:Addr)(fs:Yi):4 where
 ns:W.nsIn K mainGlobals c=! ! .ref C
 mgc:mg c=! .ref C
 cls:Cls K C
 no:∀f∈fs,vV K C f
noncomputable def wV(f:Str):Yi->YC->YD
 |g::a,d::b=>if g=f then !d else wV f a b
 |_,_=>8
theorem Me{K:W.Frag}  :∀{fs:Yi}{b:YC}{a:YB}{d:D},je K H b a->fs.length=a.length->wV f fs b=!d->∃x,(fs.zip a).lookup f=!x/\jh K H d x
 |[],b,a,d,_,_,h=>J7 h
 |g::c,[],a,d,i,l,h=>by
  simp_all[je.nil_iff]
 |g::c,e::b,a,d,i,l,h=>by
  let(x r,rfl,m,j):=jo.mp i;unfold wV at h;rw[Vu];by_cases q:g=f
  .simp_all
  .rw[Ze q]at h;let(y,n,o):=Me j (by simpa using l) h
   grind
def jK(c f:Str):D->YD
 |.ins a fs b=>if a=c then wV f fs b else 8
 |_=>8
def QU   (k:ClsD X.K X.mg c C fs)(m:f∈fs)(o:QE X E e p)(s:attributeBase e f X.env (eval e X.env)=eval e X.env:=by rfl):QE X E (.Attribute e f t) (qC (jK c f) p):=PE.weak (OB o s) λZ H Q u=>by
 let(B F w,r,n):=u;calc ji B F w (r,(Res.need_bind n).mono (λd y v A G b I=>?_) λ_ _ q=>q);let(z,g,q):=jj y;cases d with
 |ins h J L=>
  let i:(if h=c then wV f J L else 8)=!z:=g;by_cases j:h=c
  .rw[Zd j]at i;subst j;let(a T M U,rfl,l,N,O,P):=qg.mp I;rw[k.ns]at l;cases l;let(x,R,S):=Me P O i;exact j0 a C M _ x (9,b.fh _ _ N,k.cls,k.no f m,R,q _ A G b S)
  simp_all
 |_=>exact J7 g
theorem Mf(f)(v):∀fs:List (Str×V),f∉fs.map (·.1)->xu f v fs=fs++[%[f|v]]
 |[],_=>9
 |%[g|x]::r,h=>by
  rw[Zl,U4,not_or]at h;show(if g=f then%[g|v]::r else%[g|x]::xu f v r)=_;rw[Ze λz=>h.1 z.symm,Mf f v r h.2];rfl
def tI(K:W.Frag)(c:Str)(a:Yi)(g:FA):TS:=λT Z H=>∃B F f x C m fs h e,RS K B F H f Z/\(∀(i:5)(p:Bool)(d:D),f[i]? ≠ ! ! SV.own p d)/\Z[0]?=! ! .ref x/\B.H0 x=8/\F x=8/\W.nsIn K mainGlobals c=! ! .ref C/\H x=!(.ins C m<|fs.zip h)/\fs.length=h.length/\(fs++a).Nodup/\(fs++a).length<900/\je K F e h/\
 (g f).need (λn=>∀j l b,Ext B.F0 B.H0 j l->j x=8->l x=!(.ins C m<|(fs++a).zip b)->(fs++a).length=b.length->je K j (e++n) b->T.nx Z l) (XW K E0 B.F0 B.H0)
def Mg:xh X [] (tI X.K c [] jd):=xh.weak ZQ λT Z H f=>by
 let(B,F,o,x,C,g,fs,h,b,r,no,p,q,i,s,j,l,t,u,m,n):=f;let n:∀d e a,Ext B.F0 B.H0 d e->d x=8->e x=!(.ins C g<|(fs++[]).zip a)->(fs++[]).length=a.length->je X.K d (b++[]) a->T.nx Z e:=n;simp at n;exact n F H h r.ext i j l m
def Co(k:ClsD X.K X.mg c C fs)(N:f∈fs)(O:PE X o (yI 0))(P:QE X E0 e Q)(R:xh X S (tI X.K c b g))(U:swapsWith e (! .Attribute o f j) s.line X.env=pure 7:=by rfl):
 xh X (.Assign [.Attribute o f j] e s::S) (tI X.K c (f::b)<|J1 Q g):=xh.weak (XO (OC O P U) R) λT Z H Y=>by
 let(B,F,A,x,t,E,h,l,u,r,no,G,I,h2,w,J,L,hn,hm,hi,n):=Y;calc ji B F A (r,(Res.need_bind n).mono (λd n1 v M H1 p i1=>?_) λ_ _ q=>q.ext r.ext);let c1:t=C:=by
  rw[k.ns]at w;cases w;rfl
 subst c1;let y:=p.hh _ _ J;let m:M x=8:=p.new x h2 (by rw[J];simp);let lz:(h.zip l).map (·.1)=h:=by rw[List.map_fst_zip ()]
 let hfn:f∉h:=by grind
 let ll:(h.zip l).length<1000:=by
  grind
 calc(.ref x,G,x,t,E,_,9,y,k.cls,k.no f N,ll,?_);rw[Mf f v _ (by rwa[lz])];let ez:h.zip l++[%[f|v]]=(h++[f]).zip (l++[v]):=by rw[List.zip_append L];rfl
 rw[ez];let i:=r.step p;refine zx B M A x t E (h++[f]) (l++[v],u++[d],((i.ext.ff,λa o e=>?_,λa o e=>?_,i.ext.new),i.len,i.val,(),()),no,G,I,m,w,JL,by simp[L],by simpa using hn,by simpa using hm,je.snoc (je.same p.ff _ _ hi) i1,(Res.need_bind n1).mono (λds n2 F2 H2 z e2 f2 q1 q2 q3=>?_) λ_ _ q=>q)
 .rw[JI (KD e m)];exact i.ext.fh _ _ e
 .rw[JI (KD e I)];exact i.ext.hh _ _ e
 .exact n2 F2 H2 z e2 f2 (by simpa using q1) (by simpa using q2)<|by simpa using q3
def dH(K:W.Frag)(c:Str)(a:Yi)(i:YC->Res YC):Sp:=λj H Q _=>∃F f x C g h,jk F H/\j=.ref x::h/\je K F f h/\F x=8/\W.nsIn K mainGlobals c=! ! .ref C/\H x=! .ins C g []/\
 (i f).need (λl=>∀b d e,Ext F (zj H x) b d->b x=8->d x=!(.ins C g<|a.zip e)->a.length=e.length->je K b l e->Q .non d) (XW K E0 F<|zj H x)
def zQ(n ar:5)(g:FA)(a:YC):Res YC:=if a.length+1=ar then g (8::JT (n-1) a)else .no
def ww{K:W.Frag}     (s:jk F H)(h:je K F c j):
 RS K (F,zj H x,λ_=>8) F H (8::JT N.length c) (some (.ref x)::L2.start N j)/\∀(i:5)p d,(8::JT N.length c:SD)[i]? ≠ ! ! SV.own p d:=by
 let f:=RS.start (N:=N) s h;let no:∀(i:5)p d,(8::JT N.length c:SD)[i]? ≠ ! ! SV.own p d:=λi p d q=>by
  cases i with
  |zero=>cases q
  |succ i=>
   let(-l,_,r,_,n,_):=f.own q;let(o,u):=n.has
   simp_all
 refine(((.refl _,s,λa o e=>by
  simp_all[zj],λ_ e _=>e),by simp[f.len],λ{i d}q=>?_,λq=>Zn q<|no _ _ _,λ_ q _ _=>Zn q<|no _ _ _),no)
 cases i with
 |zero=>cases q
 |succ i=>exact f.val q
section
variable   {K:W.Frag}    {st:Stmt}
def fQ   (F:Fun K x j st f q)(S:FnScope (y::N) o (JP st))(t:a.Nodup)(u:a.length<900)
 (v:∀d A b s H E,Room k (A.deeper<|envOfC j (JP st) s.heap.objs.size f d)->xh (qp yo P w K z l (y::N) j (JP st) f d A b s H E).nox (QP st) (tI K c a g)):
 FnOk P w K z l yo (k+1) f q o (dH K c a<|zQ (y::N).length o.length g):=by
 refine F.ok S (λB H Q E=>gD λF G x C p m=>gE λ_ e i _ _ _ n=>?_) λd A b s H B Q E I=>gD λF G x C p m=>gE λJ e i L M O n=>(_,v d A b s H E I,?_)
 .unfold zQ at n
  split at n
  .rename_i h;rw[e,<-h,Zu,i.length]
  .exact n.elim
 .subst e;unfold zQ at n
  split at n
  .let R:L2.start (y::N) (.ref x::m)=some (.ref x)::L2.start N m:=by
    unfold L2.start;simp
   rw[R];let(r,no):=ww J i;exact zx _ F _ x C p [] ([],[],r,no,9,by simp_all[zj],L,M,O,9,t,u,.nil,n)
  .exact n.elim
end
def tz(P:Program)(w:World)(K:W.Frag)(d:Yd)(b:Heap)(c:Str)(a:Yi)(k:5)(e:Yi)(h:YC->Res YC):4:=
 ∃C f g,ClsD K d c C a/\Mk K C f/\FnOk P w K d b yo k f g e (dH K c a h)/\vo K g e []
def Cp(c:Str)(a:Yi)(b:YC->Res YC)(d:FA):FE:=λe=>(d e).bind λf=>(b f).bind λg=>.ok<|.ins c a g
def Mh         (M:tz X.prog X.w X.K X.mg X.base c g k ps P)(R:Room (k+1) X.A)(S:Gl X c)(T:QA X E0 (e::m) U)
 (w:(c==("__debug__":Str))=7:=by decide)(he:starEach (e::m) X.env=%[7|eval e X.env]::starEach m X.env:=by rfl)(y:(backTo t<|starEach m X.env).any (·.1)=7:=by rfl):
 QN X E0 (.Call (.Name c p) (e::m) [] t) (Cp c g P U):=by
 let(C f fd,z,mk,F,b):=M;calc PE.weak (λY s Z H Q I h=>wpAny_Call_Name_kw<|XM I S z.mgc (W.callWith_K I.ok.mod.kin mk.kp (jS (T t Y s Z H _ I h) λus A=>j8 λL u=>jC λN r q=>(N.kIn,OH mk F R b .nil GC N r q)) he y) w) λZ H Q=>qy λB F sd=>jF λr n=>ji B F sd (r,(Res.need_bind n).mono (λds n1 L v u i i1 x d j j9 ne=>?_) λ_ _ q=>q);let E:v x=8:=by
  cases q:v x with
  |none=>rfl
  |some o=>rw[i.fh _ _ q]at j;cases j
 let J:H x=8:=by
  cases q:H x with
  |none=>rfl
  |some o=>rw[i.hh _ _ q]at j;cases j
 let A:∀{G:Hp},jk G u->jk G (zj (jD (jD u d<|.own x) x<|.ins C d []) x):=λ{G}s a o q=>by
  let l:=s _ _ q
  rwa[cQ (KD l j),JI (KD l j),JI (KD l j9)]
 let s2:jk v (jD (jD u d<|.own x) x<|.ins C d []):=λa o q=>by
  let l:=i.fh _ _ q
  rwa[JI (KD l j),JI (KD l j9)]
 let O:Ext F H v (zj (jD (jD u d<|.own x) x<|.ins C d []) x):=(i.ff,A i.fh,A i.hh,i.new);rw[ZA];exact wS v ds x C d L (s2,9,i1,E,z.ns,JL,(Res.need_bind n1).mono (λm n3 F2 H2 xs e2 f2 h2 l2 i2=>(9,n3 x F2 H2 (O.trans e2) J f2<|ji C d xs (z.ns,h2,l2,i2))) λ_ _ q=>q.ext O)
def Mi(K:W.Frag)(c a:Str)(fs:Yi)(e:Stmt):4:=∃C d b,W.nsIn K mainGlobals c=! ! .ref C/\Cls K C/\(∀f∈fs,vV K C f)/\Mk K C d/\Fun K "__init__" a e d b
def fT:D->Bool
 |.tup a=>a.all Uk
 |d=>Uk d
def Mj:D->Bool
 |.lst a=>a.all fT
 |_=>7
def bC(a:Yh)(f:FE):FE:=λb=>(f<|qo a b).bare.bind λd=>if Mj d then .ok d else .no
abbrev FJ:=Str->SD->Res D
def vA:FJ:=λa _=>if a.length<=sizeLine then .ok (.str a)else .no
def vB(x:Str)(r:FJ):FJ:=λa b=>if(a++x).length<=sizeLine then r (a++x) b else .no
def rZ(g:D->Option Str)(c:FE)(r:FJ):FJ:=λa b=>(c b).bind λd=>match g d with
 |some z=>if z.length<=sizeLine/\(a++z).length<=sizeLine then r (a++z) b else .no
 |none=>.no
def EA:D->Option Str
 |.str x=>! reprText x
 |_=>8
def QJ(X:Cx)(E:XK)(d:List Expr)(f:FJ):4:=∀(Y:Yb)(s:Shared)(Z:St)(H:Hp)(a:Str)(Q:VK),Inv X Y Z H s->tD X.K E (f a) Z H Q->
 Joins (model X.prog X.w) X.A X.xe (evalEach d X.env) a (λb c=>b.length<=sizeLine/\EP X Y Z Q (.str b c.toks) {c with toks:=c.toks+1}) s
section
variable         {k}
def cu:QJ X E [] vA:=λY s Z H a Q I b=>by
 let(B F c,r,n):=b;unfold vA at n
 split at n
 .rename_i h;exact(h,.str a,H,I.tok _,(_,9),n _ F H (.refl r.ext.fh)<|jt.mpr 9)
 .exact n.elim
def cq(b:QJ X E c r):QJ X E (.Constant (.str x) k q::c) (vB x r):=λY s Z H d Q I e=>by
 let(B F f,g,n):=e;unfold vB at n
 split at n
 .rename_i h;calc jS (Di Y s Z H (λy a=>y=.str x/\a=H) I (9,9)) λu i=>j8 λy a=>xm λj l m o=>?_;subst m o;let(p,rfl):=l;exact(x,p,9,h,b Y i Z a _ Q j<|ji B F f (g,n))
 .exact n.elim
def cZ(p:QE X E e t)(i:QJ X E v r):QJ X E (.FormattedValue e 114 8 G::v) (rZ EA t r):=λY s Z H a Q I w=>by
 let(B F g,j,n):=w;refine wpAny_FormattedValue_repr<|jS (p Y s Z H (λy c=>∃z:Str,y=.str z/\(reprText z).length<=sizeLine/\(a++reprText z).length<=sizeLine/\tD X.K E (r<|a++reprText z) Z c Q) I<|ji B F g (j,(Res.need_bind n).mono (λd b y x c f A=>?_) λ_ _ q=>q)) λu J(y,c,l,C,z,f,m,o,q)=>?_
 .cases d with
  |str z=>
   let b:(if(reprText z).length<=sizeLine/\(a++reprText z).length<=sizeLine then r (a++reprText z) g else .no).need (yW X.K F H Q) (XW X.K E F H):=b
   split at b
   .rename_i h;exact(z,jt.mp A,h.1,h.2,B,x,g,j.step f,b.mono (λd q=>q.ext f) λ_ _ q=>q.ext f)
   .calc b.elim
  |_=>exact b.elim
 .subst f;let(L,rfl):=C;exact wpAny_pyReprObj_str (wpAny_formatField_str (_,_,9,o,i Y _ Z c _ Q (l.tok _) q) (_,_,9,o,i Y _ Z c _ Q ((l.tok _).tok _) q) m) m
def cC  (h:QJ X E (a::b::c) f):QE X E (.JoinedStr (a::b::c) d) (f Str.empty):=λY s Z H Q I q=>wpAny_JoinedStr<|h Y s Z H Str.empty Q I q
end
end L2.DL
namespace L2
open PySem
def JS  (a:h.kind=.function:=by rfl)(b:h.isCoroutine=7:=by rfl)(c:h.isGenerator=7:=by rfl)(d:N.Nodup:=by decide+kernel)(e:N.take P.length=P:=by rfl)
 (f:∀x∈P,h.names.lookup x=!.local\/h.names.lookup x=!.cell:=by decide+kernel)(g:∀y∈h.names,y.2 ≠ .free:=by decide+kernel):FnScope N P h:=(a,b,c,d,e,f,g)
def xH   (i:5)(a:X.N.Nodup)(b:X.N[i]?=!x:=by rfl)(c:zr X.env.scope x:=by trivial)(d:X.fn x=6\/X.env.scope.names.lookup x=!.local:=by trivial):PG X (.Name x e) (V7 i):=Qh a b c d
section
variable {p:Ye->Prop}
def tP(h:∀a,p [a]):∀b:Ye,b.length=1->p b:=λb e=>by
 let(a,rfl):=List.length_eq_one_iff.mp e;exact h a
def nL(h:∀a b,p [a,b]):∀c:Ye,c.length=2->p c:=λc e=>by
 cases c with
 |nil=>simp_all
 |cons a c=>exact tP (p:=λc=>p<|a::c) (λb=>h a b) c<|UL e
def tO(h:∀a b c,p [a,b,c]):∀d:Ye,d.length=03->p d:=λd e=>by
 cases d with
 |nil=>simp_all
 |cons a d=>exact nL (p:=λd=>p<|a::d) (λb c=>h a b c) d<|UL e
def nK(h:∀a b c d,p [a,b,c,d]):∀f:Ye,f.length=04->p f:=λf e=>by
 cases f with
 |nil=>simp_all
 |cons a f=>exact tO (p:=λf=>p<|a::f) () f<|UL e
def aH(h:∀a b c d e,p [a,b,c,d,e]):∀f:Ye,f.length=05->p f:=λf e=>by
 cases f with
 |nil=>simp_all
 |cons a f=>exact nK (p:=λf=>p<|a::f) () f<|UL e
end
def a9   (y:c.StaysIn s.heap)(B:s.heap.FunFrames c l)(C:s.heap.TracedAtW c e m F R)
 (h:∀d T,c.get? T=8->(∀b,b≠T->d.get? b=s.heap.get? b)->(∃o p,s.heap.get? T=!o/\o.data=.fields p)->c.StaysIn d->d.FunFrames c l->(∃r,d.TracedAtW c e m F r)->Q Yq {s with heap:=d}):wpAny M A (setFlight (.ref e) f) Q E s:=by
 let(G,p,T,H,I,u,J,v,w,t,x,i,g,L):=C;let N:=(Jo.mp L).1;let j:∀b,b≠T->(s.heap.update T<|Obj.mapFields (·.setIfInBounds 03<|f.elim Value.none λa=>rawInt a)).get? b=s.heap.get? b:=λb n=>Heap.get?_update_other _ _ n.symm;let O:∀b o,s.heap.get? b=!o->(∀P,o.data ≠ .fields P)->b≠T:=λb o q n z=>by
  subst z;rw[i]at q;cases q;exact n _ g
 unfold setFlight;calc Za<|wpAny_field u v w ?_;rw[Zd ()];refine wpAny_setField i g N<|h _ T t j (H,I,i,g) (λb o q=>(j b λz=>by rw[z,t]at q;cases q).trans<|y b o q) (B.of_keeps λb o q n=>(o,(j b<|O b o q n).trans q,9))<|wS (f.elim Value.none λa=>rawInt a) G p T _ _ ((j e x.symm).trans u,J,v,w,t,x,Heap.get?_update_self _ i<|Obj.isFreed_of_fields<|Obj.data_mapFields g _,Obj.data_mapFields g _,?_)
 simp_all
def ai    (h:A.frames=! f::d)(i:f.frame=!L)(p:a.StaysIn s.heap)(j:a.get? e=8)(r:s.heap.FunFrames a (f::d))(l:s.heap.TracedAtW a e m B C)
 (t:∀g,Heap.FlyingW a d e m B g->s.heap.UpToSlots g->Q Yq {s with heap:=g}):wpAny M A (leaving f<|.ref e) Q E s:=by
 by_cases c:C=rawInt L
 .subst c;exact Za<|wpAny_noteFrame_againW i l<|wpAny_setFlight_noneW p r l λg F G H I=>t g (F,j,G.2.2,H) λb o q n=>(o.slots,I b o q n)
 .let(oe,vs,T,oT,ts,J,(N,O),u,P,g5,g6,v,w,x):=l;subst N;let R:=(Jo.mp x).1;let y:∀b,b≠T->(s.heap.update T<|Obj.mapFields (·.setIfInBounds 03 Value.none)).get? b=s.heap.get? b:=λb n=>Heap.get?_update_other _ _ n.symm;let S:∀b o,s.heap.get? b=!o->(∀U,o.data ≠ .fields U)->b≠T:=by grind
  unfold leaving noteFrame;simp only[i];calc Za<|Za<|wpAny_field J u P<|Za<|wpAny_field v w x ?_;rw[Ze λz=>c<|Yp.mp z];exact Za<|wpAny_setField v w R<|wpAny_newEntryW h (r.of_keeps ()) i () (λb o q=>(y b λz=>()).trans<|p b o q) j u () O λg=>xm λX Y Z x4=>t g (X,j,Y.2.2,Z) λb o q n=>x4 b o ((y b<|S b o q n).trans q) n
structure FlyAny(l:List Env)(h₀:Heap)(H:Hp)(x C:Addr)(B h:Heap):4 where
 st:B.StaysIn h
 no:B.get? x=8
 fr:h.FunFrames B l
 tr:∃t fl,h.TracedAtW B x (.ref C) (.ref t) fl
 trk:∀b o,h.get? b=!o->H b≠8\/(∃u,h₀.get? b=!u)/\b∉frs l->B.get? b=!o
structure ThrownA(X:Cx)(E:XK):4 where
 on:∀(Y:Yb)(Z:St)(H:Hp)(s:Shared)(x C:Addr)(B:Heap)(d:Option Addr),Inv X Y Z H s->FlyAny X.stack X.s₀.heap H x C B s.heap->DT s.heap x d->E (.ref C) d H->X.xe (.ref x) s
def aw  {K:W.Frag}            :ThrownA (qp (xR P w) P w K y l N n i f F A a s H E) E:=by
 calc⟨λY Z G o x C B d I g p q=>?_⟩;let(t m,r):=g.tr;calc Zc (AF (ai (Q:=λ_ v=>∃h,Heap.FlyingW B a x (.ref C) (.ref t) h/\o.heap.UpToSlots h/\v={o with heap:=h}) I.ok.frames 9 g.st g.no g.fr r λh c j=>(h,c,j,9))<|LY (E:=λ_ _=>True) I.ok.frames g.fr 9 p) ?_ λ_ _ z=>z.1;rintro _ _ ⟨⟨h,c,j,rfl⟩,dt'⟩;exact E4 I (λb u e=>(u,e)) c j g.trk dt' q
theorem Ml{h a B c:Heap}(d:∀b,B.get? b=8->c.get? b=8):∀{l:List Env},(∀b∈frs l,a.get? b=h.get? b)->h.FunFrames B l->a.FunFrames c l
 |[],_,_=>trivial
 |env::rest,k,(f,(L,o,e,g3,g4,g5),r)=>by
  let g:L∈frs (env::rest):=by
   unfold frs;rw[UN,e];exact Zqs
  refine(f,(L,o,e,d L g3,(k L g).trans g4,g5),Ml d (λb i=>k b ?_) r)
  simp_all[frs]
def av         (J:X.stack=X.env::X.outer)(hfr:X.env.frame=!X.env.locals)(hex:X.ex=[])(T:ThrownA X E)(at_:Xs X C s H ex):Thrown (JM X p N cl C s H ex) E:=by
 let(L Z0,I0,f0,hC):=at_;calc⟨λY Z H' s' h₀ x D B d I h0 fl dt hE=>?_⟩;let((t,fly),trk):=fl;let fly':Heap.FlyingW B (X.env::X.outer) x (.ref D) (.ref t) s'.heap:=by rw[<-J];exact fly
 let note:noteFrame (.ref x) (compEnvC p cl C X.env)=noteFrame (.ref x) X.env:=9;show YE X (noteFrame (.ref x)<|compEnvC p cl C X.env) (λ_ s''=>ZZ X C (.ref x) s'') (ZZ X C) s';rw[note];calc TY (I0.ok.frames.trans<|by rw[J]) hfr fly' dt λh1 held up1 dt1=>?_;let(-m,hm,_):=id I.loc;let hm1:h1.Ns C m:=up1.ns hm;calc(m,hm1,λr f cenv _=>?_);let(!hc1,hc2,hc3,hc4):=held;let(oC es ep,hoC,hdC,_):=id hm1;let nC:∀b o ws,h1.get? b=!o->o.data=.fields ws->b≠C:=by grind
 let i:∀b o,s.heap.get? b=!o->b≠C:=λb o q=>Zi<|Zg (Zk q) hC;let frC:∀b∈frs X.stack,b≠C:=λb a=>by
  let(_,M,j,_):=I.ok.funs.mem a;exact i b M j
 let(g,hB'):∃g,W.hideAll B [C]=g:=(_,9);let inB:∀b o,g.get? b=!o->B.get? b=!o:=λb o q=>by rw[<-hB']at q;exact W.of_hideAll _ q
 let toB:∀b o,B.get? b=!o->b≠C->g.get? b=!o:=λb o q n=>by rw[<-hB'];exact W.hideAll_get _ q<|by simpa using n
 let O:∀b,B.get? b=8->g.get? b=8:=λb q=>by
  cases z:g.get? b with
  |none=>rfl
  |some o=>rw[inB b o z]at q;cases q
 let nBC:∀b o,g.get? b=!o->b≠C:=λb o q z=>by
  let P:g.get? C=8:=by rw[<-hB'];exact W.hideAll_none [C] ()
  rw[z,P]at q;cases q
 let st2:g.StaysIn r:=λb o q=>(f.2 b<|nBC b o q).trans<|hc1 b o<|inB b o q;let fr2:r.FunFrames g X.stack:=Ml O (λb a=>f.2 b<|frC b a) (by rw[J];calc hc3);let(oe,vs,T0,oT,ts,g1,g2,g3,g4,g5,g6,g7,g8,g9):=hc4;let tr2:r.TracedAtW g x (.ref D) (.ref t) (rawInt X.env.locals):=j0 oe vs T0 oT ts ((f.2 x<|nC _ _ _ g1 g3).trans g1,g2,g3,g4,O T0 g5,g6,(f.2 T0<|nC _ _ _ g7 g8).trans g7,g8,g9);unfold PySem.passOn;calc Za<|wpAny_field (s:={s' with heap:=r}) ((f.2 x<|nC _ _ _ g1 g3).trans g1) g3 g4 ?_;rw[Ze ()];let dt2:DT r x d:=by
  let(oe vs T oT ts,a1,a2,a3,a4,a5,a6,a7,a8):=dt1;exact j0 oe vs T oT ts ((f.2 x<|nC _ _ _ a1 a3).trans a1,a2,a3,a4,a5,(f.2 T<|nC _ _ _ a6 a7).trans a6,a7,a8)
 calc Za<|Zc (AF (a9 (s:={s' with heap:=r}) (Q:=λ_ s2=>∃w T',g.get? T'=8/\(∀b,b≠T'->w.get? b=r.get? b)/\(∃o vs,r.get? T'=!o/\o.data=.fields vs)/\g.StaysIn w/\w.FunFrames g X.stack/\(∃R,w.TracedAtW g x (.ref D) (.ref t) R)/\s2={s' with heap:=w}) st2 fr2 tr2 λw T' t1 t2 t3 A S U=>jI w T' (t1,t2,t3,A,S,U,9))<|E2 (E:=λ_ _=>True) (s:={s' with heap:=r}) dt2) ?_ λ_ _ z=>z.1;rintro _ _ ⟨⟨w,T',t1,t2,t3,A,S,U,rfl⟩,dt3⟩;calc wpAny_throw ?_;let K1:∀b o,B.get? b=!o->b≠C->w.get? b=!o:=λb o q n=>A b o<|toB b o q n;let nex:∀b u,X.s₀.heap.get? b=!u->b∉ex:=λb u q a=>by
  rcases(f0 b a).2.2.2.1 with z|z
  .rw[hex]at z;cases z
  .exact Zn (Zk q)<|Nat.not_lt.mpr z
 let G:∀b o,s.heap.get? b=!o->b∈frs X.stack->b∉ex->∃sl,w.get? b=!{o with slots:=sl}:=λb o q a l=>by
  let(_,M,j,hd):=I.ok.funs.mem a;let j:s.heap.get? b=!M:=j;rw[q]at j;obtain rfl:=Zqi j;let(sl,e1):=I.base.slot b o q (I.ok.frf b a) a l;let(sl',e2):=up1 b _ e1 hd;let e3:r.get? b=!{o with slots:=sl'}:=(f.2 b<|frC b a).trans e2;calc(sl',(t2 b λz=>?_).trans e3);let(oz,wz,P,z2):=t3;rw[<-z]at P;let P:r.get? b=!oz:=P;rw[e3]at P;cases P;exact hd _ z2
 refine T.on L Z0 H' _ x D g d (I0.call' (s':={s' with heap:=w}) (ch:=ex) I.os (λb o e n a l=>?_,λb o e n a l=>G b o e a l,λb o e n l=>I.base.free b o e n l,λb o e l=>?_,I.base.tups,I.base.frzs,I.base.tbls) (λb u e=>?_) I.bare λb a=>((f0 b a).2.2.2.1,(f0 b a).2.1,(f0 b a).2.2.2.2.1,(f0 b a).2.2.2.2.2)) (A,O x hc2,S,?_,λb o e c=>?_) dt3 hE
 .exact K1 b o (trk b o (I.base.keep b o e n a l)<|.inr (h0 b o e l,a))<|i b o e
 .by_cases a:b∈frs X.stack
  .let(sl,q):=G b o e a l;exact(_,q)
  .let(M,e'):=I.base.there b o e l;exact(M,K1 b M (trk b M e'<|.inr (h0 b o e l,a))<|i b o e)
 .refine(I.hok b u e).stay (λc v hc q=>K1 c v (trk c v q<|.inl ?_) ?_) (λ_ q=>q) λ_ _ q=>q
  .rcases hc with z|z
   .rw[z,e];simp
   .rw[z];simp
  .intro z;let fC:H' C=8:=I.free;rcases hc with y|y
   .rw[<-y,z,fC]at e;exact J7 e
   .rw[z,fC]at y;exact J7 y
 .let(R,q):=U;exact jI t R q
 .let key:∃F,B.get? b=!F/\b≠C:=by
   rcases c with c|⟨⟨u,hu⟩,a⟩
   .cases q:H' b with
    |none=>calc Zn q c
    |some u=>
     let(F,h2'):=(I.hok b u q).has;exact(F,trk b F h2'<|.inl c,λz=>by rw[z]at q;rw[show H' C=8 from I.free]at q;calc J7 q)
   .let(o1,e1):=I0.base.there b u hu (by rw[hex];simp);let(F,e2):=I.base.there b o1 e1 (nex b u hu);exact(F,trk b F e2<|.inr (h0 b o1 e1<|nex b u hu,a),i b o1 e1)
  let(F,k1,k2):=key;let:=K1 b F k1 k2;let e:=e;rw[e]at this;cases this;exact toB b o k1 k2
end L2
namespace L2.DL
def cV        (N)(cap)(j:X.calm=6)(d:Kg a X.env N X.N cap=6)(l:QI X E i b m)
 (n:∀e C s H c,QG (JM X a N e C s H c) i t)(o:∀e C s H c,Xs X C s H c->QE (JM X a N e C s H c) E g f)(p:∀x,foldedSetIterable b X.env x=pure x:=by intro _;rfl):
 QN X E (.ListComp g [(i,b,[],0)] a q) (Qf cap m t f):=PE.weak (GI N cap j d l n o p) λ_ _ _ h=>HV h
abbrev HP:=List<|Addr×D
noncomputable def jc:HP->Addr->YD
 |[],_=>8
 |p::r,a=>if a=p.1 then !p.2 else jc r a
noncomputable def Q6:HP->Addr->D->HP
 |[],_,_=>[]
 |p::r,a,d=>if a=p.1 then%[p.1|d]::r else p::Q6 r a d
def Wz:HP->Addr->HP
 |[],_=>[]
 |p::r,a=>if a=p.1 then Wz r a else p::Wz r a
def Cq(a):jc [] a=8:=rfl
theorem JR(p)(r:HP)(a):jc (p::r) a=if a=p.1 then !p.2 else jc r a:=rfl
theorem AK:∀{c:HP}{a:Addr}{d:D}b,jc c a≠8->jc (Q6 c a d) b=if b=a then !d else jc c b
 |[],a,d,b,h=>Zn 9 h
 |p::r,a,d,b,h=>by
  unfold Q6;by_cases z:a=p.1
  .simp_all[JR]
  .rw[Ze z,JR,JR];rw[JR,Ze z]at h;rw[AK b h]
   grind
theorem AL:∀{c:HP}{a:Addr}(b:Addr),jc (Wz c a) b=if b=a then 8 else jc c b
 |[],a,b=>by
  split<;>rfl
 |p::r,a,b=>by
  unfold Wz;by_cases z:a=p.1
  .rw[Zd z,AL b,JR]
   simp_all
  .rw[Ze z,JR,JR,AL b]
   grind
structure RT(K:W.Frag)(B B':Bs)(F H:Hp)(sd:SD)(hp:HP)(Z:St):4 where
 rs:RS K B' F H sd Z
 f0:B'.F0=B.F0
 pa:B'.pa=B.pa
 out:∀a,jc hp a=8->B'.H0 a=B.H0 a
 obj:∀a d,jc hp a=!d->B.F0 a=8/\B.H0 a=8/\yR K F B'.H0 a d
section
variable {K:W.Frag}  {F F' H H':Hp}  {hp:HP}
def RT.sub(t:RT K B c F H f hp Z):jk B.H0 c.H0:=λa o e=>by
 cases q:jc hp a with
 |none=>rwa[t.out a q]
 |some d=>rw[(t.obj a d q).2.1]at e;exact J7 e
def RT.ext0(t:RT K B c F H l hp Z) (e:Ext c.F0 c.H0 f i):Ext B.F0 B.H0 f i:=
 (by rw[<-t.f0];calc e.ff,e.fh,t.sub.trans e.hh,λa n j=>e.new a (by rwa[t.f0]) λz=>j<|Qa t.sub z)
def RT.go(t:RT K B e F H i hp Z)(s:jk F F')(r:RS K e F' H' c Z'):RT K B e F' H' c hp Z':=
 (r,t.f0,t.pa,t.out,λa d h=>let(f,h2,h3):=t.obj a d h;(f,h2,h3.ext s λ_ q=>q))
def RT.free(t:RT K B e F H f hp Z)(h:jc hp a=!d):F a=8:=have(i,j,c):=t.obj a d h;have(o,l):=c.has;t.rs.ext.new a (by rwa[t.f0]) ()
def RT.lies(t:RT K B c F H e hp Z)(h:jc hp a=!d):yR K F H a d:=(t.obj a d h).2.2.ext (.refl _) λo q=>t.rs.ext.hh _ _ q
def RT.no_own(t:RT K B c F H e hp Z)(h:jc hp a=!d) (f:c.H0 l=8):l≠a:=λz=>by
 have(o,i):=(t.obj a d h).2.2.has
 simp_all
theorem RT.start(r:RS K B F H c Z):RT K B B F H c [] Z:=(r,9,9,λ_ _=>9,λa d h=>by cases h)
def RT.ret  (t:RT K B c F H s hp Z)(h:BL K m B Q d):BL K m c Q d:=by
 let p:yW K B.F0 B.H0 Q d->yW K c.F0 c.H0 Q d:=λh v f j e i=>h v f j (t.ext0 e) i;let q:yG K B.F0 B.H0 Q d->yG K c.F0 c.H0 Q d:=λh l f j e n r o=>h l f j (t.ext0 e) (Qa t.sub n) r o;cases m with
 |none=>
  let h:n9 K B.F0 B.H0 Q d:=h;show n9 K c.F0 c.H0 Q d
  grind[n9]
 |some b=>
  cases b with
  |true=>calc q h
  |false=>exact p h
def RT.xw   (t:RT K B f F H n hp Z)(h:XW K E B.F0 B.H0 c fs):XW K E f.F0 f.H0 c fs:=λi a j l e q=>h i a j l (t.ext0 e) q
def RT.chg(t:RT K B f F H s hp Z)  (j:jc hp a=!d)(h:yR K F (jD H a o) a v):RT K B (f.F0,jD f.H0 a o,f.pa) F (jD H a o) s (Q6 hp a v) Z:=by
 let x:=t.free j;have(E,G,Y):=t.obj a d j;let n:jc hp a≠8:=by simp_all
 refine(((t.rs.ext.ff,Bv o t.rs.ext.fh x,λb u e=>?_,λb I J=>?_),t.rs.len,t.rs.val,λ{i p e}q=>?_,t.rs.apart),t.f0,t.pa,λb c=>?_,λb e c=>?_)
 .let e:jD f.H0 a o b=!u:=e;by_cases z:b=a
  .simp_all[JL]
  .rw[JI z]at e ⊢;exact t.rs.ext.hh _ _ e
 .by_cases z:b=a
  .rwa[z]
  .exact t.rs.ext.new b I λy=>J<|by show jD f.H0 a o b=8;rwa[JI z]
 .let(-l,L,r,O,Q,R):=t.rs.own q;let ne:=t.no_own j r;exact(l,L,(JI ne).trans r,O,Q.ext (.refl _)<|λu S=>by rwa[JI ne],λz=>(R z).mono λu S=>by rwa[JI ne])
 .rw[AK b n]at c;by_cases z:b=a
  .simp_all
  .rw[Ze z]at c;show jD f.H0 a o b=B.H0 b;rw[JI z];exact t.out b c
 .rw[AK b n]at c;by_cases z:b=a
  .rw[Zd z]at c;obtain rfl:=Zqi c;subst z;exact(E,G,h.ext (.refl _) λu q=>by simp_all[JL])
  .rw[Ze z]at c;have(T,U,X):=t.obj b e c;exact(T,U,X.ext (.refl _) λu q=>by show jD f.H0 a o b=!u;rwa[JI z])
def xc(F b:Hp)(hp:HP):Hp:=λa=>match jc hp a with
 |some _=>b a
 |none=>F a
theorem RT.frz(t:RT K B f F H J hp Z):∃s,jk F s/\RS K B s H J Z/\∀a d,jc hp a=!d->jh K s d (.ref a):=by
 let y:∀b d,jc hp b=!d->xc F f.H0 hp b=f.H0 b:=λb d e=>by unfold xc;rw[e]
 let n:∀b,jc hp b=8->xc F f.H0 hp b=F b:=λb e=>by unfold xc;rw[e]
 let j:jk F (xc F f.H0 hp):=λb u e=>by
  cases q:jc hp b with
  |none=>rw[n b q];calc e
  |some d=>rw[t.free q]at e;exact J7 e
 refine(xc F f.H0 hp,j,((?_,λb u e=>?_,t.sub.trans t.rs.ext.hh,λb L r=>?_),t.rs.len,λq=>let(v,r,h2):=t.rs.val q;(v,r,jh.same j _ _ h2),λ{i p e}q=>?_,t.rs.apart),λb e x=>?_)
 .rw[<-t.f0];exact t.rs.ext.ff.trans j
 .cases q:jc hp b with
  |none=>rw[n b q]at e;calc t.rs.ext.fh _ _ e
  |some d=>rw[y b d q]at e;exact t.rs.ext.hh _ _ e
 .cases q:jc hp b with
  |none=>rw[n b q];calc t.rs.ext.new b (by rw[t.f0];calc L)<|by rw[t.out b q];calc r
  |some d=>exact Zn (t.obj b d q).2.1 r
 .let(-l,O,E,Q,R,S):=t.rs.own q;let T:jc hp l=8:=by
   cases z:jc hp l with
   |none=>rfl
   |some U=>exact Zn 9<|t.no_own z E
  exact(l,O,Qa t.sub E,by rw[n l T];calc Q,R.ext j λ_ q=>q,λz=>by rw[<-t.pa];calc S z)
 .let(!X,Y,G):=t.obj b e x;let(o,I):=G.has;calc jh.same (λc u q=>?_) _ _<|G.frz I<|t.free x;by_cases z:c=b
  .subst z;rw[JL]at q;rw[y c e x,I];exact q
  .rw[JI z]at q;exact j _ _ q
end
mutual
def der (g:HP):D->D
 | .adr a=>match jc g a with
  |some d=>d
  |none=>.adr a
 | .lst e=>.lst (zi g e)
 | .non=>.non
 | .bl b=>.bl b
 | .int i=>.int i
 | .str x=>.str x
 | .ty n=>.ty n
 | .scr h=>.scr h
 | .tup e=>.tup e
 | .dct f e=>.dct f e
 | .ins c fs e=>.ins c fs e
 | .exc c=>.exc c
 | .exr c n=>.exr c n
 | .ucl c=>.ucl c
 | .dcf f e=>.dcf f e
 | .pin a d=>.pin a d
def zi (a:HP):YC->YC
 | []=>[]
 |d::b=>der a d::zi a b
end
theorem pR(b)(a):der b (.adr a)=match jc b a with
 |some d=>d
 |none=>.adr a:=by rw[der]
def nv(a)(b):der a (.lst b)=.lst (zi a b):=by rw[der]
def lC(a):zi a []=[]:=by rw[zi]
def eQ(a)(d)(b):zi a (d::b)=der a d::zi a b:=by rw[zi]
section
variable {K:W.Frag}{B:Bs}{F H:Hp}{sd:SD}{hp:HP}{Z: St}
mutual
theorem jh.der (f:∀a d,jc hp a=some d->jh K F d (.ref a)):∀(d:D) (v:V),jh K F d v->jh K F (der hp d) v
 | .adr a,v,h=>by
  obtain rfl:=j5.mp h
  grind[pR]
 | .lst i,v,h=>by
  obtain⟨a,e,j,l,n⟩:=jl.mp h;exact jl.mpr ⟨a,e,j,l,je.der f i e n⟩
 | .non,v,h=>by rwa [L2.DL.der]
 | .bl b,v,h=>by rwa [L2.DL.der]
 | .int b,v,h=>by rwa [L2.DL.der]
 | .str b,v,h=>by rwa [L2.DL.der]
 | .ty b,v,h=>by rwa [L2.DL.der]
 | .scr b,v,h=>by rwa [L2.DL.der]
 | .tup b,v,h=>by rwa [L2.DL.der]
 | .dct b c,v,h=>by rwa [L2.DL.der]
 | .ins b c d,v,h=>by rwa [L2.DL.der]
 | .exc b,v,h=>by rwa [L2.DL.der]
 | .exr b c,v,h=>by rwa [L2.DL.der]
 | .ucl b,v,h=>by rwa [L2.DL.der]
 | .dcf b c,v,h=>by rwa [L2.DL.der]
 | .pin b c,v,h=>by rwa [L2.DL.der]
theorem je.der (f:∀a d,jc hp a=some d->jh K F d (.ref a)):∀c e,je K F c e->je K F (zi hp c) e
 | [],e,h=>by rwa [lC]
 |d::c,e,h=>have ⟨x,r,i,j,l⟩:=jo.mp h;jo.mpr ⟨x,r,i,jh.der f d x j,je.der f c r l⟩
end
def derI(hp:HP):Yh->SD->SD
 |[],sd=>sd
 |i::is,sd=>derI hp is (match sd[i]? with
  |some (~~~d)=>sd.set i (~~~der hp d)
  |_=>sd)
def AM{α:Type}{l:List α} {a:α}(h:l[i]?=!a):l.set i a=l:=by
 apply List.ext_getElem?;intro j;by_cases z:i=j
 .subst z;rw[UO (Jd.mp h).1,h]
 .rw[Zx z]
def RS.reval  (r:RS K B F H sd Z)(c:sd[i]?=!~~~d)(h:∀v,jh K F d v->jh K F e v):RS K B F H (sd.set i<|~~~e) Z:=by
 have(v,f,j):=r.val c;let:=r.setVal (i:=i)<|h v j
 rwa[AM f]at this
theorem RS.derI(e:∀a d,jc hp a=!d->jh K F d (.ref a)):∀c{sd:SD},RS K B F H sd Z->RS K B F H (derI hp c sd) Z
 |[],sd,r=>r
 |i::c,sd,r=>by
  unfold L2.DL.derI
  split
  .rename_i d h;exact RS.derI e c<|r.reval h λv q=>jh.der e d v q
  .exact RS.derI e c r
end
inductive Out2 where
 |next(sd:SD)(hp:HP)|ret(d:D)|brk(sd:SD)(hp:HP)|cont(sd:SD)(hp:HP)
def vU(K:W.Frag)(m:Option Bool)(B:Bs)(F:Hp)(T:Ends):Out2->4
 |.next c e=>∀Z f a b,jk F a->RT K B f a b c e Z->T.nx Z b
 |.brk c e=>∀Z f a b,jk F a->RT K B f a b c e Z->T.bk Z b
 |.cont c e=>∀Z f a b,jk F a->RT K B f a b c e Z->T.ct Z b
 |.ret d=>BL K m B T.rt d
abbrev xr:=SD->HP->Res Out2
def ur(K:W.Frag)(E:XK)(m:Option Bool)(g:xr):TS:=λT Z H=>∃B c F a b,RT K B c F H a b Z/\(g a b).need (vU K m B F T) (XW K E B.F0 B.H0)
abbrev vc(X:Cx)(E:XK)(m:Option Bool)(st:Stmt)(g:xr):4:=PS X st<|ur X.K E m g
abbrev zF(X:Cx)(E:XK)(m:Option Bool)(st:List Stmt)(g:xr):4:=xh X st<|ur X.K E m g
def mq(b:HP):Out->Out2
 |.next a=>.next a b
 |.ret d=>.ret d
 |.brk a=>.brk a b
 |.cont a=>.cont a b
section
variable {K:W.Frag}
def vU.mono (h:vU K m B F T o)(e:jk F n):vU K m B n T o:=by
 cases o with
 |next j l=>calc λZ c f i s r=>h Z c f i (e.trans s) r
 |brk j l=>calc λZ c f i s r=>h Z c f i (e.trans s) r
 |cont j l=>calc λZ c f i s r=>h Z c f i (e.trans s) r
 |ret d=>exact h
def RT.lift(t:RT K B j F H n l Z) (h:vU K m B F T (mq l o)):zN K m j F T o:=by
 cases o with
 |next c=>calc λe f i s r=>h e j f i s<|t.go s r
 |brk c=>calc λe f i s r=>h e j f i s<|t.go s r
 |cont c=>calc λe f i s r=>h e j f i s<|t.go s r
 |ret d=>exact t.ret h
end
section
variable {X:Cx}{E:XK}  {st:Stmt}  {g:FS}{g1 g2:xr}
def zu(g:FS):xr:=λa b=>(g a).bind λo=>.ok<|mq b o
def V2(h:QS X E m st g):vc X E m st (zu g):=PS.weak h λT Z H=>qV λB a F b d=>jF λt n=>ji a F b (t.rs,(Res.need_bind n).mono (λo c=>t.lift c) λ_ _ q=>t.xw q)
def Mm:xr:=λa b=>.ok<|.next a b
def K8(g1 g2:xr):xr:=λsd hp=>(g1 sd hp).bind λo=>match o with
 |.next a b=>g2 a b
 |o=>.ok o
def cG:zF X E m [] Mm:=xh.weak ZQ λT Z H=>qV λB a F b c=>jF λt n=>n Z a F H (.refl _) t
def EB(h:vc X E m st g1):zF X E m [st] g1:=Bm h
def WG(f:vc X E m st g1)(h:zF X E m e g2):zF X E m (st::e) (K8 g1 g2):=xh.weak (XO f h) λT Z H i=>by
 let(B j F l p,t,n):=i;calc j0 B j F l p (t,(Res.need_bind n).mono (λo c=>?_) λ_ _ q=>q);cases o with
 |next a b=>calc λw r u x s v=>j0 B r u a b (v,c.mono (λo q=>q.mono s) λ_ _ q=>q)
 |ret d=>calc c
 |brk a b=>calc c
 |cont a b=>exact c
abbrev bW:=SD->HP->Res Bool
def rb(K:W.Frag)(E:XK)(f:bW):TT:=λZ H Q=>∃B c F a b,RT K B c F H a b Z/\(f a b).need (uB F H Q) (XW K E F H)
abbrev dJ(X:Cx)(E:XK)(e:Expr)(f:bW):4:=PT X e<|rb X.K E f
def rh(f:FT):bW:=λa _=>f a
def pZ (h:QT X E e f):dJ X E e (rh f):=PT.weak h λZ H Q=>qV λB a F b c=>jF λt n=>ji a F b (t.rs,n)
def wO(c:bW)(g1 g2:xr):xr:=λa d=>(c a d).bind λb=>if b then g1 a d else g2 a d
def kY   (l:dJ X E c o)(p:zF X E m a g1)(r:zF X E m b g2):vc X E m (.If c a b s) (wO o g1 g2):=PS.weak (Bn l p r) λT Z H u=>by
 let(B e F f h,t,n):=u;calc j0 B e F f h (t,(Res.need_bind n).mono (λb i j v d=>?_) λ_ _ q=>q.ext<|t.ext0 t.rs.ext);cases b with
 |true=>calc j0 B e j f h (t.go d.ff<|t.rs.step d,i.mono (λ_ q=>q.mono d.ff) λ_ _ q=>q)
 |false=>exact j0 B e j f h (t.go d.ff<|t.rs.step d,i.mono (λ_ q=>q.mono d.ff) λ_ _ q=>q)
def xJ(b:D->xr):YC->xr
 |[],e,f=>.ok (.next e f)
 |x::h,e,f=>(b x e f).bind λo=>match o with
  |.next a c=>xJ b h a c
  |.cont a c=>xJ b h a c
  |.brk a c=>.ok (.next a c)
  |.ret d=>.ok (.ret d)
def Wh(a:Tg)(b:xr)(x:D):xr:=λsd hp=>(JW a x sd).bind λs=>b s hp
def EC(c:FA)(d:Tg)(b:xr):xr:=λa e=>(c a).bind λf=>xJ (Wh d b) f a e
def Mn         (wk:vH X.K v J a)(r:RT X.K B B1 v H1 w z Z)(n1:(xJ (Wh t g1) a w z).need (vU X.K m B v T) (XW X.K E B.F0 B.H0)):
 ∃W:5->5->St->Hp->4,(∃m,W 0 m Z H1)/\∀i m' Z H,W i m' Z H->J.stop i H/\T.nx Z H\/J.go i H/\∃N:St->Hp->4,(∀s h,N s h->∃m2,m2<m'/\W (i+1) m2 s h)/\∀x h,J.yld i H x h->gT t X.K x Z h λP I=>ur X.K E m g1 {T with nx:=N,ct:=N,bk:=T.nx} P I:=by
 refine(λi k Z H=>k=a.length-i/\i<=a.length/\∃L u w z,jk v u/\RT X.K B L u H w z Z/\(xJ (Wh t g1) (a.drop i) w z).need (vU X.K m B u T) (XW X.K E B.F0 B.H0),
  (a.length,9,Uc _,B1,v,w,z,.refl _,r,n1),?_)
 rintro i k P I ⟨rfl,hi,L,u,sd2,Q,R,M,A⟩;let(w1,w2):=wk i u I R M.rs.ext.fh;by_cases j:i<a.length
 .have(go,yl):=w1 j;refine .inr (go,λs h=>∃S l b c,jk v l/\RT X.K B S l h b c s/\(xJ (Wh t g1) (a.drop<|i+1) b c).need (vU X.K m B l T) (XW X.K E B.F0 B.H0),
   λs h(S,l,b,c,q1,q2,q3)=>(a.length-(i+1),(),9,j,S,l,b,c,q1,q2,q3),λx H3 y=>?_)
  let(d l,hd,n,i3):=yl x H3 y;rw[Uj j]at A;let U:a[i]=d:=by simp_all
  rw[U]at A;let r3:=M.go n.ff<|M.rs.step n;calc X2 r3.rs i3 (Res.need_bind<|Res.need_bind A) λY s n4 _ r4=>j0 B L l Y Q (r3.go (.refl _) r4,n4.mono (λo O=>?_) λ_ _ q=>q);cases o with
  |next e f=>calc λZ5 C F H5 p G=>(C,F,e,f,(R.trans n.ff).trans p,G,O.mono (λ_ q=>q.mono<|n.ff.trans p) λ_ _ q=>q)
  |cont e f=>calc λZ5 C F H5 p G=>(C,F,e,f,(R.trans n.ff).trans p,G,O.mono (λ_ q=>q.mono<|n.ff.trans p) λ_ _ q=>q)
  |brk e f=>calc λZ5 C F H5 p G=>O Z5 C F H5 (n.ff.trans p) G
  |ret d=>exact O
 .let he:i=a.length:=()
  calc .inl (w2 (),?_);subst he;rw[UT]at A;exact A P L u I (.refl _) M
def dR    (e:PassesOwn (model X.prog X.w) X.A X.env X.xe)(h:X.calm=6)(i:QI X E f a j)(l:QG X f t)(o:zF X E m b g1)
 (c:∀x,foldedSetIterable a X.env x=pure x:=by intro _;rfl):vc X E m (.For f a b [] p) (EC j t g1):=PS.weak (Bp e h i l o c) λT Z H=>qV λB s F u e=>jF λr n=>ji s F u (r.rs,(Res.need_bind n).mono (λw v J y z d wk=>Mn wk (r.go d.ff<|r.rs.step d)<|v.mono (λ_ q=>q.mono d.ff) λ_ _ q=>q) λ_ _ q=>q.ext<|r.ext0 r.rs.ext)
end
end L2.DL
namespace L2
end L2
namespace L2.DL
def RT.walk{K:W.Frag}        (t:RT K B f F H y s Z)(o:jc s a=!d):
 jk F (jD F a u)/\RT K B (f.F0,λb=>if b=a then 8 else f.H0 b,f.pa) (jD F a u) (jD H a u) y (Wz s a) Z:=by
 let E:=t.free o;let(!U,G,X):=t.obj a d o;let n:jk F (jD F a u):=KW E u;refine(n,((t.rs.ext.ff.trans n,λb v e=>?_,λb v e=>?_,λb I j=>?_),t.rs.len,λq=>let(v,j,h2):=t.rs.val q;(v,j,jh.same n _ _ h2),λ{i p e}q=>?_,t.rs.apart),t.f0,t.pa,λb c=>?_,λb e c=>?_)
 .by_cases z:b=a
  .subst z;rw[JL]at e ⊢;exact e
  .rw[JI z]at e ⊢;exact t.rs.ext.fh _ _ e
 .let e:(if b=a then 8 else f.H0 b)=!v:=e
  split at e
  .exact J7 e
  .rename_i z;rw[JI z];exact t.rs.ext.hh _ _ e
 .let j:(if b=a then 8 else f.H0 b)≠8:=j
  split at j
  .exact Zn 9 j
  .rename_i z;rw[JI z];exact t.rs.ext.new b I j
 .let(-l,J,x,L,O,Q):=t.rs.own q;let ne:=t.no_own o x;exact(l,J,by show(if l=a then 8 else f.H0 l)=8;rw[Ze ne];calc x,by rw[JI ne];calc L,O.ext n<|λv r=>by rw[JI ne];calc r,λz=>(Q z).mono λv r=>by rw[JI ne];calc r)
 .rw[AL]at c;show(if b=a then 8 else f.H0 b)=B.H0 b;by_cases z:b=a
  .rw[Zd z,z,G]
  .rw[Ze z]at c ⊢;exact t.out b c
 .rw[AL]at c;by_cases z:b=a
  .rw[Zd z]at c;exact J7 c
  .rw[Ze z]at c;let(!R,S,T):=t.obj b e c;exact(R,S,T.ext n λv q=>by show(if b=a then 8 else f.H0 b)=!v;rw[Ze z];calc q)
@[simp]def ko(a:HP)(b:SD):mq a (.next b)=.next b a:=rfl
@[simp]def sM(g:FS)(a:SD)(b:HP):zu g a b=(g a).bind λo=>.ok<|mq b o:=rfl
def kG(g:xr):Out2->Res Out2
 |.next a b=>g a b
 |o=>.ok o
@[simp]def eZ(g:xr)(a:SD)(b:HP):kG g (.next a b)=g a b:=rfl
@[simp]def bj(a b:xr)(c:SD)(d:HP):K8 a b c d=(a c d).bind (kG b):=by
 rfl
@[simp]def Mo(c:bW)(e f:xr)(a:SD)(d:HP):wO c e f a d=(c a d).bind λb=>if b then e a d else f a d:=rfl
@[simp]def sJ(f:FT)(a:SD)(b:HP):rh f a b=f a:=rfl
@[simp]def bo(c:FA)(d:Tg)(b:xr)(a:SD)(e:HP):EC c d b a e=(c a).bind λf=>xJ (Wh d b) f a e:=rfl
@[simp]def b8(b:HP)(a:SD):derI b [] a=a:=rfl
def bA(b:HP)(i:5)(a:SD):Option (Option SV)->SD
 |some (~~~d)=>a.set i (~~~der b d)
 |_=>a
@[simp]def b9(a:HP)(i:5)(b:SD)(d:D):bA a i b (!~~~d)=b.set i (~~~der a d):=rfl
@[simp]def eI(a:HP)(i:5)(c:Yh)(b:SD):derI a (i::c) b=derI a c (bA a i b b[i]?):=by
 rfl
def Mp(b:D->xr)(e:YC):Out2->Res Out2
 |.next a c=>xJ b e a c
 |.cont a c=>xJ b e a c
 |.brk a c=>.ok (.next a c)
 |.ret d=>.ok (.ret d)
@[simp]def ad(b:D->xr)(a:YC)(c:SD)(d:HP):Mp b a (.next c d)=xJ b a c d:=rfl
def lZ(b:D->xr)(x:D)(a:YC)(c:SD)(d:HP):xJ b (x::a) c d=(b x c d).bind (Mp b a):=by
 rfl
@[simp]def lf(a:Tg)(b:xr)(x:D)(c:SD)(d:HP):Wh a b x c d=(JW a x c).bind λs=>b s d:=rfl
theorem ED :∀{ds:YC}{sd:SD}{hp:HP}(P:5->SD->HP->4),P 0 sd hp->(∀(i:5)(x:D)(sd:SD)(hp:HP),ds[i]?=!x->P i sd hp->∃a c,b x sd hp=.ok (.next a c)/\P (i+1) a c)->
 ∃a c,xJ b ds sd hp=.ok (.next a c)/\P ds.length a c
 |[],sd,hp,P,h0,_=>(sd,hp,9,h0)
 |x::q,sd,hp,P,h0,f=>by
  let(g h,j,l):=f 0 x sd hp 9 h0;let(d e,m,n):=ED (λi=>P<|i+1) l λi y sd hp o p=>f (i+1) y sd hp o p;calc(d,e,?_,n);rw[lZ,j,Res.bind_ok,ad,m]
@[simp]def mR(a:SD):Iq a=.ok (.dct [] []):=rfl
def wy(K:W.Frag)(F H:Hp)(b:HP):4:=∀a d,jc b a=!d->F a=8/\yR K F H a d
def RT.lent{K:W.Frag}     (t:RT K B e F H f c Z):wy K F H c:=λ_ _ h=>(t.free h,t.lies h)
section
variable {K:W.Frag}
def RT.drop(t:RT K B e F H c f Z):RS K B F H c Z:=(t.ext0 t.rs.ext,t.rs.len,t.rs.val,λq=>let(l,l1,l2,l3,l4,l5):=t.rs.own q;(l,l1,Qa t.sub l2,l3,l4,λz=>by rw[<-t.pa];calc l5 z),t.rs.apart)
end
abbrev xq:=SD->HP->Res (D×HP)
abbrev zJ:=SD->HP->Res (YC×HP)
abbrev vk:=SD->HP->Res (Bool×HP)
def v7(K:W.Frag)(E:XK)(f:xq):TE:=λZ H Q=>∃B e F a c,RT K B e F H a c Z/\(f a c).need (λp=>∀v g b d,jk F b->RT K B g b d a p.2 Z->jh K b p.1 v->Q v d) (XW K E B.F0 B.H0)
abbrev ym(X:Cx)(E:XK)(e:Expr)(f:xq):4:=PE X e<|v7 X.K E f
def k6(K:W.Frag)(E:XK)(f:zJ):TA:=λZ H Q=>∃B g F a c,RT K B g F H a c Z/\(f a c).need (λp=>∀d h b e,jk F b->RT K B h b e a p.2 Z->je K b p.1 d->Q d e) (XW K E B.F0 B.H0)
abbrev vb(X:Cx)(E:XK)(es:List Expr)(f:zJ):4:=PA X es<|k6 X.K E f
def k4(K:W.Frag)(E:XK)(f:vk):TT:=λZ H Q=>∃B e F a b,RT K B e F H a b Z/\(f a b).need (λp=>∀g c d,jk F c->RT K B g c d a p.2 Z->Q p.1 d) (XW K E B.F0 B.H0)
abbrev bQ(X:Cx)(E:XK)(e:Expr)(f:vk):4:=PT X e<|k4 X.K E f
section
variable    {a b e o i:Expr}  {fa fb fe fo fi:FE}  {fr:zJ}
def yF(fe:FE):xq:=λsd hp=>(fe sd).bind λd=>.ok %[d|hp]
def Kk(h:QE X E e fe):ym X E e (yF fe):=PE.weak h λZ H Q=>qV λB f F g r=>jF λt n=>ji f F g (t.rs,(Res.need_bind n).mono (λd j v l m c p=>j v f l m c.ff (t.go c.ff<|t.rs.step c) p) λ_ _ q=>q.ext<|t.ext0 t.rs.ext)
def wc(fo fi:FE):xq:=λc d=>(fo c).bind λo=>match o with
 |.adr a=>match jc d a with
  |some (.lst f)=>(fi c).bind λk=>(Res.ofO<|jJ (.lst f) k).bind λz=>.ok %[z|d]
  |_=>.no
 |_=>.no
def Mq(r:QE X E o fo)(s:QE X E i fi)(u:Xo i):ym X E (.Subscript o i A) (wc fo fi):=PE.weak (XS uW r s u) λZ H Q C=>by
 let(B g F l Y,t,n):=C;refine ji g F l (t.rs,(Res.need_bind n).mono (λd c v G H1 h I=>?_) λ_ _ q=>q.ext<|t.ext0 t.rs.ext)
 split at c
 .rename_i a;obtain rfl:=j5.mp I
  split at c
  .rename_i es J;let f:=t.go h.ff<|t.rs.step h;calc ji g G l (f.rs,(Res.need_bind c).mono (λy L w M N j O=>?_) λ_ _ q=>q.ext<|t.ext0 f.rs.ext);let m:=f.go j.ff<|f.rs.step j;have(P,R,S):=m.lies J;have(z,p,q):=jj (Res.need_bind L);cases y with
   |int k=>
    have(x,T,U):=YH S p;calc qb a P k x (9,jg.mp O,xo.of R,T,q _ g M N (h.ff.trans j.ff) m U)
   |_=>exact J7 p
  .exact c.elim
 .exact c.elim
def x6(g:D->D->YD)(fa fb:xq):xq:=λc d=>(fa c d).bind λp=>(fb c p.2).bind λq=>(Res.ofO<|g p.1 q.1).bind λz=>.ok %[z|q.2]
def EE{K:W.Frag}    (h:v7 K E (x6 g l m) Z H Q):kt (uw K g) (v7 K E l) (v7 K E m) Z H Q:=by
 let(B r F f s,t,n):=h;calc j0 B r F f s (t,(Res.need_bind n).mono (λp x v y A T C G I=>j0 B y A f p.2 (G,(Res.need_bind x).mono (λq J w L M U j c N=>?_) λ_ _ q=>q)) λ_ _ q=>q);let(z,O,k):=jj (Res.need_bind J);exact qb M p.1 q.1 z (c.rs.ext.fh,jh.same j _ _ I,N,O,λu P R d S=>k u L P R ((C.trans j).trans d.ff) (c.go d.ff<|c.rs.step d) S)
def X8  (c:yV X (binaryOp d) g)(f:ym X E a j)(l:ym X E b m):ym X E (.BinOp a d b n) (x6 g j m):=PE.weak (Dk c f l) λ_ _ _ h=>EE h
def pA (c:zV X (uw X.K g))(d:ym X E a f)(j:ym X E b l)(m:Xo b):ym X E (.Subscript a b n) (x6 g f l):=PE.weak (XS c d j m) λ_ _ _ h=>EE h
def EF(fa:xq):vk:=λc d=>(fa c d).bind λp=>match p.1 with
 |.bl b=>.ok %[b|p.2]
 |_=>.no
def pW  (h:yV X (compareOp c) g)(j:ym X E a l)(m:ym X E b r)(s:behindInMarks c b=7):bQ X E (.Compare a [c] [b] u) (EF<|x6 g l r):=PT.weak (Dl h j m s) λZ H Q w=>by
 let(B x F y z,t,n):=w;calc EE<|j0 B x F y z (t,(Res.need_bind n).mono (λp f v A C G I J L=>?_) λ_ _ q=>q);let(d,M):=p;cases d with
 |bl k=>calc(k,jz.mp L,f A C G I J)
 |_=>exact f.elim
def YS:zJ:=λ_ hp=>.ok %[[]|hp]
def Wi(f:xq)(g:zJ):zJ:=λsd hp=>(f sd hp).bind λp=>(g sd p.2).bind λq=>.ok %[p.1::q.1|q.2]
def EG:vb X E [] YS:=PA.weak VZ λZ H Q=>qV λB c F d f=>jF λt n=>n [] c F H (.refl _) t .nil
def X9(g:ym X E e h)(j:vb X E c fr)(l:starEach (e::c) X.env=%[7|eval e X.env]::starEach c X.env:=by rfl):vb X E (e::c) (Wi h fr):=PA.weak (Wa g j l) λZ H Q=>qV λB m F d r=>jF λt n=>j0 B m F d r (t,(Res.need_bind n).mono (λp s v u w N x y z=>j0 B u w d p.2 (y,(Res.need_bind s).mono (λq A C G I J f L M=>A (v::C) G I J (x.trans f) L<|.mk (jh.same f _ _ z) M) λ_ _ q=>q)) λ_ _ q=>q)
def AN(fr:zJ):xq:=λsd hp=>(fr sd hp).bind λp=>if p.1.length<=1000 then .ok %[.tup p.1|p.2]else .no
def Mr (h:vb X E l fr):ym X E (.Tuple l z m) (AN fr):=PE.weak (Go h) λZ H Q r=>by
 let(B s F u v,t,n):=r;refine j0 B s F u v (t,(Res.need_bind n).mono (λp d g w A C x f j=>?_) λ_ _ q=>q)
 split at d
 .let G:=j.length;calc(Qt (),λq y=>?_);let c:=Ext.alloc f.rs.ext.fh y<|.tup g;exact d _ w _ _ (x.trans c.ff) (f.go c.ff<|f.rs.step c)<|jy.mpr (q,g,9,.of JL,je.same c.ff _ _ j)
 .exact d.elim
def YT(i:5)(f:xq):xr:=λsd hp=>(f sd hp).bind λp=>.ok<|.next (sd.set i<|~~~p.1) p.2
def EH{i:5}  (f:X.N.Nodup)(g:X.N[i]?=!x)(h:zr X.env.scope x)(j:ym X E e l)(r:swapsWith e (! .Name x c) s.line X.env=pure 7:=by rfl)(u:X.fn x=6\/X.env.scope.names.lookup x=!.local:=by trivial):
 vc X E m (.Assign [.Name x c] e s) (YT i l):=PS.weak (XQ f g h j r u) λT Z H=>qV λB w F y z=>jF λt n=>j0 B w F y z (t,(Res.need_bind n).mono (λp A v C G I J d L=>A _ C G I J<|d.go (.refl _)<|d.rs.setVal L) λ_ _ q=>q)
def Cr(fo fi:FE)(f:xq):xr:=λc g=>(f c g).bind λp=>(fo c).bind λo=>match o with
 |.adr a=>match jc p.2 a with
  |some (.lst d)=>(fi c).bind λk=>match k with
   |.int k=>match wl d.length k with
    |some q=>.ok (.next c<|Q6 p.2 a<|.lst<|d.set q p.1)
    |none=>.no
   |_=>.no
  |_=>.no
 |_=>.no
def lh(ho:QE X E o fo)(hi:QE X E i fi)(hv:ym X E e f2)(J:∀v,assign (.Subscript o i c) X.env v=(do
 let f<-holding [v] (eval o X.env)
 let j<-holding [v,f] (eval i X.env)
 standAt c
 holding [v,f,j] (setItem f j v)
 release [v,f,j] []):=by intro _;rfl)(hs:swapsWithSole [.Subscript o i c] e L.line X.env=pure 7:=by rfl)(hw:swappedStores [.Subscript o i c] e X.env=pure 8:=by rfl)
 (h1:(assignEach [.Subscript o i c] X.env).map (·.2)=[assign (.Subscript o i c) X.env]:=by rfl):vc X E m (.Assign [.Subscript o i c] e L) (Cr fo fi f2):=PS.weak (Ot hv (λY s Z H v u Q I r h=>Za<|wpAny_holding<|jS (ho Y s Z H _ I h) λf M=>j8 λx O=>jC λI1 r1 q1=>Za<|wpAny_holding<|jS (hi Y M Z O _ I1 q1) λj s2=>j8 λy P=>jC λI2 r2 q2=>Za<|wpAny_standAt<|Za<|wpAny_holding<|jS (OT Y s2 Z P x y v f j u _ I2 r1 r2 r q2) λ_ s3=>yf λR=>jF λI3 q3=>wpAny_release (Z,R,I3,q3)) hs hw h1) λT Z H zh=>by
 let(B B' F N hp,t,n):=zh;refine j0 B B' F N hp (t,(Res.need_bind n).mono (λp n1 v S F1 O M g i1=>ji S F1 N (g.rs,(Res.need_bind n1).mono (λd l v2 F2 P A i2=>?_) λ_ _ q=>q.ext<|g.ext0 g.rs.ext)) λ_ _ q=>q)
 split at l
 .rename_i a;obtain rfl:=j5.mp i2;let C:=g.go A.ff<|g.rs.step A
  split at l
  .rename_i es J;calc ji S F2 N (C.rs,(Res.need_bind l).mono (λk z w F3 R G i3=>?_) λ_ _ q=>q.ext<|g.ext0 C.rs.ext);let U:=C.go G.ff<|C.rs.step G
   split at z
   .rename_i k
    split at z
    .rename_i q hk;have(xs,g1,g2):=U.lies J;exact qb a xs k q (9,jg.mp i3,g1,by rwa[g2.length],z Z _ F3 _ ((M.trans A.ff).trans G.ff)<|U.chg J (_,JL,g2.set q<|jh.same (A.ff.trans G.ff) _ _ i1))
    .exact z.elim
   .exact z.elim
  .exact l.elim
 .exact l.elim
def AO(i:5)(f:xq):xr:=λsd hp=>match sd[i]? with
 |some (some<|.own false<|.lst ds)=>(f sd hp).bind λp=>if ds.length<sizeLine then .ok (.next (sd.set i<|!(.own 7<|.lst<|ds++[p.1])) p.2)else .no
 |_=>.no
def pH{i:5} (A:PE X o (yI i))(C:ym X E e G)
 (f:∀{w:TE}{t:TA},PE X o w->PA X [e] t->PE X (.Call (.Attribute o "append" c) [e] [] d) (uu X.K "list" XT w t))
 (I:swapsWith (.Call (.Attribute o "append" c) [e] [] d) 8 g.line X.env=pure 7:=by rfl)
 (h:starEach [e] X.env=%[7|eval e X.env]::starEach [] X.env:=by rfl):vc X E m (.Expr (.Call (.Attribute o "append" c) [e] [] d) g) (AO i G):=
 PS.weak (XP (f A<|Wa C VZ h) I) λT Z H J=>by
  let(B L F M f,t,n):=J;unfold AO at n
  split at n
  .rename_i Y j;let(-l,r,h2,h3,(N,O,h5),_):=t.rs.own j;refine(.ref l,r,.inl (9,N,xo.of O),B,L,F,M,f,t,(Res.need_bind n).mono (λp s v P Q H1 R u S=>?_) λ_ _ q=>q)
   split at s
   .let(-l',x,g2,g3,(y,U,z),_):=u.rs.own j;rw[r]at x;cases x;let hl:=z.length;exact ji l y v (9,9,U,(),s Z P Q _ R<|u.go (.refl _)<|u.rs.chg j r (y++[v],JL,z.snoc S))
   .exact s.elim
  .exact n.elim
end
def Ms(K:W.Frag)(E:XK)(g:xq):TS:=λT Z H=>∃B f F c d,RT K B f F H c d Z/\(g c d).need (λp=>∀v h a i b e,jk F b->RT K B i b e a p.2 h->jh K b p.1 v->T.rt v e) (XW K E B.F0 B.H0)
abbrev zG(X:Cx)(E:XK)(sts:List Stmt)(g:xq):4:=xh X sts<|Ms X.K E g
section
variable     {f2 g2 ga:xq}{g1:xr}{fc:vk}  {st:Stmt}
def AQ(h:ym X E e f2):zG X E [.Return (!e) b] f2:=xh.weak (Bm<|ZR h) λT Z H=>qV λB c F a d=>jF λt n=>j0 B c F a d (t,n.mono (λp f v g i j l m o=>f v Z a g i j l m o) λ_ _ q=>q)
def yi(g1:xr)(g2:xq):xq:=λc d=>(g1 c d).bind λo=>match o with
 |.next a b=>g2 a b
 |_=>.no
def WH(g:vc X E m st g1)(h:zG X E e g2):zG X E (st::e) (yi g1 g2):=xh.weak (XO g h) λT Z H i=>by
 let(B j F l r,t,n):=i;calc j0 B j F l r (t,(Res.need_bind n).mono (λo c=>?_) λ_ _ q=>q);cases o with
 |next a b=>calc λL u w M s x=>j0 B u w a b (x,c.mono (λp q v y f z A C G I J=>q v y f z A C (s.trans G) I J) λ_ _ q=>q)
 |ret d=>calc c.elim
 |brk a b=>calc c.elim
 |cont a b=>exact c.elim
def sY(fc:vk)(ga g2:xq):xq:=λa b=>(fc a b).bind λp=>if p.1 then ga a p.2 else g2 a p.2
def kQ(y:bQ X E c fc)(z:zG X E a ga)(A:zG X E e g2):zG X E (.If c a [] C::e) (sY fc ga g2):=xh.weak (XO (Bn y z ZQ) A) λT Z H G=>by
 let(B I F f J,t,n):=G;calc j0 B I F f J (t,(Res.need_bind n).mono (λp r s u L w x=>?_) λ_ _ q=>q);let(k,d):=p;cases k with
 |true=>calc j0 B s u f d (x,r.mono (λp q v g b h i j l m o=>q v g b h i j (w.trans l) m o) λ_ _ q=>q)
 |false=>exact j0 B s u f d (x,r.mono (λp q v g b h i j l m o=>q v g b h i j (w.trans l) m o) λ_ _ q=>q)
end
structure ExtW(K:W.Frag)(F H:Hp)(hp:HP)(F' H':Hp)(hp':HP):4 where
 ff:jk F F'
 fh:jk F' H'
 hh:∀a o,jc hp a=8->H a=!o->H' a=!o
 new:∀a,F a=8->H a≠8->F' a=8
 len:wy K F' H' hp'
 dom:∀a,jc hp' a=8↔jc hp a=8
theorem uI:∀{b:HP}{a:Addr},jc b a=8↔a∉b.map (·.1)
 |[],a=>by simp[Cq]
 |p::r,a=>by
  rw[JR,Zl,U4,not_or];by_cases z:a=p.1
  .simp_all
  .rw[Ze z,uI]
   simp_all
def q0(H:Hp)(b:HP):Hp:=λa=>match jc b a with
 |none=>H a
 |some _=>8
def Q1   (h:jc b a=8):q0 H b a=H a:=by grind[q0]
def XA    (h:jc b a=!d):q0 H b a=8:=by unfold q0;rw[h]
def zm(K:W.Frag)(e:YC->HP->Res (D×HP)):Sp:=λf H Q _=>∃F b a,jk F H/\je K F b f/\wy K F H a/\(e b a).need (λp=>∀v c d,ExtW K F H a c d p.2->jh K c p.1 v->Q v d) (XW K E0 F<|q0 H a)
def Wj(n ar:5)(g:xq)(a:YC)(b:HP):Res (D×HP):=if a.length=ar then(g (JT n a) b).bind λp=>if p.2.map (·.1)=b.map (·.1)then .ok p else .no else .no
section
variable {K:W.Frag}
def RT.call(t:RT K B n F H G c Z)(w:ExtW K F H c I r s):∃J,RT K B J I r G s Z:=by
 let L:=λa o h e=>w.hh a o h<|t.rs.ext.hh _ _ e;refine((n.F0,λa=>match jc c a with
  |none=>n.H0 a
  |some _=>r a,n.pa),((t.rs.ext.ff.trans w.ff,w.fh,λa o e=>?_,λa O j=>?_),t.rs.len,λq=>let(v,j,h2):=t.rs.val q;(v,j,jh.same w.ff _ _ h2),λ{i p d}q=>?_,t.rs.apart),t.f0,t.pa,λa f=>?_,λa d f=>?_)
 .grind
 .cases z:jc c a with
  |none=>
   let j:(match jc c a with
    |none=>n.H0 a
    |some _=>r a)≠8:=j
   rw[z]at j;calc w.new a (t.rs.ext.new a O j) λy=>j<|Qa t.rs.ext.hh y
  |some d=>
   let(o,Q):=(t.lies z).has;exact w.new a (t.free z) ()
 .let(-l,R,S,T,x,U):=t.rs.own q;let E:jc c l=8:=by
   cases z:jc c l with
   |none=>rfl
   |some d'=>exact Zn 9<|t.no_own z S
  let(o,Q):=x.has;refine(l,R,?_,w.new l T (),x.ext w.ff λu q=>w.hh _ _ E q,λz=>(U z).mono λu q=>w.hh _ _ E q)
  simp_all
 .let f:=(w.dom a).mp f;show(match jc c a with
   |none=>n.H0 a
   |some _=>r a)=B.H0 a
  rw[f];exact t.out a f
 .cases z:jc c a with
  |none=>rw[(w.dom a).mpr z]at f;cases f
  |some X=>
   let(!Y,c2,_):=t.obj a X z;refine(Y,c2,(w.len a d f).2.ext (.refl _) λo q=>?_)
   simp_all
def RT.hidden(t:RT K B f F H i c Z):Ext B.F0 B.H0 F (q0 H c):=by
 let e:=t.ext0 t.rs.ext;refine(e.ff,λa o q=>?_,λa o q=>?_,e.new)
 .cases z:jc c a with
  |none=>rw[Q1 z];calc e.fh _ _ q
  |some d=>rw[t.free z]at q;exact J7 q
 .cases z:jc c a with
  |none=>rw[Q1 z];calc e.hh _ _ q
  |some d=>rw[(t.obj a d z).2.1]at q;exact J7 q
end
section
variable   {K:W.Frag}    {st:Stmt}
def Cs (F:Fun K x h st f L)(S:FnScope N C (JP st))
 (M:∀c A b s H E,Room k (A.deeper<|envOfC h (JP st) s.heap.objs.size f c)->xh (qp yo P w K O m N h (JP st) f c A b s H E).nox (QP st) (Ms K E0 g)):
 FnOk P w K O m yo (k+1) f L C (zm K<|Wj N.length C.length g):=by
 refine F.ok S (λG H Q E=>qy λF I l=>xm λ_ i _ n=>?_) λc A b s H G Q E R=>qy λF I l=>xm λT i J n=>(_,M c A b s H E R,?_)
 .unfold Wj at n
  split at n
  .rw[i.length];lia
  .exact n.elim
 .unfold Wj at n
  split at n
  .let t:RT K (F,q0 H l,λ_=>8) (F,H,λ_=>8) F H (JT N.length I) l (L2.start N G):=(RS.start T i,9,9,λa j=>(Q1 j).symm,λa d j=>((J a d j).1,XA j,(J a d j).2));refine j0 _ _ F _ l (t,(Res.need_bind n).mono (λp u v Z' U B2 X Y Z r i1=>?_) λ_ _ q=>q)
   split at u
   .rename_i hd;let B:∀a,jc p.2 a=8↔jc l a=8:=λa=>by rw[uI,uI,hd]
    let e:=r.ext0 r.rs.ext;calc u v X Y (Z,r.rs.ext.fh,λa o j q=>e.hh a o<|(Q1 j).trans q,λa h0 h1=>?_,r.lent,B) i1;cases z:jc l a with
    |none=>calc e.new a h0 λy=>h1<|(Q1 z).symm.trans y
    |some d=>
     cases y:jc p.2 a with
     |none=>simp_all
     |some d'=>exact r.free y
   .exact u.elim
  .exact n.elim
end
def Kl(a:YC->HP->Res (D×HP))(b:FA):xq:=λsd hp=>(b sd).bind λds=>a ds hp
def Wl        (c:wD X.prog X.w X.K X.mg X.base a k S (zm X.K l))(m:Room k X.A)(o:Gl X a)(r:QA X E0 (e::b) s)
 (f:(a==("__debug__":Str))=7:=by decide)(u:starEach (e::b) X.env=%[7|eval e X.env]::starEach b X.env:=by rfl)(g:(backTo h<|starEach b X.env).any (·.1)=7:=by rfl):
 ym X E0 (.Call (.Name a p) (e::b) [] h) (Kl l s):=PE.weak (XV c m o r f u g) λZ H Q x=>by
 let(B y F z A,t,n):=x;calc ji y F z (t.rs,(Res.need_bind n).mono (λC E G I J d L=>?_) λ_ _ q=>q.ext<|t.ext0 t.rs.ext);let j:=t.go d.ff<|t.rs.step d;show zm X.K l (G++[]) J Q E0;rw[ZA];calc ji I C A (d.fh,L,j.lent,E.mono (λp M v N O w i=>?_) λ_ _ q=>q.ext j.hidden);let(P,R):=j.call w;exact M v P N O (d.ff.trans w.ff) R i
abbrev FX:=SD->Res (D×SD)
def aL(K:W.Frag)(E:XK)(f:FX):TE:=λZ H Q=>∃B F b,RS K B F H b Z/\(f b).need (λp=>∀v a c,jk F a->RS K B a c p.2 Z->jh K a p.1 v->Q v c) (XW K E B.F0 B.H0)
abbrev QX(X:Cx)(E:XK)(e:Expr)(f:FX):4:=PE X e<|aL X.K E f
open Classical in
def wY(g:Addr->Res (D×SD)):Res (D×SD):=if h:∃o,∀a,g a=.ok o then .ok (Classical.choose h)else .no
def pj  (h:∀a,g a=.ok o):wY g=.ok o:=by
 let b:∃o,∀a,g a=.ok o:=(o,h);unfold wY;rw[dif_pos b];let c:=Vd b 0;rw[h 0]at c;exact c.symm
def lX   (h:(wY g).need p q)(a):(g a).need p q:=by
 unfold wY at h
 split at h
 .grind
 .exact h.elim
def ya(i:5)(f:xq):FX:=λsd=>match sd[i]? with
 |some (some<|.own false d)=>wY λa=>(f (sd.set i<|~~~.adr a) [%[a|d]]).bind λp=>match jc p.2 a with
  |some b=>.ok %[p.1|sd.set i ! .own 7 b]
  |none=>.no
 |_=>.no
def zE{K:W.Frag}        (r:RS K B F H s Z)(y:s[i]?=! ! .own p d)(u:Z[i]?=! ! .ref l)(E:B.H0 l=8)(G:F l=8)(I:yR K F H l d):
 RT K B (B.F0,λa=>if a=l then H l else B.H0 a,B.pa) F H (s.set i<|~~~.adr l) [%[l|d]] Z:=by
 let c:=r.setVal (i:=i) (d:=.adr l)<|j5.mpr 9;rw[AM u]at c;let n:∀{a:Addr}{e:D},jc [%[l|d]] a=!e->a=l/\e=d:=λ{a e}q=>by
  simp_all[JR,Cq]
 refine(((c.ext.ff,c.ext.fh,λa o e=>?_,λa J f=>?_),c.len,c.val,λ{j O Q}q=>?_,c.apart),9,9,λa v=>?_,λa e v=>?_)
 .let e:(if a=l then H l else B.H0 a)=!o:=e;by_cases z:a=l
  .rw[Zd z]at e;rwa[z]
  .rw[Ze z]at e;exact c.ext.hh _ _ e
 .by_cases z:a=l
  .rwa[z]
  .let f:(if a=l then H l else B.H0 a)≠8:=f;rw[Ze z]at f;exact c.ext.new a J f
 .let x:i≠j:=by grind
  let(-b,L,R,S,T,U):=c.own q;rw[Kh x]at q;let ne:b≠l:=λz=>r.apart x y q u<|z ▸ L;exact by grind
 .grind[JR]
 .let(rfl,rfl):=n v;refine(Qa r.ext.ff G,E,I.ext (.refl _) λo q=>?_)
  simp_all
def YU     (h:ym X E e o):QX X E e (ya i o):=PE.weak h λZ H Q u=>by
 let(B F M,r,n):=u;unfold ya at n
 split at n
 .rename_i d f;let(-l,g,w,x,y,_):=r.own f;refine j0 B _ F _ _ (zE r f g w x y,(Res.need_bind<|lX n l).mono (λp c v N A C s t G=>?_) λ_ _ q=>q)
  split at c
  .rename_i I a;calc c v A C s ?_ G;let J:=t.drop.setOwn (i:=i) (t.obj l I a).2.1 (t.free a) (t.lies a) λj p e q z=>by
    have(b,m,L,_):=t.rs.own q;rw[z]at m;cases m;exact Zn 9<|t.no_own a L
   rwa[List.set_set,AM g]at J
  .exact c.elim
 .exact n.elim
section
variable     {f:FX}
def YV(i:5)(f:FX):FS:=λa=>(f a).bind λp=>.ok<|.next<|p.2.set i<|~~~p.1
@[simp]def mL(i)(f)(a):YV i f a=(f a).bind λp=>.ok<|.next<|p.2.set i<|~~~p.1:=rfl
def EI   (b:X.N.Nodup)(c:X.N[i]?=!x)(d:zr X.env.scope x)(g:QX X E e f)(h:swapsWith e (! .Name x a) j.line X.env=pure 7:=by rfl)(l:X.fn x=6\/X.env.scope.names.lookup x=!.local:=by trivial):
 QS X E m (.Assign [.Name x a] e j) (YV i f):=PS.weak (XQ b c d g h l) λT Z H=>qy λB F o=>jF λr n=>ji B F o (r,(Res.need_bind n).mono (λp s v t u w y z=>s _ t u w<|y.setVal z) λ_ _ q=>q)
def XB(i:5)(f:FX):FS:=λsd=>match sd[i]? with
 |some (some<|.own false<|.lst _)=>(f sd).bind λp=>match p.2[i]? with
  |some (some<|.own false<|.lst ds)=>if ds.length<sizeLine then .ok (.next<|p.2.set i<|!(.own 7<|.lst<|ds++[p.1]))else .no
  |_=>.no
 |_=>.no
def Mu  (z:PE X o (yI i))(A:QX X E e f)
 (C:∀{j:TE}{t:TA},PE X o j->PA X [e] t->PE X (.Call (.Attribute o "append" a) [e] [] b) (uu X.K "list" XT j t))
 (G:swapsWith (.Call (.Attribute o "append" a) [e] [] b) 8 d.line X.env=pure 7:=by rfl)
 (g:starEach [e] X.env=%[7|eval e X.env]::starEach [] X.env:=by rfl):QS X E m (.Expr (.Call (.Attribute o "append" a) [e] [] b) d) (XB i f):=
 PS.weak (XP (C z<|Wa A VZ g) G) λT Z H I=>by
  let(B F J,r,n):=I;unfold XB at n
  split at n
  .rename_i S L;let(-l,h,U,Y,(M,N,h5),_):=r.own L;refine(.ref l,h,.inl (9,M,xo.of N),B,F,J,r,(Res.need_bind n).mono (λp c v O H1 P s Q=>?_) λ_ _ q=>q)
   split at c
   .rename_i ds u
    split at c
    .let(-l',w,g2,g3,(x,R,y),_):=s.own u;rw[h]at w;cases w;let hl:=y.length;exact ji l x v (9,9,R,(),c Z O _ P<|s.chg u h (x++[v],JL,y.snoc Q))
    .exact c.elim
   .exact c.elim
  .exact n.elim
end
end L2.DL
namespace L2
open PySem PyProof.Rows
end L2
namespace L2.DL
open PySem L2
def e8:FE:=λ_=>.no
def kW:QE X E e e8:=λY s Z H Q I=>qy λ_ _ _=>jF λ_ n=>n.elim
section
variable    {g:xq}
def vE(i:5)(g:xq):xq:=λa b=>g (qo [i] a) b
def Mv (h:zG X E a g):zG X E a (vE i g):=xh.weak h λT Z H=>qV λB c F x d=>jF λt n=>have(e,s,r):=t.rs.frz [i];j0 B c e _ d (t.go s r,(n).mono (λp q v f b j l m o u w=>q v f b j l m (s.trans o) u w) λ_ _ q=>q)
def u3:D->D->YD:=λd e=>match d with
 |.dct _ _=>8
 |.dcf _ _=>8
 |d=>jJ d e
def gQ:zV X (uw X.K u3):=Ik
def v6(b:Yh)(f:FE):xq:=λc a=>(f<|derI a b c).strict.bind λd=>if Uk d then .ok %[d|a]else .no
def Mw(b:Yh)(h:QE X E e j):ym X E e (v6 b j):=PE.weak h λZ H Q l=>by
 let(B m F x y,t,n):=l;let(-o,z,p,r):=t.frz;refine ji B o _ (p.derI r b,(jQ<|Res.need_bind n).mono (λd a v A f s u=>?_) λc fs q=>q)
 split at a
 .rename_i w;let i:Ext F H F f:=.grow t.rs.ext.fh s.hh;exact a v m F f (.refl _) (t.go i.ff<|t.rs.step i)<|u.scal w
 .exact a.elim
def lE:yj X (binaryOp .FloorDiv) (rI (λ_ j=>0<j/\j.natAbs<yz) λi j=>.int<|i/j):=gv λi j _ _ _ _ _ a q=>have b:j.natAbs<2^1000:=Zg a.2<|VC 9;have l:=(Nat.log2_lt ()).mpr b;floordiv_int () (by rwa[Int.fdiv_eq_ediv_of_nonneg i ()]) (.inl<|PyProof.noPylong_of_log2 ())
def Ct:=uQ (λ_ j=>Uv 0 j.toNat&&Uv j.natAbs yz) λi j=>.int<|i/j
def pK:yV X (binaryOp .FloorDiv) Ct:=Ax lE () λ_ _ F=>z8 _ F
def lR (h:0<j)(a:j.natAbs<yz):Ct (.int i) (.int j)=!(.int<|i/j):=by
 show(if Uv 0 j.toNat&&Uv j.natAbs yz then _ else _)=_
 simp_all
end
section
variable {K:W.Frag}    {hp hp2:HP}
theorem EJ:∀{c b:HP}{a:Addr},jc (c++b) a=(jc c a).or (jc b a)
 |[],b,a=>9
 |p::r,b,a=>by
  rw[List.cons_append,JR,JR];by_cases z:a=p.1
  .simp_all
  .rw[Ze z,Ze z];exact EJ
def RT.comp(t:RT K B p F H s hp Z)(f:RT K p r F H i hp2 Z):RT K B r F H i (hp2++hp) Z:=by
 refine(f.rs,f.f0.trans t.f0,f.pa.trans t.pa,λa c=>?_,λa e c=>?_)
 .rw[EJ]at c;cases z:jc hp2 a with
  |some e=>simp_all
  |none=>rw[z]at c;exact(f.out a z).trans<|t.out a c
 .rw[EJ]at c;cases z:jc hp2 a with
  |some u=>
   rw[z]at c;cases c;let(!n,j,l):=f.obj a _ z;calc(by rwa[<-t.f0],Qa t.sub j,l)
  |none=>
   rw[z]at c;let(!n,j,l):=t.obj a e c;exact(n,j,l.ext (.refl _) λo q=>f.sub _ _ q)
def RT.split(t:RT K B i F H p (%[l|d]::hp) Z)(G:jc hp l=8):∃n,RT K n i F H p [%[l|d]] Z/\∀f,RS K n F H f Z->RT K B n F H f hp Z:=by
 let j:∀{a:Addr},a≠l->jc (%[l|d]::hp) a=jc hp a:=λz=>by rw[JR,Ze z]
 let s:jc (%[l|d]::hp) l=!d:=by rw[JR,Zd 9]
 let(!u,I,v):=t.obj l d s;refine((i.F0,λa=>if a=l then 8 else i.H0 a,i.pa),(t.rs,9,9,λa c=>?_,λa e c=>?_),λf r=>(r,t.f0,t.pa,λa c=>?_,λa e c=>?_))
 .grind[JR]
 .rw[JR,Cq]at c;by_cases z:a=l
  .rw[Zd z]at c;cases c;rw[z];exact(t.f0.symm ▸ u,Zd 9,v)
  simp_all
 .show(if a=l then 8 else i.H0 a)=B.H0 a;by_cases z:a=l
  .simp_all
  .rw[Ze z];exact t.out a<|(j z).trans c
 .let ne:a≠l:=by grind
  have(x,y,E):=t.obj a e ((j ne).trans c);refine(x,y,E.ext (.refl _) λo q=>?_)
  simp_all
end
abbrev nA:=SD->HP->Res (D×SD×HP)
def nY(K:W.Frag)(E:XK)(f:nA):TE:=λZ H Q=>∃B e F b c,RT K B e F H b c Z/\(f b c).need (λp=>∀v g a d,jk F a->RT K B g a d p.2.1 p.2.2 Z->jh K a p.1 v->Q v d) (XW K E B.F0 B.H0)
abbrev dI(X:Cx)(E:XK)(e:Expr)(f:nA):4:=PE X e<|nY X.K E f
open Classical in
def wZ(b:HP)(g:Addr->Res (D×SD×HP)):Res (D×SD×HP):=if h:∃o,∀a,jc b a=8->g a=.ok o then .ok (Classical.choose h)else .no
def cP   (c:∃a,jc b a=8)(h:∀a,jc b a=8->g a=.ok o):wZ b g=.ok o:=by
 let d:∃o,∀a,jc b a=8->g a=.ok o:=(o,h)
 grind[wZ]
def lH    (h:(wZ b g).need p q) (c:jc b a=8):(g a).need p q:=by
 unfold wZ at h
 split at h
 .grind
 .exact h.elim
def tN(i:5)(b:SD)(c:HP)(a:Addr)(p:D×HP):Res (D×SD×HP):=match p.2 with
 |q::hp1=>if q.1=a/\jc hp1 a=8 then .ok %[p.1,b.set i ! .own 7 q.2|hp1]else .no
 |[]=>.no
def AR(i:5)(f:xq):nA:=λb c=>match b[i]? with
 |some (some<|.own false d)=>wZ c λa=>(f (b.set i<|~~~.adr a)<|%[a|d]::c).bind<|tN i b c a
 |_=>.no
def cF     (h:ym X E e G):dI X E e (AR i G):=PE.weak h λZ H Q I=>by
 let(B B' F sd m,t,n):=I;unfold AR at n
 split at n
 .rename_i d o;let(-l,r,u,J,L,_):=t.rs.own o;let M:jc m l=8:=by
   cases z:jc m l with
   |none=>rfl
   |some d'=>exact Zn 9<|t.no_own z u
  calc j0 B _ F _ _ (t.comp<|zE t.rs o r u J L,(Res.need_bind<|lH n M).mono (λp a v B2 N O s P R=>?_) λ_ _ q=>q);let(y,S):=p;unfold tN at a
  split at a
  .rename_i q w T;cases T
   split at a
   .rename_i x;cases x.1;have(U,c,f):=P.split x.2;let g:jc [%[q.1|q.2]] q.1=!q.2:=by grind[JR]
    let A:=c.drop.setOwn (i:=i) (c.obj q.1 q.2 g).2.1 (c.free g) (c.lies g) λj p e q z=>by
     have(b,C,Y,_):=c.rs.own q;rw[z]at C;cases C;exact Zn 9<|c.no_own g Y
    rw[List.set_set,AM r]at A;exact a v U N O s (f _ A) R
   .exact a.elim
  .exact a.elim
 .exact n.elim
section
variable    {e o i:Expr}    {f:FX}
def gR(z:D)(q:D×HP):Res (D×HP):=match z with
 |.adr a=>match jc q.2 a with
  |some (.lst b)=>(Res.ofO<|jJ (.lst b) q.1).bind λz=>.ok %[z|q.2]
  |_=>.no
 |_=>.no
def EK(b c:xq):xq:=λa d=>(b a d).bind λp=>(c a p.2).bind<|gR p.1
def cO(m:ym X E o r)(s:ym X E i c)(u:Xo i):ym X E (.Subscript o i A) (EK r c):=PE.weak (XS uW m s u) λZ H Q C=>by
 let(B G F d I,t,n):=C;calc j0 B G F d I (t,(Res.need_bind n).mono (λp J v L M H1 N O g=>j0 B L M d p.2 (O,(Res.need_bind J).mono (λq b w P R S T h U=>?_) λ_ _ q=>q)) λ_ _ q=>q);unfold gR at b
 split at b
 .rename_i a Y;rw[Y]at g;obtain rfl:=j5.mp g
  split at b
  .rename_i es ha;have(xs,g1,c):=h.lies ha;have(z,l,k):=jj (Res.need_bind b);let(y,hp2):=q;cases y with
   |int j=>
    have(x,hx,ix):=YH c l;calc qb a xs j x (9,jg.mp U,xo.of g1,hx,k _ P R S (N.trans T) h ix)
   |_=>exact J7 l
  .exact b.elim
 .exact b.elim
def EL(a:YC->HP->Res (D×HP))(b:zJ):xq:=λc d=>(b c d).bind λp=>a p.1 p.2
def lU     (c:wD X.prog X.w X.K X.mg X.base a k T (zm X.K m))(r:Room k X.A)(s:Gl X a)(u:vb X E0 (e::b) g)
 (h:(a==("__debug__":Str))=7:=by decide)(x:starEach (e::b) X.env=%[7|eval e X.env]::starEach b X.env:=by rfl)(j:(backTo l<|starEach b X.env).any (·.1)=7:=by rfl):
 ym X E0 (.Call (.Name a p) (e::b) [] l) (EL m g):=PE.weak (XV c r s u h x j) λZ H Q y=>by
 let(B z F A C,t,n):=y;calc j0 B z F A C (t,(Res.need_bind n).mono (λp E G U I J L d M=>?_) λ_ _ q=>q);show zm X.K m (G++[]) J Q E0;rw[ZA];calc ji I p.1 p.2 (d.rs.ext.fh,M,d.lent,E.mono (λq N v O P w i=>?_) λ_ _ q=>q.ext d.hidden);let(R,S):=d.call w;exact N v R O P (L.trans w.ff) S i
def Cu(i:5)(f:nA):xr:=λa b=>(f a b).bind λp=>.ok<|.next (p.2.1.set i<|~~~p.1) p.2.2
def lu{i:5}  (c:X.N.Nodup)(d:X.N[i]?=!x)(g:zr X.env.scope x)(h:dI X E e j)(l:swapsWith e (! .Name x a) r.line X.env=pure 7:=by rfl)(s:X.fn x=6\/X.env.scope.names.lookup x=!.local:=by trivial):
 vc X E m (.Assign [.Name x a] e r) (Cu i j):=PS.weak (XQ c d g h l s) λT Z H=>qV λB u F w y=>jF λt n=>j0 B u F w y (t,(Res.need_bind n).mono (λp z v A C G I b J=>z _ A C G I<|b.go (.refl _)<|b.rs.setVal J) λ_ _ q=>q)
def Mx(a:Tg)(b:xr)(c:HP)(p:D×SD):Res Out2:=match p.1 with
 |.int j=>if WE j then xJ (Wh a b) (JY 0 j.toNat) p.2 c else .no
 |_=>.no
def Cv(f:FX)(a:Tg)(b:xr):xr:=λc d=>(f c).bind<|Mx a b d
def pb     (r:PassesOwn (model X.prog X.w) X.A X.env X.xe)(y:X.calm=6)(d:Gl X "range")(z:X.mg "range"=8)(A:QX X E a f)(C:QG X G t)(I:zF X E m c g)(h:starEach [a] X.env=%[7|eval a X.env]::starEach [] X.env:=by rfl)(J:starEach [a] X.env=[%[7|eval a X.env]]:=by rfl)
 (l:∀x,foldedSetIterable (.Call (.Name "range" p) [a] [] L) X.env x=pure x:=by intro _;rfl):vc X E m (.For G (.Call (.Name "range" p) [a] [] L) c [] M) (Cv f t g):=PS.weak (Bp r y (Gg d z (Wa A VZ h) J) C I l) λT Z H N=>by
 let(B O F P r,t,n):=N;calc ji O F P (t.rs,(Res.need_bind n).mono (λq b v S U s Q u=>?_) λ_ _ q=>t.xw q);unfold Mx at b
 split at b
 .rename_i j R
  split at b
  .rename_i w;rw[R]at u;rw[jg.mp u];exact(j,9,(BW w).1,(BW w).2,Mn (Iv 0 _) (t.go s Q)<|b.mono (λ_ q=>q.mono s) λ_ _ q=>q)
  .exact b.elim
 .exact b.elim
end
open Classical in
def xE(n:5)(g:Yj->Res Out):Res Out:=if h:∃o,∀a,a.length=n->g a=.ok o then .ok (Classical.choose h)else .no
def Mz   (h:∀a,a.length=n->g a=.ok o):xE n g=.ok o:=by
 let b:∃o,∀a,a.length=n->g a=.ok o:=(o,h);unfold xE;let c:(List.replicate n (0:Addr)).length=n:=List.length_replicate
 grind
def u4:D->D->YD
 |.lst a,.lst []=>! .bl a.isEmpty
 |_,_=>8
def gG(J:X.A.units+64<cLine):yV X (compareOp .Eq) u4:=by
 intro Y s Z H x y v u Q I m n(F,d,e,z,a,id,o,c,q);cases d with
 |lst g=>
  cases e with
  |lst p=>
   cases p with
   |cons _ _=>calc J7 c
   |nil=>
    cases c;let(l,L,rfl,r,t):=jl.mp id;let(b,M,rfl,w,A):=jl.mp o;obtain rfl:=m;obtain rfl:=n;obtain rfl:=je.nil_iff.mp A;have(_,f,N,B,h):=(r.same a).ok I.hok;let(_,i,O,C,j):=(w.same a).ok I.hok;cases C;let P:=t.length;let E:=B.length;cases g with
    |nil=>
     let G:f=[]:=by grind
     subst G;calc PySem.P.eq_list (e:=λ_=>6) h j 9 () () (.bl 6,H,I,9,q _ F H (.refl a)<|zY _ F)
    |cons d g=>
     refine PySem.P.eq_list_lengths h j ?_ () (.bl 7,H,I,9,q _ F H (.refl a)<|zY _ F)
     grind
  |_=>calc J7 c
 |_=>exact J7 c
def capO(cap:List (Option 5))(k:5)(a:SD):SD:=match(cap[k]?).join with
 |some j=>match a[j]? with
  |some (some<|.own false d)=>(jZ cap a).set k ! .own 7 d
  |_=>jZ cap a
 |none=>jZ cap a
def pY  {i:5} (q:(jZ cap b)[i]?=! !x):∃d,x=.val d:=by
 unfold jZ at q;rw[Zv]at q;cases a:cap[i]? with
 |none=>simp_all
 |some o=>
  rw[a]at q;cases o with
  |none=>cases q
  |some j=>
   grind
theorem RS.capO{K:W.Frag}{B:Bs}{F H:Hp}{f:SD}{Z:St}(cap)(k)(r:RS K B F H f Z):RS K B F H (capO cap k f) (Wt cap Z):=by
 unfold L2.DL.capO
 split
 .rename_i j c
  split
  .rename_i d u;let(-l,v,x,y,E,_):=r.own u;let G:(Wt cap Z)[k]?=! ! .ref l:=by
    unfold Wt;rw[Zv];cases n:cap[k]? with
    |none=>rw[n]at c;calc J7 c
    |some o=>
     rw[n]at c;let c:o=!j:=c;subst c;show some (Option.bind (!j) λj=>(Z[j]?).join)=_;rw[Option.bind_some,v];rfl
   let s:=(r.cap cap).setOwn (i:=k) (d:=d) (l:=l) x y E λi p e q=>by
    let(I,z):=pY q;cases z
   rw[AM G]at s;exact s
  .exact r.cap cap
 .exact r.cap cap
def YW(cap:List (Option 5))(k:5)(d:FA)(b:Tg)(f:FE):FE:=λa=>(d a).bind λc=>if KN (capO cap k a) b=6/\c.length<sizeLine then(yM (λx=>(JW b x<|capO cap k a).bind f) c).bind λe=>.ok<|.lst e else .no
def lN{K:W.Frag}         (o:uL K E (YW cap c O t f) Z H Q):Xt cap (k8 K E O) (gT t K) (tD K E f) Z H Q:=by
 let(B F p,r,n):=o;refine ji B F p (r,(Res.need_bind n).mono (λb s J M P m wk=>?_) λ_ _ q=>q)
 split at s
 .rename_i o;let(R,hz):=o;refine(λi k u Z e=>k=b.length-i/\i<=b.length/\∃a g,Ext M P a e/\RS K B a e (capO cap c p) Z/\je K a g u/\g.length=i/\
   (yM (λx=>(JW t x<|capO cap c p).bind f)<|b.drop i).need (λw=>yG K a e Q<|.lst<|g++w) (XW K E a e),(b.length,9,Uc _,M,[],.refl m.fh,(r.step m).capO cap c,.nil,9,?_),?_)
  .exact(Res.need_bind s).mono (λw q=>(q).ext m) λ_ _ q=>q.ext m
  rintro i k u Z2 e ⟨rfl,hi,a,g,z,A,C,hl,G⟩;let ly:=C.length;calc((),?_);let(S,T):=wk i a e z.ff z.fh;by_cases j:i<b.length
  .let(go,U):=S j;calc .inr (go,λx X y=>?_);let(d Y,hd,h,i3):=U x X y;let n3:=HU hd G;calc X2 (A.step h) i3 (Res.need_bind n3) λI Z' n4 hb N=>?_;let(b1,b2):=BO R hb;calc ji B Y I (N,n4.mono (λy n5 v F4 H4 l i4=>(b.length-(i+1),(),9,j,F4,g++[y],(z.trans h).trans l,(N.step l).forget b1 b2,(je.same (h.ff.trans l.ff) _ _ C).snoc i4,(),n5.mono (λw q=>?_) λ_ _ q=>q.ext<|h.trans l)) λ_ _ q=>q.ext h);rw[Ug];exact q.ext<|h.trans l
  .let he:i=b.length:=()
   subst he;calc .inl (T<|Zf _,λD L=>?_);rw[UT]at G;let q:yG K a e Q (.lst<|g++[]):=G;rw[ZA]at q;exact q D a _ (.keep A.ext.fh L _) L (Qa A.ext.fh L) (u,JL,C)
 .exact s.elim
def au(N)(cap)(c)(g:X.N.Nodup)(i:X.N[w]?=!y)(j:zr X.env.scope y)(z:X.calm=6)(l:Kg a X.env N X.N cap=6)(A:QI X E n b B)
 (F:∀o C s H p,QG (JM X a N o C s H p) n t)(G:∀o C s H p,QE (JM X a N o C s H p) E d f)(r:swapsWith (.ListComp d [(n,b,[],0)] a u) (! .Name y I) e.line X.env=pure 6:=by rfl)
 (v:X.fn y=6\/X.env.scope.names.lookup y=!.local:=by trivial)(J:∀x,foldedSetIterable b X.env x=pure x:=by intro _;rfl):
 QS X E m (.Assign [.Name y I] (.ListComp d [(n,b,[],0)] a u) e) (jE w<|YW cap c B t f):=
 PS.weak (IA r g i j v N cap z l A F G J) λT Z H h=>IC (λ_ _ _ q=>lN q) h
@[simp]def br(cap)(k)(c)(b)(f)(a):YW cap k c b f a=(c a).bind λd=>if KN (capO cap k a) b=6/\d.length<sizeLine then(qz b f (capO cap k a) d).bind λe=>.ok<|.lst e else .no:=rfl
structure Ev where
 P:Program
 w:World
 K:W.Frag
 mg:Yd
 base:Heap
 C:5->Addr
 t:5->Tok
abbrev Ca(e:Ev):=wD e.P e.w e.K e.mg e.base
abbrev zM(e:Ev):=wL e.P e.w e.K e.mg e.base
def uT(K:W.Frag)(T:5->Stmt):List (Str×5)->4
 |[]=>True
 |p::r=>vT K p.1 (T p.2)/\uT K T r
def Nn(K:W.Frag):Yi->4
 |[]=>True
 |x::r=>W.nsIn K mainGlobals x=!8/\Nn K r
def dfs_cons{K:W.Frag}    (h:vT K x (T i))(q:uT K T r):uT K T (%[x|i]::r):=(h,q)
def nn_cons{K:W.Frag}  (h:W.nsIn K mainGlobals x=!8)(q:Nn K r):Nn K (x::r):=(h,q)
theorem EM{K:W.Frag} :∀{l:List (Str×5)}{j:5}{p:Str×5},uT K T l->l[j]?=!p->vT K p.1 (T p.2)
 |[],j,p,_,h=>by simp at h
 |q::r,0,p,d,h=>by
  obtain rfl:=by simpa using h
  calc d.1
 |q::r,j+1,p,d,h=>EM d.2 (by simpa using h)
theorem M0{K:W.Frag}  (X:K.In h)(G:h.Ns mainGlobals a):∀{l:Yi},Nn K l->∀x∈l,a x=8
 |[],_,x,q=>by simp at q
 |y::r,d,x,q=>by
  rcases U4.mp q with z|z
  .rw[z];exact W.mg_none_of X G d.1
  .exact M0 X G d.2 x z
abbrev dM(mg:Yd)(bl:Yi):4:=∀x∈bl,mg x=8
def JG   (m:dM a bl)(h:x∈bl:=by decide):a x=8:=m x h
structure Al(e:Ev)(T:5->Stmt)(tbl:List (Str×5))(bl:Yi):4 where
 h:∃h,e.K.In h/\h.Ns mainGlobals e.mg
 d:uT e.K T tbl
 m:dM e.mg bl
section
variable {e:Ev}{T:Nat->Stmt}{tbl:List (Str×Nat)}{bl:Yi}{x:Str}{k:Nat}{ps:Yi}{sp:Sp}
abbrev M3(x:Str)(st:Stmt)(ps:Yi):4:=∀(kV doc pm:Value)(an:Option Addr)(cdv ct:Value)(us:Ye),us.length=ps.length->bindArgs (W.fnOf x x (Xr st) (QP st) (JP st) .none kV doc pm an cdv ct) (us,[])=pure (ps.zip us)
def xL(a:Al e T tbl bl)(j i:5)(ok:∀{f:Addr}{b:FuncData},Fun e.K x x (T i) f b->FnOk e.P e.w e.K e.mg e.base yo k f b ps sp)(h:tbl[j]?=!%[x|i]:=by rfl)
 (c:M3 x (T i) ps:=by intro _ _ _ _ _ _;first|calc nL λ_ _=>9|calc tO λ_ _ _=>9|calc tP λ_=>9|calc nK λ_ _ _ _=>9|calc aH λ_ _ _ _ _=>9|calc d λ_ _ _ _ _ _=>9):Ca e x k ps sp:=by
 let(_,X,G):=a.h;exact(EM a.d h).callee X G ok c
def yt(a:Al e T tbl bl)(j i:5)(ok:∀{f:Addr}{b:FuncData},Fun e.K x x (T i) f b->FnOk e.P e.w e.K e.mg e.base (xR e.P e.w) k f b ps sp)(h:tbl[j]?=!%[x|i]:=by rfl)
 (c:autoParam (M3 x (T i) ps) xL._auto_2):zM e x k ps sp:=by
 let(_,X,G):=a.h;exact(EM a.d h).calleeX X G ok c
end
def j9{X:Cx}(h:X.N.Nodup:=by dsimp only[JM,qp,Cx.nox];decide+kernel):X.N.Nodup:=h
def qv  (i:5)  (b:X.N[i]?=!x:=by rfl)(c:autoParam (tm X.env.scope x) pv._auto_2)(e:(x==("__debug__":Str))=7:=by decide)(a:(x==("__classdict__":Str))=7:=by decide):QE X E (.Name x f) (ja i):=PE.weak (pv i b c e a) λZ H Q g=>by
 let(B F l,r,n):=g;unfold ja at n
 split at n
 .rename_i d q;let(v,h,j):=r.val q;exact(v,h,n v F H (.refl r.ext.fh) j)
 .exact n.elim
inductive Wr(α:Type)where
 |ok(a:α)|ex(c:Str)(fs:YC)|no|new(hp:HP)(k:Addr->Wr α)
noncomputable def Wr.bind{α β:Type}:Wr α->(α->Wr β)->Wr β
 |.ok a,g=>g a
 |.ex c fs,_=>.ex c fs
 |.no,_=>.no
 |.new e k,g=>.new e λa=>(k a).bind g
def Wr.need{α:Type}:Wr α->(α->4)->(Str->YC->4)->4
 |.ok a,p,_=>p a
 |.ex c fs,_,q=>q c fs
 |.no,_,_=>False
 |.new e k,p,q=>∀a,jc e a=8->(k a).need p q
def Wr.of{α:Type}:Res α->Wr α
 |.ok a=>.ok a
 |.ex c fs=>.ex c fs
 |.no=>.no
@[simp]theorem Wr.bind_ok (a:α)(g:α->Wr β):(Wr.ok a).bind g=g a:=rfl
@[simp]def Wr.bind_ex (c:Str)(fs:YC)(g:α->Wr β):(Wr.ex c fs:Wr α).bind g=.ex c fs:=rfl
@[simp]def bL (a:α):Wr.of (Res.ok a)=.ok a:=rfl
@[simp]def bM (c:Str)(fs:YC):Wr.of (Res.ex c fs:Res α)=.ex c fs:=rfl
theorem Wr.need_bind   {g:α->Wr β}:∀{r:Wr α},(r.bind g).need p q↔r.need (λa=>(g a).need p q) q
 |.ok _=>.rfl
 |.ex _ _=>.rfl
 |.no=>.rfl
 |.new _ k=>forall_congr' λa=>imp_congr .rfl<|Wr.need_bind
theorem Wr.need.mono {p e:α->4} (f:∀a,p a->e a)(i:∀c fs,q c fs->j c fs):∀{r:Wr α},r.need p q->r.need e j
 |.ok _,h=>f _ h
 |.ex _ _,h=>i _ _ h
 |.no,h=>h
 |.new _ k,h=>λa z=>Wr.need.mono f i<|h a z
def qs    :(Wr.of r).need p q↔r.need p q:=by cases r<;>exact .rfl
def qf   {g:α->Wr β}{r:Wr α}(h:(r.bind g).need p q) (k:∀a,(g a).need p q->c a):r.need c q:=(Wr.need_bind.mp h).mono k λ_ _ z=>z
def y0   {g:α->Wr β} (h:((Wr.of r).bind g).need p q) (k:∀a,(g a).need p q->e a)(f:∀c fs,q c fs->i c fs):r.need e i:=(qs.mp<|Wr.need_bind.mp h).mono k f
def dr(e:HP):5->D->D
 |0,d=>d
 |n+1,.adr a=>match jc e a with
  |some d=>dr e n d
  |none=>.adr a
 |n+1,.lst b=>.lst (b.map<|dr e n)
 |n+1,.tup b=>.tup (b.map<|dr e n)
 |n+1,.dct f b=>.dct f (b.map<|dr e n)
 |n+1,.ins c fs b=>.ins c fs (b.map<|dr e n)
 |_+1,d=>d
def drI(n:5)(b:HP):Yh->SD->SD
 |[],a=>a
 |i::is,a=>drI n b is (match a[i]? with
  |some (~~~d)=>a.set i (~~~dr b n d)
  |_=>a)
section
variable {K:W.Frag}{B B':Bs}{F H F' H':Hp}{sd:SD}{hp hp':HP}{Z: St}
theorem je.mapOf (h:∀d v,jh K F d v->jh K F (g d) v):∀{c:YC}{e:YB},je K F c e->je K F (c.map g) e
 |[],_,i=>i
 |d::c,e,i=>by
  let(x r,f,j,l):=jo.mp i;exact jo.mpr<|jI x r (f,h d x j,je.mapOf h l)
theorem jh.dr(l:∀a d,jc hp a=!d->jh K F d (.ref a)):∀(n:5)(d:D)(v:V),jh K F d v->jh K F (dr hp n d) v
 |0,_,_,h=>h
 |n+1,.adr a,v,h=>by
  obtain rfl:=j5.mp h;unfold L2.DL.dr
  split
  .rename_i d q;exact jh.dr l n d _<|l a d q
  .calc h
 |n+1,.lst o,v,h=>by
  let(a e,f,i,j):=jl.mp h;calc jl.mpr (a,e,f,i,je.mapOf (jh.dr l n) j)
 |n+1,.tup o,v,h=>by
  let(a e,f,i,j):=jy.mp h;calc jy.mpr (a,e,f,i,je.mapOf (jh.dr l n) j)
 |n+1,.dct u o,v,h=>by
  let(a e,f,i,p,j):=qh.mp h;calc qh.mpr<|jI a e (f,i,p,je.mapOf (jh.dr l n) j)
 |n+1,.ins c fs o,v,h=>by
  let(a C r e,f,s,i,p,j):=qg.mp h;calc qg.mpr<|qb a C r e (f,s,i,p,je.mapOf (jh.dr l n) j)
 |_+1,.non,_,h=>h
 |_+1,.bl _,_,h=>h
 |_+1,.int _,_,h=>h
 |_+1,.str _,_,h=>h
 |_+1,.ty _,_,h=>h
 |_+1,.scr _,_,h=>h
 |_+1,.exc _,_,h=>h
 |_+1,.exr _ _,_,h=>h
 |_+1,.ucl _,_,h=>h
 |_+1,.dcf _ _,_,h=>h
 |_+1,.pin _ _,_,h=>h
theorem RS.drI(e:∀a d,jc hp a=!d->jh K F d (.ref a))(n:5):∀(c:Yh){sd:SD},RS K B F H sd Z->RS K B F H (drI n hp c sd) Z
 |[],sd,r=>r
 |i::c,sd,r=>by
  unfold L2.DL.drI
  split
  .rename_i d h;exact RS.drI e n c<|r.reval h λv q=>jh.dr e n d v q
  .exact RS.drI e n c r
noncomputable def AS:5->D->Bool
 |n+1,.tup a=>a.all (AS n)
 |_,d=>Uk d
theorem x1 (h:∀d v,g d=6->jh K F d v->jh K F' d v):∀{c:YC}{e:YB},c.all g=6->je K F c e->je K F' c e
 |[],_,_,i=>i
 |d::c,e,s,i=>by
  let(x r,f,j,l):=jo.mp i;rw[U0,Ui]at s;exact jo.mpr (x,r,f,h d x s.1 j,x1 h s.2 l)
theorem zI(e:∀a c,F a=! .tup c->F' a=! .tup c):∀(n:5)(d:D)(v:V),AS n d=6->jh K F d v->jh K F' d v
 |0,d,v,s,h=>h.scal (by cases d<;>calc s)
 |n+1,d,v,s,h=>by
  cases d with
  |tup l=>
   let(a c,f,i,j):=jy.mp h;calc jy.mpr (a,c,f,.of<|e a c i,x1 (zI e n) s j)
  |_=>exact h.scal s
def yR.noTup   (h:yR K F H a d)(e:H a=Option.some o)(i:YB):o ≠ .tup i:=λz=>by
 cases d with
 |lst f=>let(_,q,_):=h;simp_all
 |dct j f=>let(_,q,_):=h;simp_all
 |ins c fs f=>let(_ _ _,_,q,_):=h;simp_all
 |_=>exact h
def RT.frzA(t:RT K B B' F H sd hp Z):jk F (xc F B'.H0 hp)/\RS K B (xc F B'.H0 hp) H sd Z/\∀a d,jc hp a=!d->jh K (xc F B'.H0 hp) d (.ref a):=by
 let y:∀b d,jc hp b=!d->xc F B'.H0 hp b=B'.H0 b:=λb d e=>by unfold xc;rw[e]
 let n:∀b,jc hp b=8->xc F B'.H0 hp b=F b:=λb e=>by unfold xc;rw[e]
 let f:jk F (xc F B'.H0 hp):=λb u e=>by
  cases q:jc hp b with
  |none=>simp_all
  |some d=>rw[t.free q]at e;exact J7 e
 refine(f,((?_,λb u e=>?_,t.sub.trans t.rs.ext.hh,λb L j=>?_),t.rs.len,λq=>let(v,j,h2):=t.rs.val q;(v,j,jh.same f _ _ h2),λ{i p e}q=>?_,t.rs.apart),λb e r=>?_)
 .rw[<-t.f0];exact t.rs.ext.ff.trans f
 .cases q:jc hp b with
  |none=>rw[n b q]at e;calc t.rs.ext.fh _ _ e
  |some d=>rw[y b d q]at e;exact t.rs.ext.hh _ _ e
 .cases q:jc hp b with
  |none=>rw[n b q];calc t.rs.ext.new b (by rwa[t.f0])<|by rwa[t.out b q]
  |some d=>exact Zn (t.obj b d q).2.1 j
 .let(-l,E,s,O,G,I):=t.rs.own q;let Q:jc hp l=8:=by
   cases z:jc hp l with
   |none=>rfl
   |some R=>exact Zn 9<|t.no_own z s
  exact(l,E,Qa t.sub s,(),G.ext f λ_ q=>q,λz=>by rw[<-t.pa];calc I z)
 .let(!S,T,x):=t.obj b e r;let(o,J):=x.has;calc jh.same (λc u q=>?_) _ _<|x.frz J<|t.free r;by_cases z:c=b
  .simp_all[JL]
  .rw[JI z]at q;exact f _ _ q
def RT.thaw(t:RT K B B' F H sd hp Z) (e:Ext (xc F B'.H0 hp) H c j):RT K B B' (q0 c hp) j sd hp Z/\jk F (q0 c hp)/\∀a f,c a=! .tup f->q0 c hp a=! .tup f:=by
 let(!p,u,l):=t.frzA;let i:jk F (q0 c hp):=λa o q=>by
  cases z:jc hp a with
  |none=>rw[Q1 z];calc e.ff _ _<|p _ _ q
  |some d=>rw[t.free z]at q;exact J7 q
 let r:Ext F H (q0 c hp) j:=(i,λa o q=>by
  cases z:jc hp a with
  |none=>rw[Q1 z]at q;calc e.fh _ _ q
  |some d=>rw[XA z]at q;calc J7 q,e.hh,λa v s=>by
  cases z:jc hp a with
  |none=>rw[Q1 z];calc e.new a (by simp_all[xc]) s
  |some d=>calc XA z)
 calc(t.go i<|t.rs.step r,i,λa f q=>?_);cases z:jc hp a with
 |none=>rwa[Q1 z]
 |some d=>
  have(_,_,n):=t.obj a d z;have(o,l):=n.has;let x:=e.ff a o (by simp_all[xc]);exact Zn ()<|n.noTup l f
def RT.newO(t:RT K B B' F H sd hp Z)   (f:H a=8)(h:yR K F (jD H a o) a d):jc hp a=8/\RT K B (B'.F0,jD B'.H0 a o,B'.pa) F (jD H a o) sd (%[a|d]::hp) Z:=by
 let j:jc hp a=8:=by
  cases z:jc hp a with
  |none=>rfl
  |some T=>
   let(u,s):=(t.lies z).has
   simp_all
 let n:=Qa t.rs.ext.fh f;let U:=Qa t.rs.ext.hh f;let v:B.H0 a=8:=by rwa[<-t.out a j]
 refine(j,((t.rs.ext.ff,Bv o t.rs.ext.fh n,λb u e=>?_,λb x E=>?_),t.rs.len,t.rs.val,λ{i p e}q=>?_,t.rs.apart),t.f0,t.pa,λb c=>?_,λb e c=>?_)
 .let e:jD B'.H0 a o b=!u:=e;by_cases z:b=a
  .simp_all[JL]
  .rw[JI z]at e ⊢;exact t.rs.ext.hh _ _ e
 .by_cases z:b=a
  .rwa[z]
  .exact t.rs.ext.new b x λy=>E<|by show jD B'.H0 a o b=8;rwa[JI z]
 .let(-l,G,I,J,r,L):=t.rs.own q;let ne:l≠a:=λz=>by
   let(u,s):=r.has
   simp_all
  exact(l,G,(JI ne).trans I,J,r.ext (.refl _)<|λu O=>by rwa[JI ne],λz=>(L z).mono λu O=>by rwa[JI ne])
 .rw[JR]at c;by_cases z:b=a
  .simp_all
  .rw[Ze z]at c;show jD B'.H0 a o b=B.H0 b;rw[JI z];exact t.out b c
 .rw[JR]at c;by_cases z:b=a
  .rw[Zd z]at c;obtain rfl:=Zqi c;subst z;exact(by rw[<-t.f0];calc Qa t.rs.ext.ff n,v,h.ext (.refl _) λu q=>by simp_all[JL])
  .rw[Ze z]at c;let(!Q,R,S):=t.obj b e c;exact(Q,R,S.ext (.refl _) λu q=>by show jD B'.H0 a o b=!u;rwa[JI z])
structure ExtV(K:W.Frag)(F H:Hp)(hp:HP)(F' H':Hp)(hp':HP):4 where
 ff:jk F F'
 fh:jk F' H'
 hh:∀a o,jc hp a=8->H a=!o->H' a=!o
 new:∀a,F a=8->H a≠8->F' a=8
 len:wy K F' H' hp'
 dom:∀a,jc hp' a=8->jc hp a=8
 frs:∀a,jc hp a=8->jc hp' a≠8->H a=8
def RT.callV(t:RT K B B' F H sd hp Z)(w:ExtV K F H hp F' H' hp'):∃G,RT K B G F' H' sd hp' Z:=by
 let U:∀a,(match jc hp' a with
  |none=>B'.H0 a
  |some _=>H' a)=if jc hp' a=8 then B'.H0 a else H' a:=λa=>by grind
 refine((B'.F0,λa=>match jc hp' a with
  |none=>B'.H0 a
  |some _=>H' a,B'.pa),((t.rs.ext.ff.trans w.ff,w.fh,λa o e=>?_,λa I c=>?_),t.rs.len,λq=>let(v,J,h2):=t.rs.val q;(v,J,jh.same w.ff _ _ h2),λ{i p e}q=>?_,t.rs.apart),t.f0,t.pa,λa f=>?_,λa d f=>?_)
 .let e:(match jc hp' a with
   |none=>B'.H0 a
   |some _=>H' a)=!o:=e
  cases z:jc hp' a with
  |none=>rw[z]at e;calc w.hh a o (w.dom a z)<|t.rs.ext.hh _ _ e
  |some d=>simp_all
 .let c:(match jc hp' a with
   |none=>B'.H0 a
   |some _=>H' a)≠8:=c
  cases z:jc hp' a with
  |none=>
   rw[z]at c;calc w.new a (t.rs.ext.new a I c) λy=>c<|Qa t.rs.ext.hh y
  |some d=>exact(w.len a d z).1
 .have(l,L,O,Q,r,R):=t.rs.own q;let n:jc hp l=8:=by
   cases z:jc hp l with
   |none=>rfl
   |some S=>exact Zn 9<|t.no_own z O
  have(o,s):=r.has;let T:jc hp' l=8:=by
   cases z:jc hp' l with
   |none=>rfl
   |some S=>
    let:=w.frs l n (by rw[z];simp);rw[s]at this;exact J7 this.symm
  refine(l,L,?_,w.new l Q<|by rw[s];simp,r.ext w.ff λu q=>w.hh _ _ n q,λz=>(R z).mono λu q=>w.hh _ _ n q)
  simp_all
 .show(match jc hp' a with
   |none=>B'.H0 a
   |some _=>H' a)=B.H0 a
  rw[f];exact t.out a<|w.dom a f
 .let j:B.F0 a=8/\B.H0 a=8:=by
   cases z:jc hp a with
   |none=>
    let x:=w.frs a z (by rw[f];simp);calc(by rw[<-t.f0];calc Qa t.rs.ext.ff<|Qa t.rs.ext.fh x,by rw[<-t.out a z];calc Qa t.rs.ext.hh x)
   |some E=>exact((t.obj a E z).1,(t.obj a E z).2.1)
  refine(j.1,j.2,(w.len a d f).2.ext (.refl _) λo q=>?_)
  simp_all
end
abbrev FV:=SD->HP->Wr (D×HP)
abbrev wK:=SD->HP->Wr (YC×HP)
abbrev uS:=SD->HP->Wr (Bool×HP)
def n8(K:W.Frag)(B:Bs)(F:Hp)(c:SD)(Z:St)(Q:VK)(p:D×HP):4:=∀v d a b,jk F a->RT K B d a b c p.2 Z->jh K a p.1 v->Q v b
def ms(K:W.Frag)(E:XK)(f:FV):TE:=λZ H Q=>∃B c F a b,RT K B c F H a b Z/\(f a b).need (n8 K B F a Z Q) (XW K E B.F0 B.H0)
abbrev QV(X:Cx)(E:XK)(e:Expr)(f:FV):4:=PE X e<|ms X.K E f
def ra(K:W.Frag)(E:XK)(f:wK):TA:=λZ H Q=>∃B g F a c,RT K B g F H a c Z/\(f a c).need (λp=>∀d h b e,jk F b->RT K B h b e a p.2 Z->je K b p.1 d->Q d e) (XW K E B.F0 B.H0)
abbrev u9(X:Cx)(E:XK)(es:List Expr)(f:wK):4:=PA X es<|ra X.K E f
def nZ(K:W.Frag)(E:XK)(f:uS):TT:=λZ H Q=>∃B e F a b,RT K B e F H a b Z/\(f a b).need (λp=>∀g c d,jk F c->RT K B g c d a p.2 Z->Q p.1 d) (XW K E B.F0 B.H0)
abbrev tq(X:Cx)(E:XK)(e:Expr)(f:uS):4:=PT X e<|nZ X.K E f
section
variable    {a b e o i:Expr}  {fe fa fb fo fi:FE}   {fr:wK}
def vL(f:FE):FV:=λc g=>(Wr.of<|f c).bind λd=>.ok %[d|g]
def JH(h:QE X E e fe):QV X E e (vL fe):=PE.weak h λZ H Q=>qV λB f F g r=>jF λt n=>ji f F g (t.rs,y0 n (λd j v l m c p=>j v f l m c.ff (t.go c.ff<|t.rs.step c) p) λ_ _ q=>q.ext<|t.ext0 t.rs.ext)
def zt(f:FT):uS:=λc g=>(Wr.of<|f c).bind λd=>.ok %[d|g]
def YX(h:QT X E e g):tq X E e (zt g):=PT.weak h λZ H Q=>qV λB f F j r=>jF λt n=>ji f F j (t.rs,y0 n (λd l m p c=>l f m p c.ff<|t.go c.ff<|t.rs.step c) λ_ _ q=>q.ext<|t.ext0 t.rs.ext)
def xt(k:5)(g:Yh)(f:FT):uS:=λh c=>(Wr.of (f<|drI k c g h).strict).bind λd=>.ok %[d|c]
def XC(k:5)(f:Yh)(h:QT X E e g):tq X E e (xt k f g):=PT.weak h λZ H Q j=>by
 let(B l F v w,t,n):=j;calc ji B _ _ (t.frzA.2.1.drI t.frzA.2.2 k f,(jQ<|qs.mp<|Wr.need_bind.mp n).mono (λd m x p r=>?_) λc fs q=>q);let(!s,u,y):=t.thaw r;exact m l _ p u s
def wd(o:D)(q:D×HP):Wr (D×HP):=match o with
 |.adr a=>match jc q.2 a with
  |some (.lst c)=>(Wr.of<|.ofO<|jJ (.lst c) q.1).bind λz=>.ok %[z|q.2]
  |_=>.no
 |_=>.no
def mo(fo fi:FV):FV:=λc d=>(fo c d).bind λp=>(fi c p.2).bind<|wd p.1
def kP(l:QV X E o m)(r:QV X E i s)(u:Xo i):QV X E (.Subscript o i A) (mo m s):=PE.weak (XS uW l r u) λZ H Q C=>by
 let(B G F f I,t,n):=C;calc j0 B G F f I (t,qf n λp J v L M H1 N O g=>j0 B L M f p.2 (O,qf J λq c w P R S T h U=>?_));unfold wd at c
 split at c
 .rename_i a d;rw[d]at g;obtain rfl:=j5.mp g
  split at c
  .rename_i es Y;have(xs,g1,g2):=h.lies Y;have(z,j,k):=jj (qs.mp<|Wr.need_bind.mp c);let(y,hp2):=q;cases y with
   |int k'=>
    have(x,hx,ix):=YH g2 j;calc qb a xs k' x (9,jg.mp U,xo.of g1,hx,k _ P R S (N.trans T) h ix)
   |_=>exact J7 j
  .exact c.elim
 .exact c.elim
def qi:wK:=λ_ c=>.ok %[[]|c]
def JB(f:FV)(g:wK):wK:=λc d=>(f c d).bind λp=>(g c p.2).bind λq=>.ok %[p.1::q.1|q.2]
def K9:u9 X E [] qi:=PA.weak VZ λZ H Q=>qV λB c F d f=>jF λt n=>n [] c F H (.refl _) t .nil
def JN(g:QV X E e h)(j:u9 X E c fr)(l:starEach (e::c) X.env=%[7|eval e X.env]::starEach c X.env:=by rfl):u9 X E (e::c) (JB h fr):=PA.weak (Wa g j l) λZ H Q=>qV λB m F d r=>jF λt n=>j0 B m F d r (t,qf n λp s v u w N x y z=>j0 B u w d p.2 (y,qf s λq A C G I J f L M=>A (v::C) G I J (x.trans f) L<|.mk (jh.same f _ _ z) M))
def ug(fr:wK):FV:=λc d=>(fr c d).bind λp=>if p.1.length<=1000 then .new p.2 λa=>.ok %[.adr a|%[a|.lst p.1]::p.2]else .no
def dS(h:u9 X E g fr):QV X E (.List g j) (ug fr):=PE.weak (Dq h) λZ H Q l=>by
 let(B m F r s,t,n):=l;refine j0 B m F r s (t,qf n λp c u C v G w x f=>?_)
 split at c
 .let I:=f.length;calc(Qt (),λq y=>?_);let(z,A):=x.newO (d:=.lst p.1) y (u,JL,f);exact c q z _ _ v _ w A<|j5.mpr 9
 .exact c.elim
def wH(K:W.Frag)(h:YC->HP->Wr (D×HP)):Sp:=λj H Q _=>∃F d c,jk F H/\je K F d j/\wy K F H c/\(h d c).need (λp=>∀v f g,ExtV K F H c f g p.2->jh K f p.1 v->Q v g) (XW K E0 F<|q0 H c)
def Qo(c:YC->HP->Wr (D×HP))(fr:wK):FV:=λd f=>(fr d f).bind λp=>c p.1 p.2
def Xa     (c:wD X.prog X.w X.K X.mg X.base d k T (wH X.K m))(r:Room k X.A)(s:Gl X d)(u:u9 X E0 (e::f) fr)
 (h:(d==("__debug__":Str))=7:=by decide)(x:starEach (e::f) X.env=%[7|eval e X.env]::starEach f X.env:=by rfl)(j:(backTo l<|starEach f X.env).any (·.1)=7:=by rfl):
 QV X E0 (.Call (.Name d p) (e::f) [] l) (Qo m fr):=PE.weak (XV c r s u h x j) λZ H Q y=>by
 let(B z F A C,t,n):=y;calc j0 B z F A C (t,qf n λp E G U I J L g M=>?_);show wH X.K m (G++[]) J Q E0;rw[ZA];calc ji I p.1 p.2 (g.rs.ext.fh,M,g.lent,E.mono (λq N v O P w i=>?_) λ_ _ q=>q.ext g.hidden);let(R,S):=g.callV w;exact N v R O P (L.trans w.ff) S i
end
inductive Out3 where
 |next(sd:SD)(hp:HP)|ret(d:D)(hp:HP)|brk(sd:SD)(hp:HP)|cont(sd:SD)(hp:HP)
def uH(K:W.Frag)(B:Bs)(F:Hp)(T:Ends):Out3->4
 |.next c e=>∀Z f a b,jk F a->RT K B f a b c e Z->T.nx Z b
 |.brk c e=>∀Z f a b,jk F a->RT K B f a b c e Z->T.bk Z b
 |.cont c e=>∀Z f a b,jk F a->RT K B f a b c e Z->T.ct Z b
 |.ret d e=>∀v Z c f a b,jk F a->RT K B f a b c e Z->jh K a d v->T.rt v b
def uH.mono{K:W.Frag}    (h:uH K B F T o)(e:jk F p):uH K B p T o:=by
 cases o with
 |next l n=>calc λZ c f j s r=>h Z c f j (e.trans s) r
 |brk l n=>calc λZ c f j s r=>h Z c f j (e.trans s) r
 |cont l n=>calc λZ c f j s r=>h Z c f j (e.trans s) r
 |ret d n=>exact λv Z l c f j s r i=>h v Z l c f j (e.trans s) r i
abbrev qQ:=SD->HP->Wr Out3
def nO(K:W.Frag)(E:XK)(g:qQ):TS:=λT Z H=>∃B c F a b,RT K B c F H a b Z/\(g a b).need (uH K B F T) (XW K E B.F0 B.H0)
abbrev VS(X:Cx)(E:XK)(st:Stmt)(g:qQ):4:=PS X st<|nO X.K E g
abbrev va(X:Cx)(E:XK)(st:List Stmt)(g:qQ):4:=xh X st<|nO X.K E g
def nM(b:HP):Out->Wr Out3
 |.next a=>.ok (.next a b)
 |.ret _=>.no
 |.brk a=>.ok (.brk a b)
 |.cont a=>.ok (.cont a b)
section
variable    {st:Stmt}  {g:FS}{g1 g2:qQ}  {o i e:Expr}
def zL(g:FS):qQ:=λa b=>(Wr.of<|g a).bind<|nM b
def V3(h:QS X E m st g):VS X E st (zL g):=PS.weak h λT Z H=>qV λB j F p u=>jF λt n=>ji j F p (t.rs,y0 n (λo l=>by
 cases o with
 |next a=>calc λb c f s r=>l b j c f s<|t.go s r
 |brk a=>calc λb c f s r=>l b j c f s<|t.go s r
 |cont a=>calc λb c f s r=>l b j c f s<|t.go s r
 |ret d=>calc l.elim) λ_ _ q=>t.xw q)
def QH:qQ:=λa b=>.ok<|.next a b
def zK(g2:qQ):Out3->Wr Out3
 |.next a b=>g2 a b
 |o=>.ok o
def jr(g1 g2:qQ):qQ:=λa b=>(g1 a b).bind<|zK g2
def Wm:va X E [] QH:=xh.weak ZQ λT Z H=>qV λB a F b c=>jF λt n=>n Z a F H (.refl _) t
def Qm(h:VS X E st g1):va X E [st] g1:=Bm h
def JZ(h:VS X E st g1)(j:va X E f g2):va X E (st::f) (jr g1 g2):=xh.weak (XO h j) λT Z H l=>by
 let(B m F p r,t,n):=l;calc j0 B m F p r (t,qf n λo c=>?_);cases o with
 |next b a=>calc λx u v y s w=>j0 B u v b a (w,c.mono (λo q=>q.mono s) λ_ _ q=>q)
 |ret d a=>calc c
 |brk b a=>calc c
 |cont b a=>exact c
def jW(f:FV):qQ:=λa b=>(f a b).bind λp=>.ok<|.ret p.1 p.2
def Kc(h:QV X E e b):VS X E (.Return (!e) c) (jW b):=PS.weak (ZR h) λT Z H=>qV λB d F a f=>jF λt n=>j0 B d F a f (t,qf n λp j v l m q r s u=>j v Z a l m q r s u)
def qL(i:5)(f:FV):qQ:=λa b=>(f a b).bind λp=>.ok<|.next (a.set i<|~~~p.1) p.2
def YY{i:5}  (c:X.N.Nodup)(d:X.N[i]?=!x)(f:zr X.env.scope x)(h:QV X E e j)(l:swapsWith e (! .Name x a) m.line X.env=pure 7:=by rfl)(q:X.fn x=6\/X.env.scope.names.lookup x=!.local:=by trivial):
 VS X E (.Assign [.Name x a] e m) (qL i j):=PS.weak (XQ c d f h l q) λT Z H=>qV λB r F s u=>jF λt n=>j0 B r F s u (t,qf n λp w v y z A C b G=>w _ y z A C<|b.go (.refl _)<|b.rs.setVal G)
def Qg(c:uS)(g1 g2:qQ):qQ:=λa b=>(c a b).bind λp=>if p.1 then g1 a p.2 else g2 a p.2
def KQ   (s:tq X E c u)(v:va X E a g1)(w:va X E b g2):VS X E (.If c a b x) (Qg u g1 g2):=PS.weak (Bn s v w) λT Z H y=>by
 let(B z F f A,t,n):=y;calc j0 B z F f A (t,qf n λp h j l C m r=>?_);let(b,d):=p;cases b with
 |true=>calc j0 B j l f d (r,(h).mono (λ_ q=>q.mono m) λ_ _ q=>q)
 |false=>exact j0 B j l f d (r,(h).mono (λ_ q=>q.mono m) λ_ _ q=>q)
def Xb(c:SD)(a:Addr)(q:D×HP):Wr Out3:=match jc q.2 a with
 |some (.lst b)=>if b.length<sizeLine then .ok (.next c<|Q6 q.2 a<|.lst<|b++[q.1])else .no
 |_=>.no
def Xc(c:FV)(b:SD)(p:D×HP):Wr Out3:=match p.1 with
 |.adr a=>match jc p.2 a with
  |some (.lst _)=>(c b p.2).bind (Xb b a)
  |_=>.no
 |_=>.no
def qX(b c:FV):qQ:=λa d=>(b a d).bind<|Xc c a
def YZ (I:QV X E o J)(L:QV X E e M)
 (h:∀{u:TE}{t:TA},PE X o u->PA X [e] t->PE X (.Call (.Attribute o "append" b) [e] [] c) (uu X.K "list" XT u t))
 (N:swapsWith (.Call (.Attribute o "append" b) [e] [] c) 8 j.line X.env=pure 7:=by rfl)
 (l:starEach [e] X.env=%[7|eval e X.env]::starEach [] X.env:=by rfl):VS X E (.Expr (.Call (.Attribute o "append" b) [e] [] c) j) (qX J M):=
 PS.weak (XP (h I<|Wa L VZ l) N) λT Z H O=>by
  let(B P F x h,t,n):=O;calc j0 B P F x h (t,qf n λp d v Q R H1 S y z=>?_);unfold Xc at d
  split at d
  .rename_i a m;rw[m]at z;obtain rfl:=j5.mp z
   split at d
   .rename_i U r;have(s,Y,k2):=y.lies r;calc(.inl (9,s,xo.of Y),B,Q,R,x,p.2,y,qf d λq f w B2 F2 H2 s2 A i2=>?_);unfold Xb at f
    split at f
    .rename_i es C
     split at f
     .have(G,g1,g2):=A.lies C;let hl:=g2.length;exact ji a G w (9,9,g1,(),f Z _ F2 _ (S.trans s2)<|A.chg C (G++[w],JL,g2.snoc i2))
     .exact f.elim
    .exact f.elim
   .exact d.elim
  .exact d.elim
def qA(b:D->qQ):YC->qQ
 |[],f,h=>.ok (.next f h)
 |x::j,f,h=>(b x f h).bind λo=>match o with
  |.next c a=>qA b j c a
  |.cont c a=>qA b j c a
  |.brk c a=>.ok (.next c a)
  |.ret d a=>.ok (.ret d a)
def QY(a:Tg)(b:qQ)(x:D):qQ:=λc d=>(Wr.of<|JW a x c).bind λs=>b s d
def xG(c:FA)(d:Tg)(b:qQ):qQ:=λa f=>(Wr.of<|c a).bind λh=>qA (QY d b) h a f
def Z1    (A:PassesOwn (model X.prog X.w) X.A X.env X.xe)(hc:X.calm=6)(hi:QI X E tg m it)(hg:QG X tg t)(hb:va X E G g1)
 (R:∀x,foldedSetIterable m X.env x=pure x:=by intro _;rfl):VS X E (.For tg m G [] pos) (xG it t g1):=PS.weak (Bp A hc hi hg hb R) λT Z H=>qV λB B' F I A=>jF λr n=>ji B' F I (r.rs,y0 n (λc n1 J S H1 U wk=>by
  refine(λi k Z H=>k=c.length-i/\i<=c.length/\∃O C I A,jk S C/\RT X.K B O C H I A Z/\(qA (QY t g1) (c.drop i) I A).need (uH X.K B C T) (XW X.K E B.F0 B.H0),
   (c.length,9,Uc _,B',S,I,A,.refl _,r.go U.ff<|r.rs.step U,n1.mono (λ_ q=>q.mono U.ff) λ_ _ q=>q),?_)
  rintro i k Z2 H2 ⟨rfl,hi,O,C,sd2,Y,s2,P,L⟩;let(w1,w2):=wk i C H2 s2 P.rs.ext.fh;by_cases f:i<c.length
  .have(go,yl):=w1 f;refine .inr (go,λZ' H'=>∃B3 s h j,jk S s/\RT X.K B B3 s H' h j Z'/\(qA (QY t g1) (c.drop<|i+1) h j).need (uH X.K B s T) (XW X.K E B.F0 B.H0),
    λZ' H'(B3,s,h,j,q1,q2,q3)=>(c.length-(i+1),(),9,f,B3,s,h,j,q1,q2,q3),λx H3 y=>?_)
   let(d s,hd,p,i3):=yl x H3 y;rw[Uj f]at L;let hd':c[i]=d:=by rw[Zqg f]at hd;exact Zqi hd
   rw[hd']at L;let r3:=P.go p.ff<|P.rs.step p;calc X2 r3.rs i3 (qs.mp<|Wr.need_bind.mp<|Wr.need_bind.mp L) λsd' Z' n4 _ r4=>j0 B O s sd' Y (r3.go (.refl _) r4,n4.mono (λo Q=>?_) λ_ _ q=>q);cases o with
   |next a b=>calc λM u w N l z=>(u,w,a,b,(s2.trans p.ff).trans l,z,Q.mono (λ_ q=>q.mono<|p.ff.trans l) λ_ _ q=>q)
   |cont a b=>calc λM u w N l z=>(u,w,a,b,(s2.trans p.ff).trans l,z,Q.mono (λ_ q=>q.mono<|p.ff.trans l) λ_ _ q=>q)
   |brk a b=>calc λM u w N l z=>Q M u w N (p.ff.trans l) z
   |ret d b=>exact λv M a u w N l z i5=>Q v M a u w N (p.ff.trans l) z i5
  .let he:i=c.length:=()
   calc .inl (w2 (),?_);subst he;rw[UT]at L;calc L Z2 O C H2 (.refl _) P) λ_ _ q=>q.ext<|r.ext0 r.rs.ext)
end
def qc:Out3->Wr (D×HP)
 |.ret d a=>.ok %[d|a]
 |.next _ a=>.ok %[.non|a]
 |_=>.no
def xk(n ar:5)(g:qQ)(a:YC)(b:HP):Wr (D×HP):=if a.length=ar then((g (JT n a) b).bind qc).bind λp=>if b.all λz=>(jc p.2 z.1).isSome then .ok p else .no else .no
section
variable   {K:W.Frag}    {st:Stmt}
theorem Cw:∀{b:HP}{a:Addr}{d:D},jc b a=!d->∃z∈b,z.1=a
 |[],a,d,h=>by cases h
 |p::r,a,d,h=>by
  rw[JR]at h;by_cases z:a=p.1
  .exact(p,Zqs,z.symm)
  .rw[Ze z]at h;let(y,c,e):=Cw h;exact(y,Zqm _ c,e)
def wU (F:Fun K x B st f fd)(S:FnScope N U (JP st))
 (hb:∀(r:Value)(A:Around)(c:List Env)(s:Shared)(H:Hp)(E:XK),Room k (A.deeper<|envOfC B (JP st) s.heap.objs.size f r)->va (qp yo P w K mg I N B (JP st) f r A c s H E).nox E0 (QP st) g):
 FnOk P w K mg I yo (k+1) f fd U (wH K<|xk N.length U.length g):=by
 refine F.ok S (λX H Q E=>qy λF Y j=>xm λ_ i _ n=>?_) λr A c s H X Q E hr=>qy λF Y j=>xm λhs i Z n=>(_,hb r A c s H E hr,?_)
 .unfold xk at n
  split at n
  .rw[i.length];assumption
  .exact n.elim
 .unfold xk at n
  split at n
  .let t:RT K (F,q0 H j,λ_=>8) (F,H,λ_=>8) F H (JT N.length Y) j (L2.start N X):=(RS.start hs i,9,9,λa C=>(Q1 C).symm,λa d C=>((Z a d C).1,XA C,(Z a d C).2));let J:∀{d:D}{b:HP}{v:V}{M:St}{h:SD}{O:Bs}{l u:Hp},(Wr.need (if j.all λz=>(jc b z.1).isSome then(.ok %[d|b]:Wr (D×HP))else .no) (λp=>∀v l u,ExtV K F H j l u p.2->jh K l p.1 v->Q v u)<|XW K E0 F<|q0 H j)->
    jk F l->RT K (F,q0 H j,λ_=>8) O l u h b M->jh K l d v->Q v u:=λ{d b v M h O l u}G L m R=>by
    split at G
    .let T:∀a,jc b a=8->jc j a=8:=λa C=>by
      cases z:jc j a with
      |none=>rfl
      |some d0=>
       grind[Cw]
     let e:=m.ext0 m.rs.ext;refine G v l u (L,m.rs.ext.fh,λa o C q=>e.hh a o<|(Q1 C).trans q,λa h0 h1=>?_,m.lent,T,λa z y=>?_) R
     .cases z:jc j a with
      |none=>calc e.new a h0 λy=>h1<|(Q1 z).symm.trans y
      |some d=>
       cases y:jc b a with
       |none=>simp_all
       |some d'=>exact m.free y
     .cases y':jc b a with
      |none=>calc Zn y' y
      |some d'=>
       let:=(m.obj a d' y').2.1
       rwa[<-Q1 (H:=H) z]
    .exact G.elim
   calc j0 _ _ F _ j (t,qf (Wr.need_bind.mp n|>λq=>Wr.need_bind.mpr q|>λq=>Wr.need_bind.mp q) λo G=>?_);cases o with
   |next h b=>calc λM O l u L m=>J G L m<|jB.mpr 9
   |ret d b=>calc λv M h O l u L m R=>J G L m R
   |brk h b=>calc G.elim
   |cont h b=>exact G.elim
  .exact n.elim
def fP   (F:Fun K x l st f O)(S:FnScope N M (JP st))
 (hw:∀h d,B h=.ok d->h.length=M.length/\((g (JT N.length h) []).bind qc).need (λp=>dr p.2 kk p.1=d) λ_ _=>False)(hx:∀h,∀c fs,B h ≠ .ex c fs)
 (R:∀(j:Value)(A:Around)(a:List Env)(s:Shared)(H:Hp)(E:XK),Room k (A.deeper<|envOfC l (JP st) s.heap.objs.size f j)->va (qp yo P w K T r N l (JP st) f j A a s H E).nox E0 (QP st) g):
 FnOk P w K T r yo (k+1) f O M (zD K B):=by
 refine F.ok S (λU H Q E=>j8 λF h=>jC λ_ i n=>?_) λj A a s H U Q E X=>j8 λF h=>jC λY i n=>(_,R j A a s H E X,?_)
 .cases q:B h with
  |ok d=>rw[i.length];calc(hw h d q).1
  |ex c fs=>simp_all
  |no=>rw[q]at n;exact n.elim
 .cases q:B h with
  |ex c fs=>simp_all
  |no=>rw[q]at n;calc n.elim
  |ok d=>
   rw[q]at n;let t:∀{C:D}{b:HP}{v:V}{G:St}{e:SD}{I:Bs}{u y:Hp},dr b kk C=d->RT K (F,H,λ_=>8) I u y e b G->jh K u C v->Q v y:=λ{C b v G e I u y}Z m L=>by
    let:=jh.dr m.frzA.2.2 kk C v<|jh.same m.frzA.1 _ _ L;rw[Z]at this;exact n v _ _ m.frzA.2.1.ext this
   calc j0 _ _ F _ [] (RT.start<|RS.start Y i,(Wr.need_bind.mp (hw h d q).2).mono (λo J=>?_) λ_ _ z=>z.elim);cases o with
   |next e b=>calc λG I u y s1 m=>t J m<|jB.mpr 9
   |ret d b=>calc λv G e I u y s1 m L=>t J m L
   |brk e b=>calc J.elim
   |cont e b=>exact J.elim
end
@[simp]def M4(f:FE)(a:SD)(b:HP):vL f a b=(Wr.of<|f a).bind λd=>.ok %[d|b]:=rfl
@[simp]def sG(f:FT)(a:SD)(b:HP):zt f a b=(Wr.of<|f a).bind λd=>.ok %[d|b]:=rfl
@[simp]def EN(k:5)(b:Yh)(f:FT)(c:SD)(a:HP):xt k b f c a=(Wr.of (f<|drI k a b c).strict).bind λd=>.ok %[d|a]:=rfl
@[simp]def pp(n:5)(b:HP)(a:SD):drI n b [] a=a:=rfl
def dD(n:5)(b:HP)(i:5)(a:SD):Option (Option SV)->SD
 |some (~~~d)=>a.set i (~~~dr b n d)
 |_=>a
@[simp]def p0(n:5)(a:HP)(i:5)(b:SD)(d:D):dD n a i b (!~~~d)=b.set i (~~~dr a n d):=rfl
@[simp]def Xd(n:5)(a:HP)(i:5)(c:Yh)(b:SD):drI n a (i::c) b=drI n a c (dD n a i b b[i]?):=by
 rfl
@[simp]def ck(b c:FV)(a:SD)(d:HP):mo b c a d=(b a d).bind λp=>(c a p.2).bind<|wd p.1:=rfl
def pe   (h:jc q.2 a=! .lst b):wd (.adr a) q=(Wr.of<|.ofO<|jJ (.lst b) q.1).bind λz=>.ok %[z|q.2]:=by
 simp_all[wd]
@[simp]def mJ(b:SD)(a:HP):qi b a=.ok %[[]|a]:=rfl
@[simp]def lx(f:FV)(g:wK)(a:SD)(b:HP):JB f g a b=(f a b).bind λp=>(g a p.2).bind λq=>.ok %[p.1::q.1|q.2]:=rfl
@[simp]def WI(a:YC->HP->Wr (D×HP))(b:wK)(c:SD)(d:HP):Qo a b c d=(b c d).bind λp=>a p.1 p.2:=rfl
@[simp]def d7(g:FS)(a:SD)(b:HP):zL g a b=(Wr.of<|g a).bind (nM b):=rfl
@[simp]def km(a:HP)(b:SD):nM a (.next b)=.ok (.next b a):=rfl
@[simp]def bb(a:SD)(b:HP):QH a b=.ok (.next a b):=rfl
@[simp]def Qb(a b:qQ)(c:SD)(d:HP):jr a b c d=(a c d).bind (zK b):=rfl
@[simp]def pQ(g:qQ)(a:SD)(b:HP):zK g (.next a b)=g a b:=rfl
@[simp]def M5(f:FV)(a:SD)(b:HP):jW f a b=(f a b).bind λp=>.ok<|.ret p.1 p.2:=rfl
@[simp]def Z3(i:5)(f:FV)(a:SD)(b:HP):qL i f a b=(f a b).bind λp=>.ok<|.next (a.set i<|~~~p.1) p.2:=rfl
@[simp]def KG(c:uS)(b d:qQ)(a:SD)(e:HP):Qg c b d a e=(c a e).bind λp=>if p.1 then b a p.2 else d a p.2:=rfl
@[simp]def EO(b c:FV)(a:SD)(d:HP):qX b c a d=(b a d).bind (Xc c a):=rfl
def EQ     (h:jc b a=! .lst e):Xc d c %[.adr a|b]=(d c b).bind (Xb c a):=by
 simp_all[Xc]
def ER     (h:jc b a=! .lst c)(f:c.length<sizeLine):Xb e a %[d|b]=.ok (.next e<|Q6 b a<|.lst<|c++[d]):=by
 simp_all[Xb]
def Xe   (n:5)(h:jc b a=!d):dr b (n+1) (.adr a)=dr b n d:=by
 show(match jc b a with
  |some d=>dr b n d
  |none=>.adr a)=_
 rw[h]
def Cy   (h:jc b a≠8):jc (Q6 b a d) a=!d:=by rw[AK a h,Zd 9]
theorem AT   (h:jc c a≠8)(n:b≠a):jc (Q6 c a d) b=jc c b:=by rw[AK b h,Ze n]
def Xf{n ar:5}     (f:c.length=ar)(h:((g (JT n c) b).bind qc).need (λp=>(∀a,jc b a≠8->jc p.2 a≠8)/\P p) Q):(xk n ar g c b).need P Q:=by
 unfold xk;rw[Zd f];calc Wr.need_bind.mpr<|h.mono (λp e=>?_) λ_ _ q=>q;let:(b.all λz=>(jc p.2 z.1).isSome)=6:=UP.mpr λz i=>by
  let j:jc b z.1≠8:=by
   rw[Ne,uI];exact λy=>y<|Ja.mpr (z,i,9)
  let:=e.1 z.1 j;cases y:jc p.2 z.1 with
  |none=>calc Zn y this
  |some d=>rfl
 rw[Zd this];exact e.2
section
variable {K:W.Frag}
def RT.extV(f:RT K (F,q0 H i,λ_=>8) E l s u c Z')(v:jk F l)(G:(i.all λz=>(jc c z.1).isSome)=6):ExtV K F H i l s c:=by
 let j:∀a,jc c a=8->jc i a=8:=λa n=>by
  cases z:jc i a with
  |none=>rfl
  |some I=>
   grind[Cw]
 let e:=f.ext0 f.rs.ext;refine(v,f.rs.ext.fh,λa o n q=>e.hh a o<|(Q1 n).trans q,λa x B=>?_,f.lent,j,λa z y=>?_)
 .cases z:jc i a with
  |none=>calc e.new a x λy=>B<|(Q1 z).symm.trans y
  |some d=>
   cases y:jc c a with
   |none=>simp_all
   |some p=>exact f.free y
 .cases r:jc c a with
  |none=>calc Zn r y
  |some p=>
   let:=(f.obj a p r).2.1
   rwa[<-Q1 (H:=H) z]
def RS.rebase(r:RS K B F H c Z)(no:∀(i:5)(p:Bool)(d:D),c[i]? ≠ ! ! .own p d):RS K (F,H,λ_=>8) F H c Z:=
 (.refl r.ext.fh,r.len,r.val,λq=>Zn q<|no _ _ _,λ_ q=>Zn q<|no _ _ _)
end
section
variable     {st:Stmt}
def ES(b:Yh)(h:VS X E st e):VS X E st λc a=>e (qo b c) a:=PS.weak h λT Z H f=>by
 let(B g F c a,t,n):=f;let(i,d,j):=t.rs.frz b;exact j0 B g i _ a (t.go d j,n.mono (λ_ q=>q.mono d) λ_ _ q=>q)
def yg(b:Tg)(f:FV)(c:SD):YC->HP->Wr (YC×HP)
 |[],a=>.ok %[[]|a]
 |x::d,a=>(Wr.of<|JW b x c).bind λs=>(f s a).bind λp=>if(a.all λz=>(jc p.2 z.1).isSome)=6 then(yg b f c d p.2).bind λq=>.ok %[p.1::q.1|q.2]else .no
def wh(q:YC×HP):Wr (D×HP):=.new q.2 λa=>.ok %[.adr a|%[a|.lst q.1]::q.2]
def Xg(cap:List (Option 5))(d:FA)(b:Tg)(f:FV):FV:=λa e=>(Wr.of<|d a).bind λc=>if KN (jZ cap a) b=6/\c.length<sizeLine then(yg b f (jZ cap a) c e).bind wh else .no
def M6{K:W.Frag}       (P:ms K E (Xg cap fi t f) Z H Q):Xt cap (k8 K E fi) (gT t K) (ms K E f) Z H Q:=by
 let(B B' F l hp,r,n):=P;refine ji B' F l (r.rs,y0 n (λe R J F1 H1 S wk=>?_) λ_ _ q=>q.ext<|r.ext0 r.rs.ext)
 split at R
 .rename_i P;let(hn,hz):=P;let t1:=r.go S.ff<|r.rs.step S;refine(λi k T Z2 A=>k=e.length-i/\i<=e.length/\∃B2 B3 g h b,jk F g/\jk F1 g/\RT K B B2 g A l b Z/\RS K B3 g A (jZ cap l) Z2/\je K g h T/\h.length=i/\
   (yg t f (jZ cap l) (e.drop i) b).need (λq=>(wh %[h++q.1|q.2]).need (n8 K B F l Z Q)<|XW K E B.F0 B.H0) (XW K E B.F0 B.H0),(e.length,9,Uc _,_,_,F1,[],hp,S.ff,.refl _,t1,t1.rs.cap cap,.nil,9,Wr.need_bind.mp R),?_)
  rintro i k T Z2 A ⟨rfl,hi,B2,B3,g,h,b,s0,s2,C,r2,U,hl,s⟩;let ly:=U.length;calc((),?_);let(w1,w2):=wk i g A s2 C.rs.ext.fh;by_cases c:i<e.length
  .let(go,yl):=w1 c;calc .inr (go,λx G y=>?_);let(d I,hd,m,i3):=yl x G y;let X:e[i]=d:=by rw[Zqg c]at hd;exact Zqi hd
   rw[Uj c,X]at s;unfold yg at s;let L:=qs.mp<|Wr.need_bind.mp s;let M:=C.go m.ff<|C.rs.step m;refine X2 ((r2.step m).rebase<|λi p d=>λq=>by
    unfold jZ at q;rw[Zv]at q;cases hc:cap[i]? with
    |none=>simp_all
    |some o=>
     rw[hc]at q;cases o with
     |none=>cases q
     |some j=>
      grind) i3 L λu Z' n4 hb r4=>?_
   have(b1,b2):=BO hn hb;let t4:RT K (I,q0 G b,λ_=>8) (I,G,λ_=>8) I G u b Z':=(r4,9,9,λa w=>(Q1 w).symm,λa d w=>((M.lent a d w).1,XA w,(M.lent a d w).2));refine j0 _ _ I u b (t4,(Wr.need_bind.mp n4).mono (λq Y v B5 F5 H5 N O i5=>?_) λ_ _ q=>q.ext M.hidden)
   split at Y
   .rename_i hd5;have(B6,t6):=M.callV (O.extV N hd5);refine(e.length-(i+1),(),9,c,B6,B5,F5,h++[q.1],q.2,(s0.trans m.ff).trans N,(s2.trans m.ff).trans N,t6,O.rs.forget b1 b2,(je.same (m.ff.trans N) _ _ U).snoc i5,by rw[Ua,hl];rfl,(Wr.need_bind.mp Y).mono (λz n6=>?_) λ_ _ z=>z)
    rwa[Ug]
   .exact Y.elim
  .let he:i=e.length:=()
   subst he;calc .inl (w2<|Zf _,λD hD=>?_);rw[UT]at s;let L:(wh %[h++[]|b]).need (n8 K B F l Z Q) (XW K E B.F0 B.H0):=s;rw[ZA]at L;let(h1,O):=C.newO (d:=.lst h) hD (T,JL,U);exact L D h1 _ _ g _ s0 O<|j5.mpr 9
 .exact R.elim
def cN     (N:Yi)(cap:List (Option 5))(j:X.calm=6)(c:Kg a X.env N X.N cap=6)(l:QI X E i b m)
 (n:∀d C s H e,QG (JM X a N d C s H e) i t)(o:∀d C s H e,QV (JM X a N d C s H e) E g f)(p:∀x,foldedSetIterable b X.env x=pure x:=by intro _;rfl):
 QV X E (.ListComp g [(i,b,[],0)] a q) (Xg cap m t f):=PE.weak (GJ N cap j c l n o p) λ_ _ _ h=>M6 h
@[simp]def M7(cap:List (Option 5))(c:FA)(b:Tg)(f:FV)(a:SD)(d:HP):Xg cap c b f a d=(Wr.of<|c a).bind λe=>if KN (jZ cap a) b=6/\e.length<sizeLine then(yg b f (jZ cap a) e d).bind wh else .no:=rfl
end
end L2.DL
namespace L2
def aF                  {os:OsState}
 (j:h.get? U=! excClassObj u q U N bs l m v sub w n x y z B F G c)(o:h.get? e=!p)(b:p.cls=.ref C)(a:l.contains (.type "BaseException")=6)(r:W.Looks M h (isSubtype (.ref C)<|.ref U) 7)
 (s:Q 7 (h,g,d,t,os)):wpAny M A (excMatches (.ref e)<|.ref U) Q E (h,g,d,t,os):=by
 let i:(Value.ref U::l).contains (.type "BaseException")=6:=by rw[List.contains_cons,a,Bool.or_true]
 let f:=tc_notTuple;unfold excMatches
 repeat(first|(with_reducible calc wpAny_loadPart_at o ?_;rw[b])|with_reducible calc wpAny_loadPart_at j ?_|(with_reducible calc wpAny_isSubtype_exc j ?_;rw[i])|with_reducible calc r.at ?_|wp_step)
 exact s
def l0        (d:X.stack=X.env::X.outer)(J:X.env.frame=!X.env.locals)(hb:PB X u tb)(ex:Exc X.K X.mg c C)(v:Exc X.K X.mg L C')(no:W.subIn X.K (.ref C') (.ref C)=!7)(M:Gl X c)(w:Gl X L)(hs:∀x,xh (X.inSuite x) (b₀::suite) ts)(O:∀x,xh (X.inSuite x) (b₁::j) ts')
 (hd:(c==("__debug__":Str))=7:=by decide)(P:(L==("__debug__":Str))=7:=by decide):PS X (.Try u [.ExceptHandler (! .Name c np) 8 (b₀::suite) hpos,.ExceptHandler (! .Name L np') 8 (b₁::j) Q] [] [] pos) λD Z H=>tb D (λcv _ H2=>cv=.ref C/\ts D Z H2\/cv=.ref C'/\ts' D Z H2) Z H:=by
 intro Y s Z H D I h;refine Za<|wpAny_standAt<|wpAny_tryStmt_except<|Zc (hb Y s Z H D _ I h) (λf s1 q=>?_) λe s1 a=>by
  let(H' h₀ x C2 B,rfl,I,R,S,((t,U),trk),(_,_,hE)):=a;let l:=U;rw[d]at l;calc wpAny_looks_onW (I.ok.frames.trans<|by rw[d]) J l λh₄ held₄ up₄=>?_;calc wpAny_landsW held₄ λh₅ fl₅ up₅=>?_;let A:=fl₅;rw[<-d]at A;let n:=up₄.trans up₅;let E:=I.flown R S trk A n;let(ob,o,g):=fl₅.there;calc wpAny_handleBy_cons (codeAny_handlers_test<|XM (E.suite x) M ex.mgc ?_ hd) (by intro q;cases q);calc E6 E.kIn ex.exc λtl N nm q bs F sn sub ab col dd k0 k1 k2 k3 k5 mN G hN hni T=>?_;let i:=T.hasType PySem.F.excBase_ValueError.hasBase;rcases hE with ⟨p,r⟩|⟨p,r⟩
  .cases p;calc wpAny_excMatches_sub_self G o g i<|codeAny_handlers_suite<|lands_againW fl₅ λh₆ fl₆ up₆=>?_;rw[<-d]at fl₆;exact Zc (hs x Y _ Z H' D ((I.flown R S trk fl₆<|n.trans up₆).suite x) r) (λf s2 q=>q.unsuite I.ok) λ_ _ z=>z.elim
  .cases p;calc aF G o g i (W.looks_subIn E.kIn no) ?_;calc wpAny_handleBy_cons (codeAny_handlers_test<|XM (E.suite x) w v.mgc ?_ P) (by intro q;cases q);calc E6 E.kIn v.exc λtl N nm q bs F sn sub ab col dd k0 k1 k2 k3 k5 mN G hN hni T=>?_;calc wpAny_excMatches_sub_self G o g (T.hasType PySem.F.excBase_ValueError.hasBase)<|codeAny_handlers_suite<|lands_againW fl₅ λh₆ fl₆ up₆=>?_;rw[<-d]at fl₆;exact Zc (O x Y _ Z H' D ((I.flown R S trk fl₆<|n.trans up₆).suite x) r) (λf s2 q=>q.unsuite I.ok) λ_ _ z=>z.elim
 grind[wpAny_execs_nil]
end L2
namespace L2.DL
def AU(c d:Str)(e a:FS)(b:SD):Res Out->Res Out
 |.ok o=>.ok o
 |.ex x []=>@ite _ (x=c) (Classical.propDecidable _) (e b).strict (@ite _ (x=d) (Classical.propDecidable _) (a b).strict .no)
 |_=>.no
@[simp]def eP(c b:Str)(d a:FS)(e:SD)(o:Out):AU c b d a e (.ok o)=.ok o:=rfl
@[simp]def lW(c e:Str)(b a:FS)(d:SD):AU c e b a d (.ex c [])=(b d).strict:=@if_pos _ (Classical.propDecidable _) 9 _ _ _
def ET (h:¬b=c)(e a:FS)(d:SD):AU c b e a d (.ex b [])=(a d).strict:=(@if_neg _ (Classical.propDecidable _) h _ _ _).trans<|@if_pos _ (Classical.propDecidable _) 9 _ _ _
def Cz(c d:Str)(g e a:FS):FS:=λb=>AU c d e a b<|g b
@[simp]def bi(c d:Str)(g e a:FS)(b:SD):Cz c d g e a b=AU c d e a b (g b):=rfl
def lw        (v:X.stack=X.env::X.outer)(w:X.env.frame=!X.env.locals)(P:QB X m j g)(ex:Exc X.K X.mg c C)(l:Exc X.K X.mg h Q)(no:W.subIn X.K (.ref Q) (.ref C)=!7)(y:Gl X c)(p:Gl X h)(R:∀x,wx (X.inSuite x) E0 m (b₀::suite) z)(A:∀x,wx (X.inSuite x) E0 m (b₁::e) f)
 (S:(c==("__debug__":Str))=7:=by decide)(G:(h==("__debug__":Str))=7:=by decide):QS X E m (.Try j [.ExceptHandler (! .Name c np) 8 (b₀::suite) O,.ExceptHandler (! .Name h U) 8 (b₁::e) I] [] [] Y) (Cz c h g z f):=
 PS.weak (l0 (ts:=uK X.K E0 m z) (ts':=uK X.K E0 m f) v w P ex l no y p R A S G) λT Z H zh=>by
  let(B F i,r,n):=zh;calc ji B F i (r,?_);unfold Cz at n;cases J:g i with
  |ok o=>rwa[J]at n
  |no=>rwa[J]at n
  |ex x fs=>
   rw[J]at n;cases fs with
   |cons d r=>calc n.elim
   |nil=>
    by_cases L:x=c
    .subst L;rw[lW]at n;intro cv a M H2 s(C2,N,t,_);rw[ex.ns]at t;cases t;exact .inl (N,B,M,i,r.step s,(jQ n).mono (λo(q:zN X.K m B F T o)=>q.mono s.ff) λ_ _ q=>q)
    .by_cases u:x=h
     .subst u;rw[ET L]at n;intro cv a M H2 s(C2,N,t,_);rw[l.ns]at t;cases t;exact .inr (N,B,M,i,r.step s,(jQ n).mono (λo(q:zN X.K m B F T o)=>q.mono s.ff) λ_ _ q=>q)
     .let n:(@ite _ (x=c) (Classical.propDecidable _) (z i).strict<|@ite _ (x=h) (Classical.propDecidable _) (f i).strict Res.no).need (zN X.K m B F T) (XW X.K E B.F0 B.H0):=n;rw[@if_neg _ (Classical.propDecidable _) L,@if_neg _ (Classical.propDecidable _) u]at n;exact n.elim
end L2.DL
namespace L2
end L2
namespace L2.DL
section
variable   {K:W.Frag}    {st:Stmt}
def cI   (F:Fun K x m st f X)(S:FnScope N O (JP st))
 (hw:∀e d,I e=.ok d->e.length=O.length/\((g (JT N.length e) []).bind qc).need (λp=>dr p.2 kk p.1=d) λ_ _=>False)(hx:∀e c fs,I e=.ex c fs->e.length=O.length/\((g (JT N.length e) []).bind qc).need (λ_=>False) λU r=>U=c/\r=fs)
 (Y:∀(j:Value)(A:Around)(h:List Env)(s:Shared)(H:Hp)(E:XK),Room k (A.deeper<|envOfC m (JP st) s.heap.objs.size f j)->va (qp (xR P w) P w K Z u N m (JP st) f j A h s H E) E (QP st) g):
 FnOk P w K Z u (xR P w) (k+1) f X O (zC K I):=by
 refine F.okX S (λvs H Q E=>j8 λF e=>jC λ_ i n=>?_) λj A h s H vs Q E hr=>j8 λF e=>jC λhs i n=>(_,Y j A h s H E hr,?_)
 .cases q:I e with
  |ok d=>rw[i.length];calc(hw e d q).1
  |ex c fs=>rw[i.length];calc(hx e c fs q).1
  |no=>rw[q]at n;exact n.elim
 .let t:=RT.start<|RS.start (N:=N) hs i;cases q:I e with
  |no=>rw[q]at n;calc n.elim
  |ex c fs=>
   rw[q]at n;let n:XW K E F H c fs:=n;calc(_,_,F,_,[],t,(Wr.need_bind.mp (hx e c fs q).2).mono (λo l=>?_) λU r z=>by rw[z.1,z.2];calc n);cases o with
   |next b a=>calc(show False from l).elim
   |ret d a=>calc(show False from l).elim
   |brk b a=>calc l.elim
   |cont b a=>calc l.elim
  |ok d=>
   rw[q]at n;let n:yW K F H Q d:=n;let y:∀{J:D}{a:HP}{v:V}{L:St}{b:SD}{M:Bs}{B C:Hp},dr a kk J=d->RT K (F,H,λ_=>8) M B C b a L->jh K B J v->Q v C:=λ{J a v L b M B C}hd G R=>by
    let(!T,r1,ho):=G.frzA;let:=jh.dr ho kk J v<|jh.same T _ _ R;rw[hd]at this;exact n v _ _ r1.ext this
   calc(_,_,F,_,[],t,(Wr.need_bind.mp (hw e d q).2).mono (λo l=>?_) λ_ _ z=>z.elim);cases o with
   |next b a=>calc λL M B C T G=>y l G<|jB.mpr 9
   |ret d a=>calc λv L b M B C T G R=>y l G R
   |brk b a=>calc l.elim
   |cont b a=>exact l.elim
end
def RT.takeIn{K:W.Frag}        (t:RT K B j F H n c Z)(p:RT K B j (q0 f c) i n c Z)(y:jk F (q0 f c))(r:Ext (xc F j.H0 c) H f i)(O:H l=8)(Q:f l=8)(E:i l=! .lst s)(G:je K (q0 f c) I s):
 jc c l=8/\∃J,RT K B J (q0 f c) i n (%[l|.lst I]::c) Z:=by
 let v:jc c l=8:=by
  cases z:jc c l with
  |none=>rfl
  |some R=>
   let(u,S):=(t.lies z).has
   simp_all
 exact(v,t.callV (y,p.rs.ext.fh,λa o _ q=>r.hh a o q,λa L x=>by
  cases z:jc c a with
  |none=>rw[Q1 z];calc r.new a (by simp_all[xc]) x
  |some d=>calc XA z,λa d e=>by
  rw[JR]at e;by_cases z:a=l
  .rw[Zd z]at e;obtain rfl:=Zqi e;rw[z];exact(by rwa[Q1 v],s,E,G)
  .rw[Ze z]at e;calc p.lent a d e,λa e=>by
  grind[JR],λa L x=>by
  simp_all[JR]))
def zR(b:HP):D->Wr (D×HP)
 |.lst c=>if c.all (AS 08)then .new b λa=>.ok %[.adr a|%[a|.lst c]::b]else .no
 |_=>.no
def cY{K:W.Frag}   (w:∀Z H Q,ms K E b Z H Q->c Z H Q)   (h:nO K E (qL i b) T Z H):zO c (V7 i) T Z H:=w _ _ _<|by
 let(B d F e f,t,n):=h;exact j0 B d F e f (t,qf n λp g v j l m o a q=>g _ j l m o<|a.go (.refl _)<|a.rs.setVal q)
def yA(K:W.Frag)(e:YC->HP->Wr (D×HP)):Sp:=λf H Q E=>∃F b a,jk F H/\je K F b f/\wy K F H a/\(e b a).need (λp=>∀v c d,ExtV K F H a c d p.2->jh K c p.1 v->Q v d) (XW K E F<|q0 H a)
section
variable     {fr:wK}
def C0     (c:wL X.prog X.w X.K X.mg X.base a k R (yA X.K j))(T:Thrown X E)(l:Room k X.A)(m:Gl X a)(o:u9 X E (e::b) fr)
 (f:(a==("__debug__":Str))=7:=by decide)(r:starEach (e::b) X.env=%[7|eval e X.env]::starEach b X.env:=by rfl)(g:(backTo h<|starEach b X.env).any (·.1)=7:=by rfl):
 QV X E (.Call (.Name a p) (e::b) [] h) (Qo j fr):=PE.weak (E5 c T l m o f r g) λZ H Q s=>by
 let(B u F x y,t,n):=s;calc j0 B u F x y (t,qf n λp z A S C G I d J=>?_);show yA X.K j (A++[]) G Q E;rw[ZA];calc ji C p.1 p.2 (d.rs.ext.fh,J,d.lent,z.mono (λq L v M N w i=>?_) λ_ _ q=>q.ext d.hidden);let(O,P):=d.callV w;exact L v O M N (I.trans w.ff) P i
def Kd(k:5)(b:Yh)(f:FE):FV:=λc a=>(Wr.of<|f<|drI k a b c).bind<|zR a
def AV(k:5)(f:Yh)(h:QN X E e o):QV X E e (Kd k f o):=PE.weak h λZ H Q p=>by
 let(B L F r g,t,n):=p;calc ji B _ _ (t.frzA.2.1.drI t.frzA.2.2 k f,(qs.mp<|Wr.need_bind.mp n).mono (λd b l M s i u v w=>?_) λc fs q=>q.ext t.frzA.2.1.ext);cases d with
 |lst j=>
  let b:(if j.all (AS 08)then Wr.new g λa=>.ok %[.adr a|%[a|.lst j]::g]else .no:Wr (D×HP)).need (n8 X.K B F r Z Q) (XW X.K E B.F0 B.H0):=b
  split at b
  .rename_i x;let(!y,m,z):=t.thaw i;let(N,A,C):=w;let(G,I,J):=t.takeIn y m i u v A (x1 (zI z 08) x C);exact b l G _ I _ s m J<|j5.mpr 9
  .calc b.elim
 |_=>exact b.elim
def C1(fr:wK):FV:=λa b=>(fr a b).bind λp=>if p.1.length<=1000 then .ok %[.lst p.1|p.2]else .no
def pr(h:u9 X E f fr):QV X E (.List f g) (C1 fr):=PE.weak (Dq h) λZ H Q i=>by
 let(B j F l m,t,n):=i;refine j0 B j F l m (t,qf n λp b d s u v o c e=>?_)
 split at b
 .let w:=e.length;calc(Qt (),λq r=>?_);let a:=Ext.alloc c.rs.ext.fh r<|.lst d;exact b (.ref q) _ _ _ (o.trans a.ff) (c.go a.ff<|c.rs.step a)<|jl.mpr (q,d,9,.of JL,je.same a.ff _ _ e)
 .exact b.elim
end
section
variable   {o i e:Expr}
def C4(c:SD)(d:D)(a:Addr)(q:D×HP):Wr Out3:=match jc q.2 a with
 |some (.dct b f)=>match Kj q.1 with
  |some k=>if b.length<sizeLine then .ok (.next c<|Q6 q.2 a<|.dct (Wv b k)<|WA b f k d)else .no
  |none=>.no
 |_=>.no
def AW(c:FV)(b:SD)(d:D)(p:D×HP):Wr Out3:=match p.1 with
 |.adr a=>match jc p.2 a with
  |some (.dct _ _)=>(c b p.2).bind (C4 b d a)
  |_=>.no
 |_=>.no
def M8(b c d:FV):qQ:=λa f=>(d a f).bind λp=>(b a p.2).bind<|AW c a p.1
def pM(u:X.A.units+1<cLine)(x:QV X E o y)(z:QV X E i A)(C:QV X E e G)(I:swapsWith e (! .Subscript o i d) f.line X.env=pure 7:=by rfl):
 VS X E (.Assign [.Subscript o i d] e f) (M8 y A G):=PS.weak (GA u x z C I) λT Z H J=>by
 let(B L F g M,t,n):=J;calc j0 B L F g M (t,qf n λp N v O P H1 Q R S=>j0 B O P g p.2 (R,qf N λU c v2 Y F2 H2 j t2 l=>?_));unfold AW at c
 split at c
 .rename_i a h;rw[h]at l;obtain rfl:=j5.mp l
  split at c
  .calc j0 B Y F2 g U.2 (t2,qf c λq b w B3 F3 H3 m r i3=>?_);unfold C4 at b
   split at b
   .rename_i ks ds s
    split at b
    .rename_i k hk
     split at b
     .have(xs,h4,h5,h6):=r.lies s;let(ys,y1,y2,y3):=Ih h5 h6 (jh.same (j.trans m) _ _ S);exact(a,_,9,by rw[Y9 hk i3];calc wB.k h4 (),b Z _ F3 _ ((Q.trans j).trans m)<|r.chg s (ys,by rw[JL,y1],y2,y3))
     .exact b.elim
    .exact b.elim
   .exact b.elim
  .exact c.elim
 .exact c.elim
def Xh(i:5)(f:FV):qQ:=λa c=>match a[i]? with
 |some (some<|.own false<|.lst b)=>(f a c).bind λp=>if b.length<sizeLine then .ok (.next (a.set i<|!(.own 7<|.lst<|b++[p.1])) p.2)else .no
 |_=>.no
def EU{i:5}(y:PE X o (yI i))(z:QV X E e A)
 (c:∀{r:TE}{t:TA},PE X o r->PA X [e] t->PE X (.Call (.Attribute o "append" a) [e] [] b) (uu X.K "list" XT r t))
 (C:swapsWith (.Call (.Attribute o "append" a) [e] [] b) 8 d.line X.env=pure 7:=by rfl)
 (f:starEach [e] X.env=%[7|eval e X.env]::starEach [] X.env:=by rfl):VS X E (.Expr (.Call (.Attribute o "append" a) [e] [] b) d) (Xh i A):=
 PS.weak (XP (c y<|JN z K9 f) C) λT Z H G=>by
  let(B I F J c,t,n):=G;unfold Xh at n
  split at n
  .rename_i U g;let(-l,h,Y,h3,(L,M,h5),_):=t.rs.own g;calc(.ref l,h,.inl (9,L,xo.of M),B,I,F,J,c,t,Wr.need_bind.mpr<|(Wr.need_bind.mp n).mono (λp j=>?_) λ_ _ q=>q);intro vs B2 N H2 O m P;let(v,w,rfl,Q,R):=P;subst R
   split at j
   .let(-l',s,g2,g3,(u,S,x),_):=m.rs.own g;rw[h]at s;cases s;let hl:=x.length;exact ji l u v (9,9,S,(),j Z _ N _ O<|m.go (.refl _)<|m.rs.chg g h (u++[v],JL,x.snoc Q))
   .exact j.elim
  .exact n.elim
def ay        (N:Yi)(cap:List (Option 5))(g:X.N.Nodup)(j:X.N[z]?=!y)(l:zr X.env.scope y)(A:X.calm=6)(m:Kg a X.env N X.N cap=6)(B:QI X E n b F)
 (G:∀p C s H r,QG (JM X a N p C s H r) n t)(I:∀p C s H r,QV (JM X a N p C s H r) E c f)(u:swapsWith (.ListComp c [(n,b,[],0)] a v) (! .Name y J) d.line X.env=pure 6:=by rfl)
 (w:X.fn y=6\/X.env.scope.names.lookup y=!.local:=by trivial)(L:∀x,foldedSetIterable b X.env x=pure x:=by intro _;rfl):
 VS X E (.Assign [.Name y J] (.ListComp c [(n,b,[],0)] a v) d) (qL z<|Xg cap F t f):=PS.weak (IA u g j l w N cap A m B G I L) λT Z H h=>cY (λ_ _ _ q=>M6 q) h
end
def RT.takeIn2{K:W.Frag}       (t:RT K B E F H v e Z)(c:Ext F H i j)(G:H l=8)(I:i l=8)(o:yR K i j l d):
 jc e l=8/\∃x,RT K B x i j v (%[l|d]::e) Z:=by
 let n:=t.go c.ff<|t.rs.step c;let y:jc e l=8:=by
  cases z:jc e l with
  |none=>rfl
  |some p=>
   let(u,J):=(t.lies z).has
   simp_all
 exact(y,t.callV (c.ff,n.rs.ext.fh,λa o _ q=>c.hh a o q,λa r s=>c.new a r s,λa p f=>by
  rw[JR]at f;by_cases z:a=l
  .simp_all
  .rw[Ze z]at f;calc n.lent a p f,λa f=>by
  grind[JR],λa r s=>by
  simp_all[JR]))
def EV:FV:=λ_ b=>.new b λa=>.ok %[.adr a|%[a|.dct [] []]::b]
def M9:QV X E (.Dict [] [] b) EV:=PE.weak (Sb (E:=E)) λZ H Q c=>by
 let(B d F e q,t,n):=c;calc ji d F e (t.rs,λl f g a h i j=>?_);let(m,o,p):=t.takeIn2 a h i j;exact n l m _ o f g a.ff p<|j5.mpr 9
def AX(i:5)(g:qQ):qQ:=λb c=>match b[i]? with
 |some (~~~.adr a)=>match jc c a with
  |some (.lst d)=>g (b.set i<|~~~.lst d) (Wz c a)
  |_=>.no
 |_=>.no
def pc  {d:Stmt} (i:5)(h:VS X E d g):VS X E d (AX i g):=PS.weak h λT Z H l=>by
 let(B s F u w,t,n):=l;unfold AX at n
 split at n
 .rename_i a m
  split at n
  .rename_i x e;have(f,y,p):=t.lies e;let(j,c):=t.walk e;let r:jD H a (.lst f)=H:=funext λb=>by
    grind[JL,JI]
   rw[r]at c;exact j0 B _ _ _ _ (c.go (.refl _)<|c.rs.reval m λv q=>have rfl:=j5.mp q;jl.mpr (a,f,rfl,.of JL,je.same j _ _ p),n.mono (λo q=>q.mono j) λ_ _ q=>q)
  .exact n.elim
 .exact n.elim
section
variable   {K:W.Frag}    {st:Stmt}
def MA (F:Fun K x B st f fd)(S:FnScope N U (JP st))
 (hb:∀(r:Value)(A:Around)(c:List Env)(s:Shared)(H:Hp)(E:XK),Room k (A.deeper<|envOfC B (JP st) s.heap.objs.size f r)->va (qp (xR P w) P w K mg I N B (JP st) f r A c s H E) E (QP st) g):
 FnOk P w K mg I (xR P w) (k+1) f fd U (yA K<|xk N.length U.length g):=by
 refine F.okX S (λX H Q E=>qy λF Y j=>xm λ_ i _ n=>?_) λr A c s H X Q E hr=>qy λF Y j=>xm λhs i Z n=>(_,hb r A c s H E hr,?_)
 .unfold xk at n
  split at n
  .rw[i.length];assumption
  .exact n.elim
 .unfold xk at n
  split at n
  .let t:RT K (F,q0 H j,λ_=>8) (F,H,λ_=>8) F H (JT N.length Y) j (L2.start N X):=(RS.start hs i,9,9,λa C=>(Q1 C).symm,λa d C=>((Z a d C).1,XA C,(Z a d C).2));let J:∀{d:D}{b:HP}{v:V}{M:St}{h:SD}{O:Bs}{l u:Hp},(Wr.need (if j.all λz=>(jc b z.1).isSome then(.ok %[d|b]:Wr (D×HP))else .no) (λp=>∀v l u,ExtV K F H j l u p.2->jh K l p.1 v->Q v u)<|XW K E F<|q0 H j)->
    jk F l->RT K (F,q0 H j,λ_=>8) O l u h b M->jh K l d v->Q v u:=λ{d b v M h O l u}G L m R=>by
    split at G
    .let T:∀a,jc b a=8->jc j a=8:=λa C=>by
      cases z:jc j a with
      |none=>rfl
      |some d0=>
       grind[Cw]
     let e:=m.ext0 m.rs.ext;refine G v l u (L,m.rs.ext.fh,λa o C q=>e.hh a o<|(Q1 C).trans q,λa h0 h1=>?_,m.lent,T,λa z y=>?_) R
     .cases z:jc j a with
      |none=>calc e.new a h0 λy=>h1<|(Q1 z).symm.trans y
      |some d=>
       cases y:jc b a with
       |none=>simp_all
       |some d'=>exact m.free y
     .cases y':jc b a with
      |none=>calc Zn y' y
      |some d'=>
       let:=(m.obj a d' y').2.1;rw[<-Q1 (H:=H) z];exact this
    .exact G.elim
   calc j0 _ _ F _ j (t,qf (Wr.need_bind.mp n|>λq=>Wr.need_bind.mpr q|>λq=>Wr.need_bind.mp q) λo G=>?_);cases o with
   |next h b=>calc λM O l u L m=>J G L m<|jB.mpr 9
   |ret d b=>calc λv M h O l u L m R=>J G L m R
   |brk h b=>calc G.elim
   |cont h b=>exact G.elim
  .exact n.elim
end
def cr  {K:W.Frag}      :FnOk P w K b a yo k f c d (wH K λ_ _=>.no):=(λ_ _ _ _=>qy λ_ _ _=>xm λ_ _ _ n=>n.elim,λ_ _ _ _ _ _ _ _ _ _ _ _ _=>qy λ_ _ _=>xm λ_ _ _ n=>n.elim)
def cU  {K:W.Frag}      :FnOk P w K b a (xR P w) k f c d (yA K λ_ _=>.no):=(λ_ _ _ _=>qy λ_ _ _=>xm λ_ _ _ n=>n.elim,λ_ _ _ _ _ _ _ _ _ _ _ _ _=>qy λ_ _ _=>xm λ_ _ _ n=>n.elim)
end L2.DL
set_option maxHeartbeats 4000000
namespace My
open PySem L2 L2.DL
@[simp high]def oo{α:Type}(b a:α)(l):(b::a::l)[1]?=!a:=rfl
@[simp high]def iW{α:Type}(a b v:α)(l):(a::b::l).set 1 v=a::v::l:=rfl
@[simp high]def om{α:Type}(b c a:α)(l):(b::c::a::l)[2]?=!a:=rfl
@[simp high]def iV{α:Type}(a b c v:α)(l):(a::b::c::l).set 2 v=a::b::v::l:=rfl
@[simp high]def oj{α:Type}(b c d a:α)(l):(b::c::d::a::l)[03]?=!a:=rfl
@[simp high]def iU{α:Type}(a b c d v:α)(l):(a::b::c::d::l).set 03 v=a::b::c::v::l:=rfl
@[simp high]def oi{α:Type}(b c d e a:α)(l):(b::c::d::e::a::l)[04]?=!a:=rfl
@[simp high]def iR{α:Type}(a b c d e v:α)(l):(a::b::c::d::e::l).set 04 v=a::b::c::d::v::l:=rfl
@[simp high]def oh{α:Type}(b c d e f a:α)(l):(b::c::d::e::f::a::l)[05]?=!a:=rfl
@[simp high]def iQ{α:Type}(a b c d e f v:α)(l):(a::b::c::d::e::f::l).set 05 v=a::b::c::d::e::v::l:=rfl
@[simp high]def og{α:Type}(b c d e f g a:α)(l):(b::c::d::e::f::g::a::l)[06]?=!a:=rfl
@[simp high]def iP{α:Type}(a b c d e f g v:α)(l):(a::b::c::d::e::f::g::l).set 06 v=a::b::c::d::e::f::v::l:=rfl
@[simp high]def iZ{α:Type}(b c d e f g h a:α)(l):(b::c::d::e::f::g::h::a::l)[07]?=!a:=rfl
@[simp high]def iO{α:Type}(a b c d e f g h v:α)(l):(a::b::c::d::e::f::g::h::l).set 07 v=a::b::c::d::e::f::g::v::l:=rfl
@[simp high]def iY{α:Type}(b c d e f g h i a:α)(l):(b::c::d::e::f::g::h::i::a::l)[08]?=!a:=rfl
@[simp high]def iN{α:Type}(a b c d e f g h i v:α)(l):(a::b::c::d::e::f::g::h::i::l).set 08 v=a::b::c::d::e::f::g::h::v::l:=rfl
@[simp high]def iX{α:Type}(b c d e f g h i j a:α)(l):(b::c::d::e::f::g::h::i::j::a::l)[09]?=!a:=rfl
@[simp high]def iM{α:Type}(a b c d e f g h i j v:α)(l):(a::b::c::d::e::f::g::h::i::j::l).set 09 v=a::b::c::d::e::f::g::h::i::v::l:=rfl
@[simp high]def ei{α:Type}(b c d e f g h i j m a:α)(l):(b::c::d::e::f::g::h::i::j::m::a::l)[10]?=!a:=rfl
@[simp high]def aT{α:Type}(b c d e f g h i j m a v:α)(l):(b::c::d::e::f::g::h::i::j::m::a::l).set 10 v=b::c::d::e::f::g::h::i::j::m::v::l:=rfl
@[simp high]def eh{α:Type}(c d e f g h i j m n b a:α)(l):(c::d::e::f::g::h::i::j::m::n::b::a::l)[11]?=!a:=rfl
@[simp high]def aS{α:Type}(c d e f g h i j m n a b v:α)(l):(c::d::e::f::g::h::i::j::m::n::a::b::l).set 11 v=c::d::e::f::g::h::i::j::m::n::a::v::l:=rfl
@[simp high]def ef{α:Type}(d e f g h i j m n o b c a:α)(l):(d::e::f::g::h::i::j::m::n::o::b::c::a::l)[12]?=!a:=rfl
@[simp high]def aR{α:Type}(d e f g h i j m n o a b c v:α)(l):(d::e::f::g::h::i::j::m::n::o::a::b::c::l).set 12 v=d::e::f::g::h::i::j::m::n::o::a::b::v::l:=rfl
@[simp high]def ee{α:Type}(e f g h i j m n o p b c d a:α)(l):(e::f::g::h::i::j::m::n::o::p::b::c::d::a::l)[13]?=!a:=rfl
@[simp high]def aQ{α:Type}(e f g h i j m n o p a b c d v:α)(l):(e::f::g::h::i::j::m::n::o::p::a::b::c::d::l).set 13 v=e::f::g::h::i::j::m::n::o::p::a::b::c::v::l:=rfl
noncomputable def QK(a:Yf)(k:3):3:=a.getD k.toNat 0
noncomputable def xB(a:Yf)(t:3):3:=a.getD t.toNat 0
def QD(r:Jz)(a:Yf):3:=qO<|r.map λp=>xB a p.1+p.2
def cM:qM 12 (.lst [])=6:=rfl
theorem Z8  {k:5}(h:k<l.length):xy l (k:3)=l[k]?:=by
 simp_all[xy,wl]
def KH{α:Type}{f:α->D}{l:List α}{i:5} (h:(l.map f)[i]?=!x):∃p,l[i]?=!p/\x=f p:=by
 rw[Zv]at h;cases q:l[i]? with
 |none=>rw[q]at h;cases h
 |some p=>rw[q]at h;exact(p,9,(Zqi h).symm)
structure RowOk(n:3)(r:Jz):4 where
 ne:r ≠[]
 once:jA r
 mem:∀p∈r,0<=p.1/\p.1<n
 len:r.length<=12
def MB (h:∀r∈a,r ≠[])(b:a.length<1000):WY [.lst (a.map js)]=!(.lst<|(Qe jH a).map js):=by
 show(QF Um<|a.map js).bind _=_
 simp_all[DR]
noncomputable def jf(f:J0):D:=.lst<|f.map js
noncomputable def qI(all:J0)(row:Jz):Bool:=(all.filter λone=>(not<|decide<|one=row)&&JD one row).isEmpty
def ZD(all a:J0)(row:Jz):J0:=if qI all row=6/\row∉a then a++[row]else a
def EW(all a:J0):J0:=a.foldl (ZD all) []
def JU(a:J0):J0:=Qe jH<|EW a a
theorem AY(all:J0):∀(b a:J0),(b.foldl (ZD all) a).length<=a.length+b.length/\(∀r,r∈b.foldl (ZD all) a↔r∈a\/r∈b/\qI all r=6)/\(a.Nodup->(b.foldl (ZD all) a).Nodup)
 |[],a=>by simp
 |row::b,a=>by
  have(c,d,e):=AY all b (ZD all a row);unfold ZD at c d e ⊢
  grind
theorem xF  :r∈JU a↔r∈a/\qI a r=6:=by
 unfold JU EW;rw[(Q3 (ltb:=jH) _).mem_iff,(AY a a []).2.1];simp
def MC(a:J0):(JU a).length<=a.length:=by
 unfold JU EW;rw[(Q3 _).length_eq];let:=(AY a a []).1
 simp_all
def JO(f:J0)(a:Yf):3:=zz<|f.map λr=>QD r a
@[simp]def f8(f):Ww [jf f]=! jf f:=rfl
@[simp]def ke(f):Wd (jf f)=! f.map js:=rfl
@[simp]def kb(r):Wd (js r)=! r.map qB:=rfl
@[simp]def ME(f):jO [jf f]=! .int f.length:=by show some (D.int (f.map js).length)=_;rw[Zql]
@[simp]def iF(f):xD [jf f,.ty "list"]=! .bl 6:=rfl
@[simp]def iD(f):xD [js f,.ty "tuple"]=! .bl 6:=rfl
@[simp]def iH(p):xD [qB p,.ty "tuple"]=! .bl 6:=rfl
@[simp]def m5(p):jO [qB p]=! .int 2:=rfl
@[simp]def mD(p):jJ (qB p) (.int 0)=! .int p.1:=rfl
@[simp]def m9(p):jJ (qB p) (.int 1)=! .int p.2:=rfl
def EX(n)(f):qM (n+04) (jf f)=6:=by
 show(f.map js).all (qM<|n+03)=6;rw[Ve,UP];exact λr _=>by
  show(r.map qB).all (qM<|n+2)=6;rw[Ve,UP];exact λp _=>9
def cX(f):qk (jf f) (.lst [])=! .bl f.isEmpty:=by
 rw[A4 (EX 08 f) cM];exact Zt _<|Zt _<|by
  cases f with
  |nil=>calc A1 _
  |cons x r=>exact ml.mpr λh=>by cases h
structure FormOk(n:3)(f:J0):4 where
 ne:f ≠[]
 rows:∀r∈f,RowOk n r
 len:f.length<=100
def ln (h:l ≠[])(w:3):zz (l.map (·+w))=zz l+w:=by
 let(a,b):=Bu h;refine(GP () λy c=>?_).symm
 grind
def pV (h:l ≠[])(w:3):qO (l.map (·+w))=qO l+w:=by
 let(a,b):=WN h;refine(GN () λy c=>?_).symm
 grind
def xf(r:Jz):4:=(r.map (·.1)).Pairwise (·<·)
def MF (h:xf r):r.Pairwise λx y=>qw x y=6:=by
 unfold xf at h;rw[U5]at h;refine h.imp λ{a b}z=>?_
 simp_all[qw]
def zW :JD r o=6↔∀p∈r,∃w,JE o p.1=!w/\p.2<=w:=by
 unfold JD;rw[UP];calc forall_congr' λp=>forall_congr' λ_=>?_;unfold xA;cases JE o p.1 with
 |none=>simp
 |some w=>simp
theorem KB (d:JD a b=6)(e:JD b c=6):JD a c=6:=by
 rw[zW]at*;intro p f;let(w,g,h):=d p f;let(v,i,j):=e _ (Q2 g);exact(v,i,Int.le_trans h j)
def MG (d:jA a)(e:JD a b=6)(f:JD b a=6):∀p∈a,p∈b:=by
 rw[zW]at*;intro p c;let(w,g,j):=e p c;let h:=Q2 g;let(v,i,l):=f _ h;rw[d.look c]at i
 grind
theorem EY (e:jA a)(f:jA b)(g:xf a)(h:xf b)(c:JD a b=6)(d:JD b a=6):a=b:=
 Xz v5 (MF g) (MF h) λp=>(MG e c d p,MG f d c p)
theorem EZ:∀{a:J0},a ≠[]->(∀r∈a,jA r/\xf r)->∃m∈a,∀o∈a,JD o m=6->o=m
 |[],h,_=>Zn 9 h
 |x::a,_,ok=>by
  by_cases q:a=[]
  .simp_all
  .have(m,b,c):=EZ q ()
   grind[Zqm,Zqs,KB,EY]
def vq  :qI a m=6↔∀o∈a,JD o m=6->o=m:=by
 grind[qI,List.isEmpty_iff,List.filter_eq_nil_iff]
structure Good(n:3)(f:J0):4 where
 ne:f ≠[]
 rows:∀r∈f,RowOk n r
 rise:∀r∈f,xf r
 len:f.length<=40
 anti:∀r∈f,∀s∈f,JD r s=6->r=s
 srt:f.Pairwise λa b=>jH a b=6
def lD(j n:5):min (j:3) (n:3)=((min j n:5):3):=by
 lia
def C5 (l:List α) (a:0<=k):QC l (!k) 8 8=l.drop k.toNat:=by
 let e:sliceBounds (!k) 8 8 l.length=%[((min k.toNat l.length:5):3),(l.length:3)|1]:=by
  let(j,rfl):=Int.eq_ofNat_of_zero_le a;unfold sliceBounds;simp only;rw[Ze (Int.not_lt.mpr a),lD];exact 9
 unfold QC;rw[e,sliceRange_one];let b:(λx:5=>l[x]?)=λx:5=>l.toArray[x]?:=by simp
 rw[b,pick_run l.toArray (min k.toNat l.length)<|l.length-min k.toNat l.length];by_cases c:k.toNat<=l.length
 .rw[Vj c,UR ()]
 .rw[Nat.min_eq_right (),Vg (Zf _),Vg ()];exact List.take_nil
def MI{α:Type}{f:α->Bool}{l:List α} {p:α}(h:∀q∈l.take i,f q=7)(a:l[i]?=!p)(b:f p=6):l.find? f=!p:=by
 let c:=(Jd.mp a).1;let e:l=l.take i++p::l.drop (i+1):=by
  let d:l.drop i=p::l.drop (i+1):=by
   rw[Uj c]
   congr 1
   exact(Jd.mp a).2
  rw[<-d,UI]
 rw[e,List.find?_append,Jw.mpr λq g=>by rw[h q g];simp];simp[b]
structure ThingsOk(ts:Yf):4 where
 ne:ts ≠[]
 len:ts.length<=04
 rng:∀t∈ts,0<=t/\t<12
 up:ts.Pairwise (·<·)
def C6 (h:xf r):jA r:=by
 unfold xf at h;unfold jA List.Nodup;exact h.imp λh e=>()
def lO (h:jA r) (b:p∈r)(c:q∈r)(e:p.1=q.1):p=q:=by
 induction r with
 |nil=>cases b
 |cons a r d=>
  grind[jA,List.map_cons,List.nodup_cons]
def MJ   (a:p∈r):xB hs p.1+p.2<=QD r hs:=
 (WN<|λz=>()).2 _ ()
def pE  (a:r ≠[]):∃p∈r,QD r b=xB b p.1+p.2:=have(p,c,e):=Ja.mp (WN<|λz=>a<|Ji.mp z).1;(p,c,e.symm)
def aB   (b:r ≠[]):QD r c<=x↔∀p∈r,xB c p.1+p.2<=x:=by
 constructor
 .intro h p a;exact Int.le_trans (MJ a) h
 .intro h;let(p,a,e):=pE b;rw[e];exact h p a
def Xi   (a:r∈f):JO f hs<=QD r hs:=
 (Bu<|λz=>()).2 _ ()
def XD  (a:f ≠[]):∃r∈f,JO f hs=QD r hs:=have(p,b,e):=Ja.mp (Bu<|λz=>a<|Ji.mp z).1;(p,b,e.symm)
structure Over(f:J0)(hs:Yf):4 where
 ne:f ≠[]
 rne:∀r∈f,r ≠[]
 once:∀r∈f,jA r
 bnd:∀r∈f,∀p∈r,0<=p.1/\p.1<(hs.length:3)
structure RoundOk(n:3)(fs:List J0):4 where
 len:(fs.length:3)=n
 low:1<=n
 most:n<=12
 forms:∀f∈fs,FormOk n f
def vI  (R:RoundOk n fs) (h:i.length=fs.length):∀f∈fs,Over f i:=λf e=>((R.forms f e).ne,λr c=>((R.forms f e).rows r c).ne,λr c=>((R.forms f e).rows r c).once,λr c p j=>by
 let:=((R.forms f e).rows r c).mem p j;let:=R.len;lia)
def jp(fs:List J0):D:=.lst<|fs.map jf
@[simp]def kc(fs):Wd (jp fs)=! fs.map jf:=rfl
def gc(n)(fs):qM (n+05) (jp fs)=6:=by
 show(fs.map jf).all (qM<|n+04)=6;rw[Ve,UP];exact λf _=>EX n f
open L2.ST
theorem Fa:∀{b a:Yf},a.Pairwise (·<·)->b.Pairwise (·<·)->(∀x∈a,x∈b)->a.length<=b.length/\(a.length=b.length->a=b)
 |[],a,_,_,h=>by
  cases a with
  |nil=>simp
  |cons x a=>cases h x Zqs
 |y::b,[],_,_,_=>by simp
 |y::b,x::a,hx,hy,h=>by
  rw[List.pairwise_cons]at hx hy;rcases U4.mp (h x Zqs)with q|q
  .have(c,e):=Fa hx.2 hy.2 λz d=>by
    grind
   simp_all
  .let(c,_):=Fa (Jl.mpr hx) hy.2 λz d=>by
    grind
   grind
theorem MK:∀{a b:Jz},a.map (·.1)=b.map (·.1)->(∀(i:5)p q,a[i]?=!p->b[i]?=!q->p.2<=q.2)->a≠b->jH a b=6
 |[],[],_,_,h=>Zn 9 h
 |[],_::_,e,_,_=>by simp at e
 |_::_,[],e,_,_=>by simp at e
 |p::a,q::b,e,hw,hn=>by
  let f:=hw 0 p q 9 9;rw[W6];by_cases z:p=q
  .rw[Zd z];refine MK (VF e).2 (λi p q c d=>hw (i+1) p q c d) ()
  grind[Xw]
def lm (o:xf a)(g:xf b)(h:JD a b=6)(s:a≠b):wE a b=6:=by
 let u:=zW.mp h;let t:=C6 g;let(j,l):=Fa o g λx v=>by
  let(p,c,rfl):=Ja.mp v;let(w,d,_):=u p c;exact Ja.mpr (%[p.1|w],Q2 d,9)
 rw[Zql,Zql]at j l;rw[YR];rcases Nat.lt_or_eq_of_le j with q|q
 .exact .inl q
 .let e:=l q;calc .inr (q,MK e (λi p r c m=>?_) s);let(w,d,f):=u p (Uf c);let y:p.1=r.1:=by
   let n:(a.map (·.1))[i]?=!p.1:=by rw[Zv,c];rfl
   let z:(b.map (·.1))[i]?=!r.1:=by rw[Zv,m];rfl
   rw[e,z]at n;exact(Zqi n).symm
  let:=lO t (Uf m) (Q2 d) y.symm;rw[this];exact f
def ZE  (T:Tot c) (e:l.Nodup):(Qe c l).Pairwise λa b=>c a b=6:=by
 let d:(Qe c l).Nodup:=(Q3 l).nodup_iff.mpr e;calc List.Pairwise.imp ?_<|(Xx T l).and d;rintro a b ⟨f,g⟩;cases q:c a b with
 |true=>rfl
 |false=>exact Zn (T.tot _ _ q f) g
def x9(a:J0):J0:=Qe wE<|Qe jH<|xK a
theorem mj  :r∈x9 a↔r∈a:=by
 grind[x9,nI,Q3]
def ML(c:J0):(x9 c).Pairwise λa b=>wE a b=6:=ZE uG<|(Q3 _).nodup_iff.mpr<|LM c
def MM(a:J0):(x9 a).length<=a.length:=by
 unfold x9;rw[(Q3 _).length_eq,(Q3 _).length_eq];exact LN a
def wj(kept:J0)(r:Jz):J0:=if kept.any (λo=>JD o r)=6 then kept else kept++[r]
def yh(a:J0):J0:=(x9 a).filter<|qI a
theorem MN (n:∀r∈a,xf r):∀i,i<=(x9 a).length->((x9 a).take i).foldl wj []=((x9 a).take i).filter (qI a)
 |0,_=>by simp
 |i+1,H=>by
  let F:=MN n i ();let s:=ML a;let p:∀r,r∈x9 a↔r∈a:=λr=>mj;generalize x9 a=L at H F s p;let c:i<L.length:=()
  rw[KY (Zqg c),Vq,List.filter_append,F];let t:∀o∈L.take i,wE o L[i]=6:=λo d=>by
   let(j,u,rfl):=UB d;rw[Uq]at u;rw[List.getElem_take];exact Jm.mp s j i () c ()
  let v:=(p L[i]).mp<|UE c;show wj ((L.take i).filter<|qI a) L[i]=_;unfold wj;cases q:qI a L[i]with
  |true=>
   let low:=vq.mp q;rw[Ze,List.filter_cons_of_pos q,List.filter_nil];intro z;have(o,d,y):=Vn.mp z;let d:=(Jg.mp d).1;let b:=t o d;rw[low o ((p o).mp<|List.mem_of_mem_take d) y]at b;let:=uG.asy _ _ b
   simp_all
  |false=>
   let J:¬ ∀o∈a,JD o L[i]=6->o=L[i]:=λz=>by rw[vq.mpr z]at q;cases q
   let(o,d,y,hne):∃o∈a,JD o L[i]=6/\o≠L[i]:=by
    exact by grind
   let(f,A,B):=EZ (λz=>by
    let:o∈a.filter λo=>JD o L[i]:=Jg.mpr (d,y);rw[z]at this;cases this) λr h=>(C6<|n r (Jg.mp h).1,())
   let(G,C):=Jg.mp A;let g:=vq.mpr λx I l=>B x (Jg.mpr (I,KB l C)) l;let m:f≠L[i]:=by grind
   let e:f∈L.take i:=by
    let(j,u,E):=UB ((p f).mpr G);rcases Vc j i with w|w|w
    .rw[<-E,List.mem_take_iff_getElem];exact by grind
    .subst w;exact Zn E.symm m
    .let b:=Jm.mp s i j c u w;rw[E]at b;let:=uG.asy _ _ b;rw[lm (n f G) (n _ v) C m]at this;cases this
   rw[Zd (Vn.mpr (f,Jg.mpr (e,g),C)),List.filter_cons_of_neg (by rw[q];simp),List.filter_nil,ZA]
def MO(c:J0):Qe jH (yh c)=JU c:=by
 let d:(yh c).Nodup:=by
  let:(x9 c).Nodup:=by
   calc(ML c).imp λ{a b}h e=>?_;let:=uG.asy _ _ h
   simp_all
  exact List.Pairwise.sublist List.filter_sublist this
 refine Xz yr (ZE yr d) (ZE yr<|(AY c c []).2.2 UZ) λr=>?_
 grind[yh,xF,mj,Q3]
structure PairsOk(ts:Yf)(r:Jz):4 where
 ne:r ≠[]
 len:r.length<=04
 mem:∀p∈r,p.1∈ts
 up:r.Pairwise λp q=>p.1<q.1
def pI (h:r.Pairwise λp q=>p.1<q.1):jA r:=by
 unfold jA List.Nodup;rw[U5];exact h.imp λh e=>()
def PairsOk.row  (T:ThingsOk c)(P:PairsOk c r):RowOk 12 r:=(P.ne,pI P.up,λp e=>T.rng _<|P.mem p e,Zh P.len ())
def ah  (a:s ≠[])(e:jA r)(h:JD s r=6):QD s hs<=QD r hs:=by
 rw[aB a];intro p b;let(w,c,d):=zW.mp h p b;let:=MJ (hs:=hs)<|Q2 c
 grind
def XE (ok:∀r∈b,jA r/\xf r) (e:r∈b):∃s∈JU b,JD s r=6:=by
 let j:=zW.mpr λp f=>(p.2,(ok r e).1.look f,Int.le_refl _);let ne:b.filter (λo=>JD o r)≠[]:=λz=>by
  simp_all
 let(m,g,h):=EZ ne ();let(c,a):=Jg.mp g;exact(m,xF.mpr (c,vq.mpr λo i d=>h o (Jg.mpr (i,KB d a)) d),a)
def ag  (j:f ≠[])(ok:∀r∈f,r ≠[]/\jA r/\xf r):JO (JU f) hs=JO f hs:=by
 let(r,i,e):=XD (hs:=hs) j;let(s,d,l):=XE (λr h=>(ok r h).2) i;let a:=Xi (hs:=hs) d;let b:=ah (hs:=hs) (ok s (xF.mp d).1).1 (ok r i).2.1 l;let ne:JU f ≠[]:=by grind
 let(m,g,n):=XD (hs:=hs) ne;let c:=Xi (hs:=hs) (xF.mp g).1;lia
def p7 (h:f.length+g.length<=1000):jG (jf f) (jf g)=!(jf<|f++g):=by
 show(if(f.map js).length+(g.map js).length<=sizeLine then _ else _)=_;rw[Zql,Zql,Zd (Qt h)];unfold jf;simp
def W0(c):(JU c).Pairwise λa b=>jH a b=6:=ZE yr<|(AY c c []).2.2 UZ
structure JRow(r:Jz):4 where
 ne:r ≠[]
 rise:xf r
 bnd:∀p∈r,0<=p.1/\p.1<12
def JRow.once (h:JRow r):jA r:=C6 h.rise
def JRow.len (h:JRow r):r.length<=12:=by
 let e:∀(l:Yf)(a:3),l.Pairwise (·<·)->(∀x∈l,a<=x/\x<12)->(l.length:3)<=max 0 (12-a):=by
  intro l
  induction l with
  |nil=>simp;lia
  |cons x l f=>
   intro a c i;rw[List.pairwise_cons]at c;let n:=i x Zqs;let:=f (x+1) c.2 ()
   grind
 let:=e _ 0 h.rise λx j=>by
  let(p,c,rfl):=Ja.mp j;exact h.bnd p c
 grind
def asc(x:Str):4:=x.cps.all (·<128)=6
def mi :asc x↔∀c∈x.cps.toList,c<128:=by
 unfold asc;rw[<-Array.all_toList,UP];simp
def C7(a b:Str):(a++b).length=a.length+b.length:=Array.size_append
def pL(a b:Str):(a++b).cps.toList=a.cps.toList++b.cps.toList:=Array.toList_append
structure TxtOk(n:5)(x:Str):4 where
 len:x.length<=n
 asc:asc x
def TxtOk.app  (e:TxtOk m a)(f:TxtOk n b):TxtOk (m+n) (a++b):=(by rw[C7];let:=e.len;let:=f.len;lia,mi.mpr λc i=>by
 rw[pL]at i;rcases Jb.mp i with h|h
 .exact mi.mp e.asc c h
 .calc mi.mp f.asc c h)
def TxtOk.mono  (c:TxtOk m a)(h:m<=n):TxtOk n a:=(Zh c.len h,c.asc)
def XF  (h:(decide (x.length<=n)&&x.cps.all (·<128))=6):TxtOk n x:=by
 rw[Ui]at h;exact(of_decide_eq_true h.1,h.2)
def C8  (c:TxtOk m a)(d:TxtOk n b)(h:m+n<=1000):jG (.str a) (.str b)=!(.str<|a++b):=Zd<|Qt<|by let:=c.len;let:=d.len;lia
def l6:∀k:Fin 64,Nat.ble (k.val:3).natAbs.log2 1900=6/\(decide ((toString (k.val:3):Str).length<=2)&&(toString (k.val:3):Str).cps.all (·<128))=6:=by decide+kernel
def jV(k:5):Str:=(toString (k:3):Str)
def C9{k:5}(h:k<64):zA [.int (k:3)]=!(.str<|jV k)/\TxtOk 2 (jV k):=by
 let(a,b):=l6 (k,h);exact(Zd a,XF b)
def low(x:Str):4:=∀c∈x.cps.toList,97<=c/\c<123
@[simp]def rz(n:5)(g:FS)(a b c d e:D):qu n 05 g [a,b,c,d,e]=(g<|~~~a::~~~b::~~~c::~~~d::~~~e::List.replicate (n-05) 8).bind yJ:=rfl
structure Pl where
 name:Str
 givens:Yi
 rows:List (Str×Str×Jz)
noncomputable def jv(r:Str×Str×Jz):D:=.tup [.str r.1,.str r.2.1,js r.2.2]
def Fb(p:Pl):D:=.tup [.str p.name,.lst (p.givens.map .str),.lst (p.rows.map jv)]
def J5(p:Pl):D:=.ins "Plan" ["name","givens","rows"] [.str p.name,.lst (p.givens.map .str),.lst (p.rows.map jv)]
def J9(a:List Pl):D:=.ins "Book" ["plans"] [.lst (a.map J5)]
def gb(p:Str×3):D:=.tup [.str p.1,.int p.2]
@[simp]def fF(r):jJ (jv r) (.int 0)=! .str r.1:=rfl
@[simp]def fE(r):jJ (jv r) (.int 1)=! .str r.2.1:=rfl
@[simp]def fD(r):jJ (jv r) (.int 2)=! js r.2.2:=rfl
@[simp]def i8(p):jJ (Fb p) (.int 0)=! .str p.name:=rfl
@[simp]def ig(p):jJ (Fb p) (.int 1)=!(.lst<|p.givens.map .str):=rfl
@[simp]def eR(p):jJ (Fb p) (.int 2)=!(.lst<|p.rows.map jv):=rfl
@[simp]def fH(p):jJ (gb p) (.int 0)=! .str p.1:=rfl
@[simp]def fG(p):jJ (gb p) (.int 1)=! .int p.2:=rfl
@[simp]def ir(a):jK "Book" "plans" (J9 a)=!(.lst<|a.map J5):=rfl
@[simp]def fS(p):jK "Plan" "name" (J5 p)=! .str p.name:=rfl
@[simp]def iq(p):jK "Plan" "givens" (J5 p)=!(.lst<|p.givens.map .str):=rfl
@[simp]def fR(p):jK "Plan" "rows" (J5 p)=!(.lst<|p.rows.map jv):=rfl
def CB  (h:asc x):qM (n+1) (.str x)=6:=by
 show PyData.strOk x=6;unfold PyData.strOk;rw[<-Array.all_toList,UP];exact λc a=>Zp<|Ul (mi.mp h c a) ()
def aa{α:Type}{f:5->α} (h:((List.range n).map f).Nodup) (c:a<n)(d:b<n)(e:f a=f b):a=b:=by
 let h:=Jm.mp<|U5.mp h
 grind
noncomputable def tY(l:Yh):Bool:=l[0]?==!120||l[0]?==!121||l[0]?==!113||l[2]?==!113
structure WB(ps:List Pl):4 where
 l1:1<=ps.length
 l2:ps.length<=20
 nd:(ps.map (·.name)).Nodup
 ok:∀p∈ps,TxtOk 12 p.name/\1<=p.name.length/\p.name ≠"all"/\p.name ≠"first"
 how:∀(i:5)(p:Pl),ps[i]?=!p->∀r∈p.rows,r.2.1="all"\/r.2.1="first"\/r.2.1∈(ps.take i).map (·.name)
 sz:∀p∈ps,p.rows.length<=40/\p.givens.length<=12
@[simp]def mK(is)(f)(a):bC is f a=(f<|qo is a).bare.bind λd=>if Mj d then .ok d else .no:=rfl
@[simp]def mS(c)(a)(b)(d)(e):Cp c a b d e=(d e).bind λf=>(b f).bind λg=>.ok<|.ins c a g:=rfl
@[simp]def eL(i j k)(r)(a):JW (.tup [i,j,k]) (jv r) a=.ok (((a.set i<|~~~.str r.1).set j<|~~~.str r.2.1).set k<|~~~js r.2.2):=rfl
@[simp]def eJ(x):Kj (.str x)=! .inr x:=rfl
def dT(t:List (Str×3)):D:=.dct (t.map λp=>.inr p.1)<|t.map λp=>.int p.2
def z7(t:List (Str×3))(x:Str):Option 3:=(t.find? λp=>decide<|p.1=x).map (·.2)
def pJ :(UC a:jT)=.inr b ↔a=b:=()
theorem Fc:∀(t:List (Str×3))(x:Str),jX (t.map λp=>.inr p.1) (t.map λp=>.int p.2) (.inr x)=(z7 t x).map .int
 |[],_=>9
 |p::t,x=>by
  rw[Zl,Zl];unfold jX z7;rw[List.find?_cons];by_cases h:p.1=x
  .simp_all
  .rw[Ze λz=>h<|pJ.mp z,Zo h];exact Fc t x
@[simp]def dy(t)(x):jJ (dT t) (.str x)=(z7 t x).map .int:=Fc t x
@[simp]def dz(neg)(t)(x):vw neg (.str x) (dT t)=!(.bl<|if neg then not<|(z7 t x).isSome else(z7 t x).isSome):=by
 show some (D.bl<|if neg then not<|(jX (t.map λp=>.inr p.1) (t.map λp=>.int p.2)<|.inr x).isSome else(jX (t.map λp=>.inr p.1) (t.map λp=>.int p.2)<|.inr x).isSome)=_;rw[Fc,Option.isSome_map]
def nF  :z7 t x=8↔x∉t.map (·.1):=by
 grind[z7,Option.map_eq_none_iff,List.find?_eq_none]
def dZ  (h:x∉a.map (·.1)):z7 (a++b) x=z7 b x:=by
 unfold z7;rw[List.find?_append,Option.map_eq_none_iff.mp (nF.mpr h)];rfl
noncomputable def sf(how:Str):Bool:=not<|decide (how="all")||decide (how="first")
def uZ(t:List (Str×3))(p:Pl):3:=p.rows.length+((p.rows.filter λr=>sf r.2.1).map λr=>(z7 t r.2.1).getD 0).sum
def uf(t:List (Str×3))(p:Pl):List (Str×3):=t++[%[p.name|uZ t p]]
def yX(a:List Pl):List (Str×3):=a.foldl uf []
def pf(a)(p):yX (a++[p])=yX a++[%[p.name|uZ (yX a) p]]:=by
 unfold yX;rw[Vq];rfl
theorem MP:∀(l:List Pl)(t:List (Str×3)),∃u,l.foldl uf t=t++u
 |[],t=>([],())
 |p::l,t=>by
  let(u,e):=MP l (uf t p)
  simp_all[uf]
theorem MQ:∀(l:List Pl)t,(l.foldl uf t).map (·.1)=t.map (·.1)++l.map (·.name)
 |[],t=>by simp
 |p::l,t=>by
  rw[Vh,MQ l];unfold uf;simp
theorem Fd(l:List Pl):(yX l).map (·.1)=l.map (·.name):=by
 unfold yX;rw[MQ];rfl
def WB.fresh (W:WB c)  (o:c[i]?=!p):p.name∉(yX<|c.take i).map (·.1):=by
 rw[Fd];intro z;let f:i<c.length:=();let(y,l,e):=Ja.mp z;let(j,n,q):=UB l;rw[Uq]at n;let r:=Jm.mp (U5.mp W.nd) j i () f ()
 simp_all
def WB.at (W:WB c)  (f:c[i]?=!p):z7 (yX c) p.name=! uZ (yX<|c.take i) p:=by
 let e:yX c=(c.drop<|i+1).foldl uf (yX (c.take i)++[%[p.name|uZ (yX<|c.take i) p]]):=by
  rw[<-pf];unfold yX;rw[<-Vq];let j:c.take (i+1)=c.take i++[p]:=by rw[List.take_succ,f];rfl
  rw[<-j,UI]
 let(u,l):=MP (c.drop<|i+1) (yX (c.take i)++[%[p.name|uZ (yX<|c.take i) p]]);rw[e,l,Ug,dZ (W.fresh f)]
 simp_all[z7]
def WB.part (W:WB c)  (l:c[i]?=!p) (n:r∈p.rows):(z7 (yX<|c.take i) r.2.1).isSome=sf r.2.1:=by
 let f:∀w:Str,(∀y∈c,y.name≠w)->z7 (yX<|c.take i) w=8:=λw o=>nF.mpr<|by
  grind[Fd]
 rcases W.how i p l r n with z|z|z
 .rw[z,f "all" λy j=>(W.ok y j).2.2.1];rfl
 .rw[z,f "first" λy j=>(W.ok y j).2.2.2];rfl
 .let q:(z7 (yX<|c.take i) r.2.1).isSome=6:=by
   cases h:z7 (yX<|c.take i) r.2.1 with
   |some v=>rfl
   |none=>exact Zn (by rwa[Fd])<|nF.mp h
  have(y,j,e):=Ja.mp z;let ok:=W.ok y ()
  simp_all[sf]
@[simp]def sE(a)(b)(c):yF a b c=(a b).bind λd=>.ok %[d|c]:=rfl
@[simp]def pB(g)(b c)(a)(d):x6 g b c a d=(b a d).bind λp=>(c a p.2).bind λq=>(Res.ofO<|g p.1 q.1).bind λz=>.ok %[z|q.2]:=rfl
@[simp]def ie(a)(b)(c)(d):Kl a b c d=(b c).bind λe=>a e d:=rfl
@[simp]def bg(b)(a):YS b a=.ok %[[]|a]:=rfl
@[simp]def eY(f)(g)(a)(b):Wi f g a b=(f a b).bind λp=>(g a p.2).bind λq=>.ok %[p.1::q.1|q.2]:=rfl
@[simp]def bf(a)(b)(c):AN a b c=(a b c).bind λp=>if p.1.length<=1000 then .ok %[.tup p.1|p.2]else .no:=rfl
@[simp]def eG(i)(f)(a)(b):YT i f a b=(f a b).bind λp=>.ok<|.next (a.set i<|~~~p.1) p.2:=rfl
@[simp]def mX(i)(g)(a)(b):vE i g a b=g (qo [i] a) b:=rfl
@[simp]def mI(is)(f)(b)(a):v6 is f b a=(f<|derI a is b).strict.bind λd=>if Uk d then .ok %[d|a]else .no:=rfl
def eK(g:xq):Out2->Res (D×HP)
 |.next a b=>g a b
 |_=>.no
@[simp]def nu(g)(a)(b):eK g (.next a b)=g a b:=rfl
@[simp]def mW(a:xr)(g:xq)(b:SD)(c:HP):yi a g b c=(a b c).bind (eK g):=by
 rfl
@[simp]def sV(b)(ga g)(a)(c):sY b ga g a c=(b a c).bind λp=>if p.1 then ga a p.2 else g a p.2:=rfl
def tK(p:D×HP):Res (Bool×HP):=match p.1 with
 |.bl b=>.ok %[b|p.2]
 |_=>.no
@[simp]def tT(b)(a):tK %[.bl b|a]=.ok %[b|a]:=rfl
@[simp]def iu(f)(a)(b):EF f a b=(f a b).bind tK:=rfl
def j7(p:3):D:=.lst [.int p]
def Fe(a)(d):jc [%[a|d]] a=!d:=Zd 9
def MS(a)(d)(R:HP):jc (%[a|d]::R) a=!d:=Zd 9
def lF(a)(d e)(R:HP):Q6 (%[a|d]::R) a e=%[a|e]::R:=Zd 9
def MT    {R:HP}(b:fo sd=.ok (.adr a))(c:fi sd=.ok (.int 0)):wc fo fi sd (%[a|j7 p]::R)=.ok %[.int p|%[a|j7 p]::R]:=by
 unfold wc;rw[b,Res.bind_ok];show(match jc (%[a|j7 p]::R) a with
  |some (.lst d)=>(fi sd).bind λk=>(Res.ofO<|jJ (.lst d) k).bind λz=>.ok %[z|%[a|j7 p]::R]
  |_=>.no)=_
 rw[MS,c];rfl
def CC    (h:b[i]?=! ! .own 7 d)(c:∀a,f (b.set i<|~~~.adr a) [%[a|d]]=.ok %[v|[%[a|d1]]]):ya i f b=.ok %[v|b.set i ! .own 7 d1]:=by
 unfold ya;rw[h];refine pj λa=>?_
 simp_all[Fe]
def Ff{n ar:5}    (h:b.length=ar)(e:g (JT n b) [%[a|d]]=.ok %[v|[%[a|c]]]):Wj n ar g b [%[a|d]]=.ok %[v|[%[a|c]]]:=by
 simp_all[Wj]
def lQ{n ar:5}    {R:HP}(h:b.length=ar)(e:g (JT n b) (%[a|d]::R)=.ok %[v|%[a|c]::R]):Wj n ar g b (%[a|d]::R)=.ok %[v|%[a|c]::R]:=by
 simp_all[Wj]
def dY{j:3}(h:0<=j)(a:j<10000000000000000000000000000000000000000):j.natAbs<yz:=Zg (show j.natAbs<10000000000000000000000000000000000000000 from())<|VC 9
def kD     (h:a c d=.ok (.next sd' hp'))(e:b sd' hp'=r):yi a b c d=r:=()
def Wn   (h:g b=.ok (.next a)):zu g b c=.ok (.next a c):=()
def AZ    (h:f b=.ok %[v|a]):YV i f b=.ok (.next<|a.set i<|~~~v):=()
def Fg     (e:b[i]?=! !(.own 7<|.lst d))(h:f b=.ok %[v|a])(g:a[i]?=! !(.own 7<|.lst c))(j:c.length<sizeLine):XB i f b=.ok (.next<|a.set i<|!(.own 7<|.lst<|c++[v])):=by
 simp_all[XB]
def ZF    (j:∀a,f [.adr a,.int m] [%[a|j7 p]]=.ok %[.int (p%m)|[%[a|j7 (p/m)]]])(h:b[i]?=! !(.own 7<|j7 p))(c:FE)(l:∀a,c (b.set i<|~~~.adr a)=.ok (.int m))(g:D->D->YD)(e:FE) (n:∀a,e (b.set i<|~~~.adr a)=.ok d)(o:g d (.int<|p%m)=!z):
 ya i (x6 g (yF e)<|Kl f<|J1 (ja i)<|J1 c jd) b=.ok %[z|b.set i !(.own 7<|j7<|p/m)]:=by
 calc CC h λa=>?_;let q:(b.set i<|~~~.adr a)[i]?=!~~~.adr a:=by
  grind
 simp_all
def Wo (a:asc x)(b:asc y):qk (.str x) (.str y)=!(.bl<|decide<|x=y):=by
 rw[A4 (CB a) (CB b)]
 simp_all[Q5]
def ZG:asc "all":=by unfold asc;decide+kernel
def ZH:asc "first":=by unfold asc;decide+kernel
def MU:qk (.str "all") (.str "all")=! .bl 6:=by rw[Wo ZG ZG];congr 2
def MV:qk (.str "first") (.str "all")=! .bl 7:=by rw[Wo ZH ZG];congr 2
def MW:qk (.str "first") (.str "first")=! .bl 6:=by rw[Wo ZH ZH];congr 2
def wN(a:Yf)(b:Jz):Yf:=b.map λp=>xB a p.1+p.2
def kj(a:Yf)(r:Str×Str×Jz):3:=if r.2.1="all"then qO (wN a r.2.2)else zz (wN a r.2.2)
def wP(a:List (Str×Str×Jz))(b:Yf):Yf:=a.foldl (λf r=>f++[kj f r]) b
structure RowsOk(n:5)(rows:List (Str×Str×Jz)):4 where
 len:rows.length<=60
 pos:1<=rows.length
 how:∀r∈rows,r.2.1="all"\/r.2.1="first"
 ne:∀r∈rows,r.2.2 ≠[]
 sh:∀r∈rows,r.2.2.length<=60
 rng:∀(k:5)r,rows[k]?=!r->∀p∈r.2.2,0<=p.1/\p.1<(n:3)+k
theorem Cd:∀a b,(wP a b).length=b.length+a.length
 |[],b=>9
 |r::a,b=>by
  show(wP a<|b++[kj b r]).length=_;rw[Cd a,Ua,Ub,Zu];lia
def RowsOk.at  (ok:RowsOk n c) (o:f.length=n)  (h:c[i]?=!r):(∀p∈r.2.2,0<=p.1/\p.1<((wP (c.take i) f).length:3))/\(wP (c.take i) f).length=n+i/\i<c.length/\r∈c:=by
 let j:=(Jd.mp h).1;let e:(wP (c.take i) f).length=n+i:=by rw[Cd,Uq];lia
 calc(λp l=>?_,e,j,Uf h);let:=ok.rng i r h p l;lia
def Xj{α:Type}{l:List α}(h:l ≠[]):∃a x,l=a++[x]:=(l.dropLast,l.getLast h,(List.dropLast_concat_getLast h).symm)
def zX    (h:a c d=.ok (.next sd' hp'))(e:b sd' hp'=r):K8 a b c d=r:=()
def gS     (h:c a b=.ok 6)(e:d a b=r):wO c d f a b=r:=by
 rwa[Mo,h]
def gU     (h:c a b=.ok 7)(e:d a b=r):wO c f d a b=r:=by
 rwa[Mo,h]
def li     (h:e[i]?=! ! .own 7 d)(l:∀a,a≠b->f (e.set i<|~~~.adr a) [%[a|d],%[b|c]]=.ok %[v|[%[a|d1],%[b|c]]]):AR i f e [%[b|c]]=.ok %[v,e.set i ! .own 7 d1|[%[b|c]]]:=by
 unfold AR;rw[h];let g:∀a,jc [%[b|c]] a=8↔a≠b:=λa=>by
  simp_all[JR,Cq]
 calc cP (b+1,()) λa j=>?_;rw[l a ((g a).mp j),Res.bind_ok];exact Zd (9,j)
def lA     (h:f c d=.ok %[v,a|b]):Cu i f c d=.ok (.next (a.set i<|~~~v) b):=by
 simp_all[Cu]
def l9      (h:f c=.ok %[.int n|a])(g:n<=1000):Cv f d b c e=xJ (Wh d b) (JY 0 n) a e:=by
 unfold Cv;rw[h,Res.bind_ok];exact Zd<|BX () ()
@[simp]def bh(b c)(a)(d):EK b c a d=(b a d).bind λp=>(c a p.2).bind<|gR p.1:=rfl
@[simp]def ii(a)(b)(c)(d):EL a b c d=(b c d).bind λp=>a p.1 p.2:=rfl
def c7    (h:a≠b)(e:xy c k=!z):gR (.adr a) %[.int k|[%[b|d],%[a|.lst c]]]=.ok %[z|[%[b|d],%[a|.lst c]]]:=by
 simp_all[gR,JR]
def gd:Pl:=("",[],[])
abbrev Rw:=Str×Str×Jz
structure RwP(ps:List Pl)(n:3)(r:Rw):4 where
 nm:asc r.1
 how:r.2.1="all"\/r.2.1="first"\/∃q∈ps,r.2.1=q.name/\r.2.2.length=q.givens.length
 ne:r.2.2 ≠[]
 sh:r.2.2.length<=10
 rng:∀p∈r.2.2,0<=p.1/\p.1<n
 wt:∀p∈r.2.2,-1000000000000000000000000000000<=p.2/\p.2<=1000000000000000000000000000000
structure PlP(ps:List Pl)(p:Pl):4 where
 g1:1<=p.givens.length
 g2:p.givens.length<=04
 r1:1<=p.rows.length
 r2:p.rows.length<=08
 row:∀(k:5)r,p.rows[k]?=!r->RwP ps ((p.givens.length:3)+k) r
structure BkP(ps:List Pl):4 where
 len:ps.length<=04
 nm:∀(i:5)p,ps[i]?=!p->asc p.name/\p.name ≠"all"/\p.name ≠"first"
 inj:∀(i j:5)p q,ps[i]?=!p->ps[j]?=!q->p.name=q.name->i=j
 ok:∀(i:5)p,ps[i]?=!p->PlP (ps.take i) p
def BkP.at (B:BkP c) {p:Pl}(h:c[i]?=!p):i<c.length/\i<04/\asc p.name/\p.name ≠"all"/\p.name ≠"first":=have e:=(Jd.mp h).1;have l:=B.len;(e,(),B.nm i p h)
theorem BkP.find (B:BkP l){i:5} (h:l[i]?=!p):l.find? λq=>decide<|q.name=p.name=!p:=by
 calc MI (λq n=>?_) h<|Zp 9;let(j,c):=Jh.mp n;let f:=(Jd.mp c).1;rw[Uq]at f;rw[Vt ()]at c;calc Zo λe=>?_;let:=B.inj j i q p c h e;lia
def ki(b:Str->List 3->3)(a:Yf)(r:Rw):3:=if r.2.1="all"then qO (wN a r.2.2)else if r.2.1="first"then zz (wN a r.2.2)else b r.2.1 (wN a r.2.2)
def we(b:Str->List 3->3)(a:List Rw)(c:Yf):Yf:=a.foldl (λf r=>f++[ki b f r]) c
def zP(a:List Pl):5->Pl->List 3->List 3
 |0,_,_=>[]
 |n+1,p,b=>we (λx c=>(zP a n ((a.find? λq=>decide<|q.name=x).getD gd) c).getLastD 0) p.rows b
theorem Fh(c):∀a b,(we c a b).length=b.length+a.length
 |[],b=>9
 |r::a,b=>by
  show(we c a<|b++[ki c b r]).length=_;rw[Fh c a,Ua,Ub,Zu];lia
def lj    :(zP ps (n+1) p hs).length=hs.length+p.rows.length:=Fh _ _ _
def lI    (P:PlP b p):∃a,zP ps (n+1) p hs=a++[(zP ps (n+1) p hs).getLastD 0]:=by
 let ne:zP ps (n+1) p hs ≠[]:=λz=>by
  let c:=lj (ps:=ps) (n:=n) (p:=p) (hs:=hs);let d:=P.r1
  grind
 let(a x,e):=Xj ne
 simp_all
def PlP.at  (P:PlP n p)  (o:c.length=p.givens.length){i:5}{r:Rw}(h:p.rows[i]?=!r):(∀y∈r.2.2,0<=y.1/\y.1<((we f (p.rows.take i) c).length:3))/\(we f (p.rows.take i) c).length=p.givens.length+i/\i<p.rows.length:=by
 let j:=(Jd.mp h).1;let e:(we f (p.rows.take i) c).length=p.givens.length+i:=by rw[Fh,Uq];lia
 calc(λy l=>?_,e,j);let:=(P.row i r h).rng y l;lia
def BkP.snoc  (B:BkP c)(l:c.length<04)(P:PlP c p)(o:asc p.name/\p.name ≠"all"/\p.name ≠"first")(n:∀q∈c,q.name≠p.name):BkP (c++[p]):=by
 let f:∀(i:5)q,(c++[p])[i]?=!q->i<c.length/\c[i]?=!q\/i=c.length/\q=p:=λi q h=>by
  rcases Nat.lt_or_ge i c.length with z|z
  .rw[UY z]at h;exact .inl (z,h)
  .rw[UK z]at h;rcases Vo (i-c.length)with y|y
   .rw[y]at h;cases h;exact .inr ((),9)
   .rw[VE (by rw[Ub];lia)]at h;cases h
 refine((),λi q h=>?_,λi j q r h s e=>?_,λi q h=>?_)
 .rcases f i q h with ⟨_,z⟩|⟨rfl,rfl⟩
  .exact B.nm i q z
  .exact o
 .rcases f i q h with ⟨_,z⟩|⟨rfl,rfl⟩<;>rcases f j r s with ⟨_,y⟩|⟨rfl,rfl⟩
  .exact B.inj i j q r z y e
  .exact Zn e<|n q<|Uf z
  .exact Zn e.symm<|n r<|Uf y
  .rfl
 .rcases f i q h with ⟨y,z⟩|⟨rfl,rfl⟩
  .rw[List.take_append_of_le_length ()];exact B.ok i q z
  simp_all
def BkP.giv (B:BkP e):∀q∈e,1<=q.givens.length/\q.givens.length<=04:=λq f=>by
 let(i,c):=Jh.mp f;exact((B.ok i q c).g1,(B.ok i q c).g2)
def tZ(a:List Pl)(n:5)(x:Str)(b:Yf):3:=(zP a n ((a.find? λq=>decide<|q.name=x).getD gd) b).getLastD 0
theorem BkP.how (B:BkP f){i:5} (l:f[i]?=!p){k:5}{r:Rw}(n:p.rows[k]?=!r):r.2.1="all"\/r.2.1="first"\/asc r.2.1/\r.2.1 ≠"all"/\r.2.1 ≠"first"/\∃j q,j<i/\f[j]?=!q/\r.2.1=q.name/\r.2.2.length=q.givens.length:=by
 rcases((B.ok i p l).row k r n).how with z|z|⟨q,z1,z2,z3⟩
 .exact .inl z
 .exact .inr<|.inl z
 .let(j,c):=Jh.mp z1;let e:=(Jd.mp c).1;rw[Uq]at e;rw[Vt ()]at c;let(!_,_,o,s,u):=B.at c;exact .inr<|.inr (by rwa[z2],by rwa[z2],by rwa[z2],j,q,(),c,z2,z3)
def BkP.part (B:BkP c){j n:5} (i:c[j]?=!q)(l:Yf):∃f,zP c (n+1) q l=f++[tZ c (n+1) q.name l]:=by
 let(f,e):=lI (B.ok j q i);calc(f,?_);unfold tZ
 rwa[B.find i]
theorem Fi{α:Type}:∀{l m:List α},l.Nodup->(∀x∈l,x∈m)->l.length<=m.length
 |[],m,_,_=>Uc _
 |x::l,m,h,s=>by
  let(a,b,rfl):=List.append_of_mem (s x Zqs);have(d,c):=Jk.mp h;let e:=Fi (m:=a++b) c λy f=>by
   grind
  grind
def xi(t g:J0):J0:=JU<|t++g
structure Fm(n:3)(U:J0)(f:J0):4 where
 good:Good n f
 sub:∀r∈f,r∈U
def Fm.len  (F:Fm n U f)(h:U.length<=28):f.length<=28:=Zh (Fi (F.good.srt.imp λ{a b}h e=>by
 let:=yr.asy _ _ h
 simp_all) F.sub) h
def Fm.step  (T:Fm n U t)(G:Fm n U g)(h:U.length<=28):Fm n U (xi t g):=by
 let c:∀r∈t++g,RowOk n r/\xf r/\r∈U:=λr f=>by
  rcases Jb.mp f with z|z
  .exact(T.good.rows r z,T.good.rise r z,T.sub r z)
  .exact(G.good.rows r z,G.good.rise r z,G.sub r z)
 let sub:=λr f=>(c r (xF.mp f).1).2.2;refine((λz=>?_,λr f=>(c r (xF.mp f).1).1,λr f=>(c r (xF.mp f).1).2.1,?_,λr f s i j=>vq.mp (xF.mp i).2 r (xF.mp f).1 j,W0 _),sub)
 .let(r,f):=List.exists_mem_of_ne_nil _ T.good.ne;let(s,i,_):=XE (λr f=>((c r f).1.once,(c r f).2.1)) (Vw _ f);let i:s∈xi t g:=i
  simp_all
 .let:=Fi ((W0<|t++g).imp λ{a b}h e=>by
   let:=yr.asy _ _ h
   simp_all) sub
  show(JU<|t++g).length<=40;lia
def Fj:YC->Res YC:=zQ 2 2<|J1 (jq Ww<|J1 (ja 1) jd) jd
def Fk:YC->Res YC:=zQ 04 04<|J1 (ja 1)<|J1 (jq Ww<|J1 (ja 2) jd)<|J1 (jq Ww<|J1 (ja 03) jd) jd
def Ba:FS:=jN (yc (JC<|jm sx (ja 1)<|jq jO<|J1 (ja 0) jd) (jP<|jm jJ (ja 0)<|ja 1) Qz)<|jP<|dC<|.int 0
def KR:YC->Res D:=qu 2 2 Ba
def CD:xq:=yi (YT 2<|x6 zc (wc (ja 0)<|dC<|.int 0)<|yF<|ja 1)<|yi (Cr (ja 0) (dC<|.int 0)<|x6 Ct (wc (ja 0)<|dC<|.int 0)<|yF<|ja 1)<|yF<|ja 2
def KS:YC->HP->Res (D×HP):=Wj 03 2 CD
def MX (a:Addr)(R:HP)(h:0<m)(b:m<10000000000000000000000000000000000000000):KS [.adr a,.int m] (%[a|j7 p]::R)=.ok %[.int (p%m)|%[a|j7 (p/m)]::R]:=by
 calc lQ 9 ?_;let c:=MT (fo:=ja 0) (fi:=dC<|.int 0) (sd:=[~~~.adr a,~~~.int m,8]) (p:=p) (R:=R) 9 9;let d:Cr (ja 0) (dC<|.int 0) (x6 Ct (wc (ja 0)<|dC<|.int 0)<|yF<|ja 1) [~~~.adr a,~~~.int m,~~~(.int<|p%m)] (%[a|j7 p]::R)=.ok (.next [~~~.adr a,~~~.int m,~~~(.int<|p%m)]<|%[a|j7 (p/m)]::R):=by
  unfold Cr;rw[pB,MT 9 9];simp;rw[lR h<|dY () b];show(match jc (%[a|j7 p]::R) a with
   |some (.lst e)=>_
   |_=>Res.no)=_
  rw[MS];show Res.ok (Out2.next _<|Q6 (%[a|j7 p]::R) a<|j7<|p/m)=_;rw[lF]
 simp_all[CD,JT]
def W1 (a)(h:0<m)(b:m<10000000000000000000000000000000000000000):KS [.adr a,.int m] [%[a|j7 p]]=.ok %[.int (p%m)|[%[a|j7 (p/m)]]]:=MX a [] h b
def Bb:xq:=sY (EF<|x6 wa (Kl KS<|J1 (ja 0)<|J1 (dC<|.int 04) jd)<|yF<|dC<|.int 0) (x6 za (Kl KS<|J1 (ja 0)<|J1 (dC<|.int 09) jd)<|yF<|dC<|.int 04)<|x6 za (Kl KS<|J1 (ja 0)<|J1 (jm za (jm zb (dC<|.int 2)<|jm yu (dC<|.int 10)<|dC<|.int 30)<|dC<|.int 1) jd)<|yF<|jm za (jm yu (dC<|.int 10)<|dC<|.int 30)<|dC<|.int 1
def CF:YC->HP->Res (D×HP):=Wj 1 1 Bb
noncomputable def ZI(p:3):3:=if 0<p%04 then p/04%09-04 else p/04%1999999999999999999999999999999-999999999999999999999999999999
def Fl(p:3):3:=if 0<p%04 then p/04/09 else p/04/1999999999999999999999999999999
def hX (a:Addr):CF [.adr a] [%[a|j7 p]]=.ok %[.int (ZI p)|[%[a|j7 (Fl p)]]]:=by
 calc Ff 9 ?_;let b:=W1 (p:=p) (m:=04) a () ();let e:=W1 (p:=p/04) (m:=09) a () ();let c:yu (.int 10) (.int 30)=! .int 1000000000000000000000000000000:=by
  rfl
 let d:zb (.int 2) (.int 1000000000000000000000000000000)=! .int 2000000000000000000000000000000:=9;unfold ZI Fl;by_cases h:0<p%04
 .simp_all[Bb,JT]
 .simp[Bb,JT,b,W1 (m:=1999999999999999999999999999999) a (by decide+kernel)<|by decide+kernel,c,d,h]
def CG:xq:=yi (zu<|qD 03<|xb jd)<|yi (EC (wF<|J1 (ja 2) jd) (.one 04)<|K8 (YT 05<|Kl KS<|J1 (ja 0)<|J1 (ja 1) jd)<|AO 03<|AN<|Wi (yF<|ja 05)<|Wi (Kl CF<|J1 (ja 0) jd) YS)<|vE 03<|yF<|jq WC<|J1 (ja 03) jd
def Fp:YC->HP->Res (D×HP):=Wj 06 03 CG
def yd(m p:3):5->3
 |0=>p
 |n+1=>Fl (yd m p n/m)
def Fq(m p:3)(k:5):3×3:=%[yd m p k%m|ZI (yd m p k/m)]
def qZ(m p:3)(n:5):Jz:=(List.range n).map<|Fq m p
def l8(m p:3)(n:5):qZ m p (n+1)=qZ m p n++[Fq m p n]:=by
 grind[qZ,List.range_succ,List.map_append]
theorem Bc(m p:3)(n:5):(qZ m p n).length=n:=by unfold qZ;simp
def hW {c:5}(a:Addr)(h:0<m)(o:m<1000)(q:c<=10):Fp [.adr a,.int m,.int c] [%[a|j7 p]]=.ok %[js (qZ m p c)|[%[a|j7 (yd m p c)]]]:=by
 calc Ff 9 ?_;let d:WW [.int c]=.ok (JY 0 c):=by rw[Cb () ()];rfl
 let(f,g,e,u,v,j,l):=ED (b:=Wh (.one 04)<|K8 (YT 05<|Kl KS<|J1 (ja 0)<|J1 (ja 1) jd)<|AO 03<|AN<|Wi (yF<|ja 05)<|Wi (Kl CF<|J1 (ja 0) jd) YS) (ds:=JY 0 c) (sd:=[~~~.adr a,~~~.int m,~~~.int c,!(.own 7<|.lst []),8,8]) (hp:=[%[a|j7 p]])
  (P:=λi sd hp=>∃u v,sd=[~~~.adr a,~~~.int m,~~~.int c,!(.own 7<|.lst<|(qZ m p i).map qB),u,v]/\hp=[%[a|j7 (yd m p i)]]) (jI 8 8 (9,9)) (by
   rintro i x sd hp n ⟨u,v,rfl,rfl⟩;let(rfl,r):=X6 n;let s:=W1 (p:=yd m p i) a h ();let t:=hX (p:=yd m p i/m) a;let w:=Ql<|show(qZ m p i).length<=1000 by rw[Bc];lia
   simp_all[l8,AO,yd,Fq,qB])
 subst j l;rw[Cc]at e;simp[CG,JT,d,e];rfl
def CH:xq:=yi (zu<|qD 05<|xb<|J1 (jm zc (J8 KR<|J1 (ja 0)<|J1 (ja 1) jd)<|jm yu (dC<|.int 10)<|dC<|.int 09) jd)<|yi (zu<|YV 06<|ya 05<|x6 jG (yF<|dC<|.int 1)<|Kl KS<|J1 (ja 05)<|J1 (dC<|.int 04) jd)<|yi (zu<|qD 07<|xb jd)<|yi (YT 08<|v6 [03]<|jm u4 (ja 03)<|xb jd)<|yi (Cv (ya 05<|x6 jG (yF<|dC<|.int 1)<|Kl KS<|J1 (ja 05)<|J1 (ja 04) jd) (.one 09)<|K8 (zu<|qD 10<|xb<|J1 (jm jG (jm zb (jm zc (J8 KR<|J1 (ja 0)<|J1 (jm jG (jm jG (ja 1)<|dC<|.int 1)<|ja 09) jd)<|jm yu (dC<|.int 10)<|dC<|.int 64)<|jm yu (dC<|.int 10)<|dC<|.int 20)<|jm zc (J8 KR<|J1 (ja 0)<|J1 (ja 1) jd)<|jm yu (dC<|.int 10)<|dC<|.int 20) jd)<|K8 (zu<|YV 11<|ya 10<|x6 u3 (yF<|xb<|J1 (dC<|.str "all")<|J1 (dC<|.str "first")<|J1 (dC<|.str "all")<|J1 (dC<|.str "first")<|J1 (dC<|.str "part") jd)<|Kl KS<|J1 (ja 10)<|J1 (dC<|.int 05) jd)<|K8 (zu<|YV 12<|ya 10<|x6 jG (yF<|dC<|.int 1)<|Kl KS<|J1 (ja 10)<|J1 (dC<|.int 04) jd)<|K8 (zu<|yc (BJ (JC<|jm qk (ja 11)<|dC<|.str "part")<|JC<|ja 08) (jE 11<|dC<|.str "all") Qz)<|K8 (wO (rh<|JC<|jm qk (ja 11)<|dC<|.str "part") (K8 (zu<|jE 08<|dC<|.bl 6)<|K8 (Cu 13<|AR 10<|EK (yF<|ja 03)<|EL KS<|Wi (yF<|ja 10)<|Wi (v6 [03]<|jq jO<|J1 (ja 03) jd) YS)<|K8 (zu<|jE 11<|qC (jK "Plan" "name")<|ja 13)<|zu<|jE 12<|jq jO<|J1 (qC (jK "Plan" "givens")<|ja 13) jd) Mm)<|zu<|XB 07<|ya 10<|AN<|Wi (yF<|jm jG (dC<|.str "m")<|jq zA<|J1 (ja 09) jd)<|Wi (yF<|ja 11)<|Wi (Kl Fp<|J1 (ja 10)<|J1 (jm jG (ja 06)<|ja 09)<|J1 (ja 12) jd) YS)<|vE 07<|yF<|Cp "Plan" ["name","givens","rows"] Fk<|J1 (ja 2)<|J1 (Qf [8] (wF<|J1 (ja 06) jd) (.one 0)<|jm jG (dC<|.str "g")<|jq zA<|J1 (ja 0) jd)<|J1 (ja 07) jd
def CI:YC->HP->Res (D×HP):=Wj 14 05 CH
def qx(a:Yf)(s:5):5:=(1+QK a s%1000000000%04).toNat
def wg(a:Yf)(s:5)(m:3):5:=(1+QK a s%1000000000/04%m).toNat
def zw(a:Yf)(s k:5):3:=QK a (s+1+k)%10000000000000000000000000000000000000000000000000000000000000000*100000000000000000000+QK a s%100000000000000000000
def xU(c:3):Str:=if c%05=1\/c%05=03 then"first"else"all"
def vX(a:List Pl)(c:3):Pl:=a.getD (c%(a.length:3)).toNat gd
abbrev wm(ps:List Pl)(c:3)(used:Bool):4:=c%05=04/\used=7
def ye(a:Yf)(s:5)(b:List Pl):5->List Rw×Bool
 |0=>%[[]|b.isEmpty]
 |k+1=>if wm b (zw a s k) (ye a s b k).2 then%[(ye a s b k).1++[%["m"++jV k,(vX b<|zw a s k/05/04).name|qZ ((qx a s:3)+k) (zw a s k/05/04/b.length) (vX b<|zw a s k/05/04).givens.length]]|6]
  else%[(ye a s b k).1++[%["m"++jV k,xU (zw a s k)|qZ ((qx a s:3)+k) (zw a s k/05/04) (1+zw a s k/05%04).toNat]]|(ye a s b k).2]
def lb(a)(s)(b)(k):ye a s b (k+1)=if wm b (zw a s k) (ye a s b k).2 then%[(ye a s b k).1++[%["m"++jV k,(vX b<|zw a s k/05/04).name|qZ ((qx a s:3)+k) (zw a s k/05/04/b.length) (vX b<|zw a s k/05/04).givens.length]]|6]
 else%[(ye a s b k).1++[%["m"++jV k,xU (zw a s k)|qZ ((qx a s:3)+k) (zw a s k/05/04) (1+zw a s k/05%04).toNat]]|(ye a s b k).2]:=rfl
def vt(a:Yf)(s:5)(b:Str)(c:List Pl)(m:3):Pl:=(b,(List.range<|qx a s).map λk=>"g"++jV k,(ye a s c<|wg a s m).1)
def Fs(a)(s):1<=qx a s/\qx a s<=04:=by unfold qx;lia
def MY(c)(s) (d:1<=m)(e:m<=08):1<=wg c s m/\wg c s m<=08/\(wg c s m:3)<=m:=by
 unfold wg;let a:=Int.emod_nonneg (QK c s%1000000000/04)<|show m≠0 from();let b:=Int.emod_lt_of_pos (QK c s%1000000000/04)<|show 0<m from();lia
def MZ (h:d ≠[])(c:3):vX d c∈d/\xy (d.map J5) (c%(d.length:3))=!(J5<|vX d c):=by
 let e:0<d.length:=by grind
 let a:=Int.emod_nonneg c (show(d.length:3)≠0 by lia);let b:=Int.emod_lt_of_pos c<|show 0<(d.length:3)from()
 grind[vX,Zql,Z8]
theorem Bd(a)(s)(b):∀k,(ye a s b k).1.length=k
 |0=>9
 |k+1=>by
  unfold ye
  split
  .rw[Ua,Bd a s b k];rfl
  .rw[Ua,Bd a s b k];rfl
theorem Ft   :∀{k:5},(ye ns s ps k).2=7->ps ≠[]
 |0,h,z=>by rw[z]at h;cases h
 |k+1,h,z=>by
  unfold ye at h
  split at h
  .cases h
  .exact Ft h z
theorem Fu   (g:∀q∈f,1<=q.givens.length/\q.givens.length<=04):∀(k:5),k<=60->∀(i:5)r,(ye d s f k).1[i]?=!r->RwP f ((qx d s:3)+i) r
 |0,_,i,r,h=>by cases h
 |k+1,hk,i,r,h=>by
  let w:=Fs d s;let o:TxtOk 1 "m":=XF (by decide+kernel);let l:=(o.app (C9 (k:=k) ()).2).asc;let b:∀(p:3)(n:5),∀x∈qZ ((qx d s:3)+k) p n,-1000000000000000000000000000000<=x.2/\x.2<=1000000000000000000000000000000:=λp n x e=>by
   let(i,_,rfl):=Ja.mp e;show _<=ZI _/\ZI _<=_
   grind[ZI]
  let a:∀(p:3)(n:5),∀x∈qZ ((qx d s:3)+k) p n,0<=x.1/\x.1<(qx d s:3)+k:=λp n x e=>by
   let(j,_,rfl):=Ja.mp e;exact(Int.emod_nonneg _ (),Int.emod_lt_of_pos _ ())
  let c:∀(p:3)(n:5),1<=n->qZ ((qx d s:3)+k) p n ≠[]:=λp n A z=>by
   grind[Bc]
  let last:∀(x:Rw),((ye d s f k).1++[x])[i]?=!r->i<k/\(ye d s f k).1[i]?=!r\/i=k/\r=x:=λx e=>by
   let B:=Bd d s f k;rcases Nat.lt_or_ge i k with z|z
   .rw[UY ()]at e;exact .inl (z,e)
   .rw[UK ()]at e;let t:i-(ye d s f k).1.length=0:=by
     rcases Vo (i-(ye d s f k).1.length)with y|y
     .exact y
     .rw[VE (by rw[Ub];lia)]at e;cases e
    rw[t]at e;cases e;exact()
  unfold ye at h
  split at h
  .rename_i u;rcases last _ h with ⟨_,z⟩|⟨rfl,rfl⟩
   .exact Fu g k () i r z
   .let(m,_):=MZ (Ft u.2) (zw d s i/05/04);let(v,C):=g _ m;exact(l,.inr<|.inr (_,m,9,Bc _ _ _),c _ _ v,by rw[Bc];lia,a _ _,b _ _)
  .rcases last _ h with ⟨_,z⟩|⟨rfl,rfl⟩
   .exact Fu g k () i r z
   .calc(l,?_,c _ _ (),by rw[Bc];lia,a _ _,b _ _);unfold xU
    split
    .exact .inr<|.inl 9
    .exact .inl 9
def dQ     (a:∀q∈ps,1<=q.givens.length/\q.givens.length<=04)(b:1<=m)(c:m<=08):PlP ps (vt ns s nm ps m):=by
 let e:=Fs ns s;let f:=MY ns s b c;let d:(vt ns s nm ps m).givens.length=qx ns s:=by
  show((List.range<|qx ns s).map λk=>"g"++jV k).length=_;simp
 let g:(vt ns s nm ps m).rows.length=wg ns s m:=Bd ns s ps _;exact((),(),(),(),λk r h=>by rw[d];calc Fu a _ () k r h)
def hV  (CA:∀k:5,KR [h,.int k]=.ok (.int<|QK ns k)){s:5}   (hs:s<=60)(hl:ps.length<=20)(hg:∀q∈ps,1<=q.givens.length/\q.givens.length<=04)(w:1<=m)(h2:m<=08)(a:Addr):CI [h,.int s,.str nm,.adr a,.int m] [%[a|.lst (ps.map J5)]]=.ok %[J5 (vt ns s nm ps m)|[%[a|.lst (ps.map J5)]]]:=by
 calc Ff 9 ?_;let eg:=Fs ns s;let en:=MY ns s w h2;let X:=CA s;let q9:yu (.int 10) (.int 09)=! .int 1000000000:=9;let G:yu (.int 10) (.int 64)=! .int 10000000000000000000000000000000000000000000000000000000000000000:=by
  show some (D.int<|10^64)=_
  congr 2
 let H:yu (.int 10) (.int 20)=! .int 100000000000000000000:=9;let l1:TxtOk 1 "m":=XF (by decide+kernel);let l2:TxtOk 1 "g":=XF (by decide+kernel);let Q:asc "part":=by unfold asc;decide+kernel
 let Y:qk (.str "part") (.str "part")=! .bl 6:=by rw[Wo Q Q];congr 2
 let Z:qk (.str "all") (.str "part")=! .bl 7:=by rw[Wo ZG Q];congr 2
 let p3:qk (.str "first") (.str "part")=! .bl 7:=by rw[Wo ZH Q];congr 2
 let(P,hP):∃P,P=QK ns s%1000000000:=(_,9);let hgv:1+P%04=(qx ns s:3):=by unfold qx;lia
 let hn:1+P/04%m=(wg ns s m:3):=by
  unfold wg;let z:=Int.emod_nonneg (QK ns s%1000000000/04)<|show m≠0 from();rw[hP];lia
 let hu:u4 (.lst<|ps.map J5) (.lst [])=! .bl ps.isEmpty:=by show some (D.bl (ps.map J5).isEmpty)=_;rw[List.isEmpty_map]
 generalize hR:ps.map J5=PD at hu;unfold CH;refine kD (sd':=[~~~h,~~~.int s,~~~.str nm,~~~.adr a,~~~.int m,!(.own 7<|j7 P),8,8,8,8,8,8,8,8]) (Wn ?_) ?_
 .simp[JT,X,q9,hP,j7]
 calc kD (Wn<|AZ<|ZF (λa=>W1 a () ()) 9 _ (λ_=>9) _ _ (λ_=>9) (z:=.int<|qx ns s)<|by rw[<-hgv];rfl) ?_;refine kD (sd':=[~~~h,~~~.int s,~~~.str nm,~~~.adr a,~~~.int m,!(.own 7<|j7<|P/04),~~~(.int<|qx ns s),!(.own 7<|.lst []),8,8,8,8,8,8]) (Wn ?_) ?_
 .simp
 refine kD (sd':=[~~~h,~~~.int s,~~~.str nm,~~~.adr a,~~~.int m,!(.own 7<|j7<|P/04),~~~(.int<|qx ns s),!(.own 7<|.lst []),~~~.bl ps.isEmpty,8,8,8,8,8]) (hp':=[%[a|.lst PD]]) ?_ ?_
 .let zd:der [%[a|D.lst PD]] (.adr a)=.lst PD:=by
   unfold der;rw[Fe]
  simp[zd,hu,Res.strict]
 let hn0:=hn;generalize hB:K8 (zu<|qD 10 _) _=b;let lp:∃B t l o g,xJ (Wh (.one 09) b) (JY 0<|wg ns s m) [~~~h,~~~.int s,~~~.str nm,~~~.adr a,~~~.int m,!(.own 7<|j7<|P/04/m),~~~(.int<|qx ns s),!(.own 7<|.lst<|[]),~~~.bl ps.isEmpty,8,8,8,8,8] [%[a|.lst PD]]=.ok (.next [~~~h,~~~.int s,~~~.str nm,~~~.adr a,~~~.int m,!(.own 7<|j7<|P/04/m),~~~(.int<|qx ns s),!(.own 7<|.lst<|(vt ns s nm ps m).rows.map jv),~~~.bl (ye ns s ps<|wg ns s m).2,B,t,l,o,g] [%[a|.lst PD]]):=by
  let(sd',hp',e,B,t,l,o,g,I,hh):=ED (b:=Wh (.one 09) b) (ds:=JY 0<|wg ns s m) (sd:=[~~~h,~~~.int s,~~~.str nm,~~~.adr a,~~~.int m,!(.own 7<|j7<|P/04/m),~~~(.int<|qx ns s),!(.own 7<|.lst<|[]),~~~.bl ps.isEmpty,8,8,8,8,8]) (hp:=[%[a|.lst PD]])
   (P:=λi sd hp=>∃B t l o g,sd=[~~~h,~~~.int s,~~~.str nm,~~~.adr a,~~~.int m,!(.own 7<|j7<|P/04/m),~~~(.int<|qx ns s),!(.own 7<|.lst<|(ye ns s ps i).1.map jv),~~~.bl (ye ns s ps i).2,B,t,l,o,g]/\hp=[%[a|.lst PD]]) (j0 8 8 8 8 8 (9,9)) (by
    rintro i x sd hp hx ⟨B,t,l,o,g,rfl,rfl⟩;let(rfl,hi):=X6 hx;rw[Int.zero_add];let c2:=CA<|s+1+i;rw[show((s+1+i:5):3)=(s:3)+1+(i:3)by lia]at c2;let m0:=()
    let m1:=()
    let m2:=Eg (i:=QK ns (s+1+i)%10000000000000000000000000000000000000000000000000000000000000000) (j:=100000000000000000000)<|Sm (Zg (show _<10000000000000000000000000000000000000000000000000000000000000000 from())<|VC 9)<|VC 9;let eC:QK ns (s+1+i)%10000000000000000000000000000000000000000000000000000000000000000*100000000000000000000+QK ns s%100000000000000000000=zw ns s i:=9;subst hB;let(R,dt):=C9 (k:=i) ();let S:=C8 l1 dt ();let lS:=Bd ns s ps i;let E:((ye ns s ps i).1.map jv).length<sizeLine:=Ql (by rw[Zql,lS];lia);rw[lb];let J:=Ft (ns:=ns) (s:=s) (ps:=ps) (k:=i);generalize ye ns s ps i=st at E J;let(u,f):=st;let E:(u.map jv).length<sizeLine:=E;let J:f=7->ps ≠[]:=J;let(C,hC):∃C,C=zw ns s i:=(_,9);rw[<-hC]at eC ⊢;let(n,hcn):∃n:5,1+C/05%04=(n:3):=((1+C/05%04).toNat,());let hnt:(1+C/05%04).toNat=n:=()
    rw[hnt];rw[lf,IJ,Res.bind_ok];let T:∃A,u3 (.lst [.str "all",.str "first",.str "all",.str "first",.str "part"]) (.int<|C%05)=! .str A/\(A="part"/\xU C="all"/\C%05=04\/A="all"/\xU C="all"/\C%05≠04\/A="first"/\xU C="first"/\C%05≠04):=by
     unfold xU;obtain z|z|z|z|z:C%05=0\/C%05=1\/C%05=2\/C%05=03\/C%05=04:=()
     .rw[z];exact(_,9,.inr<|.inl (9,(),()))
     .rw[z];exact(_,9,.inr<|.inr (9,(),()))
     .rw[z];exact(_,9,.inr<|.inl (9,(),()))
     .rw[z];exact(_,9,.inr<|.inr (9,(),()))
     .rw[z];exact(_,9,.inl (9,(),9))
    let(-A,T,hw):=T;let L:∀(b6:xr)(r:Res Out2),(∀w:Str,w="part"/\wm ps C f\/w=xU C/\¬wm ps C f/\qk (.str w) (.str "part")=! .bl 7->b6 [~~~h,~~~.int s,~~~.str nm,~~~.adr a,~~~.int m,!(.own 7<|j7<|P/04/m),~~~(.int<|qx ns s),!(.own 7<|.lst<|u.map jv),~~~.bl f,~~~.int i,!(.own 7<|j7<|C/05/04),~~~.str w,~~~.int n,g] [%[a|.lst PD]]=r)->K8 (zu<|yc (BJ (JC<|jm qk (ja 11)<|dC<|.str "part")<|JC<|ja 08) (jE 11<|dC<|.str "all") Qz) b6 [~~~h,~~~.int s,~~~.str nm,~~~.adr a,~~~.int m,!(.own 7<|j7<|P/04/m),~~~(.int<|qx ns s),!(.own 7<|.lst<|u.map jv),~~~.bl f,~~~.int i,!(.own 7<|j7<|C/05/04),~~~.str A,~~~.int n,g] [%[a|.lst PD]]=r:=λb6 r k=>by
     rcases hw with ⟨M,N,O⟩|⟨M,N,O⟩|⟨M,N,O⟩
     .subst M;cases f with
      |true=>calc zX (sd':=[~~~h,~~~.int s,~~~.str nm,~~~.adr a,~~~.int m,!(.own 7<|j7<|P/04/m),~~~(.int<|qx ns s),!(.own 7<|.lst<|u.map jv),~~~.bl 6,~~~.int i,!(.own 7<|j7<|C/05/04),!(.val<|.str "all"),~~~.int n,g]) (hp':=[%[a|.lst PD]]) (by simp[Y])<|k "all"<|.inr (N.symm,λq=>(nomatch q.2),Z)
      |false=>exact zX (sd':=[~~~h,~~~.int s,~~~.str nm,~~~.adr a,~~~.int m,!(.own 7<|j7<|P/04/m),~~~(.int<|qx ns s),!(.own 7<|.lst<|u.map jv),~~~.bl 7,~~~.int i,!(.own 7<|j7<|C/05/04),!(.val<|.str "part"),~~~.int n,g]) (hp':=[%[a|.lst PD]]) (by simp[Y])<|k "part"<|.inl (9,O,9)
     .subst M;exact zX (sd':=[~~~h,~~~.int s,~~~.str nm,~~~.adr a,~~~.int m,!(.own 7<|j7<|P/04/m),~~~(.int<|qx ns s),!(.own 7<|.lst<|u.map jv),~~~.bl f,~~~.int i,!(.own 7<|j7<|C/05/04),!(.val<|.str "all"),~~~.int n,g]) (hp':=[%[a|.lst PD]]) (by simp[Z])<|k "all"<|.inr (N.symm,λq=>O q.1,Z)
     .subst M;exact zX (sd':=[~~~h,~~~.int s,~~~.str nm,~~~.adr a,~~~.int m,!(.own 7<|j7<|P/04/m),~~~(.int<|qx ns s),!(.own 7<|.lst<|u.map jv),~~~.bl f,~~~.int i,!(.own 7<|j7<|C/05/04),!(.val<|.str "first"),~~~.int n,g]) (hp':=[%[a|.lst PD]]) (by simp[p3])<|k "first"<|.inr (N.symm,λq=>O q.1,p3)
    let y:=λ(p:3)(c:5)(hc:c<=10)=>λa=>hW (p:=p) (m:=(qx ns s:3)+i) (c:=c) a () () hc;by_cases hp:wm ps C f
    .rw[Zd hp];let(qm,qa):=MZ (J hp.2) (C/05/04);let ql:=hg _ qm;let hps:0<ps.length:=Jx.mpr<|J hp.2;let lPD:PD.length=ps.length:=by rw[<-hR,Zql]
     rw[hR]at qa;generalize vX ps (C/05/04)=q at qa ql;calc([~~~h,~~~.int s,~~~.str nm,~~~.adr a,~~~.int m,!(.own 7<|j7<|P/04/m),~~~(.int<|qx ns s),!(.own 7<|.lst<|(u++[%["m"++jV i,q.name|qZ ((qx ns s:3)+i) (C/05/04/ps.length) q.givens.length]]).map jv),~~~.bl 6,~~~.int i,!(.own 7<|j7<|yd ((qx ns s:3)+i) (C/05/04/ps.length) q.givens.length),~~~.str q.name,~~~.int q.givens.length,~~~J5 q],[%[a|.lst PD]],?_,_,_,_,_,_,9,9);refine zX (sd':=[~~~h,~~~.int s,~~~.str nm,~~~.adr a,~~~.int m,!(.own 7<|j7<|P/04/m),~~~(.int<|qx ns s),!(.own 7<|.lst<|u.map jv),~~~.bl f,~~~.int i,!(.own 7<|j7<|C),l,o,g]) (hp':=[%[a|.lst PD]]) (Wn ?_) ?_
     .simp[X,c2,G,H,m2,eC,j7]
     calc zX (Wn<|AZ<|ZF (λa=>W1 a () ()) 9 _ (λ_=>9) _ _ (λ_=>9) (z:=.str A) T) ?_;calc zX (Wn<|AZ<|ZF (p:=C/05) (λa=>W1 a () ()) 9 _ (λ_=>9) _ _ (λ_=>9) (z:=.int n)<|by rw[<-hcn];rfl) ?_;calc L _ _ λw F=>?_;let e1:w="part":=by
      rcases F with z|z
      .exact z.1
      .exact Zn hp z.2.1
     subst e1;refine zX (sd':=[~~~h,~~~.int s,~~~.str nm,~~~.adr a,~~~.int m,!(.own 7<|j7<|P/04/m),~~~(.int<|qx ns s),!(.own 7<|.lst<|u.map jv),~~~.bl 6,~~~.int i,!(.own 7<|j7<|C/05/04/ps.length),~~~.str q.name,~~~.int q.givens.length,~~~J5 q]) (hp':=[%[a|.lst PD]]) (gS (by simp[Y]) ?_) ?_
     .calc zX (sd':=[~~~h,~~~.int s,~~~.str nm,~~~.adr a,~~~.int m,!(.own 7<|j7<|P/04/m),~~~(.int<|qx ns s),!(.own 7<|.lst<|u.map jv),~~~.bl 6,~~~.int i,!(.own 7<|j7<|C/05/04),!(.val<|.str "part"),~~~.int n,g]) (hp':=[%[a|.lst PD]]) () ?_;let zd:∀b:Addr,b≠a->der [%[b|j7 (C/05/04)],%[a|D.lst PD]] (.adr a)=.lst PD:=λb U=>by
       unfold der;rw[JR,Ze λz=>U z.symm,Fe]
      refine zX (lA<|li (d1:=j7<|C/05/04/ps.length) (v:=J5 q) 9 λb U=>?_) ?_
      .let tk:=MX (p:=C/05/04) (m:=(ps.length:3)) b [%[a|D.lst PD]] () ();let ixq:=c7 (b:=b) (d:=j7<|C/05/04/ps.length) (λz=>U z.symm) qa;simp[zd b U,Res.strict,lPD,tk,ixq,Uk]
      let fn:jK "Plan" "name" (J5 q)=! .str q.name:=9;let fg:jK "Plan" "givens" (J5 q)=!(.lst<|q.givens.map .str):=9;generalize J5 q=qd at fn fg;simp[fn,fg]
     .let y:=y (C/05/04/ps.length) q.givens.length ();refine Wn<|(Fg 9 (CC (d1:=j7<|yd ((qx ns s:3)+i) (C/05/04/ps.length) q.givens.length) (v:=jv %["m"++jV i,q.name|qZ ((qx ns s:3)+i) (C/05/04/ps.length) q.givens.length]) 9 λa=>?_) 9 E).trans ?_
      .let y:=y a;simp[R,S,y,jv]
      .rw[Ud];rfl
    .rw[Ze hp];calc([~~~h,~~~.int s,~~~.str nm,~~~.adr a,~~~.int m,!(.own 7<|j7<|P/04/m),~~~(.int<|qx ns s),!(.own 7<|.lst<|(u++[%["m"++jV i,xU C|qZ ((qx ns s:3)+i) (C/05/04) n]]).map jv),~~~.bl f,~~~.int i,!(.own 7<|j7<|yd ((qx ns s:3)+i) (C/05/04) n),~~~(.str<|xU C),~~~.int n,g],[%[a|.lst PD]],?_,_,_,_,_,_,9,9);refine zX (sd':=[~~~h,~~~.int s,~~~.str nm,~~~.adr a,~~~.int m,!(.own 7<|j7<|P/04/m),~~~(.int<|qx ns s),!(.own 7<|.lst<|u.map jv),~~~.bl f,~~~.int i,!(.own 7<|j7<|C),l,o,g]) (hp':=[%[a|.lst PD]]) (Wn ?_) ?_
     .simp[X,c2,G,H,m2,eC,j7]
     calc zX (Wn<|AZ<|ZF (λa=>W1 a () ()) 9 _ (λ_=>9) _ _ (λ_=>9) (z:=.str A) T) ?_;calc zX (Wn<|AZ<|ZF (p:=C/05) (λa=>W1 a () ()) 9 _ (λ_=>9) _ _ (λ_=>9) (z:=.int n)<|by rw[<-hcn];rfl) ?_;calc L _ _ λw F=>?_;let(e1,_,e2):w=xU C/\¬wm ps C f/\qk (.str w) (.str "part")=! .bl 7:=by
      rcases F with z|z
      .exact Zn z.2 hp
      .exact z
     subst e1;calc zX (sd':=[~~~h,~~~.int s,~~~.str nm,~~~.adr a,~~~.int m,!(.own 7<|j7<|P/04/m),~~~(.int<|qx ns s),!(.own 7<|.lst<|u.map jv),~~~.bl f,~~~.int i,!(.own 7<|j7<|C/05/04),~~~(.str<|xU C),~~~.int n,g]) (hp':=[%[a|.lst PD]]) (gU (by simp[e2]) 9) ?_;let y:=y (C/05/04) n ();refine Wn<|(Fg 9 (CC (d1:=j7<|yd ((qx ns s:3)+i) (C/05/04) n) (v:=jv %["m"++jV i,xU C|qZ ((qx ns s:3)+i) (C/05/04) n]) 9 λa=>?_) 9 E).trans ?_
     .let y:=y a;simp[R,S,y,jv]
     .rw[Ud];rfl)
  rw[Cc]at I;exact j0 B t l o g<|by rw[e,I,hh];rfl
 let(B t l o g,lp):=lp;calc kD ((l9 (n:=wg ns s m) (ZF (λa=>W1 a () ()) 9 _ (λ_=>9) _ _ (λ_=>9) (z:=.int<|wg ns s m)<|by rw[<-hn];rfl) ()).trans lp) ?_;let r1:WW [.int (qx ns s)]=.ok (JY 0<|qx ns s):=by rw[Cb () ()];rfl
 let mk:qz (.one 0) (jm jG (dC<|.str "g")<|jq zA<|J1 (ja 0) jd) [8] (JY 0<|qx ns s)=.ok ((List.range<|qx ns s).map λk:5=>.str<|"g"++jV k):=IL λi hi=>by
  let(R,dt):=C9 (k:=i) ();let S:=C8 l2 dt ();simp[R,S]
 let E:=Cc 0<|qx ns s;let e0:J5 (vt ns s nm ps m)=.ins "Plan" ["name","givens","rows"] [.str nm,.lst ((List.range<|qx ns s).map λk:5=>.str<|"g"++jV k),.lst ((vt ns s nm ps m).rows.map jv)]:=by
  show D.ins _ _ [_,.lst (List.map D.str<|List.map _ _),_]=_;rw[Zw];rfl
 rw[e0];generalize(vt ns s nm ps m).rows.map jv=RD;simp[r1,mk,E,Ql (show qx ns s<=1000 from()),Fk,zQ,JT]
def CJ:FS:=jN (qD 03<|xb jd)<|jN (qT (wF<|J1 (ja 1) jd) (.one 04)<|XB 03<|ya 03<|Kl CI<|J1 (ja 0)<|J1 (jm jG (dC<|.int 1)<|jm zb (ja 04)<|jm jG (ja 2)<|dC<|.int 1)<|J1 (jm jG (dC<|.str "p")<|jq zA<|J1 (ja 04) jd)<|J1 (ja 03)<|J1 (ja 2) jd)<|λa=>(jP<|Cp "Book" ["plans"] Fj<|J1 (ja 03) jd)<|qo [03] a
def Be:YC->Res D:=qF 05 03 CJ
def ci:((List.range 04).map λk=>(("p":Str)++jV k).cps.toList).Nodup:=by decide+kernel
def cS (a:i<04)(b:j<04)(e:("p":Str)++jV i="p"++jV j):i=j:=aa ci a b<|by rw[e]
def pS:∀k:Fin 04,(decide ((("p":Str)++jV k.1).length<=03)&&(("p":Str)++jV k.1).cps.all (·<128))=6/\(("p":Str)++jV k.1).cps.toList≠("all":Str).cps.toList/\(("p":Str)++jV k.1).cps.toList≠("first":Str).cps.toList:=by decide+kernel
def Na (h:k<04):TxtOk 03 ("p"++jV k)/\("p":Str)++jV k ≠"all"/\("p":Str)++jV k ≠"first":=by
 let(!a,b,c):=pS (k,h);exact(XF a,λe=>b<|by rw[e],λe=>c<|by rw[e])
def hQ  (w:∀k:5,KR [c,.int k]=.ok (.int<|QK ns k)){n m:5}(O:n<=04)(o:1<=m)(r:m<=08):∃ps,ps.length=n/\BkP ps/\(∀(k:5)q,ps[k]?=!q->q.name="p"++jV k)/\Be [c,.int n,.int m]=.ok (J9 ps):=by
 let Q:WW [.int n]=.ok (JY 0 n):=by rw[Cb () ()];rfl
 let A:TxtOk 1 "p":=XF (by decide+kernel);let(C,e,ps,u,E,d,B,f):=WX (tg:=.one 04) (b:=XB 03<|ya 03<|Kl CI<|J1 (ja 0)<|J1 (jm jG (dC<|.int 1)<|jm zb (ja 04)<|jm jG (ja 2)<|dC<|.int 1)<|J1 (jm jG (dC<|.str "p")<|jq zA<|J1 (ja 04) jd)<|J1 (ja 03)<|J1 (ja 2) jd) (ds:=JY 0 n) (sd:=[~~~c,~~~.int n,~~~.int m,!(.own 7<|.lst []),8])
  (P:=λi sd=>∃(ps:List Pl)(u:Option SV),sd=[~~~c,~~~.int n,~~~.int m,!(.own 7<|.lst<|ps.map J5),u]/\ps.length=i/\BkP ps/\∀(k:5)q,ps[k]?=!q->q.name="p"++jV k) ([],8,9,9,(Uc _,(by intro i p h;cases h),(by intro i j p q h;cases h),by intro i p h;cases h),λk q h=>nomatch h) (by
   rintro i x sd F ⟨ps,u,rfl,d,B,f⟩;let(rfl,R):=X6 F;rw[Int.zero_add];let(G,H):=C9 (k:=i) ();let I:=C8 A H ();let J:=Eg<|IG (i:=(i:3)) (j:=(m:3)+1) () ();let S:i*(m+1)<=03*09:=U6 () ();let(s,L):∃s:5,s=1+i*(m+1):=(_,9);let g:1+(i:3)*((m:3)+1)=(s:3):=by rw[L];push_cast;rfl
   let P:=dQ (ns:=ns) (s:=s) (nm:="p"++jV i) (ps:=ps) (m:=(m:3)) B.giv () ();let l:=λa=>hV w (s:=s) (nm:="p"++jV i) (ps:=ps) (m:=(m:3)) () () B.giv () () a;refine([~~~c,~~~.int n,~~~.int m,!(.own 7<|.lst<|(ps++[vt ns s ("p"++jV i) ps m]).map J5),~~~.int i],?_,_,_,9,by rw[Ua,Ub,d],B.snoc () P (by let(!o,r,M):=Na (k:=i) ();calc(o.asc,r,M))<|λq N z=>by
    let(k,t):=Jh.mp N;let T:=(Jd.mp t).1;rw[f k q t]at z;let:=cS () () z;lia,λk q h=>by
    rcases Nat.lt_or_ge k ps.length with z|z
    .rw[UY z]at h;exact f k q h
    .rw[UK z]at h;let:k-ps.length=0:=by
      rcases Vo (k-ps.length)with y|y
      .exact y
      .rw[VE (by rw[Ub];lia)]at h;cases h
     rw[this]at h;cases h;rw[show k=i by lia];rfl)
   rw[IJ,Res.bind_ok];refine(Fg 9 (CC (d1:=.lst<|ps.map J5) (v:=J5<|vt ns s ("p"++jV i) ps m) 9 λa=>?_) 9<|Ql<|by rw[Zql];lia).trans ?_
   .let l:=l a;simp[G,I,J,g,l]
   .rw[Ud];rfl)
 subst E;rw[Cc]at d;calc(ps,d,B,f,?_);let U:J9 ps=.ins "Book" ["plans"] [.lst (ps.map J5)]:=9
 simp_all[Be,CJ,Fj,zQ,JT]
def uD:FS:=jN (qT (iS<|ja 0) (.tup [2,03])<|yc (yx (JC<|jm (vw 6) (ja 2)<|ja 1)<|JC<|jm wa (ja 03)<|jm jJ (ja 1)<|ja 2) (jP<|dC<|.bl 7) Qz)<|jP<|dC<|.bl 6
def uE:YC->Res D:=qu 04 2 uD
def sD (e:jA o):uE [js r,yk o]=.ok (.bl<|JD r o):=by
 refine AA (R:=λz=>(z.bind<|yb<|jP<|dC<|.bl 6).bind yJ=.ok (.bl<|JD r o)) (P:=λi d=>(∃u v,d=[~~~js r,~~~yk o,u,v])/\JD (r.take i) o=6) (jI 8 8 9,9) ?_ ?_
 .simp
 .rintro i x d f ⟨⟨u,v,rfl⟩,hu⟩;let(p,b,rfl):=KH f;let a:=BZ e p.1;cases q:JE o p.1 with
  |none=>
   rw[q]at a;let z:xA o p=7:=by unfold xA;rw[q]
   rw[B0 b z];calc .inr<|.inr (.bl 7,by simp[yk,a],())
  |some w=>
   rw[q]at a;by_cases c:w<p.2
   .let z:xA o p=7:=by unfold xA;exact by grind
    rw[B0 b z];exact .inr<|.inr (.bl 7,by simp[yk,a,c],())
   .let z:xA o p=6:=by unfold xA;exact by grind
    exact .inl ([~~~js r,~~~yk o,~~~.int p.1,~~~.int p.2],.inl<|by simp[yk,a,c],jI _ _ 9,GT b hu z)
def vO:FS:=jN (jE 2<|jq WD<|J1 (ja 0) jd)<|jN (qT (iS<|ja 1) (.one 03)<|yc (JC<|J8 uE<|J1 (ja 03)<|J1 (ja 2) jd) (jP<|dC<|.bl 6) Qz)<|jP<|dC<|.bl 7
def xP:YC->Res D:=qu 04 2 vO
def fW  (a:jA r)(d:r.length<=100):xP [js r,jf ks]=.ok (.bl<|ks.any λo=>JD o r):=by
 simp[xP,vO,Eh d a];refine AA (R:=λz=>(z.bind<|yb<|jP<|dC<|.bl 7).bind yJ=.ok (.bl<|ks.any λo=>JD o r)) (P:=λi b=>(∃u,b=[~~~js r,~~~jf ks,~~~yk r,u])/\∀o∈ks.take i,JD o r=7) () ?_ ?_
 .simp
 .rintro i x b f ⟨⟨u,rfl⟩,hu⟩;let(o,g,rfl):=KH f;let c:=sD (r:=o) a;cases q:JD o r with
  |true=>
   let e:ks.any (λo=>JD o r)=6:=by grind
   simp_all
  |false=>
   rw[q]at c;calc .inl ([~~~js r,~~~jf ks,~~~yk r,~~~js o],.inl<|by simp[c],(_,9),λy h=>?_);rw[KY g]at h
   grind
def vR:FS:=jN (qD 2<|jq WD<|J1 (ja 0) jd)<|jN (qT (iS<|ja 1) (.tup [03,04])<|YL 2 (ja 03)<|jq X5<|J1 (ja 04)<|J1 (zU [2]<|A8 (ja 2) (ja 03)<|ja 04) jd)<|λa=>(jP<|jq WC<|J1 (BY<|ja 2) jd)<|qo [2] a
def wA:YC->Res D:=qu 05 2 vR
def Qv(r o:Jz):Jz:=Qe qw<|Qy r o
def hZ (c:r ≠[])(or:jA r)(d:jA o)(w:r.length<=20)(lo:o.length<=20):wA [js r,js o]=.ok (js<|Qv r o):=by
 let f:WD [.tup (r.map qB)]=! yk r:=Eh () or;simp[wA,vR,f,js];generalize g:YL 2 _ _=b;let(h,e,u,v,a):=WX (tg:=.tup [03,04]) (b:=b) (ds:=o.map qB) (sd:=[~~~(.tup<|r.map qB),~~~(.tup<|o.map qB),!(.own 7<|yk r),8,8])
  (P:=λi sd=>∃u v,sd=[~~~(.tup<|r.map qB),~~~(.tup<|o.map qB),!(.own 7<|yk<|Qy r<|o.take i),u,v]) (jI 8 8 9) (by
   rintro i x sd j ⟨u,v,rfl⟩;let(p,l,rfl):=KH j;let m:Qy r (o.take<|i+1)=W7 (Qy r<|o.take i) p:=by
    rw[KY l];unfold Qy;rw[Vq];rfl
   let n:=DJ (o.take i) r;let y:(o.take i).length<=o.length:=by rw[Uq];lia
   let q:=Ql (show(Qy r<|o.take i).length<=1000 by lia);let s:=BZ (BH (o.take i) r or) p.1;subst g;let t:W7 (Qy r<|o.take i) p=xl (Qy r<|o.take i) p.1 (if(JE (Qy r<|o.take i) p.1).getD p.2>p.2 then(JE (Qy r<|o.take i) p.1).getD p.2 else p.2):=9;rw[m,t,<-So (Qy r<|o.take i) p.1<|if(JE (Qy r<|o.take i) p.1).getD p.2>p.2 then(JE (Qy r<|o.take i) p.1).getD p.2 else p.2];simp[yk,s,q])
 rw[e];subst a;let n:=DJ o r;simp[Sq (HK c d) (),Qv]
def CK:FS:=jN (qD 2<|jm E8 (V0 [8,!1] (iS<|ja 0) (.one 0) (JC<|J8 xP<|J1 (ja 0)<|J1 (ja 1) jd)<|ja 0)<|V0 [8,!0] (iS<|ja 1) (.one 0) (JC<|J8 xP<|J1 (ja 0)<|J1 (ja 1) jd)<|ja 0)<|jN (jE 03<|V0 [8,!0] (iS<|ja 1) (.one 0) (Q8<|JC<|J8 xP<|J1 (ja 0)<|J1 (ja 1) jd)<|ja 0)<|jN (qT (iS<|ja 0) (.one 04)<|yc (Q8<|JC<|J8 xP<|J1 (ja 04)<|J1 (ja 1) jd) (Y5 2<|Qf [8,!04] (iS<|ja 03) (.one 0)<|J8 wA<|J1 (ja 1)<|J1 (ja 0) jd) Qz)<|KM 2
def Bf:YC->Res D:=qF 05 2 CK
def Qr(f g:J0):J0:=f.flatMap λr=>g.map<|Qv r
def vr  :q∈Qr f g↔∃r∈f,∃o∈g,Qv r o=q:=by
 simp_all[Qr]
def Fv(f g:J0):(Qr f g).length=f.length*g.length:=by
 unfold Qr
 induction f with
 |nil=>simp
 |cons r f a=>grind
def lG (c:jA a)(p:b.Perm a)(t:3):JE b t=JE a t:=by
 cases h:JE a t with
 |some w=>calc(HM<|((p.map λz:3×3=>z.1).nodup_iff).mpr c).mp<|p.mem_iff.mpr<|Q2 h
 |none=>
  cases d:JE b t with
  |none=>rfl
  |some w=>
   let:=(HM c).mp<|p.mem_iff.mp<|Q2 d
   simp_all
def CL (or:jA r)(a:jA o)(t:3):JE (Qv r o) t=jw (JE r t) (JE o t):=by
 rw[<-BG t o r a];exact lG (BH o r or) (Q3 _) t
theorem XG (a:JRow r)(b:JRow o):JRow (Qv r o):=by
 let d:=BH o r a.once;refine(λz=>(HK a.ne b.once) ?_,?_,λp g=>?_)
 .let:=(Q3 (ltb:=qw)<|Qy r o).length_eq
  grind[Qv,List.length_nil]
 .unfold xf Qv;let i:(Qe qw<|Qy r o).Pairwise λx y=>x.1≠y.1:=by
   grind[jA,List.Nodup,List.pairwise_map,Q3]
  rw[U5];refine(List.Pairwise.and (R4 d) i).imp λ{x y}h=>?_
  grind[Xw]
 .let c:=d.look<|(Q3<|Qy r o).mem_iff.mp g;rw[BG p.1 o r b.once]at c;cases e:JE r p.1 with
  |some w=>calc a.bnd %[p.1|w]<|Q2 e
  |none=>
   cases f:JE o p.1 with
   |some w=>calc b.bnd %[p.1|w]<|Q2 f
   |none=>rw[e,f]at c;cases c
def Nb (a:JRow r)(b:JRow o):JD r (Qv r o)=6:=by
 rw[zW];intro p c;rw[CL a.once b.once,a.once.look c];cases JE o p.1 with
 |none=>calc(p.2,9,Int.le_refl _)
 |some y=>exact(_,9,by split<;>lia)
def Nc (b:JRow r)(a:JRow o):JD o (Qv r o)=6:=by
 rw[zW];intro p c;rw[CL b.once a.once,a.once.look c];cases JE r p.1 with
 |none=>calc(p.2,9,Int.le_refl _)
 |some y=>exact(_,9,by split<;>lia)
def Fw (i:JRow r)(j:JRow o)(f:JD r q=6)(g:JD o q=6):JD (Qv r o) q=6:=by
 rw[zW]at f g ⊢;intro p l;let c:=(XG i j).once.look l;rw[CL i.once j.once]at c;cases d:JE r p.1 with
 |none=>
  rw[d]at c;calc g p<|Q2 c
 |some x=>
  cases h:JE o p.1 with
  |none=>
   rw[d,h]at c;cases c;calc f %[p.1|p.2]<|Q2 d
  |some y=>
   rw[d,h]at c;let(w,n,a):=f %[p.1|x] (Q2 d);let(s,m,b):=g %[p.1|y] (Q2 h);let e:=Zqi c
   grind
def jY(g:J0)(r:Jz):Bool:=g.any λo=>JD o r
def tM  :jY g r=6↔∃o∈g,JD o r=6:=Vn
def KC(f g:J0)(l:J0):J0:=(l.filter λr=>not<|jY g r).flatMap λr=>(g.filter λo=>not<|jY f o).map<|Qv r
def Wp(f g:J0):J0:=f.filter (jY g)++g.filter (jY f)++KC f g f
def Nd(f g l:J0):(KC f g l).length=(l.filter λr=>not<|jY g r).length*(g.filter λo=>not<|jY f o).length:=by
 unfold KC;generalize l.filter (λr=>not<|jY g r)=a
 induction a with
 |nil=>simp
 |cons r a b=>grind
theorem CM{α:Type}(p:α->Bool):∀l:List α,(l.filter p).length+(l.filter λx=>not<|p x).length=l.length
 |[]=>9
 |x::l=>by
  let:=CM p l
  grind
def Nf (a:∀r∈f,JRow r)(b:∀r∈g,JRow r):∀q∈Wp f g,JRow q:=λq hq=>by
 rcases Jb.mp hq with hq|hq
 .grind
 .let(r,c,hq):=List.mem_flatMap.mp hq
  grind[XG]
def hY (j:∀r∈f,JRow r)(q:∀r∈g,JRow r)(F:f.length+g.length+f.length*g.length<=1000):Bf [jf f,jf g]=.ok (jf<|Wp f g):=by
 let l:∀(t:J0)(r:Jz),JRow r->xP [js r,jf t]=.ok (.bl<|jY t r):=λt r h=>fW h.once (by let:=h.len;lia);let z:Ux (.one 0) (JC<|J8 xP<|J1 (ja 0)<|J1 (ja 1) jd) (ja 0) [8,~~~jf g] (f.map js)=.ok ((f.filter<|jY g).map js):=
  AB (s:=λr=>[~~~js r,~~~jf g]) (λr _=>9) λr d=>by simp[l g r (j r d)] ()
 let m2:Ux (.one 0) (JC<|J8 xP<|J1 (ja 0)<|J1 (ja 1) jd) (ja 0) [8,~~~jf f] (g.map js)=.ok ((g.filter<|jY f).map js):=
  AB (s:=λr=>[~~~js r,~~~jf f]) (λr _=>9) λr d=>by simp[l f r (q r d)] ()
 let u:Ux (.one 0) (Q8<|JC<|J8 xP<|J1 (ja 0)<|J1 (ja 1) jd) (ja 0) [8,~~~jf f] (g.map js)=.ok ((g.filter λo=>not<|jY f o).map js):=
  AB (s:=λr=>[~~~js r,~~~jf f]) (λr _=>9) λr d=>by simp[l f r (q r d)] ()
 let S:=CM (jY g) f;let G:=CM (jY f) g;let a:∀o∈g.filter λo=>not<|jY f o,JRow o:=λo m=>q o (Jg.mp m).1;let B:Wp f g=f.filter (jY g)++g.filter (jY f)++KC f g f:=9;let bl:∀i,(KC f g<|f.take i).length<=min i f.length*g.length:=λi=>by
  rw[Nd];calc U6 ?_<|Vr _ _;let:=Vr (λr=>not<|jY g r)<|f.take i;rw[Uq]at this;exact this
 let C:∀(i:5)(r:Jz),f[i]?=!r->KC f g (f.take<|i+1)=KC f g (f.take i)++if jY g r=6 then[]else(g.filter λo=>not<|jY f o).map (Qv r):=λi r d=>by
  unfold KC;rw[KY d,List.filter_append,List.flatMap_append];cases c:jY g r with
  |true=>rw[List.filter_cons_of_neg (by rw[c];simp),Zd 9];rfl
  |false=>rw[List.filter_cons_of_pos (by rw[c];rfl),Ze Zj];simp
 generalize T:(g.filter λo=>not<|jY f o)=rest at u a C G;let U:rest.length<=g.length:=()
 generalize E:f.filter (jY g)++g.filter (jY f)=A at B;let X:A.length<=f.length+g.length:=by rw[<-E,Ua];lia
 let H:(f.filter<|jY g).length+(g.filter<|jY f).length<=sizeLine:=Qt ();let I:(f.filter<|jY g).map js++(g.filter<|jY f).map js=A.map js:=by rw[<-E,Ud]
 let(J,e,v,w):=WX (tg:=.one 04) (b:=yc (Q8<|JC<|J8 xP<|J1 (ja 04)<|J1 (ja 1) jd) (Y5 2<|Qf [8,!04] (iS<|ja 03) (.one 0)<|J8 wA<|J1 (ja 1)<|J1 (ja 0) jd) Qz) (ds:=f.map js) (sd:=[~~~jf f,~~~jf g,!(.own 7<|.lst<|A.map js),~~~(.lst<|rest.map js),8])
  (P:=λi sd=>∃(v:Option SV),sd=[~~~jf f,~~~jf g,!(.own 7<|.lst<|(A++KC f g (f.take i)).map js),~~~(.lst<|rest.map js),v]) (8,by rw[List.take_zero];simp[KC]) (by
   rintro i x sd L ⟨v,rfl⟩;let(r,d,rfl):=KH L;let Y:=(Jd.mp d).1;let n:=Uf d;let p:=l g r<|j r n;let Z:=bl i;let M:(min i f.length+1)*g.length<=f.length*g.length:=U6 ()<|Zf _;rw[Nat.succ_mul]at M;rw[C i r d];cases c:jY g r with
   |true=>
    rw[c]at p;rw[Zd 9,ZA];calc([~~~jf f,~~~jf g,!(.own 7<|.lst<|(A++KC f g (f.take i)).map js),~~~(.lst<|rest.map js),~~~js r],by simp[p],_,9)
   |false=>
    rw[c]at p;rw[Ze Zj];let y:qz (.one 0) (J8 wA<|J1 (ja 1)<|J1 (ja 0) jd) [8,~~~js r] (rest.map js)=.ok (rest.map λo=>js<|Qv r o):=K4 λo m=>by
     let F:=(j r n).len;let l2:=(a o m).len;simp[hZ (j r n).ne (j r n).once (a o m).once () ()]
    let N:(rest.map<|Qv r).map js=rest.map λo=>js<|Qv r o:=by rw[Zw];rfl
    let sz:(A++KC f g (f.take i)).length+rest.length<=sizeLine:=Qt (by rw[Ua];lia);let O:=Ql<|show rest.length<=1000 from();calc([~~~jf f,~~~jf g,!(.own 7<|.lst<|(A++(KC f g (f.take i)++rest.map (Qv r))).map js),~~~(.lst<|rest.map js),~~~js r],?_,_,9);rw[<-Ug];generalize A++KC f g (f.take i)=acc at sz ⊢;rw[Ud,N];simp[p,y,O,sz])
 subst w;rw[Zql,Vs]at e;let Q:=Ql<|show f.length<=1000 from();let R:=Ql<|show g.length<=1000 from();rw[B];simp[jf]at z m2 u e ⊢;simp[Bf,CK,z,m2,u,Q,R,H,I,e]
def vP:FS:=jN (qD 2<|xb jd)<|jN (qT (iS<|jq Cj<|J1 (jq Ci<|J1 (ja 0) jd) jd) (.one 03)<|jN (yc (JC<|jm qk (zU [2]<|jq jO<|J1 (ja 2) jd)<|ja 1) uv Qz)<|yc (Q8<|JC<|zU [2]<|J8 xP<|J1 (ja 03)<|J1 (ja 2) jd) (Wc 2<|ja 03) Qz)<|KM 2
def vS:YC->Res D:=qF 04 2 vP
def aD  (ne:∀r∈c,r ≠[])(ri:∀r∈c,xf r)(n:∀r∈c,r.length<=100)(v:c.length<1000)(J:0<=en):vS [jf c,.int en]=.ok (jf<|(yh c).take en.toNat):=by
 let dl:=LN c;let w:Ci [jf c]=!(.lst<|(Qe jH<|xK c).map js):=by
  show(QF Um<|c.map js).bind _=_;rw[DR];exact Zd (ne,(),())
 let M:(Qe jH<|xK c).length=(xK c).length:=(Q3 (ltb:=jH) _).length_eq;let y:Cj [.lst ((Qe jH<|xK c).map js)]=!(.lst<|(x9 c).map js):=by
  show(QF Um<|(Qe jH<|xK c).map js).bind _=_;rw[DR];exact Zd (ZE yr<|LM c,(),λr A=>by
   let:=n r<|nI.mp<|(Q3 (ltb:=jH) _).mem_iff.mp A;lia)
 let d:=MN ri;let p:∀r,r∈x9 c->r∈c:=λr h=>mj.mp h;let B:=MM c;let C:yh c=(x9 c).filter (qI c):=9;rw[C];simp[vS,vP,w,y];generalize x9 c=L at d p B;refine AA (R:=λz=>(z.bind<|yb<|KM 2).bind yK=.ok (jf<|(L.filter<|qI c).take en.toNat)) (P:=λi m=>i<=L.length/\(((L.take i).filter<|qI c).length:3)<=en/\∃u,m=[~~~jf c,~~~.int en,!(.own 7<|.lst<|((L.take i).filter<|qI c).map js),u]) (Uc _,(),8,9) ?_ ?_
 .rintro m ⟨_,le,u,rfl⟩;rw[Zql,Vs]at le ⊢;rw[UR ()];rfl
 .rintro i x m E ⟨_,le,u,rfl⟩;let(r,j,rfl):=KH E;let N:=(Jd.mp j).1;let l:=d (i+1) ();rw[KY j,Vq,d i (),<-KY j]at l;let l:wj ((L.take i).filter<|qI c) r=(L.take<|i+1).filter (qI c):=l;let F:((L.take i).filter<|qI c).length<=i:=by
   let a:=Vr (qI c)<|L.take i;rw[Uq]at a;lia
  rw[<-l];let s:=p r<|Uf j;let f:=fW (r:=r) (ks:=(L.take i).filter<|qI c) (C6<|ri r s)<|n r s;let e:L.filter (qI c)=(L.take i).filter (qI c)++(L.drop i).filter (qI c):=by rw[<-List.filter_append,UI]
  generalize(L.take i).filter (qI c)=ks at F f le e;let f:xP [js r,.lst (ks.map js)]=.ok (.bl<|ks.any λo=>JD o r):=f;let G:=Ql<|show ks.length<=1000 from();by_cases g:(ks.length:3)=en
  .let H:(L.filter<|qI c).take en.toNat=ks:=by
    rw[e,List.take_left' ()]
   calc .inr<|.inl ([~~~jf c,~~~.int en,!(.own 7<|.lst<|ks.map js),~~~js r],by simp[g],?_);rw[H];simp[jf]
  .let t:∀b,(ks.any λo=>JD o r)=b->wj ks r=if b=6 then ks else ks++[r]:=λb I=>by unfold wj;rw[I]
   cases q:ks.any λo=>JD o r with
   |true=>
    rw[q]at f;rw[t 6 q,Zd 9];calc .inl ([~~~jf c,~~~.int en,!(.own 7<|.lst<|ks.map js),~~~js r],.inl<|by simp[g,f],(),le,_,9)
   |false=>
    rw[q]at f;rw[t 7 q,Ze Zj];exact .inl ([~~~jf c,~~~.int en,!(.own 7<|.lst<|(ks++[r]).map js),~~~js r],.inl<|by simp[g,f,G],(),by rw[Ua,Ub];lia,_,9)
def Bg:FS:=jN (jE 2<|K7 vS<|J1 (ja 0)<|J1 (jm jG (ja 1)<|dC<|.int 1) jd)<|jN (yc (JC<|jm wa (jq jO<|J1 (ja 2) jd)<|ja 1) (AI "TooMany"<|qC (vC "more than ")<|ja 1) Qz)<|jP<|jq WY<|J1 (ja 2) jd
def QZ:YC->Res D:=qF 03 2 Bg
def pT(a:J0):(yh a).length=(JU a).length:=by
 rw[<-MO,(Q3 _).length_eq]
def jU(a:3)(t:J0):Option J0:=if(t.length:3)<=a then !t else 8
def qH:Option J0->Res D
 |some t=>.ok (jf t)
 |none=>.ex "TooMany" []
def Fx  (ne:∀r∈rs,r ≠[])(ri:∀r∈rs,xf r)(g:∀r∈rs,r.length<=100)(d:rs.length<1000)(j:0<=most)(h:most<=1000):QZ [jf rs,.int most]=qH (jU most<|JU rs):=by
 let e:=aD (en:=most+1) ne ri g d ();let l:(yh rs).length<=rs.length:=Zh (Vr _ _)<|MM rs;let m:=pT rs;unfold jU;by_cases c:((JU rs).length:3)<=most
 .rw[Zd c];rw[UR ()]at e;let b:WY [jf (yh rs)]=!(.lst<|(Qe jH<|yh rs).map js):=MB (λr i=>ne r<|mj.mp (Jg.mp i).1) ();rw[MO]at b;let b:WY [jf (yh rs)]=!(jf<|JU rs):=b;let f:¬most<((yh rs).length:3):=()
  show _=Res.ok (jf<|JU rs);simp[QZ,Bg,e,f,b]
 .rw[Ze c];let f:most<(((yh rs).take (most+1).toNat).length:3):=by
   grind
  have(z,n):=l7 (x:="more than ") (a:=most) () ();show _=Res.ex "TooMany" []
  simp_all[QZ,Bg]
def vg:FS:=jN (qD 2<|J8 QZ<|J1 (jm jJ (ja 0)<|dC<|.int 0)<|J1 (ja 1) jd)<|jN (qT (iS<|vF (ja 0) (Wx<|dC<|.int 1) K5 K5) (.one 03)<|λa=>(qD 2<|J8 QZ<|J1 (K7 Bf<|J1 (ja 2)<|J1 (ja 03) jd)<|J1 (ja 1) jd)<|qo [2] a)<|KM 2
def zo:YC->Res D:=qF 04 2 vg
def Qd(t f:J0):J0:=JU<|Qr t f
structure AllOk(fs:List J0)(t:J0):4 where
 row:∀r∈t,JRow r
 abv:∀r∈t,∀f∈fs,∃s∈f,JD s r=6
 least:∀q:Jz,(∀f∈fs,∃s∈f,JD s q=6)->∃r∈t,JD r q=6
 anti:∀r∈t,∀s∈t,JD r s=6->r=s
 strict:t.Pairwise λa b=>jH a b=6
def Bh (o:jA r):JD r r=6:=zW.mpr λp a=>(p.2,o.look a,Int.le_refl _)
def Fy :∀r∈JU rs,∀s∈JU rs,JD r s=6->r=s:=λr a s b c=>vq.mp (xF.mp b).2 r (xF.mp a).1 c
def Ng (h:∀r∈f,JRow r):AllOk [f] (JU f):=by
 refine(λr a=>h r (xF.mp a).1,λr a g c=>?_,λq d=>?_,Fy,W0 f)
 .rw[Jc.mp c];exact(r,(xF.mp a).1,Bh (h r (xF.mp a).1).once)
 .let(s,e,i):=d f ();let(r,a,b):=XE (λr a=>((h r a).once,(h r a).rise)) e;exact(r,a,KB b i)
def Nh  (A:AllOk fs t)(h:∀r∈f,JRow r):AllOk (fs++[f]) (Qd t f):=by
 let b:∀q∈Qr t f,JRow q:=λq d=>by
  let(r,a,o,c,rfl):=vr.mp d;exact XG (A.row r a)<|h o c
 refine(λr a=>b r (xF.mp a).1,λq d g m=>?_,λq d=>?_,Fy,W0 _)
 .let(r,a,o,c,rfl):=vr.mp (xF.mp d).1;rcases Jb.mp m with z|z
  .let(s,e,i):=A.abv r a g z;exact(s,e,KB i<|Nb (A.row r a)<|h o c)
  .rw[Jc.mp z];exact(o,c,Nc (A.row r a)<|h o c)
 .let(r,a,i):=A.least q λg m=>d g ();let(o,c,j):=d f ();let(s,e,l):=XE (λr a=>((b r a).once,(b r a).rise)) (vr.mpr (r,a,o,c,9));exact(s,e,KB l<|Fw (A.row r a) (h o c) i j)
def Fz (h:∀r∈a,JRow r)(c:a ≠[]):JU a ≠[]:=λz=>by
 cases a with
 |nil=>calc c 9
 |cons r a=>
  let(s,d,_):=XE (λr b=>((h r b).once,(h r b).rise)) Zqs
  simp_all
def Ni (g:∀r∈a,JRow r)(d:∀r∈b,JRow r)(h:∀q,(∃x∈a,JD x q=6)↔∃x∈b,JD x q=6):JU a=JU b:=by
 let e:∀{a b:J0},(∀r∈a,JRow r)->(∀r∈b,JRow r)->(∀q,(∃x∈a,JD x q=6)↔∃x∈b,JD x q=6)->∀r,r∈JU a->r∈JU b:=by
  intro a b g d h r j;let(l,p):=xF.mp j;let(y,s,t):=(h r).mp (r,l,Bh (g r l).once);let(i,m,n):=XE (λr j=>((d r j).once,(d r j).rise)) s;let c:=(xF.mp m).1;let o:=KB n t;let(x,u,f):=(h i).mpr (i,c,Bh (d i c).once);rw[vq.mp p x u<|KB f o]at f
  rwa[EY (g r l).once (d i c).once (g r l).rise (d i c).rise f o]
 exact Xz yr (W0 a) (W0 b) λr=>(e g d h r,e d g (λq=>(h q).symm) r)
def F6 (a:∀r∈f,JRow r)(b:∀r∈g,JRow r):∀q∈Qr f g,JRow q:=λq c=>by
 let(r,d,o,e,rfl):=vr.mp c;exact XG (a r d)<|b o e
def lg (d:∀r∈t,JRow r)(e:∀r∈g,JRow r):JU (Wp t g)=Qd t g:=Ni (Nf d e) (F6 d e)<|λq=>by
 constructor
 .rintro⟨x,hx,a⟩;rcases Jb.mp hx with hx|hx
  .rcases Jb.mp hx with hx|hx
   .let(hx,f):=Jg.mp hx;let(o,b,c):=tM.mp f;exact(Qv x o,vr.mpr (),Fw (d x hx) (e o b) a<|KB c a)
   .let(hx,f):=Jg.mp hx;let(o,b,c):=tM.mp f;exact(Qv o x,vr.mpr (o,b,x,hx,9),Fw (d o b) (e x hx) (KB c a) a)
  .let(r,h,hx):=List.mem_flatMap.mp hx;exact(_,vr.mpr (),a)
 .rintro⟨x,hx,a⟩;let(r,h,o,b,rfl):=vr.mp hx;let i:=KB (Nb (d r h)<|e o b) a;let j:=KB (Nc (d r h)<|e o b) a
  grind[Wp,KC]
def xz(a:3):J0->List J0->Option J0
 |t,[]=>!t
 |t,g::b=>(jU a<|Qd t g).bind λc=>xz a c b
def Nj(a)(t g)(b):xz a t (g::b)=(jU a<|Qd t g).bind λc=>xz a c b:=rfl
def xE(a:3)(f:J0)(fs:List J0):Option J0:=(jU a<|JU f).bind λt=>xz a t fs
def XH  (h:jU a t=!b):b=t/\(t.length:3)<=a:=by
 grind[jU]
theorem Nk :∀{c fs:List J0}{t b:J0},AllOk fs t->(t.length:3)<=a->t ≠[]->(∀g∈c,g ≠[]/\∀r∈g,JRow r)->xz a t c=!b->AllOk (fs++c) b/\(b.length:3)<=a/\b ≠[]
 |[],fs,t,b,A,hl,hn,_,h=>by
  cases h
  simp_all
 |g::c,fs,t,b,A,hl,hn,hg,h=>by
  unfold xz at h;cases q:jU a (Qd t g)with
  |none=>simp_all
  |some j=>
   rw[q]at h;let(e,f):=XH q;let d:=hg g Zqs;let:=Nk (Nh A d.2) f (Fz (F6 A.row d.2)<|λz=>by
    let:=Fv t g;rw[z,ZC]at this;let:=Nat.mul_pos (Jx.mpr hn)<|Jx.mpr d.1;lia) (λx i=>hg x<|Zqm _ i)<|by rwa[<-e]
   simp_all
def Mz    (b:f ≠[]/\∀r∈f,JRow r)(c:∀g∈fs,g ≠[]/\∀r∈g,JRow r)(h:xE a f fs=!t):AllOk (f::fs) t/\(t.length:3)<=a/\t ≠[]:=by
 unfold xE at h;cases q:jU a (JU f)with
 |none=>simp_all
 |some i=>
  rw[q]at h;let(e,d):=XH q;exact Nk (Ng b.2) d (Fz b.2 b.1) c<|by rwa[<-e]
def Nl   (o:f ≠[]/\∀r∈f,JRow r)(c:∀g∈fs,g ≠[]/\∀r∈g,JRow r)(u:f.length<1000)(B:0<=most)(m2:most<=1000)(Q:fs.length<=900)
 (sz:∀(i:5)(t g:J0),AllOk (f::fs.take i) t->(t.length:3)<=most->fs[i]?=!g->(Wp t g).length<1000/\t.length+g.length+t.length*g.length<=1000):
 zo [.lst ((f::fs).map jf),.int most]=qH (xE most f fs):=by
 let e:=Fx (rs:=f) (most:=most) (λr a=>(o.2 r a).ne) (λr a=>(o.2 r a).rise) λr a=>by let:=(o.2 r a).len;lia u B m2;let p:xy ((f::fs).map jf) 0=! jf f:=by
  rw[show(0:3)=((0:5):3)from 9,Z8 ()];rfl
 let H:QC (jf f::fs.map jf) (!1) 8 8=fs.map jf:=by
  rw[C5 _ ()];rfl
 unfold xE;cases q:jU most (JU f)with
 |none=>
  rw[q]at e;let e:QZ [jf f,.int most]=.ex "TooMany" []:=e;show _=Res.ex "TooMany" [];simp[zo,vg]at p ⊢;simp[p,e]
 |some h=>
  rw[q]at e;let(C,I):=XH q;let e:QZ [jf f,.int most]=.ok (jf h):=e;show _=qH (xz most h fs);let J:AllOk [f] h:=by rw[C];exact Ng o.2
  let m:((xI (.one 03) (λn=>qD 2 (J8 QZ<|J1 (K7 Bf<|J1 (ja 2)<|J1 (ja 03) jd)<|J1 (ja 1) jd)<|qo [2] n) (fs.map jf) [~~~(.lst<|(f::fs).map jf),~~~.int most,!(.own 7<|jf h),8]).bind<|yb<|KM 2).bind yK=qH (xz most h fs):=by
   refine Mc (R:=λz=>(z.bind<|yb<|KM 2).bind yK=qH (xz most h fs)) (P:=λi n=>∃(t:J0)(v:Option SV),n=[~~~(.lst<|(f::fs).map jf),~~~.int most,!(.own 7<|jf t),v]/\AllOk (f::fs.take i) t/\(t.length:3)<=most/\xz most t (fs.drop i)=xz most h fs) (h,8,9,J,by rw[C];calc I,9) ?_ ?_
   .rintro n ⟨t,v,rfl,A,lt,j⟩;rw[Zql,UT]at j;rw[<-j];simp[qH,xz]
   .rintro i x n L ⟨t,v,rfl,A,lt,j⟩;let(g,l,rfl):=KH L;let E:=(Jd.mp l).1;let s:=Uf l;let(M,N):=sz i t g A lt l;let F:=hY (f:=t) (g:=g) A.row (c g s).2 N;let b:=Nf A.row (c g s).2;let d:=Fx (rs:=Wp t g) (most:=most) (λr a=>(b r a).ne) (λr a=>(b r a).rise) λr a=>by let:=(b r a).len;lia M B m2;rw[lg A.row (c g s).2]at d;let O:fs.drop i=g::fs.drop (i+1):=by
     rw[Uj E];rw[Zqg E]at l;rw[Zqi l]
    rw[O,Nj]at j;cases y:jU most (Qd t g)with
    |none=>
     rw[y]at d j;let d:QZ [jf (Wp t g),.int most]=.ex "TooMany" []:=d;calc .inr ("TooMany",[],by simp[qo,F,d],?_);rw[<-j];rfl
    |some w=>
     rw[y]at d j;let(G,u):=XH y;let d:QZ [jf (Wp t g),.int most]=.ok (jf w):=d;calc .inl ([~~~(.lst<|(f::fs).map jf),~~~.int most,!(.own 7<|jf w),~~~jf g],by simp[qo,F,d],w,_,9,?_,by rw[G];calc u,j);rw[KY l,G];exact Nh A (c g s).2
  simp[zo,vg]at p m ⊢;simp[p,e,H,m]
def Nm (b:g ≠[]):(Wp f g).length<=f.length*g.length+g.length:=by
 unfold Wp;rw[Ua,Ua,Nd];let a:=CM (jY g) f;let p:0<g.length:=by grind
 let d:=U6 (Zf (f.filter λr=>not<|jY g r).length)<|Vr (λo=>not<|jY f o) g;let e:=Nat.le_mul_of_pos_right (f.filter<|jY g).length p
 grind[Nat.add_mul]
def vh:FS:=jN (qD 2<|J8 QZ<|J1 (jm jJ (ja 0)<|dC<|.int 0)<|J1 (ja 1) jd)<|jN (qT (iS<|vF (ja 0) (Wx<|dC<|.int 1) K5 K5) (.one 03)<|λa=>(qD 2<|J8 QZ<|J1 (jm jG (ja 2)<|ja 03)<|J1 (ja 1) jd)<|qo [2] a)<|KM 2
def zp:YC->Res D:=qF 04 2 vh
def zg(a:3):J0->List J0->Option J0
 |t,[]=>jU a t
 |t,g::b=>(jU a t).bind λ_=>zg a (xi t g) b
def No  (h:jU a t=8)(b):zg a t b=8:=by
 cases b with
 |nil=>calc h
 |cons g b=>show(jU a t).bind _=8;rw[h];rfl
def CN  (h:(t.length:3)<=a):jU a t=!t:=Zd h
def Np  (h:a<(t.length:3)):jU a t=8:=Ze ()
def vQ:FS:=jP<|jq WC<|J1 (Qf [8,8,!1] (iS<|ja 0) (.tup [0,1])<|qJ<|J1 (ja 0)<|J1 (jm jG (ja 1)<|ja 2) jd) jd
def vj:YC->Res D:=qu 2 2 vQ
noncomputable def Qw(r:Jz)(w:3):Jz:=r.map λp=>%[p.1|p.2+w]
def sC  (b:r.length<=1000):vj [js r,.int w]=.ok (js<|Qw r w):=by
 let a:qz (.tup [0,1]) (qJ<|J1 (ja 0)<|J1 (jm jG (ja 1)<|ja 2) jd) [8,8,~~~.int w] (r.map qB)=.ok (r.map λp=>qB %[p.1|p.2+w]):=K4 λp c=>by
  rfl
 simp[vj,vQ,js,a,Ql b,Qw]
def vN:FS:=jP<|Qf [8,!1] (iS<|ja 0) (.one 0)<|J8 vj<|J1 (ja 0)<|J1 (ja 1) jd
def yD:YC->Res D:=qF 2 2 vN
def QL(f:J0)(w:3):J0:=f.map λr=>Qw r w
def fV  (b:f.length<=1000)(c:∀r∈f,r.length<=1000):yD [jf f,.int w]=.ok (jf<|QL f w):=by
 let a:qz (.one 0) (J8 vj<|J1 (ja 0)<|J1 (ja 1) jd) [8,~~~.int w] (f.map js)=.ok (f.map λr=>js<|Qw r w):=K4 λr h=>by
  simp[sC (c r h)]
 let e:(QL f w).map js=f.map λr=>js<|Qw r w:=by unfold QL;simp
 simp[yD,vN,jf,a,Ql b,e]
def CO:FS:=jP<|J8 zo<|J1 (Qf [8,8,!1] (iS<|ja 0) (.tup [0,1])<|K7 yD<|J1 (jm jJ (ja 2)<|ja 0)<|J1 (ja 1) jd)<|J1 (ja 2) jd
def Wq:YC->Res D:=qF 03 03 CO
def qN(fs:List J0)(t:3):J0:=fs.getD t.toNat []
def ZJ  (a:0<=t)(b:t<(fs.length:3)):qN fs t∈fs:=by
 simp_all[qN]
def ZK  (a:0<=t)(b:t<(fs.length:3)):xy (fs.map jf) t=!(jf<|qN fs t):=by
 let(k,rfl):∃k:5,t=(k:3):=(t.toNat,());rw[Z8 (by rw[Zql];lia),Zv];unfold qN;rw[Int.toNat_natCast,Ut,Zqg ()];rfl
def aq{r:Jz} (c:∀p∈r,0<=p.1/\p.1<(fs.length:3))(d:∀f∈fs,f.length<=1000/\∀r∈f,r.length<=1000):
 qz (.tup [0,1]) (K7 yD<|J1 (jm jJ (ja 2)<|ja 0)<|J1 (ja 1) jd) [8,8,~~~(.lst<|fs.map jf)] (r.map qB)=.ok ((r.map λp=>QL (qN fs p.1) p.2).map jf):=by
 rw[Zw];exact K4 λp e=>by
  let(a,b):=c p e;let(g,h):=d _ (ZJ a b);simp[ZK a b,fV g h]
def vf:FS:=jP<|J8 zp<|J1 (Qf [8,!1,!2] (iS<|ja 0) (.one 0)<|J8 Wq<|J1 (ja 0)<|J1 (ja 1)<|J1 (ja 2) jd)<|J1 (ja 2) jd
def yC:YC->Res D:=qF 03 03 vf
def Bi(a:YC->HP->Wr (D×HP)):qQ:=jr (Qg (zt<|JC<|jm qk (ja 1)<|dC<|.str "all") (jW<|Kd 06 [2]<|J8 zo<|J1 (ja 2)<|J1 (ja 03) jd) QH)<|jr (Qg (zt<|JC<|jm qk (ja 1)<|dC<|.str "first") (jW<|Kd 06 [2]<|J8 zp<|J1 (ja 2)<|J1 (ja 03) jd) QH)<|jr (Qg (xt 06 [04]<|JC<|jm (vw 6) (ja 1)<|ja 04) (M8 (vL<|ja 04) (vL<|ja 1)<|mo (Qo a<|JB (vL<|ja 0)<|JB (vL<|ja 1)<|JB (vL<|ja 03)<|JB (vL<|ja 04) qi)<|vL<|qC xC<|dC<|.int 1) QH)<|jW<|Kd 06 [2,04]<|J8 yC<|J1 (jm jJ (ja 04)<|ja 1)<|J1 (ja 2)<|J1 (ja 03) jd
def Bj:FS:=jN (qT (iS<|qC (jK "Book" "plans")<|ja 0) (.one 2)<|yc (JC<|jm qk (qC (jK "Plan" "name")<|ja 2)<|ja 1) (jP<|ja 2) Qz)<|AI "NoPlan"<|(vB "no plan is called "<|rZ EA (ja 1) vA) Str.empty
def KI:YC->Res D:=qu 03 2 Bj
def Nq  (o:asc x)(s:∀p∈a,asc p.name)(B:(reprText x).length<=400):KI [J9 a,.str x]=match a.find? λp=>decide<|p.name=x with
 |some p=>.ok (J5 p)
 |none=>.ex "NoPlan" []:=by
 let t:∀p∈a,qk (.str p.name) (.str x)=!(.bl<|decide<|p.name=x):=λp e=>by
  rw[A4 (CB<|s p e) (CB o)];unfold Q5
  congr 2
  exact decide_eq_decide.mpr (λz=>by injection z,λz=>by rw[z])
 let f:xI (.one 2) (yc (JC<|jm qk (qC (jK "Plan" "name")<|ja 2)<|ja 1) (jP<|ja 2) Qz) (a.map J5) [~~~J9 a,~~~.str x,8]=match a.find? λp=>decide<|p.name=x with
  |some p=>.ok (.ret<|J5 p)
  |none=>.ok (.next<|[~~~J9 a,~~~.str x]++[a.getLast?.map λp=>.val<|J5 p]):=by
  refine AA (R:=λr=>r=match a.find? λp=>decide<|p.name=x with
   |some p=>.ok (.ret<|J5 p)
   |none=>.ok (.next<|[~~~J9 a,~~~.str x]++[a.getLast?.map λp=>.val<|J5 p])) (P:=λi m=>(∀q∈a.take i,decide (q.name=x)=7)/\m=[~~~J9 a,~~~.str x]++[(a.take i).getLast?.map λp=>.val<|J5 p]) (λq h=>by simp at h,()) (λm=>jF λg j=>?_) λi d m u=>jF λg j=>?_
  .rw[Zql,Vs]at g j;let:a.find? λp=>decide<|p.name=x=8:=Jw.mpr λq e=>by rw[g q e];simp
   rw[this,j]
  .let(p,b,rfl):=KH u;let C:i<a.length:=(Jd.mp b).1;let v:p∈a:=Uf b;let l:=t p v;let n:a.take (i+1)=a.take i++[p]:=by rw[List.take_succ,b];rfl
   cases c:decide (p.name=x)with
   |true=>
    rw[c]at l;refine .inr<|.inr (J5 p,?_,?_)
    .subst j;simp[l]
    .rw[MI g b c]
   |false=>
    rw[c]at l;refine .inl ([~~~J9 a,~~~.str x]++[~~~J5 p],.inl ?_,λq e=>?_,?_)
    .subst j;simp[l]
    .rw[n]at e;rcases Jb.mp e with z|z
     .exact g q z
     .rw[Jc.mp z];exact c
    .rw[n,List.getLast?_concat];rfl
 let E:("no plan is called ":Str).length=18:=by decide+kernel
 let F:(Str.empty:Str).length=0:=9;let w:((Str.empty:Str)++"no plan is called ").length<=sizeLine:=Qt (by rw[C7];lia);let y:(reprText x).length<=sizeLine:=Qt ();let A:((Str.empty:Str)++"no plan is called "++reprText x).length<=sizeLine:=Qt (by rw[C7,C7];lia);cases c:a.find? λp=>decide<|p.name=x with
 |some p=>
  rw[c]at f;simp at f;simp[KI,Bj,f]
 |none=>
  rw[c]at f;simp at f;simp[KI,Bj,f,vB,rZ,vA,EA,w,y,A]
def uC:FS:=jP<|xb<|J1 (qJ<|J1 (qJ<|J1 (ja 0)<|J1 (dC<|.int 0) jd) jd) jd
def vi:YC->Res D:=qF 1 1 uC
@[simp]def sB(t:3):vi [.int t]=.ok (jf [[%[t|0]]]):=by
 rfl
def ZL(a:YC->HP->Wr (D×HP)):qQ:=jr (zL<|jE 04<|J8 KI<|J1 (ja 0)<|J1 (ja 1) jd)<|jr (qL 05<|Xg [8] (wF<|J1 (jq jO<|J1 (qC (jK "Plan" "givens")<|ja 04) jd) jd) (.one 0)<|Kd 06 []<|K7 vi<|J1 (ja 0) jd)<|jr (xG (iS<|qC (jK "Plan" "rows")<|ja 04) (.tup [06,07,08])<|jr (qL 09<|Xg [8,8,!05] (iS<|ja 08) (.tup [0,1])<|Kd 06 [2]<|K7 yD<|J1 (jm jJ (ja 2)<|ja 0)<|J1 (ja 1) jd)<|qX (vL<|ja 05)<|Qo a<|JB (vL<|ja 0)<|JB (vL<|ja 07)<|JB (vL<|ja 09)<|JB (vL<|ja 2)<|JB (vL<|ja 03) qi)<|jW<|vL<|ja 05
def V4:5->YC->HP->Wr (D×HP)
 |0=>λ_ _=>.no
 |n+1=>xk 10 04 (ZL<|xk 05 05<|Bi<|V4 n)
def Xk(n:5):YC->HP->Wr (D×HP):=xk 05 05<|Bi<|V4 n
def WJ:qQ:=jW<|Qo (V4 04)<|JB (vL<|ja 0)<|JB (vL<|ja 1)<|JB (vL<|ja 2)<|JB EV qi
def tG(a:YC)(d:D):4:=a.length=03/\((WJ (JT 03 a) []).bind qc).need (λp=>dr p.2 06 p.1=d) λ_ _=>False
def tF(b:YC)(c:Str):4:=b.length=03/\((WJ (JT 03 b) []).bind qc).need (λ_=>False) λd a=>d=c/\a=[]
open Classical in
def Ke:YC->Res D:=λa=>if h:∃d,tG a d then .ok (choose h)else if h:∃c,tF a c then .ex (choose h) []else .no
def kh:∀a d,Ke a=.ok d->a.length=03/\((WJ (JT 03 a) []).bind qc).need (λp=>dr p.2 06 p.1=d) λ_ _=>False:=λa d h=>by
 unfold Ke at h
 split at h
 .rename_i e;let:=Vd e;cases h;exact this
 .split at h<;>cases h
def uY:∀a c fs,Ke a=.ex c fs->a.length=03/\((WJ (JT 03 a) []).bind qc).need (λ_=>False) λd b=>d=c/\b=fs:=λa c fs h=>by
 unfold Ke at h
 split at h
 .cases h
 .split at h
  .rename_i e;let:=Vd e;cases h;exact this
  .cases h
def F7:qQ:=jW<|Qo (V4 04)<|JB (vL<|ja 0)<|JB (vL<|ja 1)<|JB (vL<|ja 2)<|JB EV qi
def F8:YC->HP->Wr (D×HP):=xk 03 03 F7
def ZM:FS:=jP<|jm jJ (J8 Ke<|J1 (ja 0)<|J1 (ja 1)<|J1 (ja 2) jd)<|qC xC<|dC<|.int 1
def V5:YC->Res D:=qu 03 03 ZM
def WK:FS:=jN (jE 04<|dC<|.int 0)<|jN (Cz "TooMany" "NoPlan" (v8 (JC<|jm qk (ja 03)<|dC<|.int 0) (Ar<|AJ Ke<|J1 (ja 0)<|J1 (ja 1)<|J1 (ja 2) jd)<|Ar<|AJ V5<|J1 (ja 0)<|J1 (ja 1)<|J1 (ja 2) jd) (jE 04<|dC<|.int 1)<|jE 04<|dC<|.int 2)<|jP<|ja 04
def Kx:YC->Res D:=qu 05 04 WK
def F9:FS:=jN (qD 2<|jq WD<|J1 (ja 0) jd)<|jN (qT (iS<|ja 1) (.tup [03,04])<|YL 2 (ja 03)<|jq X5<|J1 (ja 04)<|J1 (zU [2]<|A8 (ja 2) (ja 03)<|ja 04) jd)<|λa=>(jP<|jq WC<|J1 (BY<|ja 2) jd)<|qo [2] a
def XI:YC->Res D:=qu 05 2 F9
def CP:FS:=jN (jE 2<|jq WD<|J1 (ja 1) jd)<|jN (qT (iS<|ja 0) (.tup [03,04])<|yc (yx (JC<|jm (vw 6) (ja 03)<|ja 2)<|JC<|jm wa (ja 04)<|jm jJ (ja 2)<|ja 03) (jP<|dC<|.bl 7) Qz)<|jP<|dC<|.bl 6
def Xl:YC->Res D:=qu 05 2 CP
def CQ:FS:=jN (qD 1<|xb jd)<|jN (qT (iS<|ja 0) (.one 2)<|yc (Q8<|JC<|zU [1]<|jq vD<|J1 (Qf [8,!2] (iS<|ja 1) (.one 0)<|J8 Xl<|J1 (ja 0)<|J1 (ja 1) jd) jd) (jN (λa=>(qD 1<|V0 [8,!2] (iS<|ja 1) (.one 0) (Q8<|JC<|J8 Xl<|J1 (ja 1)<|J1 (ja 0) jd)<|ja 0)<|qo [1] a)<|Wc 1<|ja 2) Qz)<|λa=>(jP<|jq WY<|J1 (ja 1) jd)<|qo [1] a
def V6:YC->Res D:=qF 03 1 CQ
def CS:qQ:=jr (zL<|jE 03<|jm jJ (ja 0)<|dC<|.int 0)<|jr (qX (vL<|ja 2)<|vL<|jq jO<|J1 (ja 03) jd)<|jr (xG (iS<|vF (ja 0) (Wx<|dC<|.int 1) K5 K5) (.one 04)<|jr (zL<|jE 05<|xb jd)<|jr (zL<|qT (iS<|ja 03) (.one 06)<|jE 05<|jm jG (ja 05)<|Qf [8,!06] (iS<|ja 04) (.one 0)<|J8 XI<|J1 (ja 1)<|J1 (ja 0) jd)<|jr (zL<|jE 03<|J8 V6<|J1 (ja 05) jd)<|jr (qX (vL<|ja 2)<|vL<|jq jO<|J1 (ja 03) jd)<|Qg (zt<|JC<|jm wa (jq jO<|J1 (ja 03) jd)<|ja 1) (jW<|vL<|ja 03) QH)<|jW<|vL<|ja 03
def W2:YC->HP->Wr (D×HP):=xk 07 03 CS
def CT:qQ:=jr (zL<|jE 03<|jm jJ (ja 0)<|dC<|.int 0)<|jr (qX (vL<|ja 2)<|vL<|jq jO<|J1 (ja 03) jd)<|jr (xG (iS<|vF (ja 0) (Wx<|dC<|.int 1) K5 K5) (.one 04)<|jr (zL<|jE 03<|J8 V6<|J1 (jm jG (ja 03)<|ja 04) jd)<|qX (vL<|ja 2)<|vL<|jq jO<|J1 (ja 03) jd)<|jW<|vL<|ja 03
def WL:YC->HP->Wr (D×HP):=xk 05 03 CT
def CU:FS:=jP<|Qf [8,!1] (iS<|ja 0) (.one 0)<|jq WC<|J1 (Qf [8,8,!1] (iS<|ja 0) (.tup [0,1])<|qJ<|J1 (ja 0)<|J1 (jm jG (ja 1)<|ja 2) jd) jd
def KU:YC->Res D:=qF 2 2 CU
def CV:qQ:=jr (zL<|qD 04<|xb jd)<|jr (xG (iS<|ja 0) (.one 05)<|jr (Xh 04<|Qo W2<|JB (vL<|Qf [8,8,!1] (iS<|ja 05) (.tup [0,1])<|J8 KU<|J1 (jm jJ (ja 2)<|ja 0)<|J1 (ja 1) jd)<|JB (vL<|ja 2)<|JB (vL<|ja 03) qi)<|Qg (xt 03 [03]<|JC<|jm wa (jq Us<|J1 (ja 03) jd)<|ja 2) (jW<|vL<|V1 04<|qC xC<|dC<|.int 1) QH)<|λa b=>(jW<|Qo WL<|JB (vL<|ja 04)<|JB (vL<|ja 2)<|JB (vL<|ja 03) qi) (qo [04] a) b
def ZN:YC->HP->Wr (D×HP):=xk 06 04 CV
def Bk(a:YC->HP->Wr (D×HP)):qQ:=jr (zL<|qD 04<|Qf [8] (wF<|J1 (jq jO<|J1 (qC (jK "Plan" "givens")<|ja 1) jd) jd) (.one 0)<|xb<|J1 (qJ<|J1 (qJ<|J1 (ja 0)<|J1 (dC<|.int 0) jd) jd) jd)<|jr (xG (iS<|qC (jK "Plan" "rows")<|ja 1) (.one 05)<|jr (zL<|jE 06<|YW [8,8,!04] 2 (iS<|jm jJ (ja 05)<|dC<|.int 2) (.tup [0,1])<|J8 KU<|J1 (V1 2<|ja 0)<|J1 (ja 1) jd)<|jr (Qg (zt<|JC<|jm qk (jm jJ (ja 05)<|dC<|.int 1)<|dC<|.str "all") (Xh 04<|Qo W2<|JB (vL<|ja 06)<|JB (vL<|ja 2)<|JB (vL<|ja 03) qi)<|Qg (zt<|JC<|jm qk (jm jJ (ja 05)<|dC<|.int 1)<|dC<|.str "first") (Xh 04<|Qo WL<|JB (vL<|ja 06)<|JB (vL<|ja 2)<|JB (vL<|ja 03) qi)<|jr (zL<|jE 07<|jm jJ (V0 [8,!05] (iS<|ja 0) (.one 0) (JC<|jm qk (qC (jK "Plan" "name")<|ja 0)<|jm jJ (ja 1)<|dC<|.int 1)<|ja 0)<|dC<|.int 0)<|jr (qL 08<|Qo a<|JB (vL<|ja 0)<|JB (vL<|ja 07)<|JB (vL<|ja 2)<|JB (vL<|ja 03) qi)<|jr (Qg (xt 03 [03]<|JC<|jm fB (jq Us<|J1 (ja 03) jd)<|ja 2) (qL 08<|C1<|JB (Qo ZN<|JB (vL<|jm jJ (ja 08)<|qC xC<|dC<|.int 1)<|JB (vL<|ja 06)<|JB (vL<|ja 2)<|JB (vL<|ja 03) qi) qi) QH)<|zL<|Wc 04<|jm jJ (ja 08)<|qC xC<|dC<|.int 1)<|Qg (xt 03 [03]<|JC<|jm wa (jq Us<|J1 (ja 03) jd)<|ja 2) (λb c=>(jW<|vL<|ja 04) (qo [04] b) c) QH)<|λb c=>(jW<|vL<|ja 04) (qo [04] b) c
def Ky:5->YC->HP->Wr (D×HP)
 |0=>λ_ _=>.no
 |n+1=>xk 09 04 (Bk<|Ky n)
def FB:FS:=jP<|Wb (jq xD<|J1 (ja 0)<|J1 (dC<|.ty "int") jd)<|DO<|jq xD<|J1 (ja 0)<|J1 (dC<|.ty "bool") jd
def ZO:YC->Res D:=qu 1 1 FB
@[simp]def iI(i):ZO [.int i]=.ok (.bl 6):=by
 rfl
def CW:FS:=jN (yc (yx (Q8<|JC<|jq xD<|J1 (ja 0)<|J1 (dC<|.ty "list") jd)<|JC<|jm qk (ja 0)<|xb jd) (jP<|dC<|.bl 7) Qz)<|jN (qT (iS<|ja 0) (.one 1)<|jN (yc (yx (Q8<|JC<|jq xD<|J1 (ja 1)<|J1 (dC<|.ty "tuple") jd)<|Q8<|JC<|jq ze<|J1 (Qf [8] (iS<|ja 1) (.one 0)<|jq xD<|J1 (ja 0)<|J1 (dC<|.ty "tuple") jd) jd) (jP<|dC<|.bl 7) Qz)<|yc (Q8<|JC<|jq ze<|J1 (Qf [8] (iS<|ja 1) (.one 0)<|Wb (jm qk (jq jO<|J1 (ja 0) jd)<|dC<|.int 2)<|Wb (J8 ZO<|J1 (jm jJ (ja 0)<|dC<|.int 0) jd)<|J8 ZO<|J1 (jm jJ (ja 0)<|dC<|.int 1) jd) jd) (jP<|dC<|.bl 7) Qz)<|jP<|dC<|.bl 6
def ZP:YC->Res D:=qu 2 1 CW
def Bl:qQ:=jr (qL 03<|ug<|JB (vL<|dC<|.int 1) qi)<|jr (qL 04<|Qo (Ky 04)<|JB (vL<|qC (jK "Book" "plans")<|ja 0)<|JB (vL<|ja 1)<|JB (vL<|ja 2)<|JB (vL<|ja 03) qi)<|jr (Qg (zt<|JC<|jm qk (J8 Kx<|J1 (ja 0)<|J1 (qC (jK "Plan" "name")<|ja 1)<|J1 (jm jG (ja 2)<|dC<|.int 06)<|J1 (dC<|.int 1) jd)<|dC<|.int 2) (jW<|vL<|dC<|.bl 7) QH)<|jr (Qg (xt 05 [03]<|JC<|jm wa (jq Us<|J1 (ja 03) jd)<|ja 2) (jW<|vL<|Wb (jm qk (J8 Kx<|J1 (ja 0)<|J1 (qC (jK "Plan" "name")<|ja 1)<|J1 (ja 2)<|J1 (dC<|.int 0) jd)<|dC<|.int 1)<|jm qk (J8 Kx<|J1 (ja 0)<|J1 (qC (jK "Plan" "name")<|ja 1)<|J1 (ja 2)<|J1 (dC<|.int 1) jd)<|dC<|.int 1) QH)<|jr (qL 05<|Qo F8<|JB (vL<|ja 0)<|JB (vL<|qC (jK "Plan" "name")<|ja 1)<|JB (vL<|ja 2) qi)<|jr (Qg (xt 05 [05]<|yx (Q8<|JC<|jq xD<|J1 (ja 05)<|J1 (dC<|.ty "list") jd)<|yx (Q8<|JC<|jq ze<|J1 (Qf [8] (iS<|ja 05) (.one 0)<|J8 ZP<|J1 (ja 0) jd) jd)<|JC<|jm wG (ja 05)<|ja 04) (jW<|vL<|dC<|.bl 7) QH)<|jr (AX 05<|xG (iS<|ja 05) (.one 06)<|qX (vL<|ja 06)<|vL<|qJ<|J1 (qJ<|J1 (dC<|.int 0)<|J1 (dC<|.int 1) jd) jd)<|jr (Qg (xt 05 [05]<|JC<|jm wG (Qf [8] (iS<|ja 05) (.one 0)<|jq jO<|J1 (ja 0) jd)<|Qf [8] (iS<|ja 04) (.one 0)<|jm jG (jq jO<|J1 (ja 0) jd)<|dC<|.int 1) (jW<|vL<|dC<|.bl 7) QH)<|jW<|vL<|Wb (jm qk (J8 V5<|J1 (ja 0)<|J1 (qC (jK "Plan" "name")<|ja 1)<|J1 (ja 2) jd)<|jm jJ (ja 04)<|qC xC<|dC<|.int 1)<|jm qk (J8 Ke<|J1 (ja 0)<|J1 (qC (jK "Plan" "name")<|ja 1)<|J1 (ja 2) jd)<|ja 04
def t5(a:YC)(d:D):4:=a.length=03/\((Bl (JT 07 a) []).bind qc).need (λp=>dr p.2 1 p.1=d) λ_ _=>False
open Classical in
def W3:YC->Res D:=λds=>if h:∃d,t5 ds d then .ok (choose h)else .no
def kg:∀a d,W3 a=.ok d->a.length=03/\((Bl (JT 07 a) []).bind qc).need (λp=>dr p.2 1 p.1=d) λ_ _=>False:=λa d h=>by
 unfold W3 at h
 split at h
 .rename_i e;let:=Vd e;cases h;exact this
 .cases h
def uX:∀a,∀c fs,W3 a ≠ .ex c fs:=λa c fs h=>by
 unfold W3 at h
 split at h<;>cases h
def CY:FS:=jN (qT (wF<|J1 (jm jG (dC<|.int 1)<|jq A6<|J1 (dC<|.int 2)<|J1 (jm Ay (jq X5<|J1 (dC<|.int 0)<|J1 (jm za (jq jO<|J1 (ja 0) jd)<|dC<|.int 21) jd)<|dC<|.int 05) jd) jd) (.one 1)<|jN (jE 2<|vF (ja 0) (Wx<|jm zb (dC<|.int 05)<|ja 1) (Wx<|jm jG (jm zb (dC<|.int 05)<|ja 1)<|dC<|.int 21) K5)<|jN (jE 03<|J8 Be<|J1 (ja 2)<|J1 (jm jG (dC<|.int 1)<|jm zc (J8 KR<|J1 (ja 2)<|J1 (dC<|.int 0) jd)<|dC<|.int 03)<|J1 (dC<|.int 04) jd)<|jN (jE 04<|jm jG (dC<|.int 1)<|jm zc (jm Ay (J8 KR<|J1 (ja 2)<|J1 (dC<|.int 1) jd)<|dC<|.int 03)<|dC<|.int 06)<|jN (qT (iS<|qC (jK "Book" "plans")<|ja 03) (.one 05)<|yc (Q8<|JC<|J8 W3<|J1 (ja 03)<|J1 (ja 05)<|J1 (ja 04) jd) (jP<|dC<|.bl 7) Qz)<|yc (JC<|jm wG (J8 Kx<|J1 (ja 03)<|J1 (jm jG (dC<|.str "q")<|qC (jK "Plan" "name")<|jm jJ (qC (jK "Book" "plans")<|ja 03)<|dC<|.int 0)<|J1 (ja 04)<|J1 (jm zc (ja 1)<|dC<|.int 2) jd)<|dC<|.int 2) (jP<|dC<|.bl 7) Qz)<|jP<|dC<|.bl 6
def ub:YC->Res D:=qu 06 1 CY
def iJ(f:J0)(q:Jz):4:=∃x∈f,JD x q=6
structure Cn(f:J0):4 where
 ne:f ≠[]
 rows:∀r∈f,JRow r
 thin:JU f=f
def CZ (h:JRow r):RowOk 12 r:=(h.ne,h.once,h.bnd,h.len)
def Cn.anti (C:Cn f):∀r∈f,∀s∈f,JD r s=6->r=s:=by
 let h:=Fy (rs:=f)
 rwa[C.thin]at h
def Cn.strict (C:Cn f):f.Pairwise λa b=>jH a b=6:=by
 let h:=W0 f
 rwa[C.thin]at h
def Nr (h:∀r∈l,JRow r)(e:l ≠[]):Cn (JU l):=(Fz h e,λr a=>h r (xF.mp a).1,Ni (λr a=>h r (xF.mp a).1) h<|λq=>by
 constructor
 .rintro⟨x,b,c⟩;exact(x,(xF.mp b).1,c)
 .rintro⟨x,b,c⟩;let(s,f,d):=XE (λr a=>((h r a).once,(h r a).rise)) b;calc(s,f,KB d c))
theorem FC(w:3):∀(r:Jz)(t:3),JE (Qw r w) t=(JE r t).map (·+w)
 |[],_=>9
 |p::r,t=>by
  let a:=FC w r t;show(match JE (Qw r w) t with|some v=>!v|none=>if p.1=t then ! p.2+w else 8)=Option.map _ (match JE r t with|some v=>!v|none=>if p.1=t then !p.2 else 8)
  grind
def aj(r:Jz)(w:3):Qw (Qw r w) (-w)=r:=by
 unfold Qw;rw[Zw];refine(UM λp _=>?_).trans<|List.map_id r
 grind
def az  :JD (Qw r w) q=6↔JD r (Qw q<|-w)=6:=by
 rw[zW,zW];constructor
 .intro h p a;let(u,c,l):=h %[p.1|p.2+w] (Ja.mpr (p,a,9))
  grind[FC]
 .intro h p a;let(d,b,rfl):=Ja.mp a;let(u,c,l):=h d b;rw[FC]at c;cases e:JE q d.1 with
  |none=>simp_all
  |some v=>
   grind
theorem Nt(w:3):∀a b:Jz,jH (Qw a w) (Qw b w)=jH a b
 |[],[]=>9
 |[],_::_=>9
 |_::_,[]=>9
 |p::a,q::b=>by
  show jH (%[p.1|p.2+w]::Qw a w) (%[q.1|q.2+w]::Qw b w)=_;rw[W6,W6,Nt w a b];by_cases h:p=q
  .rw[Zd h,h,Zd 9]
  .rw[Ze h,Ze λz=>h ?_]
   .simp_all[qw]
   grind
def ae (h:r ≠[])(w:3)(a:Yf):QD (Qw r w) a=QD r a+w:=by
 unfold QD Qw;rw[<-pV λz=>h<|Ji.mp z,Zw,Zw]
 congr 1
 refine UM λp _=>?_
 grind
def aA (c:f ≠[])(a:∀r∈f,r ≠[])(w)(b):JO (QL f w) b=JO f b+w:=by
 unfold JO QL;rw[<-ln λz=>c<|Ji.mp z,Zw,Zw]
 congr 1
 exact UM λr d=>ae (a r d) w b
def lJ{n:3}   (A:AllOk fs t)(E:t ≠[])(F:fs ≠[])(u:∀f∈fs,f ≠[]/\∀r∈f,r ≠[]/\jA r/\∀p∈r,0<=p.1/\p.1<12):JO t hs=qO (fs.map λf=>JO f hs):=by
 let g:∀{r:Jz},r ≠[]->∀p∈r,xB hs p.1+p.2<=QD r hs:=λ{r}i p d=>(WN (l:=r.map λp=>xB hs p.1+p.2)<|λz=>i<|Ji.mp z).2 _<|Ja.mpr (p,d,9);let j:∀{r:Jz}{M:3},r ≠[]->(∀p∈r,xB hs p.1+p.2<=M)->QD r hs<=M:=λ{r M}i h=>by
  let(m,_):=WN (l:=r.map λp=>xB hs p.1+p.2) λz=>i<|Ji.mp z;let(p,d,e):=Ja.mp m;let:=h p d;let e:xB hs p.1+p.2=QD r hs:=e;lia
 let(G,m2):=WN (l:=fs.map λf=>JO f hs) λz=>F<|Ji.mp z;let m2:∀f∈fs,JO f hs<=qO (fs.map λf=>JO f hs):=λf h=>m2 _<|Ja.mpr (f,h,9);let(v,o,x):=Ja.mp G;let x:JO v hs=qO (fs.map λf=>JO f hs):=x;generalize qO (fs.map λf=>JO f hs)=M at m2 x;let(r,i,P):=XD (hs:=hs) E;let lo:M<=JO t hs:=by
  let(s,c,y):=A.abv r i v o;let H:=Xi (hs:=hs) c;let I:QD s hs<=QD r hs:=j ((u v o).2 s c).1 λp d=>by
   let(w,B,J):=zW.mp y p d;let:=g (A.row r i).ne %[p.1|w]<|Q2 B;let this:xB hs p.1+w<=QD r hs:=this;lia
  lia
 let(q,C,y):=A.least ((List.range 12).map λk:5=>%[(k:3)|M-xB hs (k:3)]) λf h=>by
  let(s,c,Q):=XD (hs:=hs) (u f h).1;let(!L,R,N):=(u f h).2 s c;refine(s,c,zW.mpr λp d=>(M-xB hs p.1,?_,?_))
  .let O:jA ((List.range 12).map λk:5=>%[(k:3)|M-xB hs (k:3)]):=by
    unfold jA;rw[Zw];unfold List.Nodup;rw[U5];exact List.nodup_range (n:=12).imp λ{a b}h e=>h<|by let e:(a:3)=(b:3):=e;lia
   let b:=N p d;exact O.look<|Ja.mpr (p.1.toNat,Je.mpr (),by rw[show((p.1.toNat:5):3)=p.1 by lia])
  .let a:=g L p d;let b:=m2 f h;lia
 let H:=Xi (hs:=hs) C;let I:QD q hs<=M:=j (A.row q C).ne λp d=>by
  let(w,B,J):=zW.mp y p d;let(k,S,T):=Ja.mp (Q2 B)
  grind
 lia
theorem Nu:∀(a:List J0)t,(∀r∈t,JRow r)->(∀g∈a,∀r∈g,JRow r)->∀r∈a.foldl Qd t,JRow r
 |[],t,ht,_=>ht
 |g::a,t,ht,hg=>Nu a (Qd t g) (λr b=>F6 ht (hg g Zqs) r (xF.mp b).1) λx c=>hg x<|Zqm _ c
theorem Nv :∀(c:List J0)t,(∀r∈t,JRow r/\∀p∈r,p.1<n)->(∀g∈c,∀r∈g,JRow r/\∀p∈r,p.1<n)->∀r∈c.foldl Qd t,∀p∈r,p.1<n
 |[],t,ht,_=>λr d=>(ht r d).2
 |g::c,t,ht,hg=>Nv c (Qd t g) (λr d=>by
  let(a,l,b,m,rfl):=vr.mp (xF.mp d).1;let(e,o):=ht a l;let(f,q):=hg g Zqs b m;calc(XG e f,λp s=>by
   let h:=(XG e f).once.look s;rw[CL e.once f.once]at h;cases i:JE a p.1 with
   |some w=>calc o %[p.1|w]<|Q2 i
   |none=>
    cases j:JE b p.1 with
    |some w=>calc q %[p.1|w]<|Q2 j
    |none=>rw[i,j]at h;cases h)) λx u=>hg x<|Zqm _ u
def Nw   (q:Cn f/\f.length<=64)(s:∀g∈fs,Cn g/\g.length<=64)(C:0<=a)(m2:a<=60)(I:fs.length<=900):
 zp [.lst ((f::fs).map jf),.int a]=qH (zg a f fs):=by
 let v:∀{rs:J0},(∀r∈rs,JRow r)->rs.length<=200->QZ [jf rs,.int a]=qH (jU a<|JU rs):=λ{rs}h l=>Fx (λr e=>(h r e).ne) (λr e=>(h r e).rise) λr e=>by let:=(h r e).len;lia () C ();let j:=v (rs:=f) q.1.rows ();rw[q.1.thin]at j;let o:xy ((f::fs).map jf) 0=! jf f:=by
  rw[show(0:3)=((0:5):3)from 9,Z8 ()];rfl
 let E:QC (jf f::fs.map jf) (!1) 8 8=fs.map jf:=by
  rw[C5 _ ()];rfl
 by_cases w:(f.length:3)<=a
 .rw[CN w]at j;let j:QZ [jf f,.int a]=.ok (jf f):=j;let m:((xI (.one 03) (λn=>(qD 2<|J8 QZ<|J1 (jm jG (ja 2)<|ja 03)<|J1 (ja 1) jd)<|qo [2] n) (fs.map jf) [~~~(.lst<|(f::fs).map jf),~~~.int a,!(.own 7<|jf f),8]).bind<|yb<|KM 2).bind yK=qH (zg a f fs):=by
   refine Mc (R:=λz=>(z.bind<|yb<|KM 2).bind yK=qH (zg a f fs)) (P:=λi n=>∃(t:J0)(u:Option SV),n=[~~~(.lst<|(f::fs).map jf),~~~.int a,!(.own 7<|jf t),u]/\(∀r∈t,JRow r)/\(t.length:3)<=a/\zg a t (fs.drop i)=zg a f fs) (f,8,9,q.1.rows,w,9) ?_ ?_
   .rintro n ⟨t,u,rfl,T,lt,d⟩;rw[Zql,UT]at d;rw[<-d];show _=qH (jU a t);rw[CN lt];rfl
   .rintro i x n F ⟨t,u,rfl,T,lt,d⟩;let(g,p,rfl):=KH F;let y:=(Jd.mp p).1;let(G,J):=s g (Uf p);let A:=p7 (f:=t) (g:=g) ();let B:∀r∈t++g,JRow r:=λr e=>(Jb.mp e).elim (λz=>T r z) λz=>G.rows r z;let b:=v (rs:=t++g) B (by rw[Ua];lia);let H:fs.drop i=g::fs.drop (i+1):=by
     rw[Uj y];rw[Zqg y]at p;rw[Zqi p]
    rw[H]at d;let d:(jU a t).bind (λ_=>zg a (xi t g)<|fs.drop<|i+1)=zg a f fs:=d;rw[CN lt]at d;let d:zg a (xi t g) (fs.drop<|i+1)=zg a f fs:=d;by_cases c:((xi t g).length:3)<=a
    .let b:QZ [jf (t++g),.int a]=.ok (jf<|xi t g):=by
      rw[b];show qH (jU a<|xi t g)=_;rw[CN c];rfl
     exact .inl ([~~~(.lst<|(f::fs).map jf),~~~.int a,!(.own 7<|jf<|xi t g),~~~jf g],by simp[A,b],xi t g,_,9,λr e=>B r (xF.mp e).1,c,d)
    .let no:jU a (xi t g)=8:=Ze c;let b:QZ [jf (t++g),.int a]=.ex "TooMany" []:=by
      rw[b];show qH (jU a<|xi t g)=_;rw[no];rfl
     calc .inr ("TooMany",[],by simp[A,b],?_);rw[<-d,No no];rfl
  simp[zp,vh]at o m ⊢;simp[o,j,E,m]
 .rw[Np ()]at j;let j:QZ [jf f,.int a]=.ex "TooMany" []:=j;rw[No (Np ())];show _=Res.ex "TooMany" [];simp[zp,vh]at o ⊢;simp[o,j]
def lc (A:Cn a)(B:Cn b)(hs:Yf):Cn (xi a b)/\JO (xi a b) hs<=JO a hs/\JO (xi a b) hs<=JO b hs/\(JO (xi a b) hs=JO a hs\/JO (xi a b) hs=JO b hs):=by
 let c:=λr d=>(Jb.mp d).elim (A.rows r)<|B.rows r;let ne:a++b ≠[]:=λz=>A.ne (Jq.mp z).1;calc(Nr c ne,?_);unfold xi;rw[ag ne λr d=>((c r d).ne,(c r d).once,(c r d).rise)];let(r,d,e):=XD (hs:=hs) A.ne;let(s,g,i):=XD (hs:=hs) B.ne;let j:=Xi (hs:=hs)<|Vw b d;let l:=Xi (hs:=hs)<|Ue a g;let(q,h,m):=XD (f:=a++b) (hs:=hs) λz=>A.ne (Jq.mp z).1;calc((),(),?_);rcases Jb.mp h with z|z
 .let:=Xi (hs:=hs) z;exact .inl ()
 .let:=Xi (hs:=hs) z;lia
theorem FD(a:Yf):∀(b:List J0)(t:J0),Cn t->(∀g∈b,Cn g)->Cn (b.foldl xi t)/\(JO (b.foldl xi t) a=JO t a\/∃g∈b,JO (b.foldl xi t) a=JO g a)/\JO (b.foldl xi t) a<=JO t a/\∀g∈b,JO (b.foldl xi t) a<=JO g a
 |[],t,T,_=>(T,.inl 9,Int.le_refl _,λ_ h=>nomatch h)
 |g::b,t,T,G=>by
  let(!d,e,f,i):=lc T (G g Zqs) a;let(!c,j,l,m):=FD a b (xi t g) d ()
  grind
theorem FF{P:Jz->4}:∀(a:List J0)(t:J0),(∀r∈t,P r)->(∀g∈a,∀r∈g,P r)->∀r∈a.foldl xi t,P r
 |[],_,h,_=>h
 |g::a,t,h,k=>FF a (xi t g) (λr b=>(Jb.mp (xF.mp b).1).elim (h r) ()) ()
theorem Nx :∀(b:List J0)(t c:J0),xz a t b=!c->c=b.foldl Qd t
 |[],_,_,h=>(Zqi h).symm
 |g::b,t,c,h=>by
  rw[Nj]at h;cases q:jU a (Qd t g)with
  |none=>simp_all
  |some d=>
   rw[q]at h;rw[Vh,<-(XH q).1];exact Nx b d c h
def pi    (h:xE a f fs=!t):t=fs.foldl Qd (JU f):=by
 unfold xE at h;cases q:jU a (JU f)with
 |none=>simp_all
 |some b=>
  rw[q]at h;rw[<-(XH q).1];exact Nx fs b t h
theorem FG :∀(c:List J0)(t b:J0),zg a t c=!b->b=c.foldl xi t/\(b.length:3)<=a
 |[],t,b,h=>by
  let(e,l):=XH h
  simp_all
 |g::c,t,b,h=>by
  let h:(jU a t).bind (λ_=>zg a (xi t g) c)=!b:=h;cases q:jU a t with
  |none=>simp_all
  |some d=>
   rw[q]at h;exact FG c (xi t g) b h
abbrev Fo:=J0
structure Kf(n m:5)(t:Fo):4 where
 cn:Cn t
 len:t.length<=m
 th:∀r∈t,∀p∈r,p.1<(n:3)
def Kf.wait  (T:Kf n m t)(w:3):Kf n m (QL t w):=by
 refine(by
  refine(λz=>T.cn.ne<|Ji.mp z,λr l=>?_,Xz yr (W0 _) ?_ λr=>(λh=>(xF.mp h).1,λh=>xF.mpr (h,vq.mpr λo v j=>?_)))
  .let(f,c,rfl):=Ja.mp l;let h:=T.cn.rows f c;refine(λz=>h.ne<|Ji.mp z,?_,λp q=>?_)
   .let e:(Qw f w).map (·.1)=f.map (·.1):=by
     unfold Qw;simp
    unfold xf;rw[e];exact h.rise
   .let(s,i,rfl):=Ja.mp q;exact h.bnd s i
  .unfold QL;rw[U5];exact T.cn.strict.imp λ{a b}h=>by rwa[Nt]
  .let(x,u,rfl):=Ja.mp v;let(f,c,rfl):=Ja.mp h;let j:=az.mp j;rw[aj]at j;rw[T.cn.anti x u f c j],by unfold QL;rw[Zql];calc T.len,λr l p q=>?_)
 let(f,c,rfl):=Ja.mp l;let(s,i,rfl):=Ja.mp q;exact T.th f c s i
def ju(fs:List Fo)(r:Jz):List Fo:=r.map λp=>QL (qN fs p.1) p.2
def qG(a:3)(fs:List Fo)(r:Jz):Option Fo:=match ju fs r with
 |[]=>8
 |f::b=>xE a f b
def KJ(a:3)(fs:List Fo):Fo->Option (List Fo)
 |[]=>![]
 |r::b=>(qG a fs r).bind λt=>(KJ a fs b).map (t::·)
def Da(a:3)(fs:List Fo)(r:Jz)(b:Fo):KJ a fs (r::b)=(qG a fs r).bind λt=>(KJ a fs b).map (t::·):=rfl
def v9(a:3):List Fo->Option Fo
 |[]=>8
 |t::b=>zg a t b
def xS(a:3)(fs:List Fo)(b:Fo):Option Fo:=(KJ a fs b).bind<|v9 a
section
variable {n m:Nat}
def cW(u:1<=c)(v:(m:3)=c)  (h:∀g∈f::i,Kf n m g){t:Fo}(q:xE c f i=!t):Kf n m t/\∀j,JO t j=qO ((f::i).map λg=>JO g j):=by
 let d:=h f Zqs;let a:∀g∈i,g ≠[]/\∀r∈g,JRow r:=λg a=>((h g<|Zqm _ a).cn.ne,(h g<|Zqm _ a).cn.rows);let(!A,lt,l):=Mz (d.cn.ne,d.cn.rows) a q;let e:=pi q;rw[d.cn.thin]at e;calc(((l,A.row,Xz yr (W0 _) A.strict λr=>(λh=>(xF.mp h).1,λh=>xF.mpr (h,vq.mpr λo p s=>A.anti o p r h s))),(),?_),λj=>lJ (n:=0) A l () λg a=>((h g a).cn.ne,λr b=>(((h g a).cn.rows r b).ne,((h g a).cn.rows r b).once,((h g a).cn.rows r b).bnd)));rw[e];exact Nv i f (λr b=>(d.cn.rows r b,d.th r b)) λg a r b=>((h g<|Zqm _ a).cn.rows r b,(h g<|Zqm _ a).th r b)
def XJ(h:∀g∈fs,Kf n m g) (a:∀p∈r,0<=p.1/\p.1<(fs.length:3)):∀g∈ju fs r,Kf n m g:=λg b=>by
 let(p,c,rfl):=Ja.mp b;let(d,e):=a p c;exact(h _<|ZJ d e).wait p.2
def Ny(d:1<=a)(e:(m:3)=a)(h:∀g∈fs,Kf n m g) (c:∀p∈r,0<=p.1/\p.1<(fs.length:3)) (q:qG a fs r=!t):Kf n m t/\∀b,JO t b=QD r (fs.map λg=>JO g b):=by
 let i:=XJ h c;unfold qG at q;cases z:ju fs r with
 |nil=>rw[z]at q;cases q
 |cons f w=>
  rw[z]at q;let(j,l):=cW d e (by rwa[z]at i) q;calc(j,λb=>?_);rw[l,<-z];unfold ju QD;rw[Zw]
  congr 1
  calc UM λp o=>?_;let(s,u):=c p o;let K:=h _<|ZJ s u;show JO (QL (qN fs p.1) p.2) b=xB (fs.map λg=>JO g b) p.1+p.2;rw[aA K.cn.ne λr v=>(K.cn.rows r v).ne];unfold xB qN;rw[Ut,Ut,Zv,Zqg ()];rfl
def lK(y:1<=a)(A:a<=12)(B:(m:3)=a)(h:∀g∈fs,Kf n m g) (c:JRow r)(l:∀p∈r,p.1<(fs.length:3)):Wq [js r,.lst (fs.map jf),.int a]=qH (qG a fs r):=by
 let l:∀p∈r,0<=p.1/\p.1<(fs.length:3):=λp s=>((c.bnd p s).1,l p s);let C:=c.len;let u:∀f∈fs,f.length<=1000/\∀r∈f,r.length<=1000:=λf b=>(by let:=(h f b).len;lia,λr c=>by let:=((h f b).cn.rows r c).len;lia);let d:=aq l u;let v:=Ql<|show r.length<=1000 from();let e:Wq [js r,.lst (fs.map jf),.int a]=zo [.lst ((ju fs r).map jf),.int a]:=by
  unfold ju;generalize(r.map λp=>QL (qN fs p.1) p.2).map jf=w at d;simp[Wq,CO,d,v];cases zo [D.lst w,D.int a]<;>rfl
 rw[e];let j:=XJ h l;let q:(ju fs r).length=r.length:=Zql _;unfold qG;cases z:ju fs r with
 |nil=>calc Zn (Ji.mp z) c.ne
 |cons f x=>
  rw[z]at j q;let q:x.length+1=r.length:=q;let b:=j f Zqs;let E:=b.len;calc Nl (b.cn.ne,b.cn.rows) (λg o=>((j g<|Zqm _ o).cn.ne,(j g<|Zqm _ o).cn.rows)) () () () () λi t g _ lt o=>?_;let G:=j g<|Zqm _<|Uf o;let F:=G.len;let e:=Nm (f:=t) G.cn.ne;let lt:t.length<=12:=()
  let H:=U6 lt<|show g.length<=12 from();lia
theorem Nz(d:1<=a)(e:a<=12)(f:(m:3)=a)(h:∀g∈fs,Kf n m g):∀(b:Fo),(∀r∈b,JRow r/\∀p∈r,p.1<(fs.length:3))->qz (.one 0) (J8 Wq<|J1 (ja 0)<|J1 (ja 1)<|J1 (ja 2) jd) [8,~~~(.lst<|fs.map jf),~~~.int a] (b.map js)=match KJ a fs b with|some c=>.ok (c.map jf)|none=>.ex "TooMany" []
 |[],_=>9
 |r::b,hr=>by
  let(i,j):=hr r Zqs;let l:=Nz d e f h b λx o=>hr x<|Zqm _ o;let p:=lK d e f h i j;let q:qz (.one 0) (J8 Wq<|J1 (ja 0)<|J1 (ja 1)<|J1 (ja 2) jd) [8,~~~(.lst<|fs.map jf),~~~.int a] ((r::b).map js)=(Wq [js r,.lst (fs.map jf),.int a]).bind λv=>(qz (.one 0) (J8 Wq<|J1 (ja 0)<|J1 (ja 1)<|J1 (ja 2) jd) [8,~~~(.lst<|fs.map jf),~~~.int a]<|b.map js).bind λs=>.ok<|v::s:=9;rw[q,p,l];rw[Da];cases qG a fs r with
  |none=>rfl
  |some t=>
   show(match KJ a fs b with|some c=>Res.ok (c.map jf)|none=>.ex "TooMany" []).bind _=_;cases KJ a fs b with
   |none=>rfl
   |some c=>rfl
theorem Db(d:1<=b)(f:(m:3)=b)(h:∀g∈fs,Kf n m g):∀(a:Fo),(∀r∈a,JRow r/\∀p∈r,p.1<(fs.length:3))->∀{c:List Fo},KJ b fs a=!c->(∀t∈c,Kf n m t)/\c.length=a.length/\∀i,c.map (λt=>JO t i)=a.map λr=>QD r<|fs.map λg=>JO g i
 |[],_,c,q=>by cases q;simp
 |r::a,hr,c,q=>by
  let(l,o):=hr r Zqs;rw[Da]at q;cases z:qG b fs r with
  |none=>rw[z]at q;cases q
  |some t=>
   rw[z]at q;let(u,e,rfl):=Jj.mp q;let(!v,w,y):=Db d f h a (λx s=>hr x<|Zqm _ s) e;let(A,B):=Ny d f h (λp j=>((l.bnd p j).1,o p j)) z
   simp_all
def ba(j:1<=a)(u:a<=12)(l:(m:3)=a)(h:∀g∈fs,Kf n m g) (v:mf<=12) (F:Kf fs.length mf form):yC [jf form,.lst (fs.map jf),.int a]=qH (xS a fs form):=by
 let d:∀r∈form,JRow r/\∀p∈r,p.1<(fs.length:3):=λr d=>(F.cn.rows r d,F.th r d);let b:=Nz j u l h form d;let x:=F.len;let o:=Ql<|show form.length<=1000 from();unfold xS;cases q:KJ a fs form with
 |none=>
  rw[q]at b;let b:qz (.one 0) (J8 Wq<|J1 (ja 0)<|J1 (ja 1)<|J1 (ja 2) jd) [8,~~~(.lst<|fs.map jf),~~~.int a] (form.map js)=.ex "TooMany" []:=b;show _=Res.ex "TooMany" [];simp[yC,vf,b,o]
 |some c=>
  rw[q]at b;let b:qz (.one 0) (J8 Wq<|J1 (ja 0)<|J1 (ja 1)<|J1 (ja 2) jd) [8,~~~(.lst<|fs.map jf),~~~.int a] (form.map js)=.ok (c.map jf):=b;let(!f,i,_):=Db j l h form d q;let e:yC [jf form,.lst (fs.map jf),.int a]=zp [.lst (c.map jf),.int a]:=by
   generalize c.map jf=w at b;simp[yC,vf,b,o];cases zp [D.lst w,D.int a]<;>rfl
  rw[e];cases c with
  |nil=>calc Zn (Jn.mp i.symm) F.cn.ne
  |cons t c=>
   let i:c.length+1=form.length:=i;exact Nw ((f t Zqs).cn,by let:=(f t Zqs).len;lia) (λg s=>((f g<|Zqm _ s).cn,by let:=(f g<|Zqm _ s).len;lia)) () () ()
def cR(A:1<=c)(B:(m:3)=c)(h:∀g∈fs,Kf n m g)  (F:Kf fs.length I a) (q:xS c fs a=!t):Kf n m t/\∀d,JO t d=JO a (fs.map λg=>JO g d):=by
 let l:∀r∈a,JRow r/\∀p∈r,p.1<(fs.length:3):=λr l=>(F.cn.rows r l,F.th r l);let(i,E,o):=Jf.mp q;let(!s,J,u):=Db A B h a l E;cases i with
 |nil=>cases o
 |cons f i=>
  let(e,lt):=FG i f t o;let v:=s f Zqs;let j:=λg b=>s g<|Zqm _ b;let C:=λd=>FD d i f v.cn λg b=>(j g b).cn;rw[<-e]at C;refine(((C []).1,(),?_),λd=>?_)
  .rw[e];exact FF i f v.th λg b=>(j g b).th
  .let(!_,w,G,x):=C d;unfold JO at u w G x ⊢;rw[<-u d];refine GP ?_ λy H=>?_
   .rcases w with z|⟨g,b,z⟩
    .exact Ja.mpr (f,Zqs,z.symm)
    .exact Ja.mpr (g,Zqm _ b,z.symm)
   .let(g,b,rfl):=Ja.mp H;rcases U4.mp b with z|z
    .rwa[z]
    .exact x g z
end
section
variable {n m:Nat}{most:Int}
def FH(d:1<=m)(f:n<=12)(k:5)(i:k<n):Kf n m [[%[(k:3)|0]]]:=by
 let J:JRow [%[(k:3)|0]]:=((),VX _ _,λp g=>());let C:=Nr (l:=[[%[(k:3)|0]]]) () ();let e:JU [[%[(k:3)|0]]]=[[%[(k:3)|0]]]:=by
  let l:=MC [[%[(k:3)|0]]]
  match h:JU [[%[(k:3)|0]]]with
  |[]=>calc Zn h C.ne
  |[r]=>
   let:r∈JU [[%[(k:3)|0]]]:=by simp_all
   rw[Jc.mp (xF.mp this).1]
  |a::b::c=>rw[h]at l;simp at l
 rw[e]at C;exact(C,d,λr j p g=>())
def Qp(n:5):List Fo:=(List.range n).map λk:5=>[[%[(k:3)|0]]]
def qj(most:3)(part:Str->Option Fo)(T:List Fo)(r:Rw):Option Fo:=
 if r.2.1="all"then qG most T r.2.2 else if r.2.1="first"then v9 most (ju T r.2.2)else(part r.2.1).bind (xS most<|ju T r.2.2)
def Kz(most:3)(part:Str->Option Fo):List Rw->List Fo->Option (List Fo)
 |[],T=>!T
 |r::a,T=>(qj most part T r).bind λt=>Kz most part a<|T++[t]
def WM(most:3)(part:Str->Option Fo)(r:Rw)(a:List Rw)(T:List Fo):Kz most part (r::a) T=(qj most part T r).bind λt=>Kz most part a<|T++[t]:=rfl
def Qs(a:List Pl)(most:3):5->Pl->Option (List Fo)
 |0,_=>8
 |n+1,p=>Kz most (λx=>(Qs a most n<|(a.find? λq=>decide<|q.name=x).getD gd).map λT=>T.getLastD []) p.rows (Qp p.givens.length)
def QM(a:List Pl)(most:3)(n:5)(x:Str):Option Fo:=(Qs a most n<|(a.find? λq=>decide<|q.name=x).getD gd).map λT=>T.getLastD []
def FI(a:List Pl)(most:3)(n:5)(p:Pl):Qs a most (n+1) p=Kz most (QM a most n) p.rows (Qp p.givens.length):=rfl
theorem N0(most:3)(part:Str->Option Fo):∀(a b:List Rw)(T:List Fo),Kz most part (a++b) T=(Kz most part a T).bind (Kz most part b)
 |[],b,T=>9
 |r::a,b,T=>by
  rw[List.cons_append,WM,WM];cases qj most part T r with
  |none=>rfl
  |some t=>exact N0 most part a b<|T++[t]
theorem FK(most:3)(part:Str->Option Fo):∀(a:List Rw)(T:List Fo){U:List Fo},Kz most part a T=!U->U.length=T.length+a.length
 |[],T,U,h=>by cases h;rfl
 |r::a,T,U,h=>by
  have(t,_,h):=Jf.mp h;let:=FK most part a _ h
  grind
theorem N1{part:Str->Option Fo}{a:List Rw}(f:(m:3)=most)(i:1<=most)(S:∀(k:5)r(T:List Fo)t,a[k]?=!r->(∀g∈T,Kf n m g)->T.length=n+k->qj most part T r=!t->Kf n m t):∀(j:5){U:List Fo},j<=a.length->(∀g∈Qp n,Kf n m g)->Kz most part (a.take j) (Qp n)=!U->∀g∈U,Kf n m g
 |0,U,_,b,h=>by
  cases h;calc b
 |j+1,U,hj,b,h=>by
  let l:a[j]?=!a[j]:=by simp
  rw[KY l,N0]at h;have(T,c,o):=Jf.mp h;let p:=N1 f i S j () b c;let s:=FK most part _ _ c;let(t,u,q):=Jf.mp o;let e:=(Zqi q).symm;let v:(Qp n).length=n:=by unfold Qp;rw[Zql,ZB]
  intro g d;rw[e]at d;rcases Jb.mp d with z|z
  .exact p g z
  .exact()
def Xm (B:BkP a){j:5} (b:a[j]?=!q)(most:3)(k:5):QM a most k q.name=(Qs a most k q).map λT=>T.getLastD []:=by
 unfold QM;rw[B.find b];rfl
def FL {part:Str->Option Fo}(i:(m:3)=most)(j:1<=most)  (R:RwP v k r)(x:∀q∈v,∀w,part q.name=!w->Kf q.givens.length m w) (l:∀g∈U,Kf n m g)(G:(U.length:3)=k) (a:qj most part U r=!t):Kf n m t:=by
 let o:∀y∈r.2.2,0<=y.1/\y.1<(U.length:3):=λy A=>by let:=R.rng y A;lia
 let b:=XJ l o;unfold qj at a
 split at a
 .exact(Ny j i l o a).1
 .split at a
  .cases z:ju U r.2.2 with
   |nil=>rw[z]at a;cases a
   |cons f c=>
    rw[z]at a b;let(e,lt):=FG c f t a;let s:=b f Zqs;let d:∀g∈c,Kf n m g:=λg d=>b g<|Zqm _ d;let C:=FD [] c f s.cn λg h=>(d g h).cn;rw[<-e]at C;calc(C.1,(),?_);rw[e];exact FF (P:=λr=>∀p∈r,p.1<(n:3)) c f s.th λg h=>(d g h).th
  .rename_i B E;rcases R.how with z|z|⟨q,hq1,z,zl⟩
   .exact Zn z B
   .exact Zn z E
   .let(w,u,a):=Jf.mp a;rw[z]at u;let F:(ju U r.2.2).length=q.givens.length:=(Zql _).trans zl;exact(cR j i b (by rw[F];calc x q hq1 w u) a).1
theorem XL (B:BkP e)(c:(m:3)=most)(d:1<=most):∀(k j:5){p:Pl},e[j]?=!p->∀{T:List Fo},Qs e most k p=!T->(∀t∈T,Kf p.givens.length m t)/\T.length=p.givens.length+p.rows.length
 |0,j,p,_,T,h=>by cases h
 |k+1,j,p,u,T,h=>by
  let P:=B.ok j p u;let v:(Qp p.givens.length).length=p.givens.length:=by unfold Qp;rw[Zql,ZB]
  rw[FI]at h;let f:=FK most _ _ _ h;rw[v]at f;calc(?_,f);let x:∀g∈Qp p.givens.length,Kf p.givens.length m g:=λg z=>by
   let(i,A,rfl):=Ja.mp z;exact FH () (by let:=P.g2;lia) i<|Je.mp A
  calc N1 c d (λi r U t C E M F=>FL c d (P.row i r C) (λq G w b=>?_) E () F) p.rows.length (Zf _) x (by rw[Vs];calc h);let(l,a):=Jh.mp G;let H:=(Jd.mp a).1;rw[Uq]at H;rw[Vt ()]at a;rw[Xm B a]at b;let(V,I,b):=Jj.mp b;let(J,o):=XL B c d k l a I;let L:V ≠[]:=λy=>by rw[y]at o;let:=(B.ok l q a).r1;simp at o;lia
  let(N y,s):=Xj L;rw[s,VG]at b;subst b;exact J y<|by rw[s];exact Ue _ Zqs
def N2 (B:BkP c)(f:(m:3)=most)(g:1<=most)(k j:5):∀q∈c.take j,∀w,QM c most k q.name=!w->Kf q.givens.length m w:=λq h w b=>by
 let(d,a):=Jh.mp (List.mem_of_mem_take h);rw[Xm B a]at b;let(V,i,b):=Jj.mp b;let(o,e):=XL B f g k d a i;let l:V ≠[]:=λy=>by rw[y]at e;let:=(B.ok d q a).r1;simp at e;lia
 let(p,y,r):=Xj l
 simp_all
theorem N3{part b:Str->Option Fo}:∀{a:List Rw},(∀r∈a,∀T,qj most part T r=qj most b T r)->∀T,Kz most part a T=Kz most b a T
 |[],_,_=>9
 |r::a,h,T=>by
  rw[WM,WM,h r Zqs]
  congr 1
  funext t
  exact N3 (λx c=>h x<|Zqm _ c) _
def Dc (B:BkP b):∀(j k:5)(q:Pl),b[j]?=!q->j<k->Qs b most k q=Qs b most (j+1) q:=by
 intro j
 induction j using Nat.strongRecOn with
 |ind j d=>
  intro k q f s;let(c,rfl):∃c,k=c+1:=(k-1,());rw[FI,FI];calc N3 (λr g T=>?_) _;let(i,h):=Jh.mp g;let R:=(B.ok j q f).row i r h;unfold qj
  split
  .rfl
  .split
   .rfl
   .rename_i l o;rcases R.how with z|z|⟨q2,hq2,z,zl⟩
    .exact Zn z l
    .exact Zn z o
    .let(e,a):=Jh.mp hq2;let p:=(Jd.mp a).1;rw[Uq]at p;rw[Vt ()]at a;rw[z,Xm B a,Xm B a,d e () c q2 a (),d e () j q2 a ()]
end
def qR(b:HP):Yj->List Fo->4
 |[],[]=>True
 |a::c,t::d=>jc b a=! jf t/\qR b c d
 |_,_=>False
theorem qR.mono (h:∀a d,jc i a=!d->jc c a=!d):∀{e:Yj}{f:List Fo},qR i e f->qR c e f
 |[],[],_=>trivial
 |_::_,_::_,(j,h2)=>(h _ _ j,qR.mono h h2)
 |[],_::_,z=>z
 |_::_,[],z=>z
theorem qR.len :∀{c:Yj}{e:List Fo},qR f c e->c.length=e.length
 |[],[],_=>9
 |_::c,_::e,(_,h2)=>by rw[Zu,Zu,qR.len h2]
 |[],_::_,z=>z.elim
 |_::_,[],z=>z.elim
def b5(a:HP)(p:3×3):∀k,dr a k (qB p)=qB p
 |0=>9
 |1=>9
 |k+2=>9
def b0(a:HP)(r:Jz):∀k,dr a k (js r)=js r
 |0=>9
 |k+1=>by
  show D.tup ((r.map qB).map<|dr a k)=_;rw[Zw];exact Zt D.tup<|UM λp _=>b5 a p k
def N4(a:HP)(t:Fo):∀k,dr a k (jf t)=jf t
 |0=>9
 |k+1=>by
  show D.lst ((t.map js).map<|dr a k)=_;rw[Zw];exact Zt D.lst<|UM λr _=>b0 a r k
theorem qR.dr  :∀{c:Yj}{e:List Fo},qR f c e->(c.map D.adr).map (L2.DL.dr f<|k+1)=e.map jf
 |[],[],_=>9
 |a::c,t::e,(i,h2)=>by
  rw[Zl,Zl,Zl,qR.dr h2,Xe k i,N4]
 |[],_::_,z=>z.elim
 |_::_,[],z=>z.elim
def qR.read   (h:qR c e f)(k:5):L2.DL.dr c (k+2) (.lst<|e.map .adr)=jp f:=Zt D.lst h.dr
def FM(b:HP)(t:Fo):zR b (jf t)=.new b λa=>.ok %[.adr a|%[a|jf t]::b]:=Zd<|by
 rw[Ve];calc UP.mpr λr _=>?_;show(r.map qB).all (AS 07)=6;rw[Ve];exact UP.mpr λp _=>9
def cz (h:∀a d,jc c a=!d->jc b a=!d):(c.all λz=>(jc b z.1).isSome)=6:=UP.mpr λz e=>by
 cases q:jc c z.1 with
 |none=>
  simp_all[uI]
 |some d=>rw[h _ _ q];rfl
def bT(e:HP)(f:List Fo)(g:YC)(b:HP):4:=∃c:Yj,g=c.map .adr/\qR b c f/\c.Nodup/\(∀a d,jc e a=!d->jc b a=!d)/\∀a∈c,jc e a=8
theorem FN {f:FV}  :∀{xs:YC}{ts:List Fo}{hp:HP},xs.length=ts.length->(∀(i:5)(x:D)(t:Fo)(g:HP),xs[i]?=!x->ts[i]?=!t->(∀a d,jc hp a=!d->jc g a=!d)->(Wr.of<|JW j x c).bind (λs=>f s g)=.new g λa=>.ok %[.adr a|%[a|jf t]::g])->(yg j f c xs hp).need (λq=>bT hp ts q.1 q.2) Q
 |[],[],hp,_,_=>([],9,trivial,UZ,λ_ _ h=>h,λ_ h=>nomatch h)
 |x::xs,t::ts,hp,hl,h=>by
  let m:=h 0 x t hp 9 9 λ_ _ q=>q;let eq:yg j f c (x::xs) hp=((Wr.of<|JW j x c).bind λs=>f s hp).bind λp=>if(hp.all λz=>(jc p.2 z.1).isSome)=6 then(yg j f c xs p.2).bind λq=>.ok %[p.1::q.1|q.2]else .no:=by
   show(Wr.of<|JW j x c).bind (λs=>(f s hp).bind λp=>if(hp.all λz=>(jc p.2 z.1).isSome)=6 then(yg j f c xs p.2).bind λq=>.ok %[p.1::q.1|q.2]else .no)=_;cases JW j x c<;>rfl
  rw[eq,m];intro a n;let l:∀b d,jc hp b=!d->jc (%[a|jf t]::hp) b=!d:=λb d q=>by
   rw[JR];by_cases z:b=a
   .rw[z,n]at q;cases q
   .rw[Ze z];exact q
  show(if _ then _ else _:Wr (YC×HP)).need _ _;rw[Zd (cz l)];calc Wr.need_bind.mpr<|(FN (xs:=xs) (ts:=ts) (hp:=%[a|jf t]::hp) (by simpa using hl) λi y u g o r v=>h (i+1) y u g o r λb d q=>v b d<|l b d q).mono (λq w=>?_) λ_ _ z=>z;let(-B,e,A,C,E,F):=w;refine(a::B,by rw[e];rfl,(E a _<|by rw[JR,Zd 9],A),Jk.mpr (λz=>?_,C),(),λb G=>?_)
  .let:=F a z;rw[JR,Zd 9]at this;cases this
  grind[JR]
 |[],_::_,_,h,_=>nomatch h
 |_::_,[],_,h,_=>nomatch h
theorem qR.at :∀{c:Yj}{e:List Fo},qR f c e->∀a∈c,∃t,jc f a=! jf t
 |[],_,_,a,h=>nomatch h
 |b::c,t::e,(i,h2),a,h=>by
  rcases U4.mp h with z|z
  .rw[z];exact(t,i)
  .calc qR.at h2 a z
 |_::_,[],z,_,_=>z.elim
theorem qR.snoc  {t:Fo}(h:jc c a=! jf t):∀{e:Yj}{f:List Fo},qR c e f->qR c (e++[a]) (f++[t])
 |[],[],_=>(h,trivial)
 |_::_,_::_,(i,h2)=>(i,qR.snoc h h2)
 |[],_::_,z=>z.elim
 |_::_,[],z=>z.elim
theorem qR.keep :∀{c:Yj}{e:List Fo},qR f c e->(∀a∈c,∀d,jc f a=!d->jc hp' a=!d)->qR hp' c e
 |[],[],_,_=>trivial
 |a::c,_::_,(i,h2),k=>(k a Zqs _ i,qR.keep h2 λb j=>k b<|Zqm _ j)
 |[],_::_,z,_=>z.elim
 |_::_,[],z,_=>z.elim
def Kp(c:Addr)(e a:HP):4:=(∀b d,b≠c->jc e b=!d->jc a b=!d)/\(jc e c≠8->jc a c≠8)
theorem Kp.refl(e:Addr)(c:HP):Kp e c c:=(λ_ _ _ h=>h,λh=>h)
theorem Kp.trans  (e:Kp f a b)(i:Kp f b c):Kp f a c:=(λx d n h=>i.1 x d n<|e.1 x d n h,λh=>i.2<|e.2 h)
def Kp.of{ak:Addr}{e c:HP}(h:∀b d,jc e b=!d->jc c b=!d):Kp ak e c:=(λb d _ q=>h b d q,λq=>by
 cases z:jc e ak with
 |none=>calc Zn z q
 |some d=>rw[h ak d z];simp)
theorem Kp.some  (h:Kp c hp hp') (q:jc hp b≠8):jc hp' b≠8:=by
 by_cases z:b=c
 .rw[z]at q ⊢;exact h.2 q
 .cases y:jc hp b with
  |none=>calc Zn y q
  |some d=>rw[h.1 b d z y];simp
structure Kno(ps:List Pl)(most:3)(hp:HP)(ak:Addr)(K:List (Str×Addr)):4 where
 at_:jc hp ak=!(.dct (K.map λx=>.inr x.1)<|K.map λx=>.adr x.2)
 nd:(K.map (·.1)).Nodup
 ok:∀x∈K,x.2≠ak/\∃j q T,ps[j]?=!q/\x.1=q.name/\Qs ps most (j+1) q=!T/\jc hp x.2=!(jf<|T.getLastD [])
def Kno.keep  {K:List (Str×Addr)}(h:Kno f e i l K)(k:∀b d,jc i b=!d->jc hp' b=!d):Kno f e hp' l K:=(k _ _ h.at_,h.nd,λx n=>by
 let(o,j,q,T,a,b,c,d):=h.ok x n;calc(o,j,q,T,a,b,c,k _ _ d))
theorem FP :∀{a:List jT},q∉a->z9 q a=7
 |[],_=>9
 |k::a,h=>by
  show(decide (k=q)||z9 q a)=7;rw[FP λz=>h<|Zqm _ z,Zo λz=>h ()];rfl
theorem N5  :∀{a:List jT}{b:YC},a.length=b.length->q∉a->jX (a++[q]) (b++[d]) q=!d
 |[],[],_,_=>Zd 9
 |[],_::_,h,_=>by cases h
 |_::_,[],h,_=>by cases h
 |k::a,e::b,h,hq=>by
  show(if k=q then !e else jX (a++[q]) (b++[d]) q)=_;rw[Ze λz=>hq ()];exact N5 (UL h) ()
theorem N6:∀(a:List Pl)(l:Yi),l.Nodup->(∀x∈l,∃q∈a,x=q.name)->l.length<=a.length
 |[],l,_,h=>by
  cases l with
  |nil=>calc Zf _
  |cons x l=>
   have(q,b,_):=h x Zqs;cases b
 |p::a,l,nd,h=>by
  let c:=N6 a (l.erase p.name) (nd.erase _) λx d=>by
   grind
  grind
theorem N7(f:Addr->D)(x:Str):∀K:List (Str×Addr),jX (K.map λy=>.inr y.1) (K.map λy=>f y.2) (.inr x)=8/\x∉K.map (·.1)\/∃a,%[x|a]∈K/\jX (K.map λy=>.inr y.1) (K.map λy=>f y.2) (.inr x)=! f a
 |[]=>.inl (9,λz=>nomatch z)
 |y::K=>by
  rw[Zl,Zl,DV];by_cases c:y.1=x
  .grind
  .let e:¬(UC y.1:jT)=.inr x:=λz=>c (by injection z);rw[Ze e];rcases N7 f x K with ⟨b,d⟩|⟨a,b,d⟩
   .calc .inl (b,λz=>?_);rcases U4.mp z with z|z
    .exact c z.symm
    .exact d z
   grind
section
variable {m:Nat}{most:Int}{ps:List Pl}
theorem Kno.len  {K:List (Str×Addr)}(h:Kno ps most l n K)(B:BkP ps):K.length<=04:=by
 let:=N6 ps (K.map (·.1)) h.nd λx c=>by
  let(y,e,rfl):=Ja.mp c;let(_,j,q,T,f,i,_):=h.ok y e;exact(q,Uf f,i)
 rw[Zql]at this;let:=B.len;lia
def Kno.read  {K:List (Str×Addr)}(h:Kno ps most c e K):dr c 06 (.adr e)=.dct (K.map λy=>.inr y.1) (K.map λy=>dr c 04<|.adr y.2):=by
 rw[Xe 05 h.at_];show D.dct _ ((K.map λx=>D.adr x.2).map<|dr c 04)=_;rw[Zw];rfl
def zH(ps:List Pl)(j:5)(K b:List (Str×Addr)):4:=∀x∈b.map (·.1),x∈K.map (·.1)\/∃a q,a<j/\ps[a]?=!q/\x=q.name
abbrev TM(o:Option (List Fo))(c:Str)(fs:YC):4:=o=8/\c="TooMany"/\fs=[]
def tH(ps:List Pl)(most:3)(j:5)(p:Pl):4:=∀(n:5),j<n->∀(d:HP)(e:Addr)(K:List (Str×Addr)),Kno ps most d e K->
 (V4 n [J9 ps,.str p.name,.int most,.adr e] d).need (λz=>∃T a c f,Qs ps most (j+1) p=!T/\z.1=.adr a/\jc z.2 a=!(.lst<|c.map .adr)/\qR z.2 c T/\c.Nodup/\a∉c/\(∀b∈a::c,jc d b=8)/\Kno ps most z.2 e f/\zH ps j K f/\Kp e d z.2) (TM<|Qs ps most (j+1) p)
def pX   {o:Option Fo}(c:∀t a,o=!t->jc b a=8->P %[.adr a|%[a|jf t]::b])(d:o=8->Q "TooMany" []):((Wr.of<|qH o).bind<|zR b).need P Q:=by
 cases o with
 |none=>calc d 9
 |some t=>
  show(zR b<|jf t).need P Q;rw[FM];exact λa e=>c t a 9 e
def lB(s:1<=most)(o:most<=12)(u:(m:3)=most)  (h:∀g∈T,Kf n m g) (ne:a ≠[])(l:a.length<=100)(q:∀p∈a,0<=p.1/\p.1<(T.length:3)):zo [jp (ju T a),.int most]=qH (qG most T a):=by
 let b:=XJ h q;let d:(ju T a).length=a.length:=Zql _;unfold qG;cases z:ju T a with
 |nil=>calc Zn (Ji.mp z) ne
 |cons f r=>
  rw[z]at b d;let d:r.length+1=a.length:=d;let j:=b f Zqs;let v:=j.len;calc Nl (j.cn.ne,j.cn.rows) (λg c=>((b g<|Zqm _ c).cn.ne,(b g<|Zqm _ c).cn.rows)) () () () () λi t g _ lt c=>?_;let G:=b g<|Zqm _<|Uf c;let w:=G.len;let e:=Nm (f:=t) G.cn.ne;let lt:t.length<=12:=()
  let x:=U6 lt<|show g.length<=12 from();lia
def ap(e:1<=most)(c:most<=12)(i:(m:3)=most) {a:List Fo}(h:∀g∈a,Kf n m g)(ne:a ≠[])(l:a.length<=100):zp [jp a,.int most]=qH (v9 most a):=by
 cases a with
 |nil=>calc Zn 9 ne
 |cons f d=>
  let l:d.length+1<=100:=l;exact Nw ((h f Zqs).cn,by let:=(h f Zqs).len;lia) (λg b=>((h g<|Zqm _ b).cn,by let:=(h g<|Zqm _ b).len;lia)) () () ()
end
def FQ(k:(f a b).need P Q):((jW f a b).bind qc).need P Q:=by
 rw[M5];exact Wr.need_bind.mpr<|Wr.need_bind.mpr<|k.mono (λp h=>h) λ_ _ z=>z
def uU(h:c b a=.ok %[6|a])(k:(f b a).need P Q):((jr (Qg c (jW f) QH) rest b a).bind qc).need P Q:=by
 rw[Qb,KG,h];show(((jW f b a).bind<|zK rest).bind qc).need P Q;exact Wr.need_bind.mpr<|Wr.need_bind.mpr<|Wr.need_bind.mpr<|k.mono (λp h=>h) λ_ _ z=>z
def vz(h:c b a=.ok %[7|a])(k:((rest b a).bind qc).need P Q):((jr (Qg c d QH) rest b a).bind qc).need P Q:=()
def nH(h:c e d=.ok %[6|d])(k:(f e d).need (λo=>∃a b,o=.next a b/\((rest a b).bind qc).need P Q) Q):((jr (Qg c f QH) rest e d).bind qc).need P Q:=by
 rw[Qb,KG,h];calc Wr.need_bind.mpr<|Wr.need_bind.mpr<|k.mono (λo g=>?_) λ_ _ z=>z;let(a,b,rfl,k):=g;exact Wr.need_bind.mp k
def qR.last  {t:Fo} (h:qR i c (f++[t])):∃bs b,c=bs++[b]/\jc i b=! jf t:=by
 induction f generalizing c with
 |nil=>
  match c,h with
  |[b],h=>calc([],b,9,h.1)
  |[],h=>calc h.elim
  |_::_::_,h=>calc h.2.elim
 |cons u f j=>
  match c,h with
  |[],h=>calc h.elim
  |a::c,h=>
   let(bs,b,e,k):=j h.2;exact(a::bs,b,by rw[e];rfl,k)
def N8{α:Type}{l:List α}{x:α}(h:l.Nodup)(c:x∉l):(l++[x]).Nodup:=List.nodup_append.mpr (h,Jk.mpr (Va,UZ),λa d b e z=>c ())
section
variable {m:Nat}
def lY(B:BkP l)(Y:1<=f)(I:f<=12)(Z:(m:3)=f) {p:Pl}(hj:l[j]?=!p)(IH:∀v q,v<j->l[v]?=!q->tH l f v q){k:5}{r:Rw}(hr:p.rows[k]?=!r) (hT:∀g∈T,Kf p.givens.length m g)(lT:T.length=p.givens.length+k) (hn:j<=n)
 {K:List (Str×Addr)}(J:Kno l f u ak K)  (h1:jc u af=!(.lst<|fas.map .adr))(h2:qR u fas (ju T r.2.2))(h3:af≠ak)(h4:ak∉fas):
 (Xk n [J9 l,.str r.2.1,.adr af,.int f,.adr ak] u).need (λz=>∃t a K',qj f (QM l f j) T r=!t/\z.1=.adr a/\jc z.2 a=! jf t/\jc u a=8/\Kno l f z.2 ak K'/\zH l j K K'/\Kp ak u z.2) λc fs=>qj f (QM l f j) T r=8/\c="TooMany"/\fs=[]:=by
 let R:=(B.ok j p hj).row k r hr;let C:∀y∈r.2.2,0<=y.1/\y.1<(T.length:3):=λy hy=>by let:=R.rng y hy;lia
 let ik:=XJ hT C;let sh:=R.sh;let il:(ju T r.2.2).length=r.2.2.length:=Zql _;let ine:ju T r.2.2 ≠[]:=λz=>R.ne<|Ji.mp z;let rd:∀{i:HP},jc i af=!(.lst<|fas.map .adr)->qR i fas (ju T r.2.2)->dr i 06 (.adr af)=jp (ju T r.2.2):=λa b=>by rw[Xe 05 a];exact b.read 03
 let new:∀{i:HP}{K':List (Str×Addr)},Kno l f i ak K'->zH l j K K'->Kp ak u i->∀{o:Option Fo},qj f (QM l f j) T r=o->((Wr.of<|qH o).bind<|zR i).need (λz=>(∀a,jc u a≠8->jc z.2 a≠8)/\∃t a K',qj f (QM l f j) T r=!t/\z.1=.adr a/\jc z.2 a=! jf t/\jc u a=8/\Kno l f z.2 ak K'/\zH l j K K'/\Kp ak u z.2) λc fs=>qj f (QM l f j) T r=8/\c="TooMany"/\fs=[]:=λ{i K'}kn nw S{o}ho=>by
  calc pX (λt a e ha=>?_) λe=>(ho.trans e,9,9);let up:∀b d,jc i b=!d->jc (%[a|jf t]::i) b=!d:=λb d q=>by
   rw[JR];by_cases z:b=a
   .rw[z,ha]at q;cases q
   .rw[Ze z];exact q
  let kp2:=S.trans<|Kp.of (ak:=ak) up;let hn:jc u a=8:=by
   cases y:jc u a with
   |none=>rfl
   |some d=>exact Zn ha<|S.some<|by rw[y];simp
  exact(λb C=>kp2.some C,t,a,K',ho.trans e,9,by rw[JR,Zd 9],hn,kn.keep up,nw,kp2)
 let same:zH l j K K:=λx hx=>.inl hx;calc Xf 9 ?_;unfold Bi;show((jr _ _ [~~~J9 l,~~~.str r.2.1,~~~.adr af,~~~.int f,~~~.adr ak] u).bind qc).need _ _;let rdn:∀{i:HP}{Fn:YC->Res D}{o:Option Fo},dr i 06 (.adr af)=jp (ju T r.2.2)->Fn [jp (ju T r.2.2),.int f]=qH o->Kd 06 [2] (J8 Fn<|J1 (ja 2)<|J1 (ja 03) jd) [~~~J9 l,~~~.str r.2.1,~~~.adr af,~~~.int f,~~~.adr ak] i=(Wr.of<|qH o).bind (zR i):=λ{i Fn o}a b=>by
  simp_all[Kd,Xd]
 rcases B.how hj hr with z|z|⟨z0,z1,z2,v,q,z3,z4,z5,z6⟩
 .calc uU (by rw[z];simp[MU]) ?_;rw[rdn (rd h1 h2) (lB Y I Z hT R.ne () C)];exact new J same (.refl _ _)<|by unfold qj;rw[Zd z]
 .calc vz (by rw[z];simp[MV]) ?_;calc uU (by rw[z];simp[MW]) ?_;rw[rdn (rd h1 h2) (ap Y I Z ik ine ())];exact new J same (.refl _ _)<|by unfold qj;rw[Ze (by rw[z];decide+kernel),Zd z]
 .let e1:qk (.str r.2.1) (.str "all")=! .bl 7:=by rw[Wo z0 ZG];simp[z1]
  let e2:qk (.str r.2.1) (.str "first")=! .bl 7:=by rw[Wo z0 ZH];simp[z2]
  calc vz (by simp[e1]) ?_;calc vz (by simp[e2]) ?_;let rX:∀{V:List Fo},Qs l f (v+1) q=!V->qj f (QM l f j) T r=xS f (ju T r.2.2) (V.getLastD []):=λ{V}E=>by
   unfold qj;rw[Ze z1,Ze z2,z5,Xm B z4,Dc B v j q z4 z3,E];rfl
  let last:∀{i:HP}{K':List (Str×Addr)}{a:Addr}{V:List Fo},Kno l f i ak K'->zH l j K K'->Kp ak u i->Qs l f (v+1) q=!V->jX (K'.map λy=>.inr y.1) (K'.map λy=>dr i 04<|.adr y.2) (.inr r.2.1)=!(dr i 04<|.adr a)->jc i a=!(jf<|V.getLastD [])->
   ((jW (Kd 06 [2,04]<|J8 yC<|J1 (jm jJ (ja 04)<|ja 1)<|J1 (ja 2)<|J1 (ja 03) jd) [~~~J9 l,~~~.str r.2.1,~~~.adr af,~~~.int f,~~~.adr ak] i).bind qc).need (λz=>(∀a,jc u a≠8->jc z.2 a≠8)/\∃t a K',qj f (QM l f j) T r=!t/\z.1=.adr a/\jc z.2 a=! jf t/\jc u a=8/\Kno l f z.2 ak K'/\zH l j K K'/\Kp ak u z.2) λc fs=>qj f (QM l f j) T r=8/\c="TooMany"/\fs=[]:=λ{i K' a V}kn nw S E hv ha=>by
   calc FQ ?_;let af':jc i af=!(.lst<|fas.map .adr):=S.1 _ _ h3 h1;let fa':qR i fas (ju T r.2.2):=h2.keep λb C d e=>S.1 b d () e;let(v1,L):=XL B Z Y (v+1) v z4 E;let vn:V ≠[]:=λy=>by rw[y]at L;let:=(B.ok v q z4).r1;simp at L;lia
   let(ys,y,ev):=Xj vn;let ky:Kf q.givens.length m (V.getLastD []):=by rw[ev,VG];exact v1 y<|by rw[ev];exact Ue _ Zqs
   let fp:=ba Y I Z ik (mf:=m) () (form:=V.getLastD []) (by rw[il,z6];calc ky);let e4:dr i 04 (.adr a)=jf (V.getLastD []):=by rw[Xe 03 ha,N4]
   rw[e4]at hv;let e:Kd 06 [2,04] (J8 yC<|J1 (jm jJ (ja 04)<|ja 1)<|J1 (ja 2)<|J1 (ja 03) jd) [~~~J9 l,~~~.str r.2.1,~~~.adr af,~~~.int f,~~~.adr ak] i=(Wr.of<|qH<|xS f (ju T r.2.2)<|V.getLastD []).bind (zR i):=by
    unfold Kd;rw[Xd];show(Wr.of<|J8 yC _<|drI 06 i [04] [~~~J9 l,~~~.str r.2.1,~~~(dr i 06<|.adr af),~~~.int f,~~~.adr ak]).bind _=_;rw[rd af' fa',Xd];show(Wr.of<|J8 yC _ [~~~J9 l,~~~.str r.2.1,~~~(jp<|ju T r.2.2),~~~.int f,~~~(dr i 06<|.adr ak)]).bind _=_;rw[kn.read];let gx:jJ (.dct (K'.map λy=>.inr y.1)<|K'.map λy=>dr i 04<|.adr y.2) (.str r.2.1)=!(jf<|V.getLastD []):=hv;let fp:yC [jf (V.getLastD []),jp (ju T r.2.2),.int f]=qH (xS f (ju T r.2.2)<|V.getLastD []):=fp;rw[<-fp];generalize(K'.map λy=>dr i 04<|.adr y.2)=ds at gx ⊢;generalize jp (ju T r.2.2)=its at*;simp[gx]
   rw[e];exact new kn nw S<|rX E
  let F:∀b:Bool,(jX (K.map λy=>.inr y.1) (K.map λy=>dr u 04<|.adr y.2)<|.inr r.2.1).isSome=not b->xt 06 [04] (JC<|jm (vw 6) (ja 1)<|ja 04) [~~~J9 l,~~~.str r.2.1,~~~.adr af,~~~.int f,~~~.adr ak] u=.ok %[b|u]:=λb C=>by
   let gi:vw 6 (.str r.2.1) (.dct (K.map λy=>.inr y.1)<|K.map λy=>dr u 04<|.adr y.2)=! .bl b:=by
    show some (D.bl<|not<|(jX _ _<|.inr r.2.1).isSome)=_;rw[C,Bool.not_not]
   let rk:=J.read;rw[EN,Xd];show(Wr.of ((JC<|jm (vw 6) (ja 1)<|ja 04) [~~~J9 l,~~~.str r.2.1,~~~.adr af,~~~.int f,~~~(dr u 06<|.adr ak)]).strict).bind _=_;rw[rk];generalize(K.map λy=>dr u 04<|.adr y.2)=ds at gi ⊢;simp[gi]
  rcases N7 (λa=>dr u 04<|.adr a) r.2.1 K with ⟨v1,L⟩|⟨a,v1,L⟩
  .calc nH (F 6<|by rw[v1];rfl) ?_;let fk:=IH v q z3 z4 n () u ak K J;rw[<-z5]at fk;show(((mo (Qo (V4 n) _) _) _ u).bind _).need _ _;rw[ck,WI];calc Wr.need_bind.mpr<|Wr.need_bind.mpr<|Wr.need_bind.mpr ?_;show(V4 n [J9 l,.str r.2.1,.int f,.adr ak] u).need _ _;refine fk.mono (λz hz=>?_) λc fs hx=>(by
    unfold qj;rw[Ze z1,Ze z2,z5,Xm B z4,Dc B v j q z4 z3,hx.1];rfl,hx.2)
   let(d,s):=z;let(V,a,as,A,E,e,a1,a2,a3,a4,a5,U,a7,a8):=hz;let e:d=.adr a:=e;subst e;let(v3,v4):=XL B Z Y (v+1) v z4 E;let vn:V ≠[]:=λy=>by rw[y]at v4;let:=(B.ok v q z4).r1;simp at v4;lia
   let(ys y,ev):=Xj vn;let al:=a2.len;rw[ev]at a2;let(bs b,rfl,C):=a2.last;let hbn:=a5 b<|Zqm _<|Ue _ Zqs;let bk:b≠ak:=λy=>by rw[y,J.at_]at hbn;cases hbn
   let a1:jc s a=!(.lst<|(bs++[b]).map .adr):=a1;let hK1:jc s ak≠8:=by rw[U.at_];simp
   let nk:r.2.1∉A.map (·.1):=λy=>by
    rcases a7 _ y with y|⟨M,G,H,N,O⟩
    .exact L y
    .let:=B.inj v M q G z4 N<|z5.symm.trans O;lia
   let P:(UC r.2.1:jT)∉A.map λx=>(UC x.1:jT):=λy=>by
    let(w,hw,e):=Ja.mp y;exact nk<|Ja.mpr (w,hw,by injection e)
   let kl:=U.len B;let st:jc (Q6 s ak<|.dct ((A++[%[r.2.1|b]]).map λx=>.inr x.1)<|(A++[%[r.2.1|b]]).map λx=>.adr x.2) ak=!(.dct ((A++[%[r.2.1|b]]).map λx=>.inr x.1)<|(A++[%[r.2.1|b]]).map λx=>.adr x.2):=Cy hK1;let so:∀c,c≠ak->jc (Q6 s ak<|.dct ((A++[%[r.2.1|b]]).map λx=>.inr x.1)<|(A++[%[r.2.1|b]]).map λx=>.adr x.2) c=jc s c:=λc hc=>AT hK1 hc;generalize he:Q6 s ak (.dct ((A++[%[r.2.1|b]]).map λx=>.inr x.1)<|(A++[%[r.2.1|b]]).map λx=>.adr x.2)=Q at st so;show(wd (.adr a) %[.int (-1)|s]).need _ _;rw[pe a1];let g:jJ (.lst<|(bs++[b]).map .adr) (.int<|-1)=! .adr b:=by
    show xy _ (-1)=_;unfold xy wl;rw[Ze (),Zd (by rw[Zql,Ua,Ub];lia)];show((bs++[b]).map D.adr)[((-1:3)+(((bs++[b]).map D.adr).length:3)).toNat]?=_;rw[Zql,Ua,Ub,show((-1:3)+((bs.length+1:5):3)).toNat=bs.length from by lia,Zv,UK (Zf _),Vi];rfl
   rw[g];show(AW (vL<|ja 1) _ (.adr b) %[.adr ak|s]).need _ _;let step:∀X:SD,X[1]?=!~~~.str r.2.1->AW (vL<|ja 1) X (.adr b) %[.adr ak|s]=.ok (.next X Q):=λX hsd=>by
    let e1:vL (ja 1) X s=.ok %[.str r.2.1|s]:=by simp[hsd]
    unfold AW;simp only[U.at_,e1];show C4 X (.adr b) ak %[.str r.2.1|s]=_;unfold C4;simp only[U.at_];let pk:Wv (A.map λx=>(UC x.1:jT)) (.inr r.2.1)=(A++[%[r.2.1|b]]).map λx=>.inr x.1:=by unfold Wv;rw[FP P,Ud];rfl
    let pd:WA (A.map λx=>(UC x.1:jT)) (A.map λx=>D.adr x.2) (.inr r.2.1) (.adr b)=(A++[%[r.2.1|b]]).map λx=>.adr x.2:=by unfold WA;rw[FP P,Ud];rfl
    show(if(A.map λx=>(UC x.1:jT)).length<sizeLine then _ else _)=_;rw[Zd (by rw[Zql];calc UD kl<|by decide+kernel),pk,pd,he]
   rw[step _ 9];let k2:Kp ak s Q:=(λc d n h=>by rw[so c n];calc h,λ_=>by rw[st];simp);let yl:V.getLastD []=y:=by rw[ev,VG]
   refine jI _ Q (9,last (a:=b) (K':=A++[%[r.2.1|b]]) (st,?_,?_) ?_ (a8.trans k2) E ?_<|by rw[so b bk,yl];calc C)
   .rw[Ud];exact N8 U.nd nk
   .intro x hx;rcases Jb.mp hx with hx|hx
    .let(H,M,G,W,N,O,y4,y5):=U.ok x hx;exact(H,M,G,W,N,O,y4,by rw[so _ H];calc y5)
    .rw[Jc.mp hx];exact(bk,v,q,V,z4,z5,E,by rw[so b bk,yl];calc C)
   .intro x hx;rw[Ud]at hx;rcases Jb.mp hx with hx|hx
    .rcases a7 x hx with y|⟨M,G,H,N,O⟩
     .exact .inl y
     .exact .inr (M,G,(),N,O)
    .let hx:x=r.2.1:=Jc.mp hx;exact .inr (v,q,z3,z4,by rw[hx,z5])
   .rw[Ud,Ud];exact N5 (by rw[Zql,Zql]) P
  .let(an,M,G,V,H,N,O,y4):=J.ok _ v1;let e:q.name=G.name:=z5.symm.trans N;let e:=B.inj v M q G z4 H e;subst e;rw[z4]at H;cases H;exact vz (F 7<|by rw[L];rfl)<|last J same (.refl _ _) O L y4
end
section
variable {m:Nat}
structure Tld(ps:List Pl)(most:3)(j:5)(ak a:Addr)(hp0:HP)(K0:List (Str×Addr))(T:List Fo)(hp:HP)(as:Yj)(K:List (Str×Addr)):4 where
 at_:jc hp a=!(.lst<|as.map .adr)
 al:qR hp as T
 nd:as.Nodup
 out:a∉as
 fr:∀b∈a::as,jc hp0 b=8
 kn:Kno ps most hp ak K
 nw:zH ps j K0 K
 kp:Kp ak hp0 hp
def ca  :∀{t:Fo},D.lst ((a::b).map .adr)=jf t->False
 |[],h=>by cases h
 |_::_,h=>by cases h
def lV     (u:∀g∈T,Kf n m g)(E:m<=12)(v:jc f a=!(.lst<|w.map .adr))(z:qR f w T) (A:∀y∈c,0<=y.1/\y.1<(T.length:3)) :
 (yg (.tup [0,1]) (Kd 06 [2]<|K7 yD<|J1 (jm jJ (ja 2)<|ja 0)<|J1 (ja 1) jd) [8,8,~~~.adr a] (c.map qB) f).need (λq=>bT f (ju T c) q.1 q.2) Q:=by
 calc FN (by unfold ju;rw[Zql,Zql]) λi x t b B h j=>?_;let(y,l,rfl):=KH B;let e:t=QL (qN T y.1) y.2:=by
  unfold ju at h;rw[Zv,l]at h;exact(Zqi h).symm
 subst e;let(o,p):=A y (Uf l);let G:=u _<|ZJ o p;let d:=ZK o p;let s:yD [jf (qN T y.1),.int y.2]=.ok (jf<|QL (qN T y.1) y.2):=fV (by let:=G.len;lia) λr C=>by let:=(CZ<|G.cn.rows r C).len;lia
 show Kd 06 [2] _ [~~~.int y.1,~~~.int y.2,~~~.adr a] b=_;unfold Kd;rw[Xd];show(Wr.of<|K7 yD _ [~~~.int y.1,~~~.int y.2,~~~(dr b 06<|.adr a)]).bind _=_;rw[Xe 05 (j _ _ v),(z.mono j).read 03];let d:jJ (jp T) (.int y.1)=!(jf<|qN T y.1):=d;let e:K7 yD (J1 (jm jJ (ja 2)<|ja 0)<|J1 (ja 1) jd) [~~~.int y.1,~~~.int y.2,~~~jp T]=.ok (jf<|QL (qN T y.1) y.2):=by
  generalize jp T=q at d;generalize jf (qN T y.1)=q2 at d s;simp[d,s]
 rw[e];exact FM b _
theorem N9(B:BkP s)(X:1<=f)(O:f<=12)(Y:(m:3)=f) {p:Pl}(N:s[j]?=!p)(IH:∀j2 q,j2<j->s[j2]?=!q->tH s f j2 q) (hn:j<=n)   (I:Kno s f C u K0)  :∀(rest:List Rw)(k:5)(T:List Fo),p.rows.drop k=rest->(∀g∈T,Kf p.givens.length m g)->T.length=p.givens.length+k->∀(E:HP)(l:Yj)(K:List (Str×Addr))(Z x7 x8 P:Option SV),Tld s f j u a C K0 T E l K->
 (qA (QY (.tup [06,07,08])<|jr (qL 09<|Xg [8,8,!05] (iS<|ja 08) (.tup [0,1])<|Kd 06 [2]<|K7 yD<|J1 (jm jJ (ja 2)<|ja 0)<|J1 (ja 1) jd)<|qX (vL<|ja 05)<|Qo (Xk n)<|JB (vL<|ja 0)<|JB (vL<|ja 07)<|JB (vL<|ja 09)<|JB (vL<|ja 2)<|JB (vL<|ja 03) qi) (rest.map jv) [~~~J9 s,~~~nm,~~~.int f,~~~.adr u,~~~J5 p,~~~.adr a,Z,x7,x8,P] E).need
  (λo=>∃y6 y7 y8 y9 F U J K',o=.next [~~~J9 s,~~~nm,~~~.int f,~~~.adr u,~~~J5 p,~~~.adr a,y6,y7,y8,y9] F/\Kz f (QM s f j) rest T=!U/\Tld s f j u a C K0 U F J K') (TM<|Kz f (QM s f j) rest T)
 |[],k,T,_,_,_,E,l,K,Z,x7,x8,P,H=>zx Z x7 x8 P E T l (K,9,9,H)
 |r::rest,k,T,hd,hT,lT,E,l,K,Z,x7,x8,P,H=>by
  let hk:k<p.rows.length:=by
   let:=Zt List.length hd;rw[VL,Zu]at this;lia
  rw[Uj hk]at hd;let hr:p.rows[k]?=!r:=by rw[Zqg hk];exact Zt some (VF hd).1
  let hd':=(VF hd).2;let R:=(B.ok j p N).row k r hr;let hb:∀y∈r.2.2,0<=y.1/\y.1<(T.length:3):=λy hy=>by let:=R.rng y hy;lia
  let L:a≠u:=λz=>by let:=H.fr a Zqs;rw[z,I.at_]at this;cases this
  rw[Zl];unfold qA;calc Wr.need_bind.mpr ?_;show(jr (qL 09 _) _ [~~~J9 s,~~~nm,~~~.int f,~~~.adr u,~~~J5 p,~~~.adr a,~~~.str r.1,~~~.str r.2.1,~~~js r.2.2,P] E).need _ _;rw[Qb,Z3,M7];calc Wr.need_bind.mpr<|Wr.need_bind.mpr ?_;show(if _/\(r.2.2.map qB).length<sizeLine then(yg (.tup [0,1]) _ [8,8,~~~.adr a] (r.2.2.map qB) E).bind wh else .no).need _ _;rw[Zd (9,Ql<|by rw[Zql];let:=R.sh;lia)];calc Wr.need_bind.mpr<|(lV hT () H.at_ H.al hb).mono (λq hq=>?_) λ_ _ z=>z;let(ds,v):=q;let(-fas,e,f1,f2,f3,f4):=hq;let e:ds=fas.map .adr:=e;subst e;intro b G;let G:jc v b=8:=G;let up:∀c d,jc v c=!d->jc (%[b|.lst (fas.map .adr)]::v) c=!d:=λc d q=>by
   rw[JR];by_cases z:c=b
   .rw[z,G]at q;cases q
   .rw[Ze z];exact q
  let w:∀c d,jc E c=!d->jc (%[b|.lst (fas.map .adr)]::v) c=!d:=λc d q=>up c d<|f3 c d q;let bne:b≠u:=λz=>by let:=f3 _ _ H.kn.at_;rw[<-z,G]at this;cases this
  let fne:u∉fas:=λz=>by let:=f4 _ z;rw[H.kn.at_]at this;cases this
  let H2:=H.kn.keep w;let vG:=w _ _ H.at_;let mn:=lY B X O Y N IH hr hT lT hn H2 (af:=b) (fas:=fas) (by rw[JR,Zd 9]) (f1.mono up) bne fne;generalize hh:%[b|D.lst (fas.map .adr)]::v=hp2 at up w H2 vG mn;show(qX (vL<|ja 05) _ [~~~J9 s,~~~nm,~~~.int f,~~~.adr u,~~~J5 p,~~~.adr a,~~~.str r.1,~~~.str r.2.1,~~~js r.2.2,~~~.adr b]<|%[b|D.lst (fas.map .adr)]::v).need _ _;rw[hh,EO];show(Xc _ [~~~J9 s,~~~nm,~~~.int f,~~~.adr u,~~~J5 p,~~~.adr a,~~~.str r.1,~~~.str r.2.1,~~~js r.2.2,~~~.adr b] %[.adr a|hp2]).need _ _;rw[EQ vG];calc Wr.need_bind.mpr ?_;show(Xk n [J9 s,.str r.2.1,.adr b,.int f,.adr u] hp2).need _ _;calc mn.mono (λz hz=>?_) λc fs i=>(by rw[WM,i.1];rfl,i.2);let(d,A):=z;let(t c K',ht,e,c1,c2,c3,c4,c5):=hz;let e:d=.adr c:=e;subst e;let k3:=c5.1 a _ L vG;let len:l.length<=1000:=by let:=H.al.len;let:=(B.ok j p N).g2;let:=(B.ok j p N).r2;lia
  show(Xb _ a %[.adr c|A]).need _ _;rw[ER k3 (Ql<|by rw[Zql];calc len)];let cf:jc E c=8:=by
   cases y:jc E c with
   |none=>rfl
   |some d=>rw[w c d y]at c2;cases c2
  let cne:c≠a:=by grind
  let cas:c∉l:=λy=>by
   let(t',ht'):=H.al.at c y;rw[ht']at cf;cases cf
  let c0:jc C c=8:=by
   cases y:jc C c with
   |none=>rfl
   |some d=>exact Zn cf<|H.kp.some<|by rw[y];simp
  let es:l.map D.adr++[D.adr c]=(l++[c]).map .adr:=by rw[Ud];rfl
  rw[es];let Q:jc A a≠8:=by rw[k3];simp
  let s1:jc (Q6 A a<|.lst<|(l++[c]).map .adr) a=!(.lst<|(l++[c]).map .adr):=Cy Q;let M:∀x,x≠a->jc (Q6 A a<|.lst<|(l++[c]).map .adr) x=jc A x:=λx i=>AT Q i;generalize Q6 A a (.lst<|(l++[c]).map .adr)=hp4 at s1 M;let S:∀x∈l,x≠a/\x≠u:=λx i=>(λy=>H.out<|by rw[<-y];calc i,λy=>by let:=H.fr x<|Zqm _ i;rw[y,I.at_]at this;cases this);let H4:Tld s f j u a C K0 (T++[t]) hp4 (l++[c]) K':=by
   refine(s1,qR.snoc (by rw[M c cne];calc c1)<|H.al.keep λx i d h=>by rw[M x (S x i).1];calc c5.1 x d (S x i).2<|w x d h,N8 H.nd cas,λy=>?_,λx i=>?_,(by rw[M u (Ne.symm L)];calc c3.at_,c3.nd,λx i=>?_),?_,?_)
   .rcases Jb.mp y with y|y
    .exact H.out y
    .exact cne (Jc.mp y).symm
   .rcases U4.mp i with y|y
    .exact H.fr x<|by rw[y];exact Zqs
    .rcases Jb.mp y with y|y
     .exact H.fr x<|Zqm _ y
     .rw[Jc.mp y];exact c0
   .let(y1,j3,q3,W,y2,y3,y4,y5):=c3.ok x i;let xa:x.2≠a:=λy=>by
     rw[y,k3]at y5;let ge:=H.al.len;let:=(B.ok j p N).g1
     match l,ge,Zqi y5 with
     |[],ge,_=>rw[ZC]at ge;lia
     |b::l,_,e=>exact ca e
    exact(y1,j3,q3,W,y2,y3,y4,by rw[M _ xa];calc y5)
   .intro x i;rcases c4 x i with y|y
    .exact H.nw x y
    .exact .inr y
   .calc(λx d i h=>?_,λ_=>by rw[M u (Ne.symm L),c3.at_];simp);rw[M x λy=>by let:=H.fr a Zqs;rw[<-y,h]at this;cases this];exact c5.1 x d i<|w x d<|H.kp.1 x d i h
  refine(N9 B X O Y N IH hn I rest (k+1) (T++[t]) hd' (λg hg=>?_) (by rw[Ua,Ub];lia) hp4 (l++[c]) K' _ _ _ _ H4).mono (λo ho=>?_) λc fs z=>?_
  .rcases Jb.mp hg with z|z
   .exact hT g z
   .rw[Jc.mp z];exact FL Y X R (N2 B Y X j j) hT () ht
  .let(y6,y7,y8,y9,F,U,J,K'',e,hU,H'):=ho;exact zx y6 y7 y8 y9 F U J (K'',e,by rw[WM,ht];calc hU,H')
  .exact(by rw[WM,ht];calc z.1,z.2)
end
section
variable {m:Nat}
def X6{α:Type}{f:5->α} {x:α}(h:((List.range n).map f)[i]?=!x):x=f i:=by
 rw[Zv]at h;let(y,b,rfl):=Jj.mp h;let(c,a):=Jd.mp b;rw[List.getElem_range]at a;rw[a]
def cH(B:BkP r)(HR:∀p∈r,(reprText p.name).length<=400)(m1:1<=f)(J:f<=12)(hm:(m:3)=f):∀(j:5)(p:Pl),r[j]?=!p->tH r f j p:=by
 intro j
 induction j using Nat.strongRecOn with
 |ind j ih=>
  intro p G n hn s w K S;let(n,rfl):∃k,n=k+1:=(n-1,());let P:=B.ok j p G;let A:KI [J9 r,.str p.name]=.ok (J5 p):=by
   rw[Nq (B.at G).2.2.1 (λq L=>by let(i,M):=Jh.mp L;calc(B.at M).2.2.1) (HR p<|Uf G),B.find G]
  show(xk 10 04 (ZL<|Xk n) [J9 r,.str p.name,.int f,.adr w] s).need _ _;calc Xf 9 ?_;unfold ZL;rw[Qb];let e1:zL (jE 04<|J8 KI<|J1 (ja 0)<|J1 (ja 1) jd) (JT 10 [J9 r,.str p.name,.int f,.adr w]) s=.ok (.next [~~~J9 r,~~~.str p.name,~~~.int f,~~~.adr w,~~~J5 p,8,8,8,8,8] s):=by
   show zL (jE 04<|J8 KI<|J1 (ja 0)<|J1 (ja 1) jd) [~~~J9 r,~~~.str p.name,~~~.int f,~~~.adr w,8,8,8,8,8,8] s=_;generalize J5 p=pd at A;generalize J9 r=bd at A;simp[A]
  rw[e1];calc Wr.need_bind.mpr ?_;show(jr (qL 05<|Xg [8] (wF _) (.one 0) _) _ [~~~J9 r,~~~.str p.name,~~~.int f,~~~.adr w,~~~J5 p,8,8,8,8,8] s).need _ _;rw[Qb,Z3,M7];let e2:wF (J1 (jq jO<|J1 (qC (jK "Plan" "givens")<|ja 04) jd) jd) [~~~J9 r,~~~.str p.name,~~~.int f,~~~.adr w,~~~J5 p,8,8,8,8,8]=.ok (JY 0 p.givens.length):=by
   let ro:WE (p.givens.length:3)=6:=BX () (by let:=P.g2;lia);let hz:=Qt (show p.givens.length<=1000 by let:=P.g2;lia);let T:jK "Plan" "givens" (J5 p)=!(.lst<|p.givens.map .str):=9;let g2:jO [.lst (p.givens.map .str)]=! .int p.givens.length:=by show some (D.int ((p.givens.map D.str).length:3))=_;rw[Zql]
   let g3:WW [.int (p.givens.length:3)]=.ok (JY 0 p.givens.length):=Zd ro;generalize J5 p=pd at T ⊢;simp[T,g2,g3]
  rw[e2];calc Wr.need_bind.mpr<|Wr.need_bind.mpr ?_;show(if KN [8] (.one 0)=6/\(JY 0 p.givens.length).length<sizeLine then(yg (.one 0) (Kd 06 []<|K7 vi<|J1 (ja 0) jd) [8] (JY 0 p.givens.length) s).bind wh else .no).need _ _;let X:(JY 0 p.givens.length).length=p.givens.length:=by unfold JY;rw[Zql,ZB]
  rw[Zd (9,Ql<|by rw[X];let:=P.g2;lia)];let Y:(Qp p.givens.length).length=p.givens.length:=by unfold Qp;rw[Zql,ZB]
  refine Wr.need_bind.mpr<|(FN (ts:=Qp p.givens.length) (by rw[X,Y]) λi x t C N E O=>?_).mono (λq L=>?_) λ_ _ z=>z
  .let e3:=X6<|show((List.range p.givens.length).map λk:5=>D.int<|0+k)[i]?=!x from N;let e4:=X6<|show((List.range p.givens.length).map λk:5=>[[%[(k:3)|(0:3)]]])[i]?=!t from E;subst e3 e4;rw[Int.zero_add];let ft:=sB (i:3);let e5:K7 vi (J1 (ja 0) jd) [~~~.int i]=.ok (jf [[%[(i:3)|0]]]):=by simp[ft]
   show Kd 06 [] _ [~~~.int i] C=_;unfold Kd;rw[pp,e5];exact FM C _
  let(ds,l):=q;let(-u,e,Z,a2,a3,a4):=L;let e:ds=u.map .adr:=e;subst e;intro a F;let F:jc l a=8:=F;let O:∀c d,jc l c=!d->jc (%[a|.lst (u.map .adr)]::l) c=!d:=λc d q=>by
   rw[JR];by_cases z:c=a
   .rw[z,F]at q;cases q
   .rw[Ze z];exact q
  let I:∀c d,jc s c=!d->jc (%[a|.lst (u.map .adr)]::l) c=!d:=λc d q=>O c d<|a3 c d q;let a0:jc s a=8:=by
   cases y:jc s a with
   |none=>rfl
   |some d=>rw[a3 a d y]at F;cases F
  let oa:a∉u:=λy=>by
   let(t,E):=Z.at a y;let E:jc l a=! jf t:=E;rw[F]at E;cases E
  let fb:∀b∈a::u,jc s b=8:=λb Q=>by
   rcases U4.mp Q with y|y
   .rw[y];exact a0
   .exact a4 b y
  let H:Tld r f j w a s K (Qp p.givens.length) (%[a|.lst (u.map .adr)]::l) u K:=(by rw[JR,Zd 9],Z.mono O,a2,oa,fb,S.keep I,λx N=>.inl N,Kp.of I);let st:∀g∈Qp p.givens.length,Kf p.givens.length m g:=λg hg=>by
   let(i,M,rfl):=Ja.mp hg;exact FH () (by let:=P.g2;lia) i<|Je.mp M
  let rn:=N9 B m1 J hm G (λj2 q h=>ih j2 h q) (show j<=n from()) S (a:=a) (nm:=.str p.name) p.rows 0 (Qp p.givens.length) 9 st (by rw[Y];rfl) _ u K 8 8 8 8 H;show(jr (xG (iS<|qC (jK "Plan" "rows")<|ja 04) (.tup [06,07,08]) _) _ [~~~J9 r,~~~.str p.name,~~~.int f,~~~.adr w,~~~J5 p,~~~.adr a,8,8,8,8]<|%[a|.lst (u.map .adr)]::l).need _ _;rw[Qb];calc Wr.need_bind.mpr ?_;show(qA (QY (.tup [06,07,08]) _) (p.rows.map jv) _ _).need _ _;refine rn.mono (λo ho=>?_) λc fs z=>?_
  .let(y6,y7,y8,y9,C,U,R,K',rfl,hU,v):=ho;exact(λb Q=>v.kp.some Q,U,a,R,K',hU,9,v.at_,v.al,v.nd,v.out,v.fr,v.kn,v.nw,v.kp)
  .exact z
end
def FR(d:HP):∃a,jc d a=8:=by
 let:∀l:Yh,∃a,∀b∈l,b<a:=λl=>by
  induction l with
  |nil=>simp
  |cons c l e=>
   let(a,h):=e;refine(a+c+1,λb f=>?_)
   grind
 let(a,h):=this (d.map (·.1));exact(a,uI.mpr λz=>())
theorem FU  :∀{w:Wr α},(w.need p λ_ _=>False)->(w.need q λ_ _=>False)->∃a,p a/\q a
 |.ok a,b,h2=>(a,b,h2)
 |.ex _ _,b,_=>b.elim
 |.no,b,_=>b.elim
 |.new d k,b,h2=>by
  let(a,c):=FR d;exact FU (b a c)<|h2 a c
theorem NA  :∀{w:Wr α},w.need (λ_=>False) p->w.need (λ_=>False) q->∃c fs,p c fs/\q c fs
 |.ok a,b,h2=>b.elim
 |.ex c fs,b,h2=>(c,fs,b,h2)
 |.no,b,_=>b.elim
 |.new e k,b,h2=>by
  let(a,d):=FR e;exact NA (b a d)<|h2 a d
theorem NB   :∀{w:Wr α},(w.need p λ_ _=>False)->w.need (λ_=>False) q->False
 |.ok _,_,h2=>h2
 |.ex _ _,b,_=>b
 |.no,b,_=>b
 |.new d k,b,h2=>by
  let(a,c):=FR d;exact NB (b a c)<|h2 a c
def fO  (h:tG a d):Ke a=.ok d:=by
 unfold Ke;let e:∃d,tG a d:=(d,h);rw[dif_pos e];let(p,b,c):=FU (Vd e).2 h.2;rw[<-b,c]
def NC  (h:tF a c):Ke a=.ex c []:=by
 unfold Ke;let e:∃c,tF a c:=(c,h);rw[dif_neg (yf λd z=>NB z.2 h.2),dif_pos e];let(g,fs,b,f):=NA (Vd e).2 h.2;rw[<-b.1,f.1]
section
variable  {most:Int}{ps:List Pl}
def dP(ps:List Pl)(most:3)(j:5)(p:Pl)(e:HP)(z:D×HP):4:=∃T a c,Qs ps most (j+1) p=!T/\z.1=.adr a/\jc z.2 a=!(.lst<|c.map .adr)/\qR z.2 c T/\c.Nodup/\a∉c/\(∀b∈a::c,jc e b=8)/\∀b d,jc e b=!d->jc z.2 b=!d
def ND(B:BkP ps)(r:∀p∈ps,(reprText p.name).length<=400)(s:1<=most)(g:most<=12)  (n:ps[j]?=!p)(e:HP):
 ((WJ (JT 03 [J9 ps,.str p.name,.int most]) e).bind qc).need (dP ps most j p e) (TM<|Qs ps most (j+1) p):=by
 unfold WJ;calc FQ ?_;rw[WI];calc Wr.need_bind.mpr ?_;show(Wr.new e _).need _ _;intro f t;let o:∀c d,jc e c=!d->jc (%[f|.dct [] []]::e) c=!d:=λc d q=>by
  rw[JR];by_cases z:c=f
  .rw[z,t]at q;cases q
  .rw[Ze z];exact q
 let u:=cH (m:=most.toNat) B r s g () j p n 04 (B.at n).2.1 (%[f|.dct [] []]::e) f [] (by simp_all[JR],UZ,λ_ h=>nomatch h);calc u.mono (λz v=>?_) λ_ _ z=>z;let(T,a,w,I,x,A,C,E,F,G,H,J,L,i):=v;calc ji T a w (x,A,C,E,F,G,λb l=>?_,λb d l=>i.1 b d ()<|o b d l);cases y:jc e b with
 |none=>rfl
 |some d=>let:=H b l;rw[o b d y]at this;cases this
def FW(B:BkP ps)(e:∀p∈ps,(reprText p.name).length<=400)(f:1<=most)(c:most<=12)  (g:ps[j]?=!p):Ke [J9 ps,.str p.name,.int most]=match Qs ps most (j+1) p with
 |some T=>.ok (jp T)
 |none=>.ex "TooMany" []:=by
 let r:=ND B e f c g [];cases q:Qs ps most (j+1) p with
 |some T=>
  calc fO (9,r.mono (λz d=>?_) λ_ _ z=>by rw[q]at z;cases z.1);let(h a i,b,l,m,n,_):=d;rw[q]at b;cases b;rw[l,Xe 05 m];calc n.read 03
 |none=>
  calc NC (9,r.mono (λz d=>?_) λ_ _ z=>z.2);let(h a i,b,_):=d;rw[q]at b;cases b
def dX(B:BkP ps)(g:∀p∈ps,(reprText p.name).length<=400)(i:1<=most)(e:most<=12)  (l:ps[j]?=!p)(c:HP):(F8 [J9 ps,.str p.name,.int most] c).need (dP ps most j p c) (TM<|Qs ps most (j+1) p):=by
 calc Xf 9<|(ND B g i e l c).mono (λz f=>(λb m=>?_,f)) λ_ _ z=>z;let(n a o,_,_,_,_,_,_,_,h):=f;cases y:jc c b with
 |none=>calc Zn y m
 |some d=>rw[h b d y];simp
def NE (h:KI [J9 ps,.str x]=.ex "NoPlan" []):Ke [J9 ps,.str x,.int most]=.ex "NoPlan" []:=by
 calc NC (9,?_);unfold WJ;calc FQ ?_;calc Wr.need_bind.mpr ?_;intro a c;calc Xf 9 ?_;unfold ZL;rw[Qb];let b:zL (jE 04<|J8 KI<|J1 (ja 0)<|J1 (ja 1) jd) (JT 10 [J9 ps,.str x,.int most,.adr a]) [%[a|.dct [] []]]=.ex "NoPlan" []:=by
  show zL (jE 04<|J8 KI<|J1 (ja 0)<|J1 (ja 1) jd) [~~~J9 ps,~~~.str x,~~~.int most,~~~.adr a,8,8,8,8,8,8] _=_
  simp_all
 rw[b];exact(9,9)
def NF(B:BkP ps)(h:∀p∈ps,(reprText p.name).length<=400)(d:1<=most)(b:most<=12)  (c:ps[j]?=!p):V5 [J9 ps,.str p.name,.int most]=match Qs ps most (j+1) p with
 |some T=>.ok (jf<|T.getLastD [])
 |none=>.ex "TooMany" []:=by
 let f:=FW B h d b c;cases q:Qs ps most (j+1) p with
 |some T=>
  let(_,e):=XL (m:=most.toNat) B () d (j+1) j c q;let i:T ≠[]:=λy=>by rw[y]at e;let:=(B.ok j p c).r1;simp at e;lia
  let(a,y,rfl):=Xj i;let g:jJ (jp<|a++[y]) (.int<|-1)=! jf y:=by
   show xy ((a++[y]).map jf) (-1)=_;unfold xy wl;rw[Ze (),Zd (by rw[Zql,Ua,Ub];lia)];show((a++[y]).map jf)[((-1:3)+(((a++[y]).map jf).length:3)).toNat]?=_;rw[Zql,Ua,Ub,show((-1:3)+((a.length+1:5):3)).toNat=a.length from by lia,Zv,UK (Zf _),Vi];rfl
  simp_all[V5,ZM]
 |none=>
  simp_all[V5,ZM]
def lL (h:KI [J9 ps,.str x]=.ex "NoPlan" []):V5 [J9 ps,.str x,.int most]=.ex "NoPlan" []:=by
 let f:=NE (most:=most) h
 simp_all[V5,ZM]
def FY(B:BkP ps)(e:∀p∈ps,(reprText p.name).length<=400)(f:1<=most)(d:most<=12)  (g:ps[j]?=!p)(w:3):Kx [J9 ps,.str p.name,.int most,.int w]=.ok (.int<|if Qs ps most (j+1) p=8 then 1 else 0):=by
 let a:=FW B e f d g;let b:=NF B e f d g;let h:qk (.int w) (.int 0)=!(.bl<|decide<|w=0):=by simp
 generalize J9 ps=bd at a b;cases q:Qs ps most (j+1) p with
 |some T=>
  rw[q]at a b;let a:Ke [bd,.str p.name,.int most]=.ok (jp T):=a;let b:V5 [bd,.str p.name,.int most]=.ok (jf<|T.getLastD []):=b;rw[Ze ()];generalize jp T=i at a;generalize jf (T.getLastD [])=d2 at b;by_cases c:w=0
  .simp[Kx,WK,a,b,c]
  .simp[Kx,WK,a,b,c]
 |none=>
  rw[q]at a b;let a:Ke [bd,.str p.name,.int most]=.ex "TooMany" []:=a;let b:V5 [bd,.str p.name,.int most]=.ex "TooMany" []:=b;rw[Zd 9];by_cases c:w=0
  .simp[Kx,WK,a,b,c]
  .simp[Kx,WK,a,b,c]
def aG (h:KI [J9 ps,.str x]=.ex "NoPlan" [])(w:3):Kx [J9 ps,.str x,.int most,.int w]=.ok (.int 2):=by
 let a:=NE (most:=most) h;let b:=lL (most:=most) h;let ne:¬("NoPlan":Str)="TooMany":=by decide+kernel
 by_cases c:w=0
 .simp[Kx,WK,a,b,ET ne]
 .simp[Kx,WK,a,b,ET ne]
end
def hJ (d:jA o)(f:o.length<=100):Xl [js r,js o]=.ok (.bl<|JD r o):=by
 let g:WD [.tup (o.map qB)]=! yk o:=Eh f d;simp[Xl,CP,g,js];refine AA (R:=λz=>(z.bind<|yb<|jP<|dC<|.bl 6).bind yJ=.ok (.bl<|JD r o)) (P:=λi e=>(∃u v,e=[~~~(.tup<|r.map qB),~~~(.tup<|o.map qB),~~~yk o,u,v])/\JD (r.take i) o=6) (jI 8 8 9,9) ?_ ?_
 .simp
 .rintro i x e h ⟨⟨u,v,rfl⟩,hu⟩;let(p,b,rfl):=KH h;let a:=BZ d p.1;cases q:JE o p.1 with
  |none=>
   rw[q]at a;let z:xA o p=7:=by unfold xA;rw[q]
   rw[B0 b z];calc .inr<|.inr (.bl 7,by simp[qB,yk,a],())
  |some w=>
   rw[q]at a;by_cases c:w<p.2
   .let z:xA o p=7:=by unfold xA;rw[q];exact()
    rw[B0 b z];exact .inr<|.inr (.bl 7,by simp[qB,yk,a,c],())
   .let z:xA o p=6:=by unfold xA;exact()
    exact .inl ([~~~(.tup<|r.map qB),~~~(.tup<|o.map qB),~~~yk o,~~~.int p.1,~~~.int p.2],.inl<|by simp[yk,a,c],jI _ _ 9,GT b hu z)
def NG (ok:∀r∈d,JRow r)(hl:d.length<1000):V6 [jf d]=.ok (jf<|JU d):=by
 simp[V6,CQ];generalize O:yc (Q8 _) _ Qz=b;let(Q,e,c,F,G,sub,len,anti,B,all):=WX (tg:=.one 2) (b:=b) (ds:=d.map js) (sd:=[~~~jf d,!(.own 7<|.lst []),8])
  (P:=λi sd=>∃(c:J0)(F:Option SV),sd=[~~~jf d,!(.own 7<|jf c),F]/\(∀r∈c,r∈d)/\c.length<=i/\(∀r∈c,∀s∈c,JD r s=6->r=s)/\c.Nodup/\∀r∈d.take i,∃o∈c,JD o r=6) ([],8,9,λ_ h=>(nomatch h),Zf _,λ_ h=>(nomatch h),UZ,λ_ h=>nomatch h) (by
   rintro i x sd R ⟨c,F,rfl,sub,len,anti,B,all⟩;let(row,m,rfl):=KH R;let hi:=(Jd.mp m).1;let H:=Uf m;let J:=ok row H;let I:∀o q,JRow q->Xl [js o,js q]=.ok (.bl<|JD o q):=λo q C=>hJ C.once (by let:=C.len;lia);let L:qz (.one 0) (J8 Xl<|J1 (ja 0)<|J1 (ja 1) jd) [8,~~~js row] (c.map js)=.ok (c.map λo=>.bl<|JD o row):=K4 λo _=>by simp[I o row J]
   let S:c.map (λo=>D.bl<|JD o row)=(c.map λo=>JD o row).map .bl:=by rw[Zw];rfl
   let n:=Sy<|c.map λo=>JD o row;rw[<-S]at n;let T:Ux (.one 0) (Q8<|JC<|J8 Xl<|J1 (ja 1)<|J1 (ja 0) jd) (ja 0) [8,~~~js row] (c.map js)=.ok ((c.filter λo=>not<|JD row o).map js):=
    AB (s:=λo=>[~~~js o,~~~js row]) (λo _=>9) (λo g=>by simp[I row o (ok o<|sub o g)])<|λo _ _=>()
   let M:=Ql<|show c.length<=1000 from();let fl:(c.filter λo=>not<|JD row o).length<=c.length:=Vr _ _;let U:jf ((c.filter λo=>not<|JD row o)++[row])=.lst ((c.filter λo=>not<|JD row o).map js++[js row]):=by
    unfold jf;rw[Ud];rfl
   let X:=Ql (show(c.filter λo=>not<|JD row o).length<=1000 by lia);subst O;cases q:(c.map λo=>JD o row).any id with
   |true=>
    rw[q]at n;let(y,Y,C):=Vn.mp q;let(o,g,rfl):=Ja.mp Y;calc([~~~jf d,!(.own 7<|jf c),~~~js row],by simp[L,M,n],c,_,9,sub,(),anti,B,λr j=>?_);rw[KY m]at j;rcases Jb.mp j with z|z
    .exact all r z
    .rw[Jc.mp z];calc(o,g,C)
   |false=>
    rw[q]at n;let no:∀o∈c,JD o row=7:=λo g=>by
     cases z:JD o row with
     |false=>rfl
     |true=>
      let:(c.map λo=>JD o row).any id=6:=Vn.mpr (_,Ja.mpr (o,g,9),z);rw[q]at this;cases this
    let t:∀o,o∈c.filter (λo=>not<|JD row o)↔o∈c/\JD row o=7:=λo=>by
     rw[List.mem_filter];constructor
     .rintro⟨u,v⟩;exact(u,by simpa using v)
     .rintro⟨u,v⟩;rw[v];exact(u,9)
    refine([~~~jf d,!(.own 7<|jf<|(c.filter λo=>not<|JD row o)++[row]),~~~js row],by simp[L,T,M,n,U,X],_,_,9,λr m=>?_,?_,λr m s A f=>?_,?_,λr j=>?_)
    .rcases Jb.mp m with y|y
     .exact sub r (Jg.mp y).1
     .rw[Jc.mp y];exact H
    .rw[Ua,Ub];lia
    .rcases Jb.mp m with y|y
     .let(N,y2):=(t r).mp y;rcases Jb.mp A with z|z
      .exact anti r N s ((t s).mp z).1 f
      .rw[Jc.mp z,no r N]at f;cases f
     .rw[Jc.mp y]at f ⊢;rcases Jb.mp A with z|z
      .rw[((t s).mp z).2]at f;cases f
      .exact(Jc.mp z).symm
    .calc List.nodup_append.mpr (B.filter _,VX _ _,λa Z b hb=>?_);rw[Jc.mp hb];rintro rfl;let:=no a ((t a).mp Z).1;rw[Bh J.once]at this;cases this
    .rw[KY m]at j;let wM:JD row row=6:=Bh J.once;rcases Jb.mp j with z|z
     .let(o,g,f):=all r z;cases w:JD row o with
      |false=>calc(o,Vw _<|(t o).mpr (g,w),f)
      |true=>exact(row,Ue _<|Jc.mpr 9,KB w f)
     .rw[Jc.mp z];calc(row,Ue _<|Jc.mpr 9,wM))
 rw[e];subst G;rw[Zql]at len all;rw[Vs]at all;let A:WY [jf c]=!(.lst<|(Qe jH c).map js):=MB (λr m=>(ok r<|sub r m).ne) ();let eq:Qe jH c=JU d:=Xz yr (ZE yr B) (W0 d) λr=>by
  rw[(Q3 (ltb:=jH) _).mem_iff,xF,vq];constructor
  .calc λh=>(sub r h,λo g f=>?_);let(p,E,l):=all o g;let:=anti p E r h<|KB l f;rw[this]at l;exact EY (ok o g).once (ok r<|sub r h).once (ok o g).rise (ok r<|sub r h).rise f l
  .rintro⟨u,v⟩;let(p,E,l):=all r u;rw[<-v p (sub p E) l];exact E
 rw[eq]at A;simp[A];rfl
def fZ (a:r ≠[])(or:jA r)(b:jA o)(c:r.length<=20)(lo:o.length<=20):XI [js r,js o]=.ok (js<|Qv r o):=hZ a or b c lo
def NH  (b:f.length<=1000)(c:∀r∈f,r.length<=1000):KU [jf f,.int w]=.ok (jf<|QL f w):=by
 let d:∀r:Jz,qz (.tup [0,1]) (qJ<|J1 (ja 0)<|J1 (jm jG (ja 1)<|ja 2) jd) [8,8,~~~.int w] (r.map qB)=.ok (r.map λp=>qB %[p.1|p.2+w]):=λr=>K4 λp g=>by simp[qB]
 let a:qz (.one 0) (jq WC<|J1 (Qf [8,8,!1] (iS<|ja 0) (.tup [0,1])<|qJ<|J1 (ja 0)<|J1 (jm jG (ja 1)<|ja 2) jd) jd) [8,~~~.int w] (f.map js)=.ok (f.map λr=>js<|Qw r w):=K4 λr h=>by
  let e:(Qw r w).map qB=r.map λp=>qB %[p.1|p.2+w]:=by unfold Qw;rw[Zw];rfl
  simp[js,d r,Ql<|c r h,e]
 let e:(QL f w).map js=f.map λr=>js<|Qw r w:=by unfold QL;rw[Zw];rfl
 simp[KU,CU,jf,a,Ql b,e]
def Mt(c:Addr)(d:HP)(M:Yf)(a:HP)(e:Yf):4:=jc a c=!(.lst<|(M++e).map .int)/\∀b,b≠c->jc a b=jc d b
theorem Mt.refl{e:Addr}{c:HP}{M:Yf}(h:jc c e=!(.lst<|M.map .int)):Mt e c M c []:=(by rwa[ZA],λ_ _=>9)
theorem Mt.trans  {M M1 M2:Yf}(i:Mt e a M b M1)(f:Mt e b (M++M1) c M2):Mt e a M c (M1++M2):=(by rw[<-Ug];calc f.1,λx n=>(f.2 x n).trans<|i.2 x n)
def Mt.some   (h:Mt am hp M hp' c)(b:Addr)(q:jc hp b≠8):jc hp' b≠8:=by
 by_cases z:b=am
 .rw[z,h.1];simp
 .rw[h.2 b z];exact q
def Rz(a:3)(o:Option Fo)(t:Fo)(M:Yf):4:=(o=!t/\∀x∈M,x<=a)\/o=8/\∃x∈M,a<x
def Dd  {t:Fo}  (f:sd[2]?=!~~~.adr am)(l:sd[03]?=!~~~jf t)(d:jc a am=!(.lst<|M.map .int))(g:M.length<=1000000):
 ∃c,qX (vL<|ja 2) (vL<|jq jO<|J1 (ja 03) jd) sd a=.ok (.next sd c)/\Mt am a M c [(t.length:3)]:=by
 let e:jc a am≠8:=by rw[d];simp
 let h:vL (ja 2) sd a=.ok %[.adr am|a]:=by simp[f]
 let i:vL (jq jO<|J1 (ja 03) jd) sd a=.ok %[.int (t.length:3)|a]:=by
  simp_all
 calc(Q6 a am<|.lst<|(M++[(t.length:3)]).map .int,?_,Cy e,λb j=>AT e j);rw[EO,h];show Xc _ sd %[.adr am|a]=_;rw[EQ d,i];show Xb sd am %[.int (t.length:3)|a]=_;rw[ER d (by rw[Zql];calc UD g<|by decide+kernel),Ud];rfl
def gP:qQ:=jr (zL<|jE 05<|xb jd)<|jr (zL<|qT (iS<|ja 03) (.one 06)<|jE 05<|jm jG (ja 05)<|Qf [8,!06] (iS<|ja 04) (.one 0)<|J8 XI<|J1 (ja 1)<|J1 (ja 0) jd)<|jr (zL<|jE 03<|J8 V6<|J1 (ja 05) jd)<|jr (qX (vL<|ja 2)<|vL<|jq jO<|J1 (ja 03) jd)<|Qg (zt<|JC<|jm wa (jq jO<|J1 (ja 03) jd)<|ja 1) (jW<|vL<|ja 03) QH
def p6{t g:Fo}(w:∀r∈t,JRow r)(m:∀r∈g,JRow r)(l:t.length*g.length<1000)(lt:t.length<=12)(A:g.length<=12)  (B:jc f am=!(.lst<|M.map .int))(C:M.length<=1000000)(E y h:Option SV):
 ∃d F G,Mt am f M d [((Qd t g).length:3)]/\QY (.one 04) gP (jf g) [~~~rd,~~~.int most,~~~.adr am,~~~jf t,E,y,h] f=if most<((Qd t g).length:3)then .ok (.ret (jf<|Qd t g) d)else .ok (.next [~~~rd,~~~.int most,~~~.adr am,~~~(jf<|Qd t g),~~~jf g,F,G] d):=by
 let(H,e,u,n):=WX (tg:=.one 06) (b:=jE 05<|jm jG (ja 05)<|Qf [8,!06] (iS<|ja 04) (.one 0)<|J8 XI<|J1 (ja 1)<|J1 (ja 0) jd) (ds:=t.map js) (sd:=[~~~rd,~~~.int most,~~~.adr am,~~~jf t,~~~jf g,~~~.lst [],h])
  (P:=λi sd=>∃u,sd=[~~~rd,~~~.int most,~~~.adr am,~~~jf t,~~~jf g,~~~(jf<|Qr (t.take i) g),u]) (h,9) (by
   rintro i x sd I ⟨u,rfl⟩;let(row,j,rfl):=KH I;let Z:=(Jd.mp j).1;let J:=w row<|Uf j;let J2:=J.len;let L:qz (.one 0) (J8 XI<|J1 (ja 1)<|J1 (ja 0) jd) [8,~~~js row] (g.map js)=.ok (g.map λo=>js<|Qv row o):=K4 λo z=>by
    let:=(m o z).len;simp[fZ J.ne J.once (m o z).once () ()]
   let N:=Ql<|show g.length<=1000 from();let le:=Fv (t.take i) g;let p:(t.take i).length<=12:=by rw[Uq];lia
   let mm:=U6 p A;let O:Qr (t.take<|i+1) g=Qr (t.take i) g++g.map (Qv row):=by
    rw[KY j];unfold Qr;rw[List.flatMap_append];simp
   let q:jG (jf<|Qr (t.take i) g) (.lst<|g.map λo=>js<|Qv row o)=!(jf<|Qr (t.take<|i+1) g):=by
    show(if((Qr (t.take i) g).map js).length+(g.map λo=>js<|Qv row o).length<=sizeLine then _ else _)=_;rw[Zql,Zql,Zd (Qt ()),O];unfold jf;rw[Ud,Zw];rfl
   generalize jf (Qr (t.take i) g)=Q at q;generalize jf (Qr (t.take<|i+1) g)=d2 at q;calc([~~~rd,~~~.int most,~~~.adr am,~~~jf t,~~~jf g,~~~d2,~~~js row],by simp[jf,L,N,q],_,9))
 subst n;rw[Zql,Vs]at e;let s:V6 [jf (Qr t g)]=.ok (jf<|Qd t g):=NG (λr j=>by
  let(a,R,b,S,rfl):=vr.mp j;calc XG (w a R)<|m b S)<|by rw[Fv];exact l
 let(-d,T,U):=Dd (sd:=[~~~rd,~~~.int most,~~~.adr am,~~~(jf<|Qd t g),~~~jf g,~~~(jf<|Qr t g),u]) (am:=am) (t:=Qd t g) 9 9 B C;calc ji d (~~~(jf<|Qr t g)) u (U,?_);let v:jO [jf (Qd t g)]=! .int ((Qd t g).length:3):=by show some (D.int (((Qd t g).map js).length:3))=_;rw[Zql]
 show gP [~~~rd,~~~.int most,~~~.adr am,~~~jf t,~~~jf g,y,h] f=_;unfold gP;rw[Qb];show jr _ _ [~~~rd,~~~.int most,~~~.adr am,~~~jf t,~~~jf g,~~~.lst [],h] f=_;rw[Qb];let X:zL (qT (iS<|ja 03) (.one 06)<|jE 05<|jm jG (ja 05)<|Qf [8,!06] (iS<|ja 04) (.one 0)<|J8 XI<|J1 (ja 1)<|J1 (ja 0) jd) [~~~rd,~~~.int most,~~~.adr am,~~~jf t,~~~jf g,~~~.lst [],h] f=.ok (.next [~~~rd,~~~.int most,~~~.adr am,~~~jf t,~~~jf g,~~~(jf<|Qr t g),u] f):=by
  show(Wr.of<|xI (.one 06) _ (t.map js) _).bind _=_;rw[e];rfl
 rw[X];show jr _ _ [~~~rd,~~~.int most,~~~.adr am,~~~jf t,~~~jf g,~~~(jf<|Qr t g),u] f=_;rw[Qb];let Y:zL (jE 03<|J8 V6<|J1 (ja 05) jd) [~~~rd,~~~.int most,~~~.adr am,~~~jf t,~~~jf g,~~~(jf<|Qr t g),u] f=.ok (.next [~~~rd,~~~.int most,~~~.adr am,~~~(jf<|Qd t g),~~~jf g,~~~(jf<|Qr t g),u] f):=by
  generalize jf (Qr t g)=Q at s;generalize jf (Qd t g)=d2 at s;simp[s]
 rw[Y];show jr _ _ [~~~rd,~~~.int most,~~~.adr am,~~~(jf<|Qd t g),~~~jf g,~~~(jf<|Qr t g),u] f=_;rw[Qb,T];generalize jf (Qd t g)=d2 at v;by_cases c:most<((Qd t g).length:3)
 .rw[Zd c];simp[v,c]
 .rw[Ze c];simp[v,c]
theorem NI(B:most<=06):∀(b:List Fo)(t:Fo),(∀r∈t,JRow r)->(t.length:3)<=most->(∀g∈b,(∀r∈g,JRow r)/\g.length<=06)->∀(f:HP)(M:Yf),jc f am=!(.lst<|M.map .int)->M.length+b.length<=1000000->∀i j l:Option SV,
 (qA (QY (.one 04) gP) (b.map jf) [~~~rd,~~~.int most,~~~.adr am,~~~jf t,i,j,l] f).need (λo=>∃m a p,Mt am f M a p/\p.length<=b.length/\Rz most (xz most t b) m p/\(o=.ret (jf m) a\/∃C q s,o=.next [~~~rd,~~~.int most,~~~.adr am,~~~jf m,C,q,s] a)) λ_ _=>False
 |[],t,_,_,_,f,M,hM,_,i,j,l=>ji t f [] (.refl hM,Zf _,.inl (9,λ_ h=>nomatch h),.inr<|ji i j l 9)
 |g::b,t,ht,lt,hgs,f,M,hM,lM,i,j,l=>by
  let(A,E):=hgs g Zqs;rw[Zu]at lM;let N:=U6 (show t.length<=06 from()) E;let(d q s,u,e):=p6 (most:=most) (am:=am) (rd:=rd) ht A () () () hM () i j l;rw[Zl];unfold qA;rw[e];by_cases c:most<((Qd t g).length:3)
  .rw[Zd c];exact ji (Qd t g) d _ (u,by rw[Ub,Zu];lia,.inr (by
    show(jU most<|Qd t g).bind _=8;unfold jU;rw[Ze ()];rfl,_,Jc.mpr 9,c),.inl 9)
  .rw[Ze c];show(qA _ (b.map jf) _ d).need _ _;calc(NI B b (Qd t g) (λr F=>Nu [g] t ht (λx n=>by rw[Jc.mp n];calc A) r F) () (λx n=>hgs x<|Zqm _ n) d _ u.1 (by rw[Ua,Ub];lia) (~~~jf g) q s).mono (λo G=>?_) λ_ _ z=>z;let(m a p,H,O,I,J):=G;let eq:xz most t (g::b)=xz most (Qd t g) b:=by
    show(jU most<|Qd t g).bind _=_;unfold jU;rw[Zd ()];rfl
   calc ji m a _ (u.trans H,by rw[Ua,Ub,Zu];lia,?_,J);rw[eq];rcases I with ⟨v,w⟩|⟨v,x,w,L⟩
   .calc .inl (v,λx n=>?_);rcases Jb.mp n with y|y
    .rw[Jc.mp y];lia
    .exact w x y
   .exact .inr (v,x,Ue _ w,L)
def Rz.cons    (h:x<=c)(r:Rz c o t M):Rz c o t (x::M):=by
 rcases r with ⟨e,f⟩|⟨e,y,f,i⟩
 .calc .inl (e,λy j=>?_);rcases U4.mp j with z|z
  .rwa[z]
  .exact f y z
 .exact .inr (e,y,Zqm _ f,i)
def NJ(F:1<=most)(r:most<=06) {a:List Fo}(h:∀g∈f::a,Cn g/\(g.length:3)<=most)(G:a.length<=100)  (s:jc c am=!(.lst<|M.map .int))(H:M.length<=900000):
 (W2 [jp (f::a),.int most,.adr am] c).need (λz=>∃t e,z.1=jf t/\Mt am c M z.2 e/\e.length<=a.length+1/\Rz most (xE most f a) t e) λ_ _=>False:=by
 let(j,i):=h f Zqs;calc Xf 9 ?_;unfold CS;show((jr (zL _) _ [~~~(jp<|f::a),~~~.int most,~~~.adr am,8,8,8,8] c).bind qc).need _ _;let(-b,u,l):=Dd (sd:=[~~~(jp<|f::a),~~~.int most,~~~.adr am,~~~jf f,8,8,8]) (am:=am) (t:=f) 9 9 s ();let m:jJ (jp<|f::a) (.int 0)=! jf f:=ZK (fs:=f::a) (t:=0) () (by rw[Zu];lia);let n:uP (jp<|f::a) (!1) 8 8=!(.lst<|a.map jf):=by
  show some (D.lst<|QC ((f::a).map jf) (!1) 8 8)=_;rw[C5 _ ()];rfl
 let v:=NI (most:=most) (am:=am) (rd:=jp<|f::a) r a f j.rows i (λg p=>((h g<|Zqm _ p).1.rows,by let:=(h g<|Zqm _ p).2;lia)) b _ l.1 (by rw[Ua,Ub];lia) 8 8 8;rw[Qb];let w:zL (jE 03<|jm jJ (ja 0)<|dC<|.int 0) [~~~(jp<|f::a),~~~.int most,~~~.adr am,8,8,8,8] c=.ok (.next [~~~(jp<|f::a),~~~.int most,~~~.adr am,~~~jf f,8,8,8] c):=by
  generalize jp (f::a)=rd at m;simp[m]
 rw[w];show((jr (qX _ _) _ [~~~(jp<|f::a),~~~.int most,~~~.adr am,~~~jf f,8,8,8] c).bind qc).need _ _;rw[Qb,u];show((jr (xG _ (.one 04) _) _ [~~~(jp<|f::a),~~~.int most,~~~.adr am,~~~jf f,8,8,8] b).bind qc).need _ _;rw[Qb];let x:iS (vF (ja 0) (Wx<|dC<|.int 1) K5 K5) [~~~(jp<|f::a),~~~.int most,~~~.adr am,~~~jf f,8,8,8]=.ok (a.map jf):=by
  generalize jp (f::a)=rd at n;simp[n]
 unfold xG;simp only[x];calc Wr.need_bind.mpr<|Wr.need_bind.mpr ?_;show(qA (QY (.one 04) gP) (a.map jf) _ b).need _ _;calc v.mono (λo y=>?_) λ_ _ z=>z;let(t,A,M2,B,I,C,E):=y;let d:=l.trans B;let q:Rz most (xE most f a) t ((f.length:3)::M2):=by
  let:xE most f a=xz most f a:=by
   unfold xE jU;rw[j.thin,Zd i];rfl
  rw[this];exact C.cons i
 rcases E with rfl|⟨y4,y5,y6,rfl⟩
 .exact(d.some,t,_,9,d,by rw[Ua,Ub];lia,q)
 .exact(d.some,t,_,9,d,by rw[Ua,Ub];lia,q)
theorem NK:∀(a:List Fo)(t:Fo),(∀r∈t,JRow r)->(∀g∈a,(∀r∈g,JRow r)/\g.length<=06)->t.length+06*a.length<1000->∀(d:HP)(M:Yf),jc d am=!(.lst<|M.map .int)->M.length+a.length<=1000000->∀(b:D)(i:Option SV),
 (qA (QY (.one 04)<|jr (zL<|jE 03<|J8 V6<|J1 (jm jG (ja 03)<|ja 04) jd)<|qX (vL<|ja 2)<|vL<|jq jO<|J1 (ja 03) jd) (a.map jf) [~~~b,~~~.int most,~~~.adr am,~~~jf t,i] d).need (λo=>∃j f m p,Mt am d M f m/\m.length<=a.length/\Rz most (zg most t a) j ((t.length:3)::m)/\o=.next [~~~b,~~~.int most,~~~.adr am,~~~jf j,p] f) λ_ _=>False
 |[],t,_,_,_,d,M,hM,_,b,i=>qb t d [] i (.refl hM,Zf _,by
  by_cases c:(t.length:3)<=most
  .exact .inl (Zd c,λx q=>by rw[Jc.mp q];calc c)
  .calc .inr (Ze c,_,Zqs,()),9)
 |g::a,t,ht,hgs,l,d,M,hM,lM,b,i=>by
  let(y,H):=hgs g Zqs;rw[Zu]at lM l;let I:(xi t g).length<=t.length+g.length:=by
   let:=MC<|t++g;rw[Ua]at this;exact this
  let v:∀r∈t++g,JRow r:=λr s=>(Jb.mp s).elim (ht r)<|y r;let u:V6 [jf (t++g)]=.ok (jf<|xi t g):=NG v (by rw[Ua];lia);let n:jG (jf t) (jf g)=!(jf<|t++g):=by
   show(if(t.map js).length+(g.map js).length<=sizeLine then _ else _)=_;rw[Zql,Zql,Zd (Qt ())];unfold jf;rw[Ud]
  let(-h,A,w):=Dd (sd:=[~~~b,~~~.int most,~~~.adr am,~~~(jf<|xi t g),~~~jf g]) (am:=am) (t:=xi t g) 9 9 hM ();rw[Zl];unfold qA;let e:QY (.one 04) (jr (zL<|jE 03<|J8 V6<|J1 (jm jG (ja 03)<|ja 04) jd)<|qX (vL<|ja 2)<|vL<|jq jO<|J1 (ja 03) jd) (jf g) [~~~b,~~~.int most,~~~.adr am,~~~jf t,i] d=.ok (.next [~~~b,~~~.int most,~~~.adr am,~~~(jf<|xi t g),~~~jf g] h):=by
   show jr (zL _) _ [~~~b,~~~.int most,~~~.adr am,~~~jf t,~~~jf g] d=_;rw[Qb];let B:zL (jE 03<|J8 V6<|J1 (jm jG (ja 03)<|ja 04) jd) [~~~b,~~~.int most,~~~.adr am,~~~jf t,~~~jf g] d=.ok (.next [~~~b,~~~.int most,~~~.adr am,~~~(jf<|xi t g),~~~jf g] d):=by
    generalize jf (xi t g)=d3 at u;generalize jf (t++g)=d4 at n u;generalize jf t=J at n;generalize jf g=d2 at n;simp[n,u]
   rw[B];exact A
  rw[e];show(qA _ (a.map jf) _ h).need _ _;calc(NK a (xi t g) (λr s=>v r (xF.mp s).1) (λx q=>hgs x<|Zqm _ q) () h _ w.1 (by rw[Ua,Ub];lia) b<|~~~jf g).mono (λo C=>?_) λ_ _ z=>z;let(j,f,m,p,E,L,F,G):=C;calc qb j f _ p (w.trans E,by rw[Ua,Ub,Zu];lia,?_,G);by_cases c:(t.length:3)<=most
  .let eq:zg most t (g::a)=zg most (xi t g) a:=by
    show(jU most t).bind _=_;unfold jU;rw[Zd c];rfl
   rw[eq];exact F.cons c
  .calc .inr (?_,_,Zqs,());show(jU most t).bind _=_;unfold jU;rw[Ze c];rfl
def NL {a:List Fo}(h:∀g∈f::a,(∀r∈g,JRow r)/\g.length<=06)(B:a.length<=09)  (j:jc b am=!(.lst<|M.map .int))(C:M.length<=900000):
 (WL [jp (f::a),.int most,.adr am] b).need (λz=>∃t d,z.1=jf t/\Mt am b M z.2 d/\d.length<=a.length+1/\Rz most (zg most f a) t d) λ_ _=>False:=by
 let(l,E):=h f Zqs;calc Xf 9 ?_;unfold CT;show((jr (zL _) _ [~~~(jp<|f::a),~~~.int most,~~~.adr am,8,8] b).bind qc).need _ _;let(-c,m,e):=Dd (sd:=[~~~(jp<|f::a),~~~.int most,~~~.adr am,~~~jf f,8]) (am:=am) (t:=f) 9 9 j ();let n:jJ (jp<|f::a) (.int 0)=! jf f:=ZK (fs:=f::a) (t:=0) () (by rw[Zu];lia);let p:uP (jp<|f::a) (!1) 8 8=!(.lst<|a.map jf):=by
  show some (D.lst<|QC ((f::a).map jf) (!1) 8 8)=_;rw[C5 _ ()];rfl
 let q:=NK (most:=most) (am:=am) a f l (λg s=>h g<|Zqm _ s) () c _ e.1 (by rw[Ua,Ub];lia) (jp<|f::a) 8;rw[Qb];let u:zL (jE 03<|jm jJ (ja 0)<|dC<|.int 0) [~~~(jp<|f::a),~~~.int most,~~~.adr am,8,8] b=.ok (.next [~~~(jp<|f::a),~~~.int most,~~~.adr am,~~~jf f,8] b):=by
  simp[n]
 rw[u];show((jr (qX _ _) _ [~~~(jp<|f::a),~~~.int most,~~~.adr am,~~~jf f,8] b).bind qc).need _ _;rw[Qb,m];show((jr (xG _ (.one 04) _) _ [~~~(jp<|f::a),~~~.int most,~~~.adr am,~~~jf f,8] c).bind qc).need _ _;rw[Qb];let v:iS (vF (ja 0) (Wx<|dC<|.int 1) K5 K5) [~~~(jp<|f::a),~~~.int most,~~~.adr am,~~~jf f,8]=.ok (a.map jf):=by
  simp[p]
 unfold xG;simp only[v];calc Wr.need_bind.mpr<|Wr.need_bind.mpr ?_;calc q.mono (λo w=>?_) λ_ _ z=>z;let(t,x,M2,F,y,G,A,rfl):=w;let i:=e.trans y;exact(i.some,t,_,9,i,by rw[Ua,Ub];lia,A)
def ph(a:HP)(M:Yf)(k:5):dr a (k+1) (.lst<|M.map .int)=.lst (M.map .int):=by
 show D.lst ((M.map D.int).map<|dr a k)=_;rw[Zw];exact Zt D.lst<|UM λi _=>by cases k<;>rfl
section
variable   {m:Nat}
def De   (k:5)(g:sd[2]?=!~~~.int most)(d:sd[03]?=!~~~.adr am)(h:jc a am=!(.lst<|M.map .int))(ne:M ≠[])(b:Bool)(f:b=6↔∃x∈M,most<x):
 xt (k+2) [03] (JC<|jm wa (jq Us<|J1 (ja 03) jd)<|ja 2) sd a=.ok %[b|a]/\xt (k+2) [03] (JC<|jm fB (jq Us<|J1 (ja 03) jd)<|ja 2) sd a=.ok %[not b|a]:=by
 let(i,j):=WN ne;let s:Us [.lst (M.map .int)]=!(.int<|qO M):=by
  show(BS<|.lst<|M.map .int).bind _=_;rw[RR];exact Ze ne
 let l:03<sd.length:=(Jd.mp d).1;let e:drI (k+2) a [03] sd=sd.set 03 (~~~(.lst<|M.map .int)):=by
  rw[Xd,d,p0,Xe (k+1) h,ph];rfl
 let n:(sd.set 03<|~~~(.lst<|M.map .int))[2]?=!~~~.int most:=by rw[Zx ()];exact g
 let o:(sd.set 03<|~~~(.lst<|M.map .int))[03]?=!~~~(.lst<|M.map .int):=by rw[UO l]
 let p:b=decide (most<qO M):=by
  by_cases c:most<qO M
  .rw[Zp c];exact f.mpr (_,i,c)
  .rw[Zo c];cases b with
   |false=>rfl
   |true=>
    let(x,q,t):=f.mp 9;let:=j x q;lia
 let r:not b=decide (qO M<=most):=by
  rw[p];by_cases c:most<qO M
  .rw[Zp c,Zo ()];rfl
  .rw[Zo c,Zp ()];rfl
 simp_all
def pz{fs:List Fo} (h:∀g∈fs,Kf n m g)(f:m<=12) (c:∀p∈r,0<=p.1/\p.1<(fs.length:3)):
 qz (.tup [0,1]) (J8 KU<|J1 (jm jJ (ja 2)<|ja 0)<|J1 (ja 1) jd) [8,8,~~~jp fs] (r.map qB)=.ok ((ju fs r).map jf):=by
 unfold ju;rw[Zw];calc K4 λp d=>?_;let(a,b):=c p d;let G:=h _<|ZJ a b;let i:jJ (jp fs) (.int p.1)=!(jf<|qN fs p.1):=ZK a b;let j:KU [jf (qN fs p.1),.int p.2]=.ok (jf<|QL (qN fs p.1) p.2):=NH (by let:=G.len;lia) λr e=>by let:=(CZ<|G.cn.rows r e).len;lia
 simp_all
def uN:qQ:=jr (Xh 04<|Qo W2<|JB (vL<|Qf [8,8,!1] (iS<|ja 05) (.tup [0,1])<|J8 KU<|J1 (jm jJ (ja 2)<|ja 0)<|J1 (ja 1) jd)<|JB (vL<|ja 2)<|JB (vL<|ja 03) qi)<|Qg (xt 03 [03]<|JC<|jm wa (jq Us<|J1 (ja 03) jd)<|ja 2) (jW<|vL<|V1 04<|qC xC<|dC<|.int 1) QH
def Df{α:Type}(k:α->D)(a:List α)(y:α):jJ (.lst<|(a++[y]).map k) (.int<|-1)=! k y:=by
 show xy ((a++[y]).map k) (-1)=_;unfold xy wl;rw[Ze (),Zd (by rw[Zql,Ua,Ub];lia)];show((a++[y]).map k)[((-1:3)+(((a++[y]).map k).length:3)).toNat]?=_;rw[Zql,Ua,Ub,show((-1:3)+((a.length+1:5):3)).toNat=a.length from by lia,Zv,UK (Zf _),Vi];rfl
theorem NM(Q:1<=most)(R:most<=06)(hm:(m:3)=most){fs:List Fo} (h:∀g∈fs,Kf n m g)(i:D):∀(rest:Fo),(∀r∈rest,JRow r/\∀p∈r,p.1<(fs.length:3))->∀(a:List Fo)(c:HP)(M:Yf),jc c am=!(.lst<|M.map .int)->M ≠[]->(∀x∈M,x<=most)->a.length+rest.length<=100->M.length+20*rest.length<=800000->∀v:Option SV,
 (qA (QY (.one 05) uN) (rest.map js) [~~~i,~~~jp fs,~~~.int most,~~~.adr am,!(.own 7<|jp a),v] c).need (λo=>∃j w,Mt am c M j w/\w.length<=20*rest.length/\((∃A B,KJ most fs rest=!A/\(∀x∈w,x<=most)/\o=.next [~~~i,~~~jp fs,~~~.int most,~~~.adr am,!(.own 7<|jp<|a++A),B] j)\/∃t,KJ most fs rest=8/\(∃x∈w,most<x)/\o=.ret (jf t) j)) λ_ _=>False
 |[],_,a,c,M,hM,_,_,_,_,v=>jI c [] (.refl hM,Zf _,.inl<|jI [] v (9,λ_ h=>(nomatch h),by rw[ZA]))
 |r::rest,hr,a,c,M,hM,ne,le,l1,l2,v=>by
  let(J,jb):=hr r Zqs;rw[Zu]at l1 l2;let S:∀p∈r,0<=p.1/\p.1<(fs.length:3):=λp c=>((J.bnd p c).1,jb p c);let lr:=J.len;let C:=XJ h S;let E:(ju fs r).length=r.length:=Zql _;let key:=pz h () S;let hz:=Ql<|show r.length<=1000 from();rw[Zl];unfold qA;calc Wr.need_bind.mpr ?_;show(uN [~~~i,~~~jp fs,~~~.int most,~~~.adr am,!(.own 7<|jp a),~~~js r] c).need _ _;unfold uN;rw[Qb];calc Wr.need_bind.mpr ?_;let ea:(JB (vL<|Qf [8,8,!1] (iS<|ja 05) (.tup [0,1])<|J8 KU<|J1 (jm jJ (ja 2)<|ja 0)<|J1 (ja 1) jd)<|JB (vL<|ja 2)<|JB (vL<|ja 03) qi) [~~~i,~~~jp fs,~~~.int most,~~~.adr am,!(.own 7<|jp a),~~~js r] c=.ok %[[jp (ju fs r),.int most,.adr am]|c]:=by
   simp_all[jp,js]
  show((Qo W2 _ [~~~i,~~~jp fs,~~~.int most,~~~.adr am,!(.own 7<|jp a),~~~js r] c).bind _).need _ _;rw[WI,ea];cases z:ju fs r with
  |nil=>calc Zn (Ji.mp z) J.ne
  |cons f F=>
   rw[z]at C E;let E:F.length+1=r.length:=E;let T:qG most fs r=xE most f F:=by unfold qG;rw[z]
   calc Wr.need_bind.mpr ?_;show(W2 [jp (f::F),.int most,.adr am] c).need _ _;calc(NJ (am:=am) Q R (λg U=>((C g U).cn,by let:=(C g U).len;lia)) () hM ()).mono (λq hq=>?_) λ_ _ z=>z;let(d,b):=q;let(t M1,e,l,k2,k3):=hq;let e:d=jf t:=e;subst e;let l:Mt am c M b M1:=l;show(if(a.map jf).length<sizeLine then _ else _:Wr Out3).need _ _;rw[Zql,Zd (Ql ())];let et:D.lst (a.map jf++[jf t])=jp (a++[t]):=by unfold jp;rw[Ud];rfl
   show(Qg _ _ _ [~~~i,~~~jp fs,~~~.int most,~~~.adr am,!(.own 7<|.lst<|a.map jf++[jf t]),~~~js r] b).need _ _;rw[et,KG];let s:M++M1 ≠[]:=λy=>ne (Jq.mp y).1;let X:=De (most:=most) (am:=am) (sd:=[~~~i,~~~jp fs,~~~.int most,~~~.adr am,!(.own 7<|jp<|a++[t]),~~~js r]) 1 9 9 l.1 s;rcases k3 with ⟨G,u⟩|⟨G,x,u,Y⟩
   .let Z:∀x∈M++M1,x<=most:=λx H=>(Jb.mp H).elim (le x)<|u x;rw[(X 7 (λy=>(nomatch y),λ(x,h1,h2)=>Zn (Z x h1) ())).1];show(qA (QY (.one 05) uN) (rest.map js) _ b).need _ _;calc(NM Q R hm h i rest (λy hy=>hr y<|Zqm _ hy) (a++[t]) b (M++M1) l.1 s Z (by rw[Ua,Ub];lia) (by rw[Ua];lia) _).mono (λo ho=>?_) λ_ _ z=>z;let(I M2,a1,a2,a3):=ho;calc(I,M1++M2,l.trans a1,by rw[Ua,Zu];lia,?_);rw[Da,T,G];rcases a3 with ⟨A,B,L,N,O⟩|⟨t',L,⟨x,N,O⟩,b4⟩
    .refine .inl (t::A,B,by show(KJ most fs rest).map _=_;rw[L];rfl,λx H=>(Jb.mp H).elim (u x)<|N x,by rw[O,Ug];rfl)
    .exact .inr (t',by show(KJ most fs rest).map _=_;rw[L];rfl,(x,Ue _ N,O),b4)
   .rw[(X 6 (λ_=>(x,Ue _ u,Y),λ_=>9)).1];let P:jJ (jp<|a++[t]) (.int<|-1)=! jf t:=Df jf a t;let er:jW (vL<|V1 04<|qC xC<|dC<|.int 1) [~~~i,~~~jp fs,~~~.int most,~~~.adr am,!(.own 7<|jp<|a++[t]),~~~js r] b=.ok (.ret (jf t) b):=by
     generalize jp (a++[t])=q at P;generalize jf t=q2 at P;simp[P]
    show(jW (vL<|V1 04<|qC xC<|dC<|.int 1) _ b).need _ _;rw[er];exact jI b M1 (l,by rw[Zu];lia,.inr (t,by rw[Da,T,G];rfl,(x,u,Y),9))
def lq(i:1<=d)(j:(m:3)=d)  (h:∀g∈fs,Kf n m g) (l:∀r∈c,JRow r/\∀p∈r,p.1<(fs.length:3)) (e:KJ d fs c=!f):(∀t∈f,Kf n m t)/\f.length=c.length:=by
 let(!a,b,_):=Db i j h c l e;exact(a,b)
def cT(v:1<=most)(H:most<=06)(w:(m:3)=most){fs:List Fo} (h:∀g∈fs,Kf n m g) (F:Kf fs.length m a)  (I:jc b am=!(.lst<|M.map .int))(ne:M ≠[])(le:∀x∈M,x<=most)(Y:M.length<=799000):
 (ZN [jf a,jp fs,.int most,.adr am] b).need (λz=>∃t f,z.1=jf t/\Mt am b M z.2 f/\f.length<=150/\Rz most (xS most fs a) t f) λ_ _=>False:=by
 let Z:=F.len;let y:∀r∈a,JRow r/\∀p∈r,p.1<(fs.length:3):=λr A=>(F.cn.rows r A,F.th r A);calc Xf 9 ?_;unfold CV;show((jr (xG (iS<|ja 0) (.one 05) uN) _ [~~~jf a,~~~jp fs,~~~.int most,~~~.adr am,!(.own 7<|jp []),8] b).bind qc).need _ _;rw[Qb];calc Wr.need_bind.mpr<|Wr.need_bind.mpr ?_;show(qA (QY (.one 05) uN) (a.map js) _ b).need _ _;calc(NM v H w h (jf a) a y [] b M I ne le (by rw[ZC];lia) () 8).mono (λo J=>?_) λ_ _ z=>z;let(c,M1,d,a2,L):=J;rcases L with ⟨i,N,e,j,rfl⟩|⟨l,e,⟨x,j,O⟩,rfl⟩
 .let(B,C):=lq v w h y e;rw[List.nil_append];show(jW (Qo WL<|JB (vL<|ja 04)<|JB (vL<|ja 2)<|JB (vL<|ja 03) qi) [~~~jf a,~~~jp fs,~~~.int most,~~~.adr am,~~~jp i,N] c).need _ _;rw[M5];calc Wr.need_bind.mpr ?_;show(WL [jp i,.int most,.adr am] c).need _ _;cases i with
  |nil=>calc Zn (Jn.mp C.symm) F.cn.ne
  |cons t P=>
   rw[Zu]at C;calc(NL (am:=am) (most:=most) (λg E=>((B g E).cn.rows,by let:=(B g E).len;lia)) () d.1<|by rw[Ua];lia).mono (λq Q=>?_) λ_ _ z=>z;let(l,M2,R,S,d3,T):=Q;let G:=d.trans S;calc(G.some,l,M1++M2,R,G,by rw[Ua];lia,?_);let eq:xS most fs a=zg most t P:=by unfold xS;rw[e];rfl
   rw[eq];rcases T with ⟨s,u⟩|⟨s,x,u,U⟩
   .exact .inl (s,λx X=>(Jb.mp X).elim (j x)<|u x)
   .exact .inr (s,x,Ue _ u,U)
 .exact(d.some,l,M1,9,d,(),.inr (by unfold xS;rw[e];rfl,x,j,O))
end
section
variable {most:Int}  {m:Nat}{ps:List Pl}
def pU{fs:List Fo} (h:∀g∈fs,Kf n m g)(f:m<=12) (c:∀p∈r,0<=p.1/\p.1<(fs.length:3)):
 qz (.tup [0,1]) (J8 KU<|J1 (V1 2<|ja 0)<|J1 (ja 1) jd) [8,8,!(.own 7<|jp fs)] (r.map qB)=.ok ((ju fs r).map jf):=by
 unfold ju;rw[Zw];calc K4 λp d=>?_;let(a,b):=c p d;let G:=h _<|ZJ a b;let i:jJ (jp fs) (.int p.1)=!(jf<|qN fs p.1):=ZK a b;let j:KU [jf (qN fs p.1),.int p.2]=.ok (jf<|QL (qN fs p.1) p.2):=NH (by let:=G.len;lia) λr e=>by let:=(CZ<|G.cn.rows r e).len;lia
 simp_all
def yy:5->5
 |0=>0
 |n+1=>08*(yy n+160)
def Rz.app   (h:∀x∈M,x<=most)(r:Rz most o t N):Rz most o t (M++N):=by
 rcases r with ⟨c,e⟩|⟨c,x,e,f⟩
 .exact .inl (c,λx i=>(Jb.mp i).elim (h x)<|e x)
 .exact .inr (c,x,Ue _ e,f)
def t8(ps:List Pl)(most:3)(j:5)(p:Pl):4:=∀(n:5),j<n->n<=04->∀(b:HP)(c:Addr)(M:Yf),jc b c=!(.lst<|M.map .int)->M ≠[]->(∀x∈M,x<=most)->M.length+yy n<=760000->
 (Ky n [.lst (ps.map J5),J5 p,.int most,.adr c] b).need (λz=>∃U a,z.1=jp U/\U ≠[]/\Mt c b M z.2 a/\a.length<=yy n/\((Qs ps most (j+1) p=!U/\∀x∈a,x<=most)\/Qs ps most (j+1) p=8/\∃x∈a,most<x)) λ_ _=>False
def mw(a:YC->HP->Wr (D×HP)):qQ:=Qg (zt<|JC<|jm qk (jm jJ (ja 05)<|dC<|.int 1)<|dC<|.str "all") (Xh 04<|Qo W2<|JB (vL<|ja 06)<|JB (vL<|ja 2)<|JB (vL<|ja 03) qi)<|Qg (zt<|JC<|jm qk (jm jJ (ja 05)<|dC<|.int 1)<|dC<|.str "first") (Xh 04<|Qo WL<|JB (vL<|ja 06)<|JB (vL<|ja 2)<|JB (vL<|ja 03) qi)<|jr (zL<|jE 07<|jm jJ (V0 [8,!05] (iS<|ja 0) (.one 0) (JC<|jm qk (qC (jK "Plan" "name")<|ja 0)<|jm jJ (ja 1)<|dC<|.int 1)<|ja 0)<|dC<|.int 0)<|jr (qL 08<|Qo a<|JB (vL<|ja 0)<|JB (vL<|ja 07)<|JB (vL<|ja 2)<|JB (vL<|ja 03) qi)<|jr (Qg (xt 03 [03]<|JC<|jm fB (jq Us<|J1 (ja 03) jd)<|ja 2) (qL 08<|C1<|JB (Qo ZN<|JB (vL<|jm jJ (ja 08)<|qC xC<|dC<|.int 1)<|JB (vL<|ja 06)<|JB (vL<|ja 2)<|JB (vL<|ja 03) qi) qi) QH)<|zL<|Wc 04<|jm jJ (ja 08)<|qC xC<|dC<|.int 1
def pP(B:BkP ps)(m1:1<=most)(m6:most<=06)(hm:(m:3)=most) {p:Pl}(hj:ps[j]?=!p)(IH:∀C q,C<j->ps[C]?=!q->t8 ps most C q){k:5}{r:Rw}(hr:p.rows[k]?=!r){T:List Fo}(hT:∀g∈T,Kf p.givens.length m g)(lT:T.length=p.givens.length+k) (hn:j<=n)(n3:n<=03)
 (hM:jc c am=!(.lst<|M.map .int))(ne:M ≠[])(le:∀x∈M,x<=most)(lM:M.length+yy n+160<=760000)(v u:Option SV):
 (mw (Ky n) [~~~(.lst<|ps.map J5),~~~J5 p,~~~.int most,~~~.adr am,!(.own 7<|jp T),~~~jv r,~~~(jp<|ju T r.2.2),v,u] c).need (λo=>∃t I M' y7 y8,o=.next [~~~(.lst<|ps.map J5),~~~J5 p,~~~.int most,~~~.adr am,!(.own 7<|jp<|T++[t]),~~~jv r,~~~(jp<|ju T r.2.2),y7,y8] I/\Mt am c M I M'/\M'.length<=yy n+160/\Rz most (qj most (QM ps most j) T r) t M') λ_ _=>False:=by
 let R:=(B.ok j p hj).row k r hr;let PP:=B.ok j p hj;let hb:∀y∈r.2.2,0<=y.1/\y.1<(T.length:3):=λy hy=>by let:=R.rng y hy;lia
 let F:=XJ hT hb;let sh:=R.sh;let G:(ju T r.2.2).length=r.2.2.length:=Zql _;let J:ju T r.2.2 ≠[]:=λz=>R.ne<|Ji.mp z;let lz:=Ql (show T.length<=1000 by let:=PP.g2;let:=PP.r2;let:=(Jd.mp hr).1;lia);let h:jJ (jv r) (.int 1)=! .str r.2.1:=9;let L:(T.map jf).length<sizeLine:=by rw[Zql];exact lz
 let et:∀t:Fo,D.lst (T.map jf++[jf t])=jp (T++[t]):=λt=>by unfold jp;rw[Ud];rfl
 unfold mw;rcases B.how hj hr with z|z|⟨z0,z1,z2,C,q,z3,z4,z5,z6⟩
 .let N:zt (JC<|jm qk (jm jJ (ja 05)<|dC<|.int 1)<|dC<|.str "all") [~~~(.lst<|ps.map J5),~~~J5 p,~~~.int most,~~~.adr am,!(.own 7<|jp T),~~~jv r,~~~(jp<|ju T r.2.2),v,u] c=.ok %[6|c]:=by
   rw[z]at h;generalize jv r=rr at h;simp[h,MU]
  rw[KG,N];show((Qo W2 _ _ c).bind _).need _ _;rw[WI];calc Wr.need_bind.mpr<|Wr.need_bind.mpr ?_;show(W2 [jp (ju T r.2.2),.int most,.adr am] c).need _ _;let O:qj most (QM ps most j) T r=qG most T r.2.2:=by unfold qj;rw[Zd z]
  rw[O];unfold qG;cases q:ju T r.2.2 with
  |nil=>calc Zn q J
  |cons f gs=>
   rw[q]at F G;let G:gs.length+1=r.2.2.length:=G;calc(NJ (am:=am) m1 m6 (λg E=>((F g E).cn,by let:=(F g E).len;lia)) () hM ()).mono (λq hq=>?_) λ_ _ z=>z;let(d,b):=q;let(t,M1,e,A,k2,P):=hq;let e:d=jf t:=e;subst e;show(if(T.map jf).length<sizeLine then _ else _:Wr Out3).need _ _;rw[Zd L,et];exact j0 t b M1 v u (9,A,(),P)
 .let N:zt (JC<|jm qk (jm jJ (ja 05)<|dC<|.int 1)<|dC<|.str "all") [~~~(.lst<|ps.map J5),~~~J5 p,~~~.int most,~~~.adr am,!(.own 7<|jp T),~~~jv r,~~~(jp<|ju T r.2.2),v,u] c=.ok %[7|c]:=by
   rw[z]at h;generalize jv r=rr at h;simp[h,MV]
  let c2:zt (JC<|jm qk (jm jJ (ja 05)<|dC<|.int 1)<|dC<|.str "first") [~~~(.lst<|ps.map J5),~~~J5 p,~~~.int most,~~~.adr am,!(.own 7<|jp T),~~~jv r,~~~(jp<|ju T r.2.2),v,u] c=.ok %[6|c]:=by
   rw[z]at h;generalize jv r=rr at h;simp[h,MW]
  rw[KG,N];show(Qg _ _ _ [~~~(.lst<|ps.map J5),~~~J5 p,~~~.int most,~~~.adr am,!(.own 7<|jp T),~~~jv r,~~~(jp<|ju T r.2.2),v,u] c).need _ _;rw[KG,c2];show((Qo WL _ _ c).bind _).need _ _;rw[WI];calc Wr.need_bind.mpr<|Wr.need_bind.mpr ?_;show(WL [jp (ju T r.2.2),.int most,.adr am] c).need _ _;let O:qj most (QM ps most j) T r=v9 most (ju T r.2.2):=by unfold qj;rw[Ze (by rw[z];decide+kernel),Zd z]
  rw[O];cases q:ju T r.2.2 with
  |nil=>calc Zn q J
  |cons f gs=>
   rw[q]at F G;let G:gs.length+1=r.2.2.length:=G;calc(NL (am:=am) (most:=most) (λg E=>((F g E).cn.rows,by let:=(F g E).len;lia)) () hM ()).mono (λq hq=>?_) λ_ _ z=>z;let(d,b):=q;let(t,M1,e,A,k2,P):=hq;let e:d=jf t:=e;subst e;show(if(T.map jf).length<sizeLine then _ else _:Wr Out3).need _ _;rw[Zd L,et];exact j0 t b M1 v u (9,A,(),P)
 .let e1:qk (.str r.2.1) (.str "all")=! .bl 7:=by rw[Wo z0 ZG];simp[z1]
  let e2:qk (.str r.2.1) (.str "first")=! .bl 7:=by rw[Wo z0 ZH];simp[z2]
  let N:zt (JC<|jm qk (jm jJ (ja 05)<|dC<|.int 1)<|dC<|.str "all") [~~~(.lst<|ps.map J5),~~~J5 p,~~~.int most,~~~.adr am,!(.own 7<|jp T),~~~jv r,~~~(jp<|ju T r.2.2),v,u] c=.ok %[7|c]:=by
   generalize jv r=rr at h;simp[h,e1]
  let c2:zt (JC<|jm qk (jm jJ (ja 05)<|dC<|.int 1)<|dC<|.str "first") [~~~(.lst<|ps.map J5),~~~J5 p,~~~.int most,~~~.adr am,!(.own 7<|jp T),~~~jv r,~~~(jp<|ju T r.2.2),v,u] c=.ok %[7|c]:=by
   generalize jv r=rr at h;simp[h,e2]
  rw[KG,N];show(Qg _ _ _ [~~~(.lst<|ps.map J5),~~~J5 p,~~~.int most,~~~.adr am,!(.own 7<|jp T),~~~jv r,~~~(jp<|ju T r.2.2),v,u] c).need _ _;rw[KG,c2];show(jr (zL _) _ [~~~(.lst<|ps.map J5),~~~J5 p,~~~.int most,~~~.adr am,!(.own 7<|jp T),~~~jv r,~~~(jp<|ju T r.2.2),v,u] c).need _ _;rw[Qb];let s7:zL (jE 07<|jm jJ (V0 [8,!05] (iS<|ja 0) (.one 0) (JC<|jm qk (qC (jK "Plan" "name")<|ja 0)<|jm jJ (ja 1)<|dC<|.int 1)<|ja 0)<|dC<|.int 0) [~~~(.lst<|ps.map J5),~~~J5 p,~~~.int most,~~~.adr am,!(.own 7<|jp T),~~~jv r,~~~(jp<|ju T r.2.2),v,u] c=.ok (.next [~~~(.lst<|ps.map J5),~~~J5 p,~~~.int most,~~~.adr am,!(.own 7<|jp T),~~~jv r,~~~(jp<|ju T r.2.2),~~~J5 q,u] c):=by
   let H:Ux (.one 0) (JC<|jm qk (qC (jK "Plan" "name")<|ja 0)<|jm jJ (ja 1)<|dC<|.int 1) (ja 0) [8,~~~jv r] (ps.map J5)=.ok ((ps.filter λx=>decide<|x.name=r.2.1).map J5):=
    AB (s:=λx=>[~~~J5 x,~~~jv r]) (λx _=>9) (λx hx=>by
     let(i,hi):=Jh.mp hx;let ge:qk (.str x.name) (.str r.2.1)=!(.bl<|decide<|x.name=r.2.1):=Wo (B.at hi).2.2.1 z0;let gf:jK "Plan" "name" (J5 x)=! .str x.name:=9;generalize J5 x=px at gf;generalize jv r=rr at h;simp[gf,h,ge])<|λx _ _=>()
   let X:(ps.filter λx=>decide<|x.name=r.2.1).head?=!q:=by rw[List.head?_filter,z5];exact B.find z4
   let g0:jJ (.lst<|(ps.filter λx=>decide<|x.name=r.2.1).map J5) (.int 0)=! J5 q:=by
    cases y:ps.filter λx=>decide<|x.name=r.2.1 with
    |nil=>rw[y]at X;cases X
    |cons a as=>
     rw[y]at X;cases X;show xy (J5 q::as.map J5) 0=_;unfold xy wl;rw[Zd (),Zd (by rw[Zu];lia)];rfl
   let hz:=Ql (show ps.length<=1000 by let:=B.len;lia);generalize(ps.filter λx=>decide<|x.name=r.2.1).map J5=fl at H g0;generalize J5 q=pq at g0;generalize jv r=rr at H;simp[H,hz,g0]
  rw[s7];show(jr (qL 08 _) _ [~~~(.lst<|ps.map J5),~~~J5 p,~~~.int most,~~~.adr am,!(.own 7<|jp T),~~~jv r,~~~(jp<|ju T r.2.2),~~~J5 q,u] c).need _ _;rw[Qb,Z3,WI];calc Wr.need_bind.mpr<|Wr.need_bind.mpr<|Wr.need_bind.mpr ?_;show(Ky n [.lst (ps.map J5),J5 q,.int most,.adr am] c).need _ _;calc(IH C q z3 z4 n () () c am M hM ne le ()).mono (λw hw=>?_) λ_ _ z=>z;let(d,b):=w;let(V,M1,e,vn,A,k2,P):=hw;let e:d=jp V:=e;subst e;let A:Mt am c M b M1:=A;let(ys y,ev):=Xj vn;let Y:jJ (jp V) (.int<|-1)=! jf y:=by rw[ev];exact Df jf ys y
  let Q:M++M1 ≠[]:=λy=>ne (Jq.mp y).1;show(jr (Qg _ _ _) _ [~~~(.lst<|ps.map J5),~~~J5 p,~~~.int most,~~~.adr am,!(.own 7<|jp T),~~~jv r,~~~(jp<|ju T r.2.2),~~~J5 q,~~~jp V] b).need _ _;let tt:=De (most:=most) (am:=am) (sd:=[~~~(.lst<|ps.map J5),~~~J5 p,~~~.int most,~~~.adr am,!(.own 7<|jp T),~~~jv r,~~~(jp<|ju T r.2.2),~~~J5 q,~~~jp V]) 1 9 9 A.1 Q;let S:∀{Z:D}{t:Fo}{l:HP},jJ Z (.int<|-1)=! jf t->zL (Wc 04<|jm jJ (ja 08)<|qC xC<|dC<|.int 1) [~~~(.lst<|ps.map J5),~~~J5 p,~~~.int most,~~~.adr am,!(.own 7<|jp T),~~~jv r,~~~(jp<|ju T r.2.2),~~~J5 q,~~~Z] l=.ok (.next [~~~(.lst<|ps.map J5),~~~J5 p,~~~.int most,~~~.adr am,!(.own 7<|jp<|T++[t]),~~~jv r,~~~(jp<|ju T r.2.2),~~~J5 q,~~~Z] l):=λ{Z t l}E=>by
   rw[<-et];unfold jp;generalize jf t=q2 at E;simp[E,lz]
  rw[Qb,KG];rcases P with ⟨y1,U⟩|⟨y1,x,U,y3⟩
  .let al:∀x∈M++M1,x<=most:=λx hx=>(Jb.mp hx).elim (le x)<|U x;rw[(tt 7 (λy=>(nomatch y),yf λx=>jF λh1 h2=>Zn (al x h1) ())).2];let(v1,v2):=XL B hm m1 (C+1) C z4 y1;let ky:Kf (ju T r.2.2).length m y:=by rw[G,z6];exact v1 y<|by rw[ev];exact Ue _ Zqs
   calc Wr.need_bind.mpr ?_;show(qL 08 (C1 _) _ b).need _ _;rw[Z3];calc Wr.need_bind.mpr ?_;show(((JB (Qo ZN _) qi) [~~~(.lst<|ps.map J5),~~~J5 p,~~~.int most,~~~.adr am,!(.own 7<|jp T),~~~jv r,~~~(jp<|ju T r.2.2),~~~J5 q,~~~jp V] b).bind _).need _ _;rw[lx,WI];let ea:(JB (vL<|jm jJ (ja 08)<|qC xC<|dC<|.int 1)<|JB (vL<|ja 06)<|JB (vL<|ja 2)<|JB (vL<|ja 03) qi) [~~~(.lst<|ps.map J5),~~~J5 p,~~~.int most,~~~.adr am,!(.own 7<|jp T),~~~jv r,~~~(jp<|ju T r.2.2),~~~J5 q,~~~jp V] b=.ok %[[jf y,jp (ju T r.2.2),.int most,.adr am]|b]:=by
    generalize jp V=dv at Y;generalize jf y=q2 at Y;simp[Y]
   rw[ea];calc Wr.need_bind.mpr<|Wr.need_bind.mpr ?_;show(ZN [jf y,jp (ju T r.2.2),.int most,.adr am] b).need _ _;calc(cT (am:=am) m1 m6 hm F ky A.1 Q al<|by rw[Ua];lia).mono (λw hw=>?_) λ_ _ z=>z;let(d,l):=w;let(t M2,e,a1,a2,a3):=hw;let e:d=jf t:=e;subst e;let a1:Mt am b (M++M1) l M2:=a1;show(zL (Wc 04 _) [~~~(.lst<|ps.map J5),~~~J5 p,~~~.int most,~~~.adr am,!(.own 7<|jp T),~~~jv r,~~~(jp<|ju T r.2.2),~~~J5 q,~~~.lst [jf t]] l).need _ _;rw[S (show jJ (.lst [jf t]) (.int<|-1)=! jf t from Df jf [] t)];calc j0 t l (M1++M2) _ _ (9,A.trans a1,by rw[Ua];lia,?_);let O:qj most (QM ps most j) T r=xS most (ju T r.2.2) y:=by
    unfold qj;rw[Ze z1,Ze z2,z5,Xm B z4,Dc B C j q z4 z3,y1,ev];show xS most (ju T r.2.2) ((ys++[y]).getLastD [])=_;rw[VG]
   rw[O];exact Rz.app U a3
  .rw[(tt 6 (λ_=>(x,Ue _ U,y3),λ_=>9)).2];show(zL (Wc 04 _) [~~~(.lst<|ps.map J5),~~~J5 p,~~~.int most,~~~.adr am,!(.own 7<|jp T),~~~jv r,~~~(jp<|ju T r.2.2),~~~J5 q,~~~jp V] b).need _ _;rw[S Y];calc j0 y b M1 _ _ (9,A,(),.inr (?_,x,U,y3));unfold qj;rw[Ze z1,Ze z2,z5,Xm B z4,Dc B C j q z4 z3,y1];rfl
end
section
variable   {m:Nat}
def uM(a:YC->HP->Wr (D×HP)):qQ:=jr (zL<|jE 06<|YW [8,8,!04] 2 (iS<|jm jJ (ja 05)<|dC<|.int 2) (.tup [0,1])<|J8 KU<|J1 (V1 2<|ja 0)<|J1 (ja 1) jd)<|jr (mw a)<|Qg (xt 03 [03]<|JC<|jm wa (jq Us<|J1 (ja 03) jd)<|ja 2) (λb c=>(jW<|vL<|ja 04) (qo [04] b) c) QH
theorem NN(B:BkP a)(v:1<=most)(Z:most<=06)(w:(m:3)=most) {p:Pl}(A:a[j]?=!p)(IH:∀J q,J<j->a[J]?=!q->t8 a most J q) (hn:j<=n)(n3:n<=03):∀(rest:List Rw)(k:5)(T:List Fo),p.rows.drop k=rest->(∀g∈T,Kf p.givens.length m g)->T.length=p.givens.length+k->∀(b:HP)(M:Yf),jc b am=!(.lst<|M.map .int)->M ≠[]->(∀x∈M,x<=most)->M.length+rest.length*(yy n+160)<=760000->∀(C e c d:Option SV),
 (qA (QY (.one 05)<|uM<|Ky n) (rest.map jv) [~~~(.lst<|a.map J5),~~~J5 p,~~~.int most,~~~.adr am,!(.own 7<|jp T),C,e,c,d] b).need (λo=>∃U f E,U ≠[]/\Mt am b M f E/\E.length<=rest.length*(yy n+160)/\((∃y5 y6 F G,Kz most (QM a most j) rest T=!U/\(∀x∈E,x<=most)/\o=.next [~~~(.lst<|a.map J5),~~~J5 p,~~~.int most,~~~.adr am,!(.own 7<|jp U),y5,y6,F,G] f)\/Kz most (QM a most j) rest T=8/\(∃x∈E,most<x)/\o=.ret (jp U) f)) λ_ _=>False
 |[],k,T,_,_,lT,b,M,hM,_,_,_,C,e,c,d=>ji T b [] (λz=>by rw[z]at lT;let:=(B.ok j p A).g1;simp at lT;lia,.refl hM,Uc _,.inl<|qb C e c d (9,λ_ h=>(nomatch h),9))
 |r::rest,k,T,hd,hT,lT,b,M,hM,ne,le,lM,C,e,c,d=>by
  let hk:k<p.rows.length:=by
   let:=Zt List.length hd;rw[VL,Zu]at this;lia
  rw[Uj hk]at hd;let hr:p.rows[k]?=!r:=by rw[Zqg hk];exact Zt some (VF hd).1
  let L:=(VF hd).2;let R:=(B.ok j p A).row k r hr;let hb:∀y∈r.2.2,0<=y.1/\y.1<(T.length:3):=λy hy=>by let:=R.rng y hy;lia
  rw[Zu,Nat.succ_mul]at lM;rw[Zl];unfold qA;calc Wr.need_bind.mpr ?_;show(uM (Ky n) [~~~(.lst<|a.map J5),~~~J5 p,~~~.int most,~~~.adr am,!(.own 7<|jp T),~~~jv r,e,c,d] b).need _ _;unfold uM;rw[Qb];let s6:zL (jE 06<|YW [8,8,!04] 2 (iS<|jm jJ (ja 05)<|dC<|.int 2) (.tup [0,1])<|J8 KU<|J1 (V1 2<|ja 0)<|J1 (ja 1) jd) [~~~(.lst<|a.map J5),~~~J5 p,~~~.int most,~~~.adr am,!(.own 7<|jp T),~~~jv r,e,c,d] b=.ok (.next [~~~(.lst<|a.map J5),~~~J5 p,~~~.int most,~~~.adr am,!(.own 7<|jp T),~~~jv r,~~~(jp<|ju T r.2.2),c,d] b):=by
   let N:jJ (jv r) (.int 2)=! js r.2.2:=9;let l:=pU (m:=m) hT () hb;let hz:=Ql (show r.2.2.length<=1000 by let:=R.sh;lia);let co:capO [8,8,!04] 2 [~~~(.lst<|a.map J5),~~~J5 p,~~~.int most,~~~.adr am,!(.own 7<|jp T),~~~jv r,e,c,d]=[8,8,!(.own 7<|jp T)]:=9;let cn:KN [8,8,!(.own 7<|jp T)] (.tup [0,1])=6:=9;let wk:Wd (js r.2.2)=! r.2.2.map qB:=9;let ed:jp (ju T r.2.2)=.lst ((ju T r.2.2).map jf):=9;rw[ed];generalize(ju T r.2.2).map jf=ds at l;generalize jv r=rr at N co;generalize js r.2.2=rw_ at N wk;simp[N,wk,co,cn,hz,l]
  rw[s6];show(jr (mw _) _ [~~~(.lst<|a.map J5),~~~J5 p,~~~.int most,~~~.adr am,!(.own 7<|jp T),~~~jv r,~~~(jp<|ju T r.2.2),c,d] b).need _ _;rw[Qb];calc Wr.need_bind.mpr<|(pP B v Z w A IH hr hT lT hn n3 hM ne le () c d).mono (λo O=>?_) λ_ _ z=>z;let(t i M1 F G,rfl,H,k2,k3):=O;let s:M++M1 ≠[]:=λy=>ne (Jq.mp y).1;rw[pQ];let tt:=De (most:=most) (am:=am) (sd:=[~~~(.lst<|a.map J5),~~~J5 p,~~~.int most,~~~.adr am,!(.own 7<|jp<|T++[t]),~~~jv r,~~~(jp<|ju T r.2.2),F,G]) 1 9 9 H.1 s;rw[KG];rcases k3 with ⟨I,u⟩|⟨I,x,u,y3⟩
  .let al:∀x∈M++M1,x<=most:=λx P=>(Jb.mp P).elim (le x)<|u x;rw[(tt 7 (λy=>(nomatch y),λ(x,h1,h2)=>Zn (al x h1) ())).1];show(qA (QY (.one 05)<|uM<|Ky n) (rest.map jv) _ i).need _ _;refine(NN B v Z w A IH hn n3 rest (k+1) (T++[t]) L (λg hg=>?_) (by rw[Ua,Ub];lia) i (M++M1) H.1 s al (by rw[Ua];lia) _ _ F G).mono (λo O=>?_) λ_ _ z=>z
   .rcases Jb.mp hg with z|z
    .exact hT g z
    .rw[Jc.mp z];exact FL w v R (N2 B w v j j) hT () I
   .let(U Q M2,un,a1,a2,a3):=O;calc ji U Q (M1++M2) (un,H.trans a1,by rw[Ua,Zu,Nat.succ_mul];lia,?_);rw[WM,I];rcases a3 with ⟨w5,w6,w7,w8,S,X,Y⟩|⟨S,⟨x,X,Y⟩,b4⟩
    .exact .inl<|qb w5 w6 w7 w8 (S,λx P=>(Jb.mp P).elim (u x)<|X x,Y)
    .exact .inr (S,(x,Ue _ X,Y),b4)
  .rw[(tt 6 (λ_=>(x,Ue _ u,y3),λ_=>9)).1];exact ji (T++[t]) i M1 ((),H,by rw[Zu,Nat.succ_mul];lia,.inr (by rw[WM,I];rfl,(x,u,y3),9))
def pN(B:BkP b)(A:1<=a)(C:a<=06)(E:(m:3)=a):∀(j:5)(p:Pl),b[j]?=!p->t8 b a j p:=by
 intro j
 induction j using Nat.strongRecOn with
 |ind j F=>
  intro p s n hn n4 c e M G ne le t;let(n,rfl):∃k,n=k+1:=(n-1,());let P:=B.ok j p s;let t:M.length+08*(yy n+160)<=760000:=t;let H:p.rows.length*(yy n+160)<=08*(yy n+160):=Nat.mul_le_mul_right _ P.r2;show(xk 09 04 (Bk<|Ky n) [.lst (b.map J5),J5 p,.int a,.adr e] c).need _ _;calc Xf 9 ?_;let I:(Qp p.givens.length).length=p.givens.length:=by unfold Qp;rw[Zql,ZB]
  let J:∀g∈Qp p.givens.length,Kf p.givens.length m g:=λg L=>by
   let(i,u,rfl):=Ja.mp L;exact FH () (by let:=P.g2;lia) i<|Je.mp u
  let N:WE (p.givens.length:3)=6:=BX () (by let:=P.g2;lia);let v:jK "Plan" "givens" (J5 p)=!(.lst<|p.givens.map .str):=9;let O:jO [.lst (p.givens.map .str)]=! .int p.givens.length:=by show some (D.int ((p.givens.map D.str).length:3))=_;rw[Zql]
  let w:WW [.int (p.givens.length:3)]=.ok (JY 0 p.givens.length):=Zd N;let g4:jK "Plan" "rows" (J5 p)=!(.lst<|p.rows.map jv):=9;unfold Bk;show((jr (zL _) _ [~~~(.lst<|b.map J5),~~~J5 p,~~~.int a,~~~.adr e,8,8,8,8,8] c).bind qc).need _ _;rw[Qb];let Q:zL (qD 04<|Qf [8] (wF<|J1 (jq jO<|J1 (qC (jK "Plan" "givens")<|ja 1) jd) jd) (.one 0)<|xb<|J1 (qJ<|J1 (qJ<|J1 (ja 0)<|J1 (dC<|.int 0) jd) jd) jd) [~~~(.lst<|b.map J5),~~~J5 p,~~~.int a,~~~.adr e,8,8,8,8,8] c=.ok (.next [~~~(.lst<|b.map J5),~~~J5 p,~~~.int a,~~~.adr e,!(.own 7<|jp<|Qp p.givens.length),8,8,8,8] c):=by
   let d:qz (.one 0) (xb<|J1 (qJ<|J1 (qJ<|J1 (ja 0)<|J1 (dC<|.int 0) jd) jd) jd) [8] (JY 0 p.givens.length)=.ok ((Qp p.givens.length).map jf):=by
    unfold Qp;rw[Zw];exact IL λi u=>by simp[jf,js,qB]
   let R:(JY 0 p.givens.length).length=p.givens.length:=by unfold JY;rw[Zql,ZB]
   let x:=Ql (show(JY 0 p.givens.length).length<=1000 by rw[R];let:=P.g2;lia);let S:jp (Qp p.givens.length)=.lst ((Qp p.givens.length).map jf):=9;rw[S];generalize JY 0 p.givens.length=rg at w d x;generalize(Qp p.givens.length).map jf=ds at d;generalize J5 p=pd at v ⊢;simp[v,O,w,x,d]
  rw[Q];show((jr (xG _ (.one 05)<|uM<|Ky n) _ [~~~(.lst<|b.map J5),~~~J5 p,~~~.int a,~~~.adr e,!(.own 7<|jp<|Qp p.givens.length),8,8,8,8] c).bind qc).need _ _;rw[Qb];calc Wr.need_bind.mpr<|Wr.need_bind.mpr ?_;show(qA (QY (.one 05)<|uM<|Ky n) (p.rows.map jv) _ c).need _ _;calc(NN B A C E s (λT q h=>F T h q) () () p.rows 0 (Qp p.givens.length) 9 J (by rw[I];rfl) c M G ne le () 8 8 8 8).mono (λo X=>?_) λ_ _ z=>z;let(U Y M1,un,f,Z,a3):=X;let y:M1.length<=yy (n+1):=Zh Z H;rcases a3 with ⟨w5,w6,w7,w8,l,r,rfl⟩|⟨l,r,rfl⟩
  .exact(f.some,U,M1,9,un,f,y,.inl (l,r))
  .exact(f.some,U,M1,9,un,f,y,.inr (l,r))
end
def KL(t:Fo):Fo:=t++[[%[0|1]]]
def fY (n:f ≠[])(c:∀r∈f,r.length<=1000):ZP [jf f]=.ok (.bl 6):=by
 let d:f.isEmpty=7:=by simp_all
 simp[ZP,CW,cX,d];generalize g:jN (yc _ _ _) (yc _ _ _)=b;let(h,e,u,j):=WX (tg:=.one 1) (b:=b) (ds:=f.map js)
  (P:=λi a=>∃u,a=[~~~jf f,u]) (8,9) (by
   rintro i x a l ⟨u,rfl⟩;let(r,m,rfl):=KH l;let o:=Ql<|c r<|Uf m;let p:qz (.one 0) (jq xD<|J1 (ja 0)<|J1 (dC<|.ty "tuple") jd) [8] (r.map qB)=.ok (r.map λ_=>.bl 6):=K4 ();let q:qz (.one 0) (Wb (jm qk (jq jO<|J1 (ja 0) jd)<|dC<|.int 2)<|Wb (J8 ZO<|J1 (jm jJ (ja 0)<|dC<|.int 0) jd)<|J8 ZO<|J1 (jm jJ (ja 0)<|dC<|.int 1) jd) [8] (r.map qB)=.ok (r.map λ_=>.bl 6):=K4 ();let s:ze [.lst (r.map λ_=>D.bl 6)]=! .bl 6:=by
    let:=IU<|r.map λ_=>6;rw[Zw]at this;let e:(r.map λ_=>6).all id=6:=by exact()
    rwa[e]at this
   subst g
   simp_all)
 rw[e];simp
theorem NO{sd0:SD} (j:∀d u,(sd0.set 06 u)[06]?=!u/\(sd0.set 06 u).set 06 (~~~d)=sd0.set 06 (~~~d)):∀{f:Yj}{g:List Fo}{c:HP}{u:Option SV},qR c f g->f.Nodup->(∀t∈g,t.length<=900)->
 (qA (QY (.one 06)<|qX (vL<|ja 06)<|vL<|qJ<|J1 (qJ<|J1 (dC<|.int 0)<|J1 (dC<|.int 1) jd) jd) (f.map .adr) (sd0.set 06 u) c).need (λo=>∃m i,o=.next (sd0.set 06 m) i/\qR i f (g.map KL)/\∀b,b∉f->jc i b=jc c b) Q
 |[],[],c,u,_,_,_=>(u,c,9,trivial,λ_ _=>9)
 |a::f,t::g,c,u,(p,h2),nd,hl=>by
  let(q,n):=Jk.mp nd;let lt:=hl t Zqs;let r:(t.map js).length<sizeLine:=Ql (by rw[Zql];lia);let l:jc c a=!(.lst<|t.map js):=p;let e:QY (.one 06) (qX (vL<|ja 06)<|vL<|qJ<|J1 (qJ<|J1 (dC<|.int 0)<|J1 (dC<|.int 1) jd) jd) (.adr a) (sd0.set 06 u) c=.ok (.next (sd0.set 06<|~~~.adr a)<|Q6 c a<|jf<|KL t):=by
   let s:JW (.one 06) (.adr a) (sd0.set 06 u)=.ok (sd0.set 06<|~~~.adr a):=by
    show Res.ok ((sd0.set 06 u).set 06<|~~~.adr a)=_;rw[(j (.adr a) u).2]
   unfold QY;rw[s];show qX _ _ (sd0.set 06<|~~~.adr a) c=_;let v:ja 06 (sd0.set 06<|~~~.adr a)=.ok (.adr a):=by
    simp[(j .non<|~~~.adr a).1]
   rw[EO,M4,v];show Xc _ _ %[.adr a|c]=_;rw[EQ l,M4];let w:qJ (J1 (qJ<|J1 (dC<|.int 0)<|J1 (dC<|.int 1) jd) jd) (sd0.set 06<|~~~.adr a)=.ok (js [%[0|1]]):=by simp[js,qB]
   rw[w];show Xb _ a %[js [%[0|1]]|c]=_;rw[ER l r];let:D.lst (t.map js++[js [%[0|1]]])=jf (KL t):=by
    unfold jf KL;rw[Ud];rfl
   rw[this]
  let ne:jc c a≠8:=by rw[p];simp
  let A:qR (Q6 c a<|jf<|KL t) f g:=by
   let keep:∀{f:Yj}{g:List Fo},a∉f->qR c f g->qR (Q6 c a<|jf<|KL t) f g:=by
    intro f
    induction f with
    |nil=>intro g _ h;cases g<;>calc h
    |cons b f y=>
     intro g C h;cases g with
     |nil=>calc h
     |cons I g=>
      let(E,F):=not_or.mp λz=>C<|U4.mpr z;exact(by rw[AT ne (Ne.symm E)];calc h.1,y F h.2)
   exact keep q h2
  rw[Zl];unfold qA;rw[e];calc(NO j A n λx G=>hl x<|Zqm _ G).mono (λo H=>?_) λ_ _ z=>z;let(m i,rfl,B,k):=H;refine jI m i (9,(by rw[k a q,Cy ne],B),λb J=>?_)
  grind[AT]
 |[],_::_,_,_,z,_,_=>z.elim
 |_::_,[],_,_,z,_,_=>z.elim
def gL  (h:t5 a d):W3 a=.ok d:=by
 unfold W3;let e:∃d,t5 a d:=(d,h);rw[dif_pos e];let(p,b,c):=FU (Vd e).2 h.2;rw[<-b,c]
def FZ (h:qM 12 d=6):qk d d=! .bl 6/\wG d d=! .bl 7:=by
 rw[A4 h h,Ib h h,A1];exact(9,9)
def fX(B:BkP c)(I:∀p∈c,(reprText p.name).length<=400)(C:1<=most)(m6:most<=06){j:5} (w:c[j]?=!p):W3 [J9 c,J5 p,.int most]=.ok (.bl 6):=by
 calc gL (9,?_);let gp:jK "Book" "plans" (J9 c)=!(.lst<|c.map J5):=9;let E:jK "Plan" "name" (J5 p)=! .str p.name:=9;let P:=B.ok j p w;let F:=FY B I (most:=most+06) () () w 1;let r0:=FY B I C () w 0;let r1:=FY B I C () w 1;let J:=NF B I C () w;let L:=FW B I C () w;unfold Bl;show((jr (qL 03 _) _ [~~~J9 c,~~~J5 p,~~~.int most,8,8,8,8] []).bind qc).need _ _;let e3:qL 03 (ug<|JB (vL<|dC<|.int 1) qi) [~~~J9 c,~~~J5 p,~~~.int most,8,8,8,8] []=.new [] λam=>.ok<|.next [~~~J9 c,~~~J5 p,~~~.int most,~~~.adr am,8,8,8] [%[am|D.lst [.int 1]]]:=9;rw[Qb,e3];calc Wr.need_bind.mpr ?_;intro am _;let hM:jc [%[am|D.lst [.int 1]]] am=!(.lst<|[1].map .int):=by rw[JR,Zd 9];rfl
 show(jr (qL 04 _) _ [~~~J9 c,~~~J5 p,~~~.int most,~~~.adr am,8,8,8] [%[am|D.lst [.int 1]]]).need _ _;rw[Qb,Z3,WI];let ea:(JB (vL<|qC (jK "Book" "plans")<|ja 0)<|JB (vL<|ja 1)<|JB (vL<|ja 2)<|JB (vL<|ja 03) qi) [~~~J9 c,~~~J5 p,~~~.int most,~~~.adr am,8,8,8] [%[am|D.lst [.int 1]]]=.ok %[[.lst (c.map J5),J5 p,.int most,.adr am]|[%[am|D.lst [.int 1]]]]:=by
  generalize J9 c=bd at gp;generalize J5 p=pd;simp[gp]
 rw[ea];calc Wr.need_bind.mpr<|Wr.need_bind.mpr<|Wr.need_bind.mpr ?_;calc(pN (m:=most.toNat) B C m6 () j p w 04 (B.at w).2.1 (Zf _) [%[am|D.lst [.int 1]]] am [1] hM () (λx hx=>by rw[Jc.mp hx];calc C)<|by decide).mono (λz G=>?_) λ_ _ z=>z;let(d,l):=z;let(U,M1,e,un,k1,k2,k3):=G;let e:d=jp U:=e;subst e;let k1:Mt am [%[am|D.lst [.int 1]]] [1] l M1:=k1;let mne:[1]++M1 ≠[]:=by simp
 show(jr (Qg _ _ _) _ [~~~J9 c,~~~J5 p,~~~.int most,~~~.adr am,~~~jp U,8,8] l).need _ _;rw[Qb,KG];let c1:zt (JC<|jm qk (J8 Kx<|J1 (ja 0)<|J1 (qC (jK "Plan" "name")<|ja 1)<|J1 (jm jG (ja 2)<|dC<|.int 06)<|J1 (dC<|.int 1) jd)<|dC<|.int 2) [~~~J9 c,~~~J5 p,~~~.int most,~~~.adr am,~~~jp U,8,8] l=.ok %[7|l]:=by
  let n2:¬(if Qs c (most+06) (j+1) p=8 then(1:3)else 0)=2:=by split<;>lia
  generalize(if Qs c (most+06) (j+1) p=8 then(1:3)else 0)=v at F n2;generalize J9 c=bd at F;generalize J5 p=pd at E;simp[E,F,n2]
 rw[c1];show(jr (Qg _ _ _) _ [~~~J9 c,~~~J5 p,~~~.int most,~~~.adr am,~~~jp U,8,8] l).need _ _;let tt:=De (most:=most) (am:=am) (sd:=[~~~J9 c,~~~J5 p,~~~.int most,~~~.adr am,~~~jp U,8,8]) 03 9 9 k1.1 mne;rw[Qb,KG];rcases k3 with ⟨M,y2⟩|⟨M,x,y2,y3⟩
 .let alM:∀x ∈[1]++M1,x<=most:=λx hx=>(Jb.mp hx).elim (λh=>by rw[Jc.mp h];calc C)<|y2 x;rw[(tt 7 (λy=>(nomatch y),yf λx=>jF λS X=>Zn (alM x S) ())).1];show(jr (qL 05 _) _ [~~~J9 c,~~~J5 p,~~~.int most,~~~.adr am,~~~jp U,8,8] l).need _ _;rw[Qb,Z3,WI];let ea:(JB (vL<|ja 0)<|JB (vL<|qC (jK "Plan" "name")<|ja 1)<|JB (vL<|ja 2) qi) [~~~J9 c,~~~J5 p,~~~.int most,~~~.adr am,~~~jp U,8,8] l=.ok %[[J9 c,.str p.name,.int most]|l]:=by
   generalize J9 c=bd;generalize J5 p=pd at E;simp[E]
  rw[ea];calc Wr.need_bind.mpr<|Wr.need_bind.mpr<|Wr.need_bind.mpr ?_;refine(dX B I C () w l).mono (λz G=>?_) λ_ _ z=>by rw[M]at z;cases z.1
  let(d,i):=z;let(T a s,S,X,Y,Z,h5,h6,h7,h8):=G;rw[M]at S;cases S;let X:d=.adr a:=X;subst X;let Y:jc i a=!(.lst<|s.map .adr):=Y;let Z:qR i s U:=Z;let(v1,v2):=XL (m:=most.toNat) B () C (j+1) j w M;let ul:U.length<=12:=by let:=P.g2;let:=P.r2;lia
  show(jr (Qg _ _ _) _ [~~~J9 c,~~~J5 p,~~~.int most,~~~.adr am,~~~jp U,~~~.adr a,8] i).need _ _;rw[Qb,KG];let su:=FZ<|gc 07 U;let fo:qz (.one 0) (J8 ZP<|J1 (ja 0) jd) [8] (U.map jf)=.ok (U.map λ_=>.bl 6):=K4 λf hf=>by
   let:=fY (v1 f hf).cn.ne λr hr=>by let:=(CZ<|(v1 f hf).cn.rows r hr).len;lia
   simp[this]
  let ga:ze [.lst (U.map λ_=>D.bl 6)]=! .bl 6:=by
   let:=IU<|U.map λ_=>6;rw[Zw]at this;let e:(U.map λ_=>6).all id=6:=by rw[Ve];exact UP.mpr λ_ _=>9
   rw[e]at this;exact this
  let G:=Ql<|show U.length<=1000 from();let c5:xt 05 [05] (yx (Q8<|JC<|jq xD<|J1 (ja 05)<|J1 (dC<|.ty "list") jd)<|yx (Q8<|JC<|jq ze<|J1 (Qf [8] (iS<|ja 05) (.one 0)<|J8 ZP<|J1 (ja 0) jd) jd)<|JC<|jm wG (ja 05)<|ja 04) [~~~J9 c,~~~J5 p,~~~.int most,~~~.adr am,~~~jp U,~~~.adr a,8] i=.ok %[7|i]:=by
   rw[EN,Xd];show(Wr.of ((yx _ _) [~~~J9 c,~~~J5 p,~~~.int most,~~~.adr am,~~~jp U,~~~(dr i 05<|.adr a),8]).strict).bind _=_;rw[Xe 04 Y,Z.read 2];let gi:xD [jp U,.ty "list"]=! .bl 6:=9;let wk:Wd (jp U)=! U.map jf:=9;let(_,N):=su;let O:(U.map jf).length<sizeLine:=by rw[Zql];exact G
   generalize jp U=du at gi wk N;generalize U.map jf=fl at wk fo O;generalize(U.map λ_=>D.bl 6)=bl_ at fo ga;simp[gi,wk,O,fo,ga,N]
  rw[c5];show(jr (AX 05<|xG (iS<|ja 05) (.one 06) _) _ [~~~J9 c,~~~J5 p,~~~.int most,~~~.adr am,~~~jp U,~~~.adr a,8] i).need _ _;rw[Qb];let ez:∀g:qQ,AX 05 g [~~~J9 c,~~~J5 p,~~~.int most,~~~.adr am,~~~jp U,~~~.adr a,8] i=g [~~~J9 c,~~~J5 p,~~~.int most,~~~.adr am,~~~jp U,~~~(.lst<|s.map .adr),8] (Wz i a):=λg=>by
   show(match jc i a with
    |some (.lst es)=>g [~~~J9 c,~~~J5 p,~~~.int most,~~~.adr am,~~~jp U,~~~.lst es,8] (Wz i a)
    |_=>.no)=_
   rw[Y]
  rw[ez];calc Wr.need_bind.mpr ?_;let A:qR (Wz i a) s U:=Z.keep λb hb d q=>by rw[AL,Ze λz=>h6<|by rw[<-z];calc hb];exact q
  let lp:=NO (sd0:=[~~~J9 c,~~~J5 p,~~~.int most,~~~.adr am,~~~jp U,~~~(.lst<|s.map .adr),8]) (Q:=λ_ _=>False) (λd u=>(9,9)) (u:=8) A h5 λt ht=>by let:=(v1 t ht).len;lia
  show(qA _ (s.map .adr) [~~~J9 c,~~~J5 p,~~~.int most,~~~.adr am,~~~jp U,~~~(.lst<|s.map .adr),8]<|Wz i a).need _ _;calc lp.mono (λo ho=>?_) λ_ _ z=>z;let(u,n,rfl,A3,_):=ho;show(jr (Qg _ _ _) _ [~~~J9 c,~~~J5 p,~~~.int most,~~~.adr am,~~~jp U,~~~(.lst<|s.map .adr),u] n).need _ _;rw[Qb,KG];let l1:qz (.one 0) (jq jO<|J1 (ja 0) jd) [8] ((U.map KL).map jf)=.ok (U.map λt=>.int<|(t.length:3)+1):=by
   rw[Zw];calc K4 λt _=>?_;let:jO [jf (KL t)]=!(.int<|(t.length:3)+1):=by
    rw[ME];unfold KL;rw[Ua,Ub];rfl
   simp[this]
  let l2:qz (.one 0) (jm jG (jq jO<|J1 (ja 0) jd)<|dC<|.int 1) [8] (U.map jf)=.ok (U.map λt=>.int<|(t.length:3)+1):=K4 λt _=>by
   let:=ME t;simp[this]
  let sl:=FZ (d:=.lst<|U.map λt=>D.int<|(t.length:3)+1)<|by
   show(U.map λt=>D.int<|(t.length:3)+1).all (qM 11)=6;rw[Ve];exact UP.mpr λ_ _=>9
  let c6:xt 05 [05] (JC<|jm wG (Qf [8] (iS<|ja 05) (.one 0)<|jq jO<|J1 (ja 0) jd)<|Qf [8] (iS<|ja 04) (.one 0)<|jm jG (jq jO<|J1 (ja 0) jd)<|dC<|.int 1) [~~~J9 c,~~~J5 p,~~~.int most,~~~.adr am,~~~jp U,~~~(.lst<|s.map .adr),u] n=.ok %[7|n]:=by
   rw[EN,Xd];show(Wr.of ((JC _) [~~~J9 c,~~~J5 p,~~~.int most,~~~.adr am,~~~jp U,~~~(dr n 05<|.lst<|s.map .adr),u]).strict).bind _=_;rw[A3.read 03];let wk:Wd (jp U)=! U.map jf:=9;let H:Wd (jp<|U.map KL)=!(U.map KL).map jf:=9;let(_,N):=sl;let O:(U.map jf).length<sizeLine:=by rw[Zql];exact G
   let R:((U.map KL).map jf).length<sizeLine:=by rw[Zql,Zql];exact G
   generalize(U.map KL).map jf=fl2 at H l1 R;generalize jp (U.map KL)=du2 at H;generalize jp U=du at wk;generalize U.map jf=fl at wk l2 O;generalize(U.map λt=>D.int<|(t.length:3)+1)=bl_ at l1 l2 N;simp[wk,H,O,R,l1,l2,N]
  rw[c6];let(ys y,ev):=Xj un;let gl:jJ (jp U) (.int<|-1)=! jf y:=by rw[ev];exact Df jf ys y
  rw[M]at J L;let J:V5 [J9 c,.str p.name,.int most]=.ok (jf y):=by
   rw[J];show Res.ok (jf<|U.getLastD [])=_;rw[ev,VG]
  let L:Ke [J9 c,.str p.name,.int most]=.ok (jp U):=L;let sy:=(FZ<|EX 08 y).1;let er:jW (vL<|Wb (jm qk (J8 V5<|J1 (ja 0)<|J1 (qC (jK "Plan" "name")<|ja 1)<|J1 (ja 2) jd)<|jm jJ (ja 04)<|qC xC<|dC<|.int 1)<|jm qk (J8 Ke<|J1 (ja 0)<|J1 (qC (jK "Plan" "name")<|ja 1)<|J1 (ja 2) jd)<|ja 04) [~~~J9 c,~~~J5 p,~~~.int most,~~~.adr am,~~~jp U,~~~(.lst<|s.map .adr),u] n=.ok (.ret (.bl 6) n):=by
   let(se,_):=su;generalize J9 c=bd at J L;generalize J5 p=pd at E;generalize jp U=du at L gl se;generalize jf y=fy at J gl sy;simp[E,J,L,gl,se,sy]
  show(jW _ _ n).need _ _;rw[er];rfl
 .rw[(tt 6 (λ_=>(x,Ue _ y2,y3),λ_=>9)).1];rw[M,Zd 9]at r0 r1;let er:jW (vL<|Wb (jm qk (J8 Kx<|J1 (ja 0)<|J1 (qC (jK "Plan" "name")<|ja 1)<|J1 (ja 2)<|J1 (dC<|.int 0) jd)<|dC<|.int 1)<|jm qk (J8 Kx<|J1 (ja 0)<|J1 (qC (jK "Plan" "name")<|ja 1)<|J1 (ja 2)<|J1 (dC<|.int 1) jd)<|dC<|.int 1) [~~~J9 c,~~~J5 p,~~~.int most,~~~.adr am,~~~jp U,8,8] l=.ok (.ret (.bl 6) l):=by
   generalize J9 c=bd at r0 r1;generalize J5 p=pd at E;simp[E,r0,r1]
  show((jW _ _ l).bind _).need _ _;rw[er];rfl
def aE(a:Yf)(k:5):KR [.lst (a.map .int),.int k]=.ok (.int<|QK a k):=by
 unfold QK;by_cases h:k<a.length
 .let e:xy (a.map D.int) (k:3)=! .int a[k]:=by rw[Z8 (by rwa[Zql]),Zv,Zqg h];rfl
  simp_all[KR,Ba]
 .simp[KR,Ba,h]
def NP:∀k:Fin 04,(reprText<|("p":Str)++jV k.1).length<=400/\(("q":Str)++(("p":Str)++jV k.1)).cps.all (·<128)=6/\(reprText<|("q":Str)++(("p":Str)++jV k.1)).length<=400/\∀i:Fin 04,(("p":Str)++jV i.1).cps.toList≠(("q":Str)++(("p":Str)++jV k.1)).cps.toList:=by decide+kernel
def kW (B:BkP a)(d:∀(k:5)q,a[k]?=!q->q.name="p"++jV k){k:5} (e:a[k]?=!p):KI [J9 a,.str ("q"++p.name)]=.ex "NoPlan" []:=by
 let j:=(B.at e).2.1;let(!_,f,g,h):=NP (k,j);rw[<-d k p e]at f g h;let l:∀q∈a,asc q.name:=λq c=>by let(i,b):=Jh.mp c;exact(B.at b).2.2.1
 rw[Nq f l g];let:a.find? λq=>decide<|q.name="q"++p.name=8:=Jw.mpr λq c z=>by
  let(i,b):=Jh.mp c;let z:=of_decide_eq_true z;rw[d i q b]at z;exact h (i,(B.at b).2.1)<|by rw[z]
 rw[this]
def wT(a:Yf)(h:a.length<=63):ub [.scr a]=.ok (.bl 6):=by
 let(K,hK,k3):∃K:5,1+(if(if 21<(a.length:3)then(a.length:3)-21 else 0)/05<2 then(if 21<(a.length:3)then(a.length:3)-21 else 0)/05 else 2)=(K:3)/\K<=03:=((1+if(if 21<(a.length:3)then(a.length:3)-21 else 0)/05<2 then(if 21<(a.length:3)then(a.length:3)-21 else 0)/05 else 2).toNat,by split<;>split<;>lia,by split<;>split<;>lia);let N:WW [.int (K:3)]=.ok (JY 0 K):=by rw[Cb () ()];rfl
 let ri:wF (J1 (jm jG (dC<|.int 1)<|jq A6<|J1 (dC<|.int 2)<|J1 (jm Ay (jq X5<|J1 (dC<|.int 0)<|J1 (jm za (jq jO<|J1 (ja 0) jd)<|dC<|.int 21) jd)<|dC<|.int 05) jd) jd) [~~~.scr a,8,8,8,8,8]=.ok (JY 0 K):=by
  simp[hK,N]
 unfold ub CY;generalize O:jN (jE 2 _) _=b;let(Q,e,r,s,t,u,f,hs):=WX (tg:=.one 1) (b:=b) (ds:=JY 0 K) (sd:=[~~~.scr a,8,8,8,8,8])
  (P:=λi sd=>∃r s t u f,sd=[~~~.scr a,r,s,t,u,f]) (j0 8 8 8 8 8 9) (by
   rintro i x sd R ⟨r,s,t,u,f,rfl⟩;let(rfl,hi):=X6 R;rw[Int.zero_add];let S:=Eg<|IG (i:=(05:3)) (j:=(i:3)) () ();let(pt,g):∃pt,pt=QC a (! 05*(i:3)) (! 05*(i:3)+21) 8:=(_,9);let F:uP (.scr a) (! 05*(i:3)) (! 05*(i:3)+21) 8=!(.lst<|pt.map .int):=by rw[g];rfl
   let v:=aE pt;let G:KR [.lst (pt.map .int),.int 0]=.ok (.int<|QK pt 0):=v 0;let H:KR [.lst (pt.map .int),.int 1]=.ok (.int<|QK pt 1):=v 1;let(L,hL,l1,l2):∃L:5,1+QK pt 0%03=(L:3)/\1<=L/\L<=03:=((1+QK pt 0%03).toNat,(),(),());let(most,hm,m1,m6):∃most:3,1+QK pt 1/03%06=most/\1<=most/\most<=06:=(_,9,(),());let(-c,lp,B,w,l):=hQ v (n:=L) (m:=04) () () ();let l:Be [.lst (pt.map .int),.int L,.int 04]=.ok (J9 c):=l;let T:∀p∈c,(reprText p.name).length<=400:=λp g=>by
    let(k,I):=Jh.mp g;rw[w k p I];exact(NP (k,(B.at I).2.1)).1
   let(d,h0):∃d,c[0]?=!d:=(c[0],());let z:jK "Book" "plans" (J9 c)=!(.lst<|c.map J5):=9;let A:jJ (.lst<|c.map J5) (.int 0)=! J5 d:=by
    show xy (c.map J5) ((0:5):3)=_;rw[Z8 (by rw[Zql];lia),Zv,h0];rfl
   let J:jK "Plan" "name" (J5 d)=! .str d.name:=9;let M:=aG (most:=most) (kW B w h0)<|(i:3)%2;let U:TxtOk 1 "q":=XF (by decide+kernel);let X:TxtOk 03 d.name:=by rw[w 0 d h0];exact(Na (k:=0) ()).1
   let Y:=C8 U X ();let(Z,o,q,C):=WX (tg:=.one 05) (b:=yc (Q8<|JC<|J8 W3<|J1 (ja 03)<|J1 (ja 05)<|J1 (ja 04) jd) (jP<|dC<|.bl 7) Qz) (ds:=c.map J5) (sd:=[~~~.scr a,~~~.int i,~~~(.lst<|pt.map .int),~~~J9 c,~~~.int most,f])
    (P:=λ_ sd=>∃q,sd=[~~~.scr a,~~~.int i,~~~(.lst<|pt.map .int),~~~J9 c,~~~.int most,q]) (f,9) (by
     rintro k y sd hy ⟨q,rfl⟩;let(p,g,rfl):=KH hy;let E:=fX B T m1 m6 g;calc([~~~.scr a,~~~.int i,~~~(.lst<|pt.map .int),~~~J9 c,~~~.int most,~~~J5 p],?_,_,9);generalize J9 c=bd at E;generalize J5 p=pd at E;simp[E])
   subst C;subst O;calc([~~~.scr a,~~~.int i,~~~(.lst<|pt.map .int),~~~J9 c,~~~.int most,q],?_,_,_,_,_,_,9);generalize D.lst (pt.map .int)=pd at F G H l o;generalize J9 c=bd at l z M o;generalize c.map J5=pl at z A o;generalize J5 d=d0 at A J;simp[S,F,G,H,hL,hm,l,z,o,A,J,Y,M])
 simp_all
end My
set_option maxHeartbeats 4000000
namespace My
open PySem L2 L2.DL
def wM(i:5):Stmt:=PySem.Challenge.pw_allfirst_k50_forms_of_plans.main.body.getD i<|.Pass (0,0,0,0)
noncomputable abbrev tbl:List (Str×5):=List.zip (List.map Str.ofString ["_law_cell_at","_law_take","_law_wait","_law_items","_law_plan","_law_book","fits_in","is_covered","joined","each_joined","lowest","form_within","all_of","first_of","shifted","waited","put_into_row","put_into","made_form","plan_by","thing_form","forms_knowing","forms_of","told_form","_law_refused","_law_pairs","_law_beneath","_law_thin","_law_all","_law_first","_law_moved","_law_put","_law_forms","_law_whole","_law_is_form","_law_right"]) [30,31,32,33,34,35,05,09,06,17,08,18,14,13,07,12,16,15,27,22,11,26,24,25,45,40,37,38,41,42,39,43,44,29,46,47]
noncomputable abbrev bl:Yi:=List.map Str.ofString ["all","any","bool","dict","int","isinstance","len","list","max","min","range","set","sorted","str","tuple"]
structure All(e:Ev):4 extends Al e wM tbl bl where
 x_NoPlan:Exc e.K e.mg "NoPlan" (e.C 0)
 x_TooMany:Exc e.K e.mg "TooMany" (e.C 1)
 m_NoPlan_TooMany:W.subIn e.K (.ref<|e.C 0) (.ref<|e.C 1)=!7
 k_Book:ClsD e.K e.mg "Book" (e.C 2) ["plans"]
 l_Book:∃f fd,Mk e.K (e.C 2) f/\Fun e.K "__init__" "Book.__init__" (Bq (wM 21) 0) f fd
 k_Plan:ClsD e.K e.mg "Plan" (e.C 03) ["name","givens","rows"]
 l_Plan:∃f fd,Mk e.K (e.C 03) f/\Fun e.K "__init__" "Plan.__init__" (Bq (wM 20) 0) f fd
def cj(a:All e):tz e.P e.w e.K e.mg e.base "Book" ["plans"] 1 ["self","plans"] Fj:=by
 let(f,d,c,b):=a.l_Book;let m:=a.m;let k:=a.k_Book;exact(_,_,_,k,c,fQ (k:=0) (N:=["plans"]) (g:=J1 (jq Ww<|J1 (ja 1) jd) jd) b (JS (N:=["self","plans"])) (by decide) (by decide) λ_ _ _ _ _ _ h=>Co k (by decide) (pv 0) (j6<|X0 (x:="list") Ea 9 (JG m) Ac<|J3 (qv 1) J6) Mg,b.binds λ_ _ _ _ _ _=>nL λ_ _=>9)
def cw(a:All e):tz e.P e.w e.K e.mg e.base "Plan" ["name","givens","rows"] 1 ["self","name","givens","rows"] Fk:=by
 let(f,d,c,b):=a.l_Plan;let m:=a.m;let k:=a.k_Plan;exact(_,_,_,k,c,fQ (k:=0) (N:=["name","givens","rows"]) (g:=J1 (ja 1)<|J1 (jq Ww<|J1 (ja 2) jd)<|J1 (jq Ww<|J1 (ja 03) jd) jd) b (JS (N:=["self","name","givens","rows"])) (by decide) (by decide) λ_ _ _ _ _ _ h=>Co k (by decide) (pv 0) (qv 1)<|Co k (by decide) (pv 0) (j6<|X0 (x:="list") Ea 9 (JG m) Ac<|J3 (qv 2) J6)<|Co k (by decide) (pv 0) (j6<|X0 (x:="list") Ea 9 (JG m) Ac<|J3 (qv 03) J6) Mg,b.binds λ_ _ _ _ _ _=>nK λ_ _ _ _=>9)
def NQ(a:All e):Ca e "_law_cell_at" 1 ["script","k"] (zD e.K KR):=
 xL a.toAl 0 30 λF=>yw (N:=["script","k"]) (g:=Ba) F JS λ_ _ _ _ _ _ b=>by
 let m:=a.m;unfold Ba;exact JV (Kt (Qu rL (qv 1) (Qc (x:="len") Kw 9 (JG m) Kn<|J3 (qv 0) J6)<|Qi _) (JJ<|Q4<|Q0 (Qk b) (qv 0) (qv 1) (λ_ _=>9)<|λ_ _=>9) Kr)<|JJ<|Q4 JA
def Ga(a:All e):Ca e "_law_take" 1 ["pot","many"] (zm e.K KS):=
 xL a.toAl 1 31 λF=>Cs (N:=["pot","many","digit"]) (g:=CD) F JS λ_ _ _ _ _ _ b=>by
 unfold CD;exact WH (m:=8) (EH j9 9 (.inl 9)<|X8 X3 (Mq (qv 0) JA<|λ_ _=>9)<|Kk<|qv 1)<|WH (m:=8) (lh (qv 0) JA<|X8 pK (Mq (qv 0) JA<|λ_ _=>9)<|Kk<|qv 1)<|AQ<|Kk<|qv 2
def cm(a:All e):Ca e "_law_wait" 2 ["pot"] (zm e.K CF):=
 xL a.toAl 2 32 λF=>Cs (N:=["pot"]) (g:=Bb) F JS λ_ _ _ _ _ _ c=>by
 let b:=(Ga a).mono (k:=1) ();unfold Bb;exact kQ (pW zy (Wl b c 9<|J3 (qv 0)<|J3 JA J6) (Kk JA)<|Qi _) (AQ<|X8 Az (Wl b c 9<|J3 (qv 0)<|J3 JA J6)<|Kk JA)<|AQ<|X8 Az (Wl b c 9<|J3 (qv 0)<|J3 (jL Az (jL A0 JA<|jL Y6 JA JA) JA) J6)<|Kk<|jL Az (jL Y6 JA JA) JA
def c8(a:All e):Ca e "_law_items" 03 ["pot","many","count"] (zm e.K Fp):=
 xL a.toAl 03 33 λF=>Cs (N:=["pot","many","count","items","k","thing"]) (g:=CG) F JS λ_ _ _ _ _ _ d=>by
 let m:=a.m;let b:=(Ga a).mono (k:=2) ();let c:=(cm a).mono (k:=2) ();unfold CG;exact WH (m:=8) (V2<|Ks j9 9 (.inl 9)<|KE J6)<|WH (m:=8) (dR PassesOwn.never 9 (YM 9 (JG m)<|J3 (qv 2) J6) (JX<|Qh j9 9<|.inl 9)<|WG (EH j9 9 (.inl 9)<|Wl b d 9<|J3 (qv 0)<|J3 (qv 1) J6)<|EB<|pH (pv 03) (Mr<|X9 (Kk<|qv 05)<|X9 (Wl c d 9<|J3 (qv 0) J6) EG)<|λf h=>Km Yv Yw Yx K3 f h)<|Mv<|AQ<|Kk<|WT (x:="tuple") A7 9 (JG m) Xv<|J3 (qv 03) J6
def cb(a:All e):Ca e "_law_plan" 04 ["script","start","name","ahead","most_rows"] (zm e.K CI):=
 xL a.toAl 04 34 λF=>Cs (N:=["script","start","name","ahead","most_rows","pot","givens","rows","used","k","cell","how","count","part"]) (g:=CH) F JS λ_ _ _ _ _ _ f=>by
 let m:=a.m;let c:=(NQ a).mono (k:=03) ();let i:=(c8 a).mono (k:=03) ();let b:=(Ga a).mono (k:=03) ();let d:=a.k_Plan;let h:=cw a;unfold CH
 exact WH (m:=8) (V2<|Ks j9 9 (.inl 9)<|KE<|J3 (jL X3 (qE c f 9<|J3 (qv 0)<|J3 (qv 1) J6)<|jL Y6 JA JA) J6)<|WH (m:=8) (V2<|EI j9 9 (.inl 9)<|YU<|X8 Qq (Kk JA)<|Wl b f 9<|J3 (qv 05)<|J3 JA J6)<|WH (m:=8) (V2<|Ks j9 9 (.inl 9)<|KE J6)<|WH (m:=8) (EH j9 9 (.inl 9)<|Mw [03]<|Y3 (gG f.units) (qv 03) (j6<|KE J6)<|Qi _)<|WH (m:=8) (pb PassesOwn.never 9 9 (JG m) (YU<|X8 Qq (Kk JA)<|Wl b f 9<|J3 (qv 05)<|J3 (qv 04) J6) (JX<|Qh j9 9<|.inl 9)<|WG (V2<|Ks j9 9 (.inl 9)<|KE<|J3 (jL Qq (jL A0 (jL X3 (qE c f 9<|J3 (qv 0)<|J3 (jL Qq (jL Qq (qv 1) JA)<|qv 09) J6)<|jL Y6 JA JA)<|jL Y6 JA JA)<|jL X3 (qE c f 9<|J3 (qv 0)<|J3 (qv 1) J6)<|jL Y6 JA JA) J6)<|WG (V2<|EI j9 9 (.inl 9)<|YU<|pA gQ (Kk<|j6<|KE<|J3 Ko<|J3 Ko<|J3 Ko<|J3 Ko<|J3 Ko J6) (Wl b f 9<|J3 (qv 10)<|J3 JA J6)<|λ_ _=>9)<|WG (V2<|EI j9 9 (.inl 9)<|YU<|X8 Qq (Kk JA)<|Wl b f 9<|J3 (qv 10)<|J3 JA J6)<|WG (V2<|Kt (yT<|R6 (Qu (xx f.units) (qv 11) Ko<|Qi _)<|R5<|Kq<|qv 08) (JJ<|Q9 j9 9 (.inl 9) Ko) Kr)<|WG (kY (pZ<|Qu (xx f.units) (qv 11) Ko<|Qi _) (WG (V2<|Q9 j9 9 (.inl 9) Ki)<|WG (lu j9 9 (.inl 9)<|cF<|cO (Kk<|qv 03) (lU b f 9<|X9 (Kk<|qv 10)<|X9 (Mw [03]<|Qc (x:="len") Kw 9 (JG m) Kn<|J3 (qv 03) J6) EG)<|λ_ _=>9)<|WG (V2<|Q9 j9 9 (.inl 9)<|QU d (by decide)<|qv 13)<|EB<|V2<|Q9 j9 9 (.inl 9)<|Qc (x:="len") Kw 9 (JG m) Kn<|J3 (QU d (by decide)<|qv 13) J6) cG)<|EB<|V2<|Mu (pv 07) (YU<|Mr<|X9 (Kk<|jL Qq Ko<|WT (x:="str") E9 9 (JG m) D5<|J3 (qv 09) J6)<|X9 (Kk<|qv 11)<|X9 (Wl i f 9<|J3 (qv 10)<|J3 (jL Qq (qv 06)<|qv 09)<|J3 (qv 12) J6) EG)<|λj l=>Km Yv Yw Yx K3 j l)<|Mv<|AQ<|Kk<|j6<|Mh h (f.mono ()) 9<|J3 (qv 2)<|J3 (j6<|Kv ["k"] [8] 9 9 (YM 9 (JG m)<|J3 (qv 06) J6) (λ_ _ _ _ _=>JX<|xH 0 j9)<|λ_ _ _ _ _=>jL Qq Ko<|WT (x:="str") E9 9 (JG m) D5<|J3 (qv 0) J6)<|J3 (qv 07) J6
def cK(a:All e):Ca e "_law_book" 05 ["script","plans","most_rows"] (wI e.K Be):=
 xL a.toAl 05 35 λF=>zT (N:=["script","plans","most_rows","found","k"]) (g:=CJ) F JS λ_ _ _ _ _ _ d=>by
 let m:=a.m;let c:=(cb a).mono (k:=04) ();let b:=cj a;unfold CJ;exact JV (Ks j9 9 (.inl 9)<|KE J6)<|JV (Ku PassesOwn.never 9 (YM 9 (JG m)<|J3 (qv 1) J6) (JX<|Qh j9 9<|.inl 9)<|JJ<|Mu (pv 03) (YU<|Wl c d 9<|J3 (qv 0)<|J3 (jL Qq JA<|jL A0 (qv 04)<|jL Qq (qv 2) JA)<|J3 (jL Qq Ko<|WT (x:="str") E9 9 (JG m) D5<|J3 (qv 04) J6)<|J3 (qv 03)<|J3 (qv 2) J6)<|λf h=>Km Yv Yw Yx K3 f h)<|JJ<|X1 [03]<|WU<|Mh b (d.mono ()) 9<|J3 (qv 03) J6
def gC(a:All e):Ca e "fits_in" 1 ["row","waits"] (zD e.K uE):=
 xL a.toAl 06 05 λF=>yw (N:=["row","waits","thing","wait"]) (g:=uD) F JS λ_ _ _ _ _ _ b=>by
 unfold uD;exact JV (Ku PassesOwn.never 9 (JQ<|qv 0) (We [2,03]<|V9 9<|Qx (Qh j9 9<|.inl 9)<|Qx (Qh j9 9<|.inl 9) V8)<|JJ<|Kt (yT<|Y4 (DX b.units (qv 2)<|qv 1)<|An<|Qu zy (qv 03) (Q0 (Qk b) (qv 1) (qv 2) (λ_ _=>9)<|λ_ _=>9)<|Qi _) (JJ<|Q4 Ki) Kr)<|JJ<|Q4 Ki
def NR(a:All e):Ca e "is_covered" 2 ["row","kept"] (zD e.K xP):=
 xL a.toAl 07 09 λF=>yw (N:=["row","kept","waits","other"]) (g:=vO) F JS λ_ _ _ _ _ _ c=>by
 let m:=a.m;let b:=(gC a).mono (k:=1) ();unfold vO;exact JV (Q9 j9 9 (.inl 9)<|j6<|X0 (x:="dict") (BV 9) 9 (JG m) Bw<|J3 (qv 0) J6)<|JV (Ku PassesOwn.never 9 (JQ<|qv 1) (JX<|Qh j9 9<|.inl 9)<|JJ<|Kt (Kq<|qE b c 9<|J3 (qv 03)<|J3 (qv 2) J6) (JJ<|Q4 Ki) Kr)<|JJ<|Q4 Ki
def gB(a:All e):Ca e "joined" 1 ["row","other"] (zD e.K wA):=
 xL a.toAl 08 06 λF=>yw (N:=["row","other","waits","thing","wait"]) (g:=vR) F JS λ_ _ _ _ _ _ b=>by
 let m:=a.m;unfold vR;exact JV (Ks j9 9 (.inl 9)<|X0 (x:="dict") (BV 9) 9 (JG m) Bw<|J3 (qv 0) J6)<|JV (Ku PassesOwn.never 9 (JQ<|qv 1) (We [03,04]<|V9 9<|Qx (Qh j9 9<|.inl 9)<|Qx (Qh j9 9<|.inl 9) V8)<|JJ<|Iu (Qk b) (pv 2) (qv 03)<|Qc (x:="max") (DZ 9) 9 (JG m) Xu<|J3 (qv 04)<|J3 (Aq [2]<|Ir (Qk b) (qv 2) (qv 03) (qv 04) (9,9,9,9)) J6)<|JJ<|X1 [2]<|Q4<|WT (x:="tuple") A7 9 (JG m) Xv<|J3 (Ix (λh=>ZV (HF 9) 9 (JG m) Ab<|Wa (Gz PySem.F.plainAttrs_dict PySem.F.slot_dict_items PySem.F.type_dict_items HE h) VZ)<|qv 2) J6
def cE(a:All e):Ca e "each_joined" 03 ["form","other"] (wI e.K Bf):=
 xL a.toAl 09 17 λF=>zT (N:=["form","other","rows","rest","row"]) (g:=CK) F JS λ_ _ _ _ _ _ c=>by
 let m:=a.m;let b:=(NR a).mono (k:=2) ();let d:=(gB a).mono (k:=2) ();unfold CK;exact JV (Ks j9 9 (.inl 9)<|kT cy (j6<|Ee ["row","other"] [8,!1] 9 9 (JQ<|qv 0) (λ_ _ _ _ _=>JX<|xH 0 j9) (λ_ _ _ _ _=>Kq<|qE b c 9<|J3 (qv 0)<|J3 (qv 1) J6)<|λ_ _ _ _ _=>qv 0)<|j6<|Ee ["row","form"] [8,!0] 9 9 (JQ<|qv 1) (λ_ _ _ _ _=>JX<|xH 0 j9) (λ_ _ _ _ _=>Kq<|qE b c 9<|J3 (qv 0)<|J3 (qv 1) J6)<|λ_ _ _ _ _=>qv 0)<|JV (Sk ["row","form"] [8,!0] j9 9 (.inl 9) 9 9 (JQ<|qv 1) (λ_ _ _ _ _=>JX<|xH 0 j9) (λ_ _ _ _ _=>KZ<|Kq<|qE b c 9<|J3 (qv 0)<|J3 (qv 1) J6)<|λ_ _ _ _ _=>qv 0)<|JV (Ku PassesOwn.never 9 (JQ<|qv 0) (JX<|Qh j9 9<|.inr 9)<|JJ<|Kt (KZ<|Kq<|qE b c 9<|J3 (qv 04)<|J3 (qv 1) J6) (JJ<|R8 (pv 2) (Kv ["other_row","row"] [8,!04] 9 9 (JQ<|qv 03) (λ_ _ _ _ _=>JX<|xH 0 j9)<|λ_ _ _ _ _=>qE d c 9<|J3 (qv 1)<|J3 (qv 0) J6)<|λf h=>Km Yv PySem.F.slot_list_extend PySem.F.type_list_extend OZ f h) Kr)<|JJ<|BM<|pv 2
def gz(a:All e):Ca e "lowest" 03 ["rows","enough"] (wI e.K vS):=
 xL a.toAl 10 08 λF=>zT (N:=["rows","enough","kept","row"]) (g:=vP) F JS λ_ _ _ _ _ _ c=>by
 let m:=a.m;let b:=(NR a).mono (k:=2) ();unfold vP;exact JV (Ks j9 9 (.inl 9)<|KE J6)<|JV (Ku PassesOwn.never 9 (JQ<|j6<|TU (λh=>L2.ST.pe_sortLen 9 (JG m) 9 (JG m) h)<|J3 (j6<|TH (λh=>ZV (L2.ST.call_sortedSet 9 c.units) 9 (JG m) Ab<|Wa (Ds (L2.ST.call_setRows 9 c.units) 9 (JG m) L2.bt_set h) VZ)<|J3 (qv 0) J6) J6) (JX<|Qh j9 9<|.inl 9)<|JV (Kt (Qu (xx c.units) (Aq [2]<|Qc (x:="len") Kw 9 (JG m) Kn<|J3 (qv 2) J6) (qv 1)<|Qi _) (JJ R7) Kr)<|JJ<|Kt (KZ<|Kq<|Aq [2]<|qE b c 9<|J3 (qv 03)<|J3 (qv 2) J6) (JJ<|DP (pv 2) (qv 03)<|λd f=>Km Yv Yw Yx K3 d f) Kr)<|JJ<|BM<|pv 2
def NS(a:All e):zM e "form_within" 04 ["rows","most"] (zB e.K QZ):=
 yt a.toAl 11 18 λF=>AH (N:=["rows","most","kept"]) (g:=Bg) F JS λ_ _ _ _ _ _ d=>by
 let m:=a.m;let c:=(gz a).mono (k:=03) ();let b:=a.x_TooMany;unfold Bg;exact JV (Q9 j9 9 (.inl 9)<|j6<|AG c d 9<|J3 (qv 0)<|J3 (jL Qq (qv 1) JA) J6)<|JV (Kt (Qu zy (Qc (x:="len") Kw 9 (JG m) Kn<|J3 (qv 2) J6) (qv 1)<|Qi _) (JJ<|Mb LZ b 9 9<|kX (by decide)<|qv 1) Kr)<|JJ<|WU<|HS (x:="sorted") (IQ d.units) 9 (JG m) Ab<|J3 (qv 2) J6
def NT(a:All e):zM e "all_of" 05 ["forms","most"] (zB e.K zo):=
 yt a.toAl 12 14 λF=>AH (N:=["forms","most","told","form"]) (g:=vg) F JS λ_ _ _ _ _ _ d=>by
 let c:=(cE a).mono (k:=04) ();let b:=(NS a).mono (k:=04) ();unfold vg;exact JV (Ks j9 9 (.inl 9)<|Wy b KF d 9<|J3 (Q0 (Qk d) (qv 0) JA (λ_ _=>9)<|λ_ _=>9)<|J3 (qv 1) J6)<|JV (Ku Cm 9 (JQ<|j6<|AC (qv 0) (YN JA) WF WF) (JX<|Qh j9 9<|.inl 9)<|JJ<|X1 [2]<|Ks j9 9 (.inl 9)<|Wy b KF d 9<|J3 (j6<|AG c d 9<|J3 (qv 2)<|J3 (qv 03) J6)<|J3 (qv 1) J6)<|JJ<|BM<|pv 2
def NU(a:All e):zM e "first_of" 05 ["forms","most"] (zB e.K zp):=
 yt a.toAl 13 13 λF=>AH (N:=["forms","most","told","form"]) (g:=vh) F JS λ_ _ _ _ _ _ c=>by
 let b:=(NS a).mono (k:=04) ();unfold vh;exact JV (Ks j9 9 (.inl 9)<|Wy b KF c 9<|J3 (Q0 (Qk c) (qv 0) JA (λ_ _=>9)<|λ_ _=>9)<|J3 (qv 1) J6)<|JV (Ku Cm 9 (JQ<|j6<|AC (qv 0) (YN JA) WF WF) (JX<|Qh j9 9<|.inl 9)<|JJ<|X1 [2]<|Ks j9 9 (.inl 9)<|Wy b KF c 9<|J3 (jL Qq (qv 2)<|qv 03)<|J3 (qv 1) J6)<|JJ<|BM<|pv 2
def gA(a:All e):Ca e "shifted" 1 ["row","wait"] (zD e.K vj):=
 xL a.toAl 14 07 λF=>yw (N:=["row","wait"]) (g:=vQ) F JS λ_ _ _ _ _ _ b=>by
 let m:=a.m;unfold vQ;exact JJ<|Q4<|WT (x:="tuple") A7 9 (JG m) Xv<|J3 (j6<|Kv ["thing","own","wait"] [8,8,!1] 9 9 (JQ<|qv 0) (λ_ _ _ _ _=>We [0,1]<|V9 9<|Qx (xH 0 j9)<|Qx (xH 1 j9) V8)<|λ_ _ _ _ _=>WS<|J3 (qv 0)<|J3 (jL Qq (qv 1)<|qv 2) J6) J6
def NV(a:All e):Ca e "waited" 2 ["form","wait"] (wI e.K yD):=
 xL a.toAl 15 12 λF=>zT (N:=["form","wait"]) (g:=vN) F JS λ_ _ _ _ _ _ c=>by
 let b:=(gA a).mono (k:=1) ();unfold vN;exact JJ<|WU<|Kv ["row","wait"] [8,!1] 9 9 (JQ<|qv 0) (λ_ _ _ _ _=>JX<|xH 0 j9)<|λ_ _ _ _ _=>qE b c 9<|J3 (qv 0)<|J3 (qv 1) J6
def cx(a:All e):zM e "put_into_row" 06 ["row","forms","most"] (zB e.K Wq):=
 yt a.toAl 16 16 λF=>AH (N:=["row","forms","most"]) (g:=CO) F JS λ_ _ _ _ _ _ d=>by
 let b:=(NT a).mono (k:=05) ();let c:=(NV a).mono (k:=05) ();unfold CO;exact JJ<|WU<|Wy b KF d 9<|J3 (j6<|Kv ["thing","wait","forms"] [8,8,!1] 9 9 (JQ<|qv 0) (λ_ _ _ _ _=>We [0,1]<|V9 9<|Qx (xH 0 j9)<|Qx (xH 1 j9) V8)<|λ_ _ _ _ _=>j6<|AG c d 9<|J3 (Q0 (Qk d) (qv 2) (qv 0) (λ_ _=>9)<|λ_ _=>9)<|J3 (qv 1) J6)<|J3 (qv 2) J6
def gw(a:All e):zM e "put_into" 07 ["form","forms","most"] (zB e.K yC):=
 yt a.toAl 17 15 λF=>AH (N:=["form","forms","most"]) (g:=vf) F JS λ_ _ _ _ _ _ d=>by
 let c:=(NU a).mono (k:=06) ();let b:=(cx a).mono (k:=06) ();unfold vf;exact JJ<|WU<|Wy c KF d 9<|J3 (j6<|cV ["row","forms","most"] [8,!1,!2] 9 9 (JQ<|qv 0) (λ_ _ _ _ _=>JX<|xH 0 j9)<|λ_ _ _ _ _ f=>j6<|Wy b (av 9 9 9 aw f) d 9<|J3 (qv 0)<|J3 (qv 1)<|J3 (qv 2) J6)<|J3 (qv 2) J6
def cs(a:All e):zM e "plan_by" 1 ["book","name"] (zC e.K KI):=
 yt a.toAl 19 22 λF=>Ma (N:=["book","name","plan"]) (g:=Bj) F JS λ_ _ _ _ _ _ f=>by
 let b:=a.x_NoPlan;let c:=a.k_Book;let d:=a.k_Plan;unfold Bj;exact JV (Ku Cm 9 (JQ<|QU c (by decide)<|qv 0) (JX<|Qh j9 9<|.inl 9)<|JJ<|Kt (Qu (xx f.units) (QU d (by decide)<|qv 2) (qv 1)<|Qi _) (JJ<|Q4<|qv 2) Kr)<|JJ<|Mb LZ b 9 9<|cC<|cq<|cZ (qv 1) cu
def gy(a:All e):Ca e "thing_form" 1 ["thing"] (wI e.K vi):=
 xL a.toAl 20 11 λF=>zT (N:=["thing"]) (g:=uC) F JS λ_ _ _ _ _ _ b=>by
 unfold uC;exact JJ<|WU<|KE<|J3 (WS<|J3 (WS<|J3 (qv 0)<|J3 JA J6) J6) J6
def NW(a:All e)(c:zM e "forms_knowing" (07+k) ["book","name","most","known"] (yA e.K<|V4 j)):zM e "made_form" (07+k+1) ["book","how","forms","most","known"] (yA e.K<|Xk j):=
 yt a.toAl 18 27 λF=>MA (N:=["book","how","forms","most","known"]) (g:=Bi<|V4 j) F JS λ_ _ _ _ _ _ b=>by
 let d:=(NT a).mono (k:=07+k) ();let f:=(NU a).mono (k:=07+k) ();let h:=(gw a).mono (k:=07+k) ();unfold Bi;exact JZ (KQ (YX<|Qu (xx b.units) (qv 1) Ko<|Qi _) (Qm<|Kc<|AV 06 [2]<|Wy d KF b 9<|J3 (qv 2)<|J3 (qv 03) J6) Wm)<|JZ (KQ (YX<|Qu (xx b.units) (qv 1) Ko<|Qi _) (Qm<|Kc<|AV 06 [2]<|Wy f KF b 9<|J3 (qv 2)<|J3 (qv 03) J6) Wm)<|JZ (KQ (XC 06 [04]<|DX b.units (qv 1)<|qv 04) (Qm<|pM (Qk b) (JH<|qv 04) (JH<|qv 1)<|kP (C0 c KF b 9<|JN (JH<|qv 0)<|JN (JH<|qv 1)<|JN (JH<|qv 03)<|JN (JH<|qv 04) K9) (JH<|wf Y7 JA)<|λ_ _=>9) Wm)<|Qm<|Kc<|AV 06 [2,04]<|Wy h KF b 9<|J3 (Q0 (Qk b) (qv 04) (qv 1) (λ_ _=>9)<|λ_ _=>9)<|J3 (qv 2)<|J3 (qv 03) J6
def pC(a:All e)(c:zM e "made_form" (07+k) ["book","how","forms","most","known"] (yA e.K<|Xk j)):zM e "forms_knowing" (07+k+1) ["book","name","most","known"] (yA e.K<|V4<|j+1):=
 yt a.toAl 21 26 λF=>MA (N:=["book","name","most","known","plan","told","made","how","items","forms"]) (g:=ZL<|Xk j) F JS λ_ _ _ _ _ _ f=>by
 let m:=a.m;let d:=(cs a).mono (k:=07+k) ();let h:=(gy a).mono (k:=07+k) ();let i:=(NV a).mono (k:=07+k) ();let b:=a.k_Plan;unfold ZL;exact JZ (V3 (m:=!7)<|Q9 j9 9 (.inl 9)<|Ck d KF f 9<|J3 (qv 0)<|J3 (qv 1) J6)<|JZ (YY j9 9 (.inr 9)<|cN ["thing"] [8] 9 9 (YM 9 (JG m)<|J3 (Qc (x:="len") Kw 9 (JG m) Kn<|J3 (QU b (by decide)<|qv 04) J6) J6) (λ_ _ _ _ _=>JX<|xH 0 j9)<|λ_ _ _ _ _=>AV 06 []<|AG h f 9<|J3 (qv 0) J6)<|JZ (Z1 Cm 9 (JQ<|QU b (by decide)<|qv 04) (We [06,07,08]<|V9 9<|Qx (Qh j9 9<|.inl 9)<|Qx (Qh j9 9<|.inl 9)<|Qx (Qh j9 9<|.inl 9) V8)<|JZ (ay ["thing","wait","told"] [8,8,!05] j9 9 (.inl 9) 9 9 (JQ<|qv 08) (λ_ _ _ _ _=>We [0,1]<|V9 9<|Qx (xH 0 j9)<|Qx (xH 1 j9) V8)<|λ_ _ _ _ _=>AV 06 [2]<|AG i f 9<|J3 (Q0 (Qk f) (qv 2) (qv 0) (λ_ _=>9)<|λ_ _=>9)<|J3 (qv 1) J6)<|Qm<|YZ (JH<|qv 05) (C0 c KF f 9<|JN (JH<|qv 0)<|JN (JH<|qv 07)<|JN (JH<|qv 09)<|JN (JH<|qv 2)<|JN (JH<|qv 03) K9)<|λl n=>Km Yv Yw Yx K3 l n)<|Qm<|Kc<|JH<|qv 05
theorem NX(a:All e):∀j,zM e "forms_knowing" (07+2*j) ["book","name","most","known"] (yA e.K<|V4 j)
 |0=>yt a.toAl 21 26 λ_=>cU
 |j+1=>pC (k:=2*j+1) a (NW (k:=2*j+0) a<|NX a j)
def Gb(a:All e):zM e "forms_knowing" 15 ["book","name","most","known"] (yA e.K<|V4 04):=NX a 04
def rJ(a:All e):zM e "made_form" 16 ["book","how","forms","most","known"] (yA e.K<|Xk 04):=NW (k:=08) a<|Gb a
def Gc(a:All e):zM e "forms_of" 16 ["book","name","most"] (zC e.K Ke):=
 yt a.toAl 22 24 λF=>cI (kk:=06) (hw:=kh) (hx:=uY) (N:=["book","name","most"]) (g:=WJ) F JS λ_ _ _ _ _ _ c=>by
 let b:=(Gb a).mono (k:=15) ();unfold WJ;exact Qm<|Kc<|C0 b KF c 9<|JN (JH<|qv 0)<|JN (JH<|qv 1)<|JN (JH<|qv 2)<|JN M9 K9
def pF(a:All e):Ca e "forms_of" 16 ["book","name","most"] (wH e.K F8):=
 xL a.toAl 22 24 λF=>wU (N:=["book","name","most"]) (g:=F7) F JS λ_ _ _ _ _ _ c=>by
 let b:=(Gb a).mono (k:=15) ();unfold F7;exact Qm<|Kc<|C0 b E3 c 9<|JN (JH<|qv 0)<|JN (JH<|qv 1)<|JN (JH<|qv 2)<|JN M9 K9
def NY(a:All e):zM e "told_form" 17 ["book","name","most"] (zC e.K V5):=
 yt a.toAl 23 25 λF=>Ma (N:=["book","name","most"]) (g:=ZM) F JS λ_ _ _ _ _ _ c=>by
 let b:=(Gc a).mono (k:=16) ();unfold ZM;exact JJ<|Q4<|Q0 (Qk c) (Ck b KF c 9<|J3 (qv 0)<|J3 (qv 1)<|J3 (qv 2) J6) (wf Y7 JA) (λ_ _=>9)<|λ_ _=>9
def NZ(a:All e):Ca e "_law_refused" 18 ["book","name","most","which"] (zD e.K Kx):=
 xL a.toAl 24 45 λF=>yw (N:=["book","name","most","which","refused"]) (g:=WK) F JS λ_ _ _ _ _ _ i=>by
 let f:=(Gc a).mono (k:=17) ();let h:=(NY a).mono (k:=17) ();let d:=a.x_NoPlan;let c:=a.x_TooMany;let b:=a.m_NoPlan_TooMany;unfold WK;exact JV (Q9 j9 9 (.inl 9) JA)<|JV (lw 9 9 (kR (Qu (xx i.units) (qv 03) JA<|Qi _) (Md f i 9<|J3 (qv 0)<|J3 (qv 1)<|J3 (qv 2) J6)<|Md h i 9<|J3 (qv 0)<|J3 (qv 1)<|J3 (qv 2) J6) c d b 9 9 (λ_=>JJ<|Q9 j9 9 (.inl 9) JA)<|λ_=>JJ<|Q9 j9 9 (.inl 9) JA)<|JJ<|Q4<|qv 04
def cA(a:All e):Ca e "_law_pairs" 1 ["row","other"] (zD e.K XI):=
 xL a.toAl 25 40 λF=>yw (N:=["row","other","waits","thing","wait"]) (g:=F9) F JS λ_ _ _ _ _ _ b=>by
 let m:=a.m;unfold F9;exact JV (Ks j9 9 (.inl 9)<|X0 (x:="dict") (BV 9) 9 (JG m) Bw<|J3 (qv 0) J6)<|JV (Ku PassesOwn.never 9 (JQ<|qv 1) (We [03,04]<|V9 9<|Qx (Qh j9 9<|.inl 9)<|Qx (Qh j9 9<|.inl 9) V8)<|JJ<|Iu (Qk b) (pv 2) (qv 03)<|Qc (x:="max") (DZ 9) 9 (JG m) Xu<|J3 (qv 04)<|J3 (Aq [2]<|Ir (Qk b) (qv 2) (qv 03) (qv 04) (9,9,9,9)) J6)<|JJ<|X1 [2]<|Q4<|WT (x:="tuple") A7 9 (JG m) Xv<|J3 (Ix (λh=>ZV (HF 9) 9 (JG m) Ab<|Wa (Gz PySem.F.plainAttrs_dict PySem.F.slot_dict_items PySem.F.type_dict_items HE h) VZ)<|qv 2) J6
def cB(a:All e):Ca e "_law_beneath" 1 ["row","other"] (zD e.K Xl):=
 xL a.toAl 26 37 λF=>yw (N:=["row","other","waits","thing","wait"]) (g:=CP) F JS λ_ _ _ _ _ _ b=>by
 let m:=a.m;unfold CP;exact JV (Q9 j9 9 (.inl 9)<|j6<|X0 (x:="dict") (BV 9) 9 (JG m) Bw<|J3 (qv 1) J6)<|JV (Ku PassesOwn.never 9 (JQ<|qv 0) (We [03,04]<|V9 9<|Qx (Qh j9 9<|.inl 9)<|Qx (Qh j9 9<|.inl 9) V8)<|JJ<|Kt (yT<|Y4 (DX b.units (qv 03)<|qv 2)<|An<|Qu zy (qv 04) (Q0 (Qk b) (qv 2) (qv 03) (λ_ _=>9)<|λ_ _=>9)<|Qi _) (JJ<|Q4 Ki) Kr)<|JJ<|Q4 Ki
def Oa(a:All e):Ca e "_law_thin" 2 ["rows"] (wI e.K V6):=
 xL a.toAl 27 38 λF=>zT (N:=["rows","least","row"]) (g:=CQ) F JS λ_ _ _ _ _ _ c=>by
 let m:=a.m;let b:=(cB a).mono (k:=1) ();unfold CQ;exact JV (Ks j9 9 (.inl 9)<|KE J6)<|JV (Ku PassesOwn.never 9 (JQ<|qv 0) (JX<|Qh j9 9<|.inr 9)<|JJ<|Kt (KZ<|Kq<|Aq [1]<|Qc (x:="any") (bK 9) 9 (JG m) Sz<|J3 (j6<|Kv ["one","row"] [8,!2] 9 9 (JQ<|qv 1) (λ_ _ _ _ _=>JX<|xH 0 j9)<|λ_ _ _ _ _=>qE b c 9<|J3 (qv 0)<|J3 (qv 1) J6) J6) (JV (X1 [1]<|Sl ["one","row"] [8,!2] j9 9 (.inl 9) 9 9 (JQ<|qv 1) (λ_ _ _ _ _=>JX<|xH 0 j9) (λ_ _ _ _ _=>KZ<|Kq<|qE b c 9<|J3 (qv 1)<|J3 (qv 0) J6)<|λ_ _ _ _ _=>qv 0)<|JJ<|DP (pv 1) (qv 2)<|λd f=>Km Yv Yw Yx K3 d f) Kr)<|JJ<|X1 [1]<|WU<|HS (x:="sorted") (IQ c.units) 9 (JG m) Ab<|J3 (qv 1) J6
def Ob(a:All e):Ca e "_law_all" 03 ["parts","most","met"] (wH e.K W2):=
 xL a.toAl 28 41 λF=>wU (N:=["parts","most","met","made","part","rows","row"]) (g:=CS) F JS λ_ _ _ _ _ _ d=>by
 let m:=a.m;let b:=(cA a).mono (k:=2) ();let c:=(Oa a).mono (k:=2) ();unfold CS;exact JZ (V3 (m:=!7)<|Q9 j9 9 (.inl 9)<|Q0 (Qk d) (qv 0) JA (λ_ _=>9)<|λ_ _=>9)<|JZ (YZ (JH<|qv 2) (JH<|Qc (x:="len") Kw 9 (JG m) Kn<|J3 (qv 03) J6)<|λf h=>Km Yv Yw Yx K3 f h)<|JZ (Z1 PassesOwn.never 9 (JQ<|j6<|AC (qv 0) (YN JA) WF WF) (JX<|Qh j9 9<|.inl 9)<|JZ (V3 (m:=!7)<|Q9 j9 9 (.inl 9)<|j6<|KE J6)<|JZ (V3 (m:=!7)<|Ku PassesOwn.never 9 (JQ<|qv 03) (JX<|Qh j9 9<|.inr 9)<|JJ<|Q9 j9 9 (.inl 9)<|jL Qq (qv 05)<|j6<|Kv ["other","row"] [8,!06] 9 9 (JQ<|qv 04) (λ_ _ _ _ _=>JX<|xH 0 j9)<|λ_ _ _ _ _=>qE b d 9<|J3 (qv 1)<|J3 (qv 0) J6)<|JZ (V3 (m:=!7)<|Q9 j9 9 (.inl 9)<|j6<|Ap c d 9<|J3 (qv 05) J6)<|JZ (YZ (JH<|qv 2) (JH<|Qc (x:="len") Kw 9 (JG m) Kn<|J3 (qv 03) J6)<|λf h=>Km Yv Yw Yx K3 f h)<|Qm<|KQ (YX<|Qu zy (Qc (x:="len") Kw 9 (JG m) Kn<|J3 (qv 03) J6) (qv 1)<|Qi _) (Qm<|Kc<|JH<|qv 03) Wm)<|Qm<|Kc<|JH<|qv 03
def Oc(a:All e):Ca e "_law_first" 03 ["parts","most","met"] (wH e.K WL):=
 xL a.toAl 29 42 λF=>wU (N:=["parts","most","met","made","part"]) (g:=CT) F JS λ_ _ _ _ _ _ f=>by
 let m:=a.m;let b:=(Oa a).mono (k:=2) ();unfold CT;exact JZ (V3 (m:=!7)<|Q9 j9 9 (.inl 9)<|Q0 (Qk f) (qv 0) JA (λ_ _=>9)<|λ_ _=>9)<|JZ (YZ (JH<|qv 2) (JH<|Qc (x:="len") Kw 9 (JG m) Kn<|J3 (qv 03) J6)<|λc d=>Km Yv Yw Yx K3 c d)<|JZ (Z1 PassesOwn.never 9 (JQ<|j6<|AC (qv 0) (YN JA) WF WF) (JX<|Qh j9 9<|.inl 9)<|JZ (V3 (m:=!7)<|Q9 j9 9 (.inl 9)<|j6<|Ap b f 9<|J3 (jL Qq (qv 03)<|qv 04) J6)<|Qm<|YZ (JH<|qv 2) (JH<|Qc (x:="len") Kw 9 (JG m) Kn<|J3 (qv 03) J6)<|λc d=>Km Yv Yw Yx K3 c d)<|Qm<|Kc<|JH<|qv 03
def Od(a:All e):Ca e "_law_moved" 1 ["form","wait"] (wI e.K KU):=
 xL a.toAl 30 39 λF=>zT (N:=["form","wait"]) (g:=CU) F JS λ_ _ _ _ _ _ b=>by
 let m:=a.m;unfold CU;exact JJ<|WU<|Kv ["row","wait"] [8,!1] 9 9 (JQ<|qv 0) (λ_ _ _ _ _=>JX<|xH 0 j9)<|λ_ _ _ _ _=>WT (x:="tuple") A7 9 (JG m) Xv<|J3 (j6<|Kv ["thing","own","wait"] [8,8,!1] 9 9 (JQ<|qv 0) (λ_ _ _ _ _=>We [0,1]<|V9 9<|Qx (xH 0 j9)<|Qx (xH 1 j9) V8)<|λ_ _ _ _ _=>WS<|J3 (qv 0)<|J3 (jL Qq (qv 1)<|qv 2) J6) J6
def dW(a:All e):Ca e "_law_put" 04 ["form","parts","most","met"] (wH e.K ZN):=
 xL a.toAl 31 43 λF=>wU (N:=["form","parts","most","met","made","row"]) (g:=CV) F JS λ_ _ _ _ _ _ f=>by
 let m:=a.m;let b:=(Ob a).mono (k:=03) ();let c:=(Oc a).mono (k:=03) ();let d:=(Od a).mono (k:=03) ();unfold CV;exact JZ (V3 (m:=!7)<|Ks j9 9 (.inl 9)<|KE J6)<|JZ (Z1 PassesOwn.never 9 (JQ<|qv 0) (JX<|Qh j9 9<|.inl 9)<|JZ (EU (pv 04) (Xa b f 9<|JN (JH<|j6<|Kv ["thing","wait","parts"] [8,8,!1] 9 9 (JQ<|qv 05) (λ_ _ _ _ _=>We [0,1]<|V9 9<|Qx (xH 0 j9)<|Qx (xH 1 j9) V8)<|λ_ _ _ _ _=>j6<|Ap d f 9<|J3 (Q0 (Qk f) (qv 2) (qv 0) (λ_ _=>9)<|λ_ _=>9)<|J3 (qv 1) J6)<|JN (JH<|qv 2)<|JN (JH<|qv 03) K9)<|λh i=>Km Yv Yw Yx K3 h i)<|Qm<|KQ (XC 03 [03]<|Qu zy (Qc (x:="max") (BT 9) 9 (JG m) Xu<|J3 (qv 03) J6) (qv 2)<|Qi _) (Qm<|Kc<|JH<|Iy (Qk f) (pv 04) (wf Y7 JA) (λ_ _=>9)<|λ_ _=>9) Wm)<|Qm<|ES [04]<|Kc<|Xa c f 9<|JN (JH<|qv 04)<|JN (JH<|qv 2)<|JN (JH<|qv 03) K9
def pO(a:All e)(d:Ca e "_law_forms" (04+k) ["plans","plan","most","met"] (wH e.K<|Ky j)):Ca e "_law_forms" (04+k+1) ["plans","plan","most","met"] (wH e.K<|Ky<|j+1):=
 xL a.toAl 32 44 λF=>wU (N:=["plans","plan","most","met","forms","row","parts","part","within"]) (g:=Bk<|Ky j) F JS λ_ _ _ _ _ _ c=>by
 let m:=a.m;let f:=(Ob a).mono (k:=04+k) ();let h:=(Oc a).mono (k:=04+k) ();let i:=(Od a).mono (k:=04+k) ();let l:=(dW a).mono (k:=04+k) ();let b:=a.k_Plan;unfold Bk
 exact JZ (V3 (m:=!7)<|Ks j9 9 (.inr 9)<|Kv ["thing"] [8] 9 9 (YM 9 (JG m)<|J3 (Qc (x:="len") Kw 9 (JG m) Kn<|J3 (QU b (by decide)<|qv 1) J6) J6) (λ_ _ _ _ _=>JX<|xH 0 j9)<|λ_ _ _ _ _=>j6<|KE<|J3 (WS<|J3 (WS<|J3 (qv 0)<|J3 JA J6) J6) J6)<|JZ (Z1 PassesOwn.never 9 (JQ<|QU b (by decide)<|qv 1) (JX<|Qh j9 9<|.inr 9)<|JZ (V3 (m:=!7)<|au ["thing","wait","forms"] [8,8,!04] 2 j9 9 (.inl 9) 9 9 (JQ<|Q0 (Qk c) (qv 05) JA (λ_ _=>9)<|λ_ _=>9) (λ_ _ _ _ _=>We [0,1]<|V9 9<|Qx (xH 0 j9)<|Qx (xH 1 j9) V8)<|λ_ _ _ _ _=>j6<|Ap i c 9<|J3 (Iy (Qk c) (pv 2) (qv 0) (λ_ _=>9)<|λ_ _=>9)<|J3 (qv 1) J6)<|JZ (KQ (YX<|Qu (xx c.units) (Q0 (Qk c) (qv 05) JA (λ_ _=>9)<|λ_ _=>9) Ko<|Qi _) (Qm<|EU (pv 04) (Xa f c 9<|JN (JH<|qv 06)<|JN (JH<|qv 2)<|JN (JH<|qv 03) K9)<|λn o=>Km Yv Yw Yx K3 n o)<|Qm<|KQ (YX<|Qu (xx c.units) (Q0 (Qk c) (qv 05) JA (λ_ _=>9)<|λ_ _=>9) Ko<|Qi _) (Qm<|EU (pv 04) (Xa h c 9<|JN (JH<|qv 06)<|JN (JH<|qv 2)<|JN (JH<|qv 03) K9)<|λn o=>Km Yv Yw Yx K3 n o)<|JZ (V3 (m:=!7)<|Q9 j9 9 (.inl 9)<|Q0 (Qk c) (j6<|Ee ["one","row"] [8,!05] 9 9 (JQ<|qv 0) (λ_ _ _ _ _=>JX<|xH 0 j9) (λ_ _ _ _ _=>Qu (xx c.units) (QU b (by decide)<|qv 0) (Q0 (Qk c) (qv 1) JA (λ_ _=>9)<|λ_ _=>9)<|Qi _)<|λ_ _ _ _ _=>qv 0) JA (λ_ _=>9)<|λ_ _=>9)<|JZ (YY j9 9 (.inl 9)<|Xa d c 9<|JN (JH<|qv 0)<|JN (JH<|qv 07)<|JN (JH<|qv 2)<|JN (JH<|qv 03) K9)<|JZ (KQ (XC 03 [03]<|Qu rM (Qc (x:="max") (BT 9) 9 (JG m) Xu<|J3 (qv 03) J6) (qv 2)<|Qi _) (Qm<|YY j9 9 (.inl 9)<|pr<|JN (Xa l c 9<|JN (JH<|Q0 (Qk c) (qv 08) (wf Y7 JA) (λ_ _=>9)<|λ_ _=>9)<|JN (JH<|qv 06)<|JN (JH<|qv 2)<|JN (JH<|qv 03) K9) K9) Wm)<|Qm<|V3 (m:=!7)<|DP (pv 04) (Q0 (Qk c) (qv 08) (wf Y7 JA) (λ_ _=>9)<|λ_ _=>9)<|λn o=>Km Yv Yw Yx K3 n o)<|Qm<|KQ (XC 03 [03]<|Qu zy (Qc (x:="max") (BT 9) 9 (JG m) Xu<|J3 (qv 03) J6) (qv 2)<|Qi _) (Qm<|ES [04]<|Kc<|JH<|qv 04) Wm)<|Qm<|ES [04]<|Kc<|JH<|qv 04
theorem Oe(a:All e):∀j,Ca e "_law_forms" (04+j) ["plans","plan","most","met"] (wH e.K<|Ky j)
 |0=>xL a.toAl 32 44 λ_=>cr
 |j+1=>pO (k:=j) a (Oe a j)
def c9(a:All e):Ca e "_law_forms" 08 ["plans","plan","most","met"] (wH e.K<|Ky 04):=Oe a 04
def cc(a:All e):Ca e "_law_whole" 1 ["found"] (zD e.K ZO):=
 xL a.toAl 33 29 λF=>yw (N:=["found"]) (g:=FB) F JS λ_ _ _ _ _ _ b=>by
 let m:=a.m;unfold FB;exact JJ<|Q4<|Ao (Qc (x:="isinstance") YI 9 (JG m) XX<|J3 (qv 0)<|J3 (YJ (n:="int") (x:="int") 9 (JG m) P7 9) J6)<|BK<|kU<|Qc (x:="isinstance") YI 9 (JG m) XX<|J3 (qv 0)<|J3 (YJ (n:="bool") (x:="bool") 9 (JG m) P8 9) J6
def cp(a:All e):Ca e "_law_is_form" 2 ["found"] (zD e.K ZP):=
 xL a.toAl 34 46 λF=>yw (N:=["found","row"]) (g:=CW) F JS λ_ _ _ _ _ _ c=>by
 let m:=a.m;let b:=(cc a).mono (k:=1) ();unfold CW;exact JV (Kt (yT<|Y4 (KZ<|Kq<|Qc (x:="isinstance") YI 9 (JG m) XX<|J3 (qv 0)<|J3 (YJ (n:="list") (x:="list") 9 (JG m) Ac 9) J6)<|An<|Qu (xx c.units) (qv 0) (j6<|KE J6)<|Qi _) (JJ<|Q4 Ki) Kr)<|JV (Ku PassesOwn.never 9 (JQ<|qv 0) (JX<|Qh j9 9<|.inl 9)<|JV (Kt (yT<|Y4 (KZ<|Kq<|Qc (x:="isinstance") YI 9 (JG m) XX<|J3 (qv 1)<|J3 (YJ (n:="tuple") (x:="tuple") 9 (JG m) Xv 9) J6)<|An<|KZ<|Kq<|Qc (x:="all") (Ei 9) 9 (JG m) Ej<|J3 (j6<|Kv ["pair"] [8] 9 9 (JQ<|qv 1) (λ_ _ _ _ _=>JX<|xH 0 j9)<|λ_ _ _ _ _=>Qc (x:="isinstance") YI 9 (JG m) XX<|J3 (qv 0)<|J3 (YJ (n:="tuple") (x:="tuple") 9 (JG m) Xv 9) J6) J6) (JJ<|Q4 Ki) Kr)<|JJ<|Kt (KZ<|Kq<|Qc (x:="all") (Ei 9) 9 (JG m) Ej<|J3 (j6<|Kv ["pair"] [8] 9 9 (JQ<|qv 1) (λ_ _ _ _ _=>JX<|xH 0 j9)<|λ_ _ _ _ _=>Ao (Y3 (xx c.units) (Qc (x:="len") Kw 9 (JG m) Kn<|J3 (qv 0) J6) JA<|Qi _)<|Ao (qE b c 9<|J3 (Q0 (Qk c) (qv 0) JA (λ_ _=>9)<|λ_ _=>9) J6)<|BK<|qE b c 9<|J3 (Q0 (Qk c) (qv 0) JA (λ_ _=>9)<|λ_ _=>9) J6) J6) (JJ<|Q4 Ki) Kr)<|JJ<|Q4 Ki
def cg(a:All e):Ca e "_law_right" 19 ["book","plan","most"] (zD e.K W3):=
 xL a.toAl 35 47 λF=>fP (kk:=1) (hw:=kg) (hx:=uX) (N:=["book","plan","most","met","due","found","form"]) (g:=Bl) F JS λ_ _ _ _ _ _ c=>by
 let m:=a.m;let i:=(c9 a).mono (k:=18) ();let j:=(cp a).mono (k:=18) ();let d:=(NZ a).mono (k:=18) ();let l:=(Gc a).mono (k:=18) ();let o:=(NY a).mono (k:=18) ();let f:=(pF a).mono (k:=18) ();let h:=a.k_Book;let b:=a.k_Plan;unfold Bl
 exact JZ (YY j9 9 (.inl 9)<|dS<|JN (JH JA) K9)<|JZ (YY j9 9 (.inl 9)<|Xa i c 9<|JN (JH<|QU h (by decide)<|qv 0)<|JN (JH<|qv 1)<|JN (JH<|qv 2)<|JN (JH<|qv 03) K9)<|JZ (KQ (YX<|Qu (xx c.units) (qE d c 9<|J3 (qv 0)<|J3 (QU b (by decide)<|qv 1)<|J3 (jL Qq (qv 2) JA)<|J3 JA J6) JA<|Qi _) (Qm<|Kc<|JH Ki) Wm)<|JZ (KQ (XC 05 [03]<|Qu zy (Qc (x:="max") (BT 9) 9 (JG m) Xu<|J3 (qv 03) J6) (qv 2)<|Qi _) (Qm<|Kc<|JH<|Ao (Y3 (xx c.units) (qE d c 9<|J3 (qv 0)<|J3 (QU b (by decide)<|qv 1)<|J3 (qv 2)<|J3 JA J6) JA<|Qi _)<|BK<|Y3 (xx c.units) (qE d c 9<|J3 (qv 0)<|J3 (QU b (by decide)<|qv 1)<|J3 (qv 2)<|J3 JA J6) JA<|Qi _) Wm)<|JZ (YY j9 9 (.inl 9)<|Xa f c 9<|JN (JH<|qv 0)<|JN (JH<|QU b (by decide)<|qv 1)<|JN (JH<|qv 2) K9)<|JZ (KQ (XC 05 [05]<|yT<|Y4 (KZ<|Kq<|Qc (x:="isinstance") YI 9 (JG m) XX<|J3 (qv 05)<|J3 (YJ (n:="list") (x:="list") 9 (JG m) Ac 9) J6)<|Y4 (KZ<|Kq<|Qc (x:="all") (Ei 9) 9 (JG m) Ej<|J3 (j6<|Kv ["form"] [8] 9 9 (JQ<|qv 05) (λ_ _ _ _ _=>JX<|xH 0 j9)<|λ_ _ _ _ _=>qE j c 9<|J3 (qv 0) J6) J6)<|An<|Qu (u2 c.units) (qv 05) (qv 04)<|Qi _) (Qm<|Kc<|JH Ki) Wm)<|JZ (pc 05<|Z1 PassesOwn.never 9 (JQ<|qv 05) (JX<|Qh j9 9<|.inl 9)<|Qm<|YZ (JH<|qv 06) (JH<|WS<|J3 (WS<|J3 JA<|J3 JA J6) J6)<|λp q=>Km Yv Yw Yx K3 p q)<|JZ (KQ (XC 05 [05]<|Qu (u2 c.units) (j6<|Kv ["form"] [8] 9 9 (JQ<|qv 05) (λ_ _ _ _ _=>JX<|xH 0 j9)<|λ_ _ _ _ _=>Qc (x:="len") Kw 9 (JG m) Kn<|J3 (qv 0) J6) (j6<|Kv ["form"] [8] 9 9 (JQ<|qv 04) (λ_ _ _ _ _=>JX<|xH 0 j9)<|λ_ _ _ _ _=>jL Qq (Qc (x:="len") Kw 9 (JG m) Kn<|J3 (qv 0) J6) JA)<|Qi _) (Qm<|Kc<|JH Ki) Wm)<|Qm<|Kc<|JH<|Ao (Y3 (xx c.units) (Ck o E3 c 9<|J3 (qv 0)<|J3 (QU b (by decide)<|qv 1)<|J3 (qv 2) J6) (Q0 (Qk c) (qv 04) (wf Y7 JA) (λ_ _=>9)<|λ_ _=>9)<|Qi _)<|BK<|Y3 (xx c.units) (Ck l E3 c 9<|J3 (qv 0)<|J3 (QU b (by decide)<|qv 1)<|J3 (qv 2) J6) (qv 04)<|Qi _
def cJ(a:All e)  (F:Fun e.K "law" "law" (wM 48) f n):FnOk e.P e.w e.K e.mg e.base yo 20 f n ["script"] (zD e.K ub):=
 yw (N:=["script","k","part","book","most","plan"]) (g:=CY) F JS λ_ _ _ _ _ _ h=>by
 let m:=a.m;let i:=(cK a).mono (k:=19) ();let c:=(NQ a).mono (k:=19) ();let j:=(NZ a).mono (k:=19) ();let l:=(cg a).mono (k:=19) ();let b:=a.k_Book;let d:=a.k_Plan;unfold CY;exact JV (Ku PassesOwn.never 9 (YM 9 (JG m)<|J3 (jL Qq JA<|Qc (x:="min") (RP 9) 9 (JG m) P6<|J3 JA<|J3 (jL HZ (Qc (x:="max") (DZ 9) 9 (JG m) Xu<|J3 JA<|J3 (jL Az (Qc (x:="len") Kw 9 (JG m) Kn<|J3 (qv 0) J6) JA) J6) JA) J6) J6) (JX<|Qh j9 9<|.inl 9)<|JV (Q9 j9 9 (.inl 9)<|j6<|AC (qv 0) (YN<|jL A0 JA<|qv 1) (YN<|jL Qq (jL A0 JA<|qv 1) JA) WF)<|JV (Q9 j9 9 (.inl 9)<|j6<|Ap i h 9<|J3 (qv 2)<|J3 (jL Qq JA<|jL X3 (qE c h 9<|J3 (qv 2)<|J3 JA J6) JA)<|J3 JA J6)<|JV (Q9 j9 9 (.inl 9)<|jL Qq JA<|jL X3 (jL HZ (qE c h 9<|J3 (qv 2)<|J3 JA J6) JA) JA)<|JV (Ku PassesOwn.never 9 (JQ<|QU b (by decide)<|qv 03) (JX<|Qh j9 9<|.inl 9)<|JJ<|Kt (KZ<|Kq<|qE l h 9<|J3 (qv 03)<|J3 (qv 05)<|J3 (qv 04) J6) (JJ<|Q4 Ki) Kr)<|JJ<|Kt (Qu (u2 h.units) (qE j h 9<|J3 (qv 03)<|J3 (jL Qq Ko<|QU d (by decide)<|Q0 (Qk h) (QU b (by decide)<|qv 03) JA (λ_ _=>9)<|λ_ _=>9)<|J3 (qv 04)<|J3 (jL X3 (qv 1) JA) J6) JA<|Qi _) (JJ<|Q4 Ki) Kr)<|JJ<|Q4 Ki
def Dg(K:W.Frag):Sp:=λc H Q _=>∃(a:Addr)(b:Yf),c=[.ref a]/\xo K H a (b.map V.int)/\b.length<=63/\∀d,Q (.bl 6) d
def pG(K:W.Frag)(b:YB)(H:Hp)(Q:VK)(E:XK)(h:Dg K b H Q E):zD K ub b H Q E:=by
 let(a c,rfl,d,f,q):=h;calc(H,[.scr c],jk.refl _,je.mk (x2.mpr (a,9,d)) .nil,?_);rw[wT c f];intro v j g e i;rw[jz.mp i];exact q g
def all_mk{l:W.OpenLaw} {K:W.Frag}   (X:K.In h)(G:h.Ns mainGlobals P)(Q:P "law"=! .ref T)
 (d:uT K wM tbl)(z:Nn K bl)(dl:vT K "law" (wM 48))
 (g:W.nsIn K mainGlobals "NoPlan"=! ! .ref c)(p:W.excIn K c [.type "ValueError",.type "Exception",.type "BaseException",.type "object"] "ValueError.__new__"=6)
 (f:W.nsIn K mainGlobals "TooMany"=! ! .ref a)(o:W.excIn K a [.type "ValueError",.type "Exception",.type "BaseException",.type "object"] "ValueError.__new__"=6)
 (b:W.subIn K (.ref c) (.ref a)=!7)
 (C:Mi K "Book" "Book.__init__" ["plans"] (Bq (wM 21) 0))
 (E:Mi K "Plan" "Plan.__init__" ["name","givens","rows"] (Bq (wM 20) 0)):
 ∃S:FuncData,(∀(s:Shared)(v:Value),BindsTo s S ([v],[]) [%["script"|v]])/\∀i:Heap,K.In i->i.Ns mainGlobals P->FnOk l.prog w K P i yo 20 T S ["script"] (Dg K):=by
 let(R,F,J,ub):=dl;cases Q.symm.trans (W.mg_of X G J);let(H,N,L,j,q,r,t,u):=C;let(I,O,M,m,x,y,A,B):=E;exact(F,by let(_,_,_,_,_,_,_,_,_,rfl,_,_):=id ub.ex;calc λs v=>.of_eq 9,λi _ _=>(cJ (e:=(l.prog,w,K,P,i,λn=>[c,a,H,I].getD n 0,λn=>[].getD n default)) (((h,X,G),d,M0 X G z),(g,W.mg_of X G g,p),(f,W.mg_of X G f,o),b,(j,W.mg_of X G j,q,r),(_,_,t,u),(m,W.mg_of X G m,x,y),(_,_,A,B)) ub).imp<|pG K)
def walk{l:W.OpenLaw}     {K:Params->W.Frag}(m:l.most=!63)(e:d.params.defaults=[])
 (o:∀(w:World)(h:Heap),p w h->(K w.params).In h)
 (F:∀(w:World)(c:Yd)(i:Addr)(h:Heap),(K w.params).In h->h.Ns mainGlobals c->c d.name=! .ref i->
  ∃j:FuncData,(∀(s:Shared)(u:Value),BindsTo s j ([u],[]) [%["script"|u]])/\∀b:Heap,(K w.params).In b->b.Ns mainGlobals c->FnOk l.prog w (K w.params) c b yo 20 i j ["script"] (Dg<|K w.params)):
 W.WalkO q g A p l.row.toRowW d [] λf r=>PySem.call f r:=
 L2.walk_of (n:=63) (k:=20) (x:="script") (CX:=λ_=>yo) (sp:=λw=>Dg<|K w.params) m (by decide) e (9,by decide,by decide) o F (λ_ _ a t v _ y=>(a,t,9,y,v,λ_=>9)) λ_ _ _ _ _ z=>z
end My
end
open PySem PySem.W PyProof.Rows
structure PySem.W.Fast:Prop where(tw13893864142206332741 tw6593184707381484269 tw15896732281293823244 tw11427801628987786856 tw10262420945722012175 tw14538273051757372182 tw12905317517074814113 tw17986629536922021468 tw18222881692318522873 tw12831522077320757131 tw5506116254135213162 tw9376299976460724164 tw11664270939740288978 tw5615899393238395305 tw11410049521961113535 tw12531571872723778818 tw5228321963219414310 tw17471828783965482547 tw1896844805992349273 tw14216175456339312238 tw11819827356719550255 tw11769132200114429452 tw18041765094820680385 tw4008116686780473432 tw9571122385662851148 tw8939056075668873529 tw12127536447870326149 tw10778631073260073794 tw17032208112714225277 tw9604931507288479450 tw10782359083936131336 tw16030655104793144944 tw5470106724244216483 tw3321261789541222922 tw8783383955778532013 tw8983447781564687849 tw11567628026400312814 tw14263747413969658368 tw3817159920511125688 tw6495811976844122833 tw6953582693715651243 tw10091598702066974371 tw33004172433271390 tw2874397065396643542 tw1409401913439604076 tw8827802973278695105 tw1812575305941647090 tw8201360727954446377 tw11623577470697897542 tw9689263534563132989 tw12583648505292312848 tw14942210436499506939 tw1697848039209590753 tw6534668726857793253 tw11905996354008285190 tw6707092390802518616 tw8337184170669930595 tw16003952874578530353 tw5905656020970846532 tw3269223795007307456 tw17137630085708953116 tw10807449111271088438 tw1097412361982754924 tw12486338123693791232 tw17722299776443854060 tw7130810188938594577 tw6355999920994138738 tw4087216793740069742 tw6639223888716262703 tw2209119974056339147 tw2915805201099582980 tw11374909731613164742 tw13697890431715457629 tw16749679687327426313 tw7888848522474803669 tw6125199114175525547 tw4733254845140682293 tw4083848628416237638 tw4386874197781693553 tw6883138638534272334 tw17348649089365578832 tw13137506882287769826 tw12412790763261225074 tw12690329298553544829 tw9847101714920736332 tw18291701934281055362 tw11753741440541410400 tw15156266297148257190 tw8324346828489663879 tw17893705291801196543 tw8121293763280418906 tw13496516982631302763 tw15494712933690128290 tw15695384489501009357 tw4373033030781287009 tw15886507856726555295 tw16400904315184043202 tw9192347408894944809 tw1269667115465860429 tw11211947791675383854 tw14335917754140315539 tw12599169323162226915 tw4563601401282270854 tw17500955561426597626 tw8617285062027007625 tw9511197089330548698 tw7573443937371915651 tw14201718783857557050 tw2176688903320501744 tw4727742858480848947 tw10396651859295260609 tw5280517165886886277 tw440204553075583485 tw12623049267877565254 tw8778800654219927577 tw9229919882731594100 tw12902810997149511516 tw8867180129722586841 tw7912976936185374728 tw138553094672074390 tw9201535340835716417 tw16053925835178862281 tw11091938294163229031 tw9125284512971716510 tw17580215162337892012 tw6628053973213536297 tw381568402111101174 tw17452346363813964664 tw10680654274649015148 tw922225041445797598 tw6961272462871544361 tw12384458606618074667 tw2341993930890586521 tw4338394315811179795 tw13143767270496078886 tw7397418113347182015 tw11929081632856266032 tw6184095769884754115 tw14444575367605594925 tw17018289811281011413 tw2313397518325124952 tw9966420336551802277 tw18099730040819205111 tw15892118437385483700 tw6825496452375557054 tw9203632486351683691 tw16137750206126159393 tw10410744630665498533 tw2144464898020572088 tw9706331865657944906 tw1092490865002799743 tw7321642797751381533 tw8938335900206547512 tw2098158940554734282 tw3272845232230683244 tw2520153089606851773 tw13676206459108376018 tw7962108241543265780 tw17457748519662300677 tw12056911109088367025 tw14002945700593762378 tw11388848306248697947 tw790728370610597360 tw10608077075550312779 tw5243792992801238598 tw12885222444543523015 tw10914748240558920382 tw9314560224536584185 tw14680866640809801234 tw17770412800370135165 tw6263544543682873743 tw7189253512581663646 tw16910918828388308992 tw2235697225116370331 tw13984406437372951661 tw1985168946098877572 tw14174562556457547114 tw1138142796259697002 tw6511575558662740858 tw7828655332663962432 tw4398125818611375992 tw4019419781816357074 tw16018547359118000715 tw1248501952851160876 tw8431414962450675986 tw10942636483573621928:True)
set_option maxRecDepth 100000 in
set_option maxHeartbeats 0 in
theorem PySem.Challenge.cw_allfirst_k50_forms_of_plans_holds : PySem.Challenge.rw_allfirst_k50_forms_of_plans.Holds := by
 w_on;o_law;k_head;(case hw=>w_witness2)
 k_fill
 refine My.walk (l:=PySem.Challenge.rw_allfirst_k50_forms_of_plans) rfl rfl (fun w h Y=>PySem.W.kIn_of Y) ?F
 case F =>
  intro w mg fa h KX G hmg;refine' My.all_mk KX G hmg ?d ?z ?dl ?a_NoPlan ?q_NoPlan ?a_TooMany ?q_TooMany ?m_NoPlan_TooMany ?l_Book ?l_Plan
  (case d =>
   repeat (apply L2.DL.dfs_cons;focus (refine' ⟨_,_,?a,L2.fun_mk ?l ?c ?k⟩;(case a=>k_is);(case l=>k_is);(case c=>k_is);(case k=>k_is)))
   exact True.intro)
  (case z =>
   repeat (apply L2.DL.nn_cons;focus k_is)
   exact True.intro)
  (case dl=>refine' ⟨_,_,?a,L2.fun_mk ?l ?c ?k⟩;(case a=>k_is);(case l=>k_is);(case c=>k_is);(case k=>k_is))
  (case a_NoPlan=>k_is)
  (case q_NoPlan=>k_exc)
  (case a_TooMany=>k_is)
  (case q_TooMany=>k_exc)
  (case m_NoPlan_TooMany=>k_is)
  (case l_Book=>refine' ⟨_,_,_,?ua,⟨?up,?uh,?uo,?us⟩,List.forall_mem_cons.mpr ⟨?uf0,List.forall_mem_nil _⟩,⟨?um,?ui,?un,?ue⟩,L2.fun_mk ?ul ?uc ?uk⟩;(case ua=>k_is);(case ui=>k_is);(case ul=>k_is);(case uc=>k_is);(case uk=>k_is);(case up=>k_is);(case uh=>k_is);(case uo=>k_is);(case us=>k_is);(case um=>k_is);(case un=>k_is);(case ue=>k_is);(case uf0=>show PySem.W.findIn _ _ _=_;k_is))
  (case l_Plan=>refine' ⟨_,_,_,?ua,⟨?up,?uh,?uo,?us⟩,List.forall_mem_cons.mpr ⟨?uf0,List.forall_mem_cons.mpr ⟨?uf1,List.forall_mem_cons.mpr ⟨?uf2,List.forall_mem_nil _⟩⟩⟩,⟨?um,?ui,?un,?ue⟩,L2.fun_mk ?ul ?uc ?uk⟩;(case ua=>k_is);(case ui=>k_is);(case ul=>k_is);(case uc=>k_is);(case uk=>k_is);(case up=>k_is);(case uh=>k_is);(case uo=>k_is);(case us=>k_is);(case um=>k_is);(case un=>k_is);(case ue=>k_is);(case uf0=>show PySem.W.findIn _ _ _=_;k_is);(case uf1=>show PySem.W.findIn _ _ _=_;k_is);(case uf2=>show PySem.W.findIn _ _ _=_;k_is))
