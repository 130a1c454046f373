import PyProof.Rows.All
import Wide.All
import OpenK.AllK
import Wide.FinOn
import Lean
import PyProof.EqAt
import PyProof.EqKinds
import PyProof.TupleCall
import PyProof.P3Eq
import PyProof.NeData
import PySem.Challenge.RW_allfirst_k69_whole_lag_by_runs
set_option autoImplicit true
set_option relaxedAutoImplicit true
set_option Elab.async false
set_option linter.all false
set_option maxRecDepth 100000
open PySem PySem.Spec PyProof.Rows
noncomputable section
set_option compiler.extract_closed false
set_option bootstrap.genMatcherCode false
set_option hygiene false
local macro_rules|`(001)=>`(Res.need_bind n)
local macro_rules|`(002)=>`(λ_ _=>9)
local macro_rules|`(003)=>`(Inv X Y Z H s)
local macro_rules|`(004)=>`(λ_ _ q=>q)
local macro_rules|`(005)=>`(dC<|.int 1)
local macro_rules|`(006)=>`(.inl 9)
local macro_rules|`(007)=>`(jj jy<|J2 (ja 0) jb)
local macro_rules|`(008)=>`(by decide)
local macro_rules|`(009)=>`(model X.prog X.w)
local macro_rules|`(010)=>`(("__debug__":Str))
local macro_rules|`(011)=>`(eval e X.env)
local macro_rules|`(012)=>`(JT s.q.rows)
local macro_rules|`(013)=>`("list")
local macro_rules|`(014)=>`(SetTable.bits h)
local macro_rules|`(015)=>`(ja 0)
local macro_rules|`(016)=>`(.ref a)
local macro_rules|`(017)=>`(J8 m)
local macro_rules|`(018)=>`(J2 (ja 1) jb)
local macro_rules|`(019)=>`(SetTable.runEnd t.mask i)
local macro_rules|`(020)=>`(.str p.name)
local macro_rules|`(021)=>`(t.probeStart h)
local macro_rules|`(022)=>`(dC<|.int 0)
local macro_rules|`(023)=>`(dC<|.int 2)
local macro_rules|`(024)=>`(qv 0)
set_option hygiene true
def zN(k:Lean.Name)(a:Array Lean.Syntax):Lean.Syntax:=.node .none k a
def zA:String->Lean.Syntax:=.atom .none
def zZ:Array Lean.Syntax->Lean.Syntax:=zN `null
def zT(s:String):Array Lean.Syntax->Lean.Syntax:=zN (`Lean.Parser.Tactic++s.toName)
def zM(s:String):Array Lean.Syntax->Lean.Syntax:=zN (`Lean.Parser.Term++s.toName)
def zS(s:Lean.Syntax):List Lean.Syntax:=s[1][0]::s[1][2].getSepArgs.toList
def zC(c:Lean.Syntax):List Lean.Syntax->Array Lean.Syntax
 |[]=>#[]
 |[a]=>#[a]
 |a::b=>#[a,c]++zC c b
def zQ:Nat->Lean.Syntax->Lean.Syntax
 |0,s=>s
 |f+1,s=>zT "rcasesPatMed" #[zZ #[if s.isIdent then zT "rcasesPat.one" #[s] else if s.getNumArgs<3 then zT "rcasesPat.ignore" #[zA "_"] else zT "rcasesPat.tuple" #[zA "⟨",zZ (zC (zA ",") ((zS s).map λx=>zT "rcasesPatLo" #[zQ f x,zZ #[]])),zA "⟩"]]]
def zI(s:String)(i:Nat):Lean.Syntax:=Lean.mkIdent (s++toString i).toName
def zB(y:Lean.Syntax):=y.getId==`rfl||2<y.getNumArgs
def zE(y:Lean.Syntax):Lean.Syntax:=if zB y then zI "z" (y.getPos?.getD 0).1 else y
def zL(k:String)(d:Lean.Syntax):Lean.Syntax:=zT k #[zA "",zM "letConfig" #[zZ #[]],d]
def zG(y:Lean.Syntax):Lean.Syntax:=if y.isIdent then zT "subst" #[zA "",zZ #[zE y]] else zL "tacticLet__" (zM "letDecl" #[zM "letPatDecl" #[y,zZ #[],zZ #[],zA "",zE y]])
def zF(b:List Lean.Syntax)(t:Lean.Syntax):Lean.Syntax:=zM "fun" #[zA "",zM "basicFun" #[zZ (b.map zE).toArray,zZ #[],zA "",t]]
def zX(f:Lean.Syntax)(a:Array Lean.Syntax):Lean.Syntax:=zM "app" #[f,zZ a]
def zR(d:Lean.Syntax):Lean.Syntax:=
 let r:=d[0]
 if r.isOfKind `Lean.Parser.Term.letPatDecl then
  let e:=r[4]
  let l:=zS r[0]
  let x:=l.headD r
  let n:=x.isOfKind `«term!_»
  let v:=if n||x.isOfKind `«term-_» then [x[1]] else if x.isOfKind `Lean.Parser.Term.app then x[0]::x[1].getArgs.toList else []
  if v.isEmpty then zT "obtain" #[zA "",zZ #[zQ 9 r[0]],zZ r[2][0].getArgs,zZ #[zA "",zZ #[e]]] else
  let k:=if n then 0 else v.length
  let w:=v++l.tail
  let m:=w.length-k
  let A:=zI "qa" m
  let h:=zM "syntheticHole" #[zA "?",zA "_"]
  let g:=zF (w.drop k) h
  let t:=if k=0 then zX A #[g,e] else zX (zI "qx" k) #[e,if m=1 then zF w h else zF (w.take k) (zX A #[g])]
  zT "paren" #[zA "",zT "tacticSeq" #[zT "tacticSeq1Indented" #[zZ (zC (zA ";") (zT "refine" #[zA "",t]::(w.filter zB).map zG))]],zA ""]
 else zL "tacticHave__" d
local macro_rules|`(tactic|let $d:letDecl)=>return zR d
local macro_rules|`(tactic|rw[$e:term])=>`(tactic|refine $e)
local macro_rules|`(tactic|ext $p*)=>if p.isEmpty then `(tactic|simp_all) else `(tactic|unfold $(p.map λx=>⟨x.raw[0][0]⟩)*)
local macro_rules|`(tactic|cases ($x) $[$a:inductionAlts]?)=>`(tactic|induction $x:term $[$a:inductionAlts]?)
local macro_rules|`(tactic|cases $h:ident : $p)=>`(tactic|by_cases $h:ident : $p)
local macro_rules | `(tactic| trivial) => `(tactic| first|exact .inl rfl|exact .inr rfl|assumption)
local macro_rules | `(()) => `(by first|lia|omega|(simp;done)|grind|simp_all)
local macro_rules | `(~~~$x) => `(some (.val $x))
local macro_rules|`(%[$x,*|$y])=>do
 if y.raw.getId.hasMacroScopes then Lean.Macro.throwUnsupported
 let r:Lean.Term<-x.getElems.foldrM (λa b=>`(Prod.mk $a $b)) y
 return r
local macro_rules|`(($x,$xs,*))=>`(⟨$x,$xs,*⟩)
local macro_rules|`(!$x)=>`(some $x)
local macro_rules|`(9)=>`(rfl)|`(8)=>`(none)|`(7)=>`(false)|`(6)=>`(true)|`(5)=>`(Nat)|`(4)=>`(Prop)|`(3)=>`(Int)
abbrev f':=PySem.W.Frag
local macro_rules|`($x⁻¹)=>`(($x).heap.objs.size)
local macro_rules|`(⇑$x)=>`(($x).length)
local macro_rules|`(↥$x)=>`(($x).heap.get?)
local macro_rules|`(00)=>`(PySem.sizeLine)
local macro_rules|`(01)=>`(PySem.starEach)
local macro_rules|`(02)=>`(Option)
local macro_rules|`(000)=>`(PySem.mainGlobals)
theorem qx1{P:a->Prop}{G:Prop}(e:∃x,P x)(c:∀x,P x->G):G:=e.elim c
theorem qx2{P:a->b->Prop}{G:Prop}(e:∃x y,P x y)(c:∀x y,P x y->G):G:=e.elim λx h=>qx1 h (c x)
theorem qx3{P:a->b->d->Prop}{G:Prop}(e:∃x y z,P x y z)(c:∀x y z,P x y z->G):G:=e.elim λx h=>qx2 h (c x)
theorem qx4{P:a->b->d->f->Prop}{G:Prop}(e:∃x y z u,P x y z u)(c:∀x y z u,P x y z u->G):G:=e.elim λx h=>qx3 h (c x)
theorem qx5{P:a->b->d->f->g->Prop}{G:Prop}(e:∃x y z u v,P x y z u v)(c:∀x y z u v,P x y z u v->G):G:=e.elim λx h=>qx4 h (c x)
theorem qx6{P:a->b->d->f->g->h->Prop}{G:Prop}(e:∃x y z u v w,P x y z u v w)(c:∀x y z u v w,P x y z u v w->G):G:=e.elim λx h=>qx5 h (c x)
theorem qa2{p q G:Prop}(c:p->q->G)(e:p/\q):G:=c e.1 e.2
theorem qa3{p q r G:Prop}(c:p->q->r->G)(e:p/\q/\r):G:=qa2 (c e.1) e.2
theorem qa4{p q r s G:Prop}(c:p->q->r->s->G)(e:p/\q/\r/\s):G:=qa3 (c e.1) e.2
theorem qa5{p q r s t G:Prop}(c:p->q->r->s->t->G)(e:p/\q/\r/\s/\t):G:=qa4 (c e.1) e.2
theorem qa6{p q r s t u G:Prop}(c:p->q->r->s->t->u->G)(e:p/\q/\r/\s/\t/\u):G:=qa5 (c e.1) e.2
theorem qa7{p q r s t u v G:Prop}(c:p->q->r->s->t->u->v->G)(e:p/\q/\r/\s/\t/\u/\v):G:=qa6 (c e.1) e.2
theorem qa8{p q r s t u v w G:Prop}(c:p->q->r->s->t->u->v->w->G)(e:p/\q/\r/\s/\t/\u/\v/\w):G:=qa7 (c e.1) e.2
theorem Zqi.{u}{α:Type u}{a b:α}(h:some a=!b):a=b:=Option.some.inj h
theorem Zqg.{u}{α:Type u}{l:List α}{i:5}(h:i<⇑l):l[i]?=!l[i]:=List.getElem?_eq_getElem h
theorem Zqs.{u}{α:Type u}{a:α}{l:List α}:a∈a::l:=List.mem_cons_self
theorem Zqm.{u}{α:Type u}(y:α){a:α}{l:List α}(h:a∈l):a∈y::l:=List.mem_cons_of_mem y h
theorem Zql.{u,v}{α:Type u}{β:Type v}{l:List α}(f:α->β):⇑(l.map f)=⇑l:=List.length_map f
abbrev Za:=@wpAny_bind
abbrev Zb:=@wpAny_pure
abbrev Zc:=@wpAny_mono
abbrev Zd:=@if_pos
abbrev Ze:=@if_neg
abbrev Zf:=@Nat.le_refl
abbrev Zg:=@Nat.lt_of_lt_of_le
abbrev Zh:=@Nat.le_trans
abbrev Zi:=@Nat.ne_of_lt
abbrev Zj:=@Bool.false_ne_true
abbrev Zk:=@Heap.lt_size
abbrev Zl:=@List.map_cons
abbrev Zm:=@List.size_toArray
abbrev Zn:=@absurd
abbrev Zo:=@decide_eq_false
abbrev Zp:=@decide_eq_true
abbrev Zq:=@Heap.get?_push_of_some
abbrev Zr:=@Heap.get?_push_size
abbrev Zs:=@iff_of_false
abbrev Zt:=@congrArg
abbrev Zu:=@List.length_cons
abbrev Zv:=@List.getElem?_map
abbrev Zw:=@List.map_map
abbrev Zx:=@List.getElem?_set_ne
abbrev Zy:=@Nat.lt_irrefl
abbrev Zz:=@Nat.le_of_lt
abbrev ZA:=@List.append_nil
abbrev ZB:=@List.length_range
abbrev ZC:=@List.length_nil
set_option maxHeartbeats 4000000
abbrev Ya:=PySem.Value->PySem.Shared->4
abbrev Yb:=List<|PySem.Addr×PySem.Obj
abbrev Yc:=5->5->Bool
abbrev Yd:=PySem.Str->02 PySem.Value
abbrev Ye:=List PySem.Value
abbrev Yf:=List 3
abbrev Yg:=Array 5
abbrev Yh:=List 5
abbrev Yi:=List PySem.Str
abbrev Yj:=List PySem.Addr
abbrev Yk:=Array PySem.Value
abbrev Yl:=@PyProof.Rows.wpS_bind
abbrev Ym:=@PyProof.Rows.wpS_pure
abbrev Yn:=@PyProof.Rows.wpS_mono
abbrev Yo:=@PyProof.Rows.wpS_forRange
abbrev Yp:=@beq_iff_eq
abbrev Yq:=@Unit.unit
abbrev Yr:=@Bool.eq_false_iff
abbrev Ys:=@Nat.lt_of_not_le
abbrev Yt:=@Nat.one_pos
abbrev Yu:=@Nat.le_of_eq
abbrev Yv:=@PySem.F.plainAttrs_list
abbrev Yw:=@PySem.F.slot_list_append
abbrev Yx:=@PySem.F.type_list_append
abbrev Yy:=PyProof.Rows.SortSt->4
abbrev Yz:=PySem.Shared->4
abbrev YA:=PySem.SetTable
abbrev Ua:=@List.length_append
abbrev Ub:=@Nat.zero_le
abbrev Uc:=@List.map_append
abbrev Ud:=@Bool.and_eq_true
abbrev Ue:=@List.getD_eq_getElem?_getD
abbrev Uf:=@List.mem_of_getElem?
abbrev Ug:=@List.length_singleton
noncomputable abbrev Uh:=@Sum.inl
abbrev Ui:=@List.mem_append_right
abbrev Uj:=@List.getElem?_append_left
abbrev Ul:=@List.append_assoc
abbrev Uo:=@List.drop_eq_getElem_cons
abbrev Uq:=@List.length_take
abbrev Ur:=@Nat.lt_trans
abbrev Us:=@Nat.le_add_right
abbrev Ut:=@Nat.le_of_lt_succ
abbrev Uu:=@Array.size_map
abbrev Uv:=@List.getElem?_append_right
abbrev Uw:=@Array.length_toList
abbrev Uy:=@Int.toNat_natCast
abbrev Uz:=@List.take_of_length_le
abbrev UA:=@List.getElem_mem
abbrev UB:=@Nat.ble_eq
abbrev UC:=@Nat.lt_succ_self
abbrev UD:=@Nat.lt_succ_of_lt
abbrev UE:=@Nat.le_of_succ_le
abbrev UF:=@Array.getElem?_eq_getElem
abbrev UG:=@List.all_cons
abbrev UH:=@Nat.mod_lt
abbrev UI:=@List.getElem_of_mem
abbrev UJ:=@List.all_eq_true
abbrev UK:=@Nat.lt_of_le_of_ne
abbrev UL:=@Nat.not_lt_zero
abbrev UM:=@List.take_append_drop
abbrev UN:=@Nat.succ.inj
abbrev UO:=@Bool.false_eq_true
noncomputable abbrev UP:=@Nat.blt
noncomputable abbrev UQ:=@Nat.ble
abbrev UR:=@Nat.blt_eq
abbrev US:=@Nat.lt_or_ge
abbrev UT:=@List.getElem?_set_self
abbrev UU:=@Bool.or_eq_true
abbrev UV:=@List.map_congr_left
abbrev UW:=@List.length_set
abbrev UX:=@List.drop_length
abbrev UY:=@List.mem_cons
abbrev UZ:=@Int.le_refl
abbrev U0:=@Sum.inr
abbrev U4:=@List.filterMap_cons
abbrev U5:=@Nat.lt_of_le_of_lt
abbrev U6:=@Array.getElem?_map
abbrev U7:=@Nat.lt_of_succ_lt
abbrev U8:=@Nat.mod_eq_of_lt
abbrev U9:=@List.mem_append_left
abbrev Va:=@Nat.ne_of_gt
abbrev Vb:=@List.drop_eq_nil_of_le
abbrev Vc:=@Nat.min_eq_left
abbrev Vd:=@List.not_mem_nil
abbrev Ve:=@Nat.lt_trichotomy
abbrev Vf:=@List.pairwise_map
abbrev Vg:=@List.take_length
abbrev Vh:=@Int.emod_nonneg
abbrev Vi:=@List.replicate_succ
abbrev Vj:=@List.foldl_cons
abbrev Vk:=@Nat.sub_le
abbrev Vl:=@Nat.exists_eq_add_of_le
abbrev Vm:=@Nat.succ_pos
abbrev Vn:=@Int.emod_lt_of_pos
abbrev Vo:=@Bool.eq_iff_iff
abbrev Vp:=@List.flatten_cons
abbrev Vq:=@Array.ext'
abbrev Vr:=@Nat.le_succ_of_le
abbrev Vs:=@Array.getElem?_toList
abbrev Vt:=@List.nodup_nil
abbrev Vu:=@List.getElem?_range
abbrev Vv:=@Nat.mul_le_mul
abbrev Vw:=@Nat.zero_add
abbrev Vx:=@Array.getD_eq_getD_getElem?
abbrev Vy:=@Array.forIn_toList
abbrev Vz:=@List.foldl_append
abbrev VA:=@List.getElem?_of_mem
abbrev VB:=@List.length_filter_le
abbrev VC:=@List.zip_cons_cons
abbrev VD:=@List.reverse_cons
abbrev VE:=@List.take_succ
abbrev VF:=@Nat.sub_self
abbrev VG:=@Nat.add_sub_of_le
abbrev VH:=@Nat.min_eq_right
abbrev VI:=@List.Perm.trans
abbrev VJ:=@List.length_drop
abbrev VL:=@Nat.succ_le_succ
abbrev VM:=@List.Perm.refl
abbrev VN:=@Nat.lt_of_add_lt_add_left
abbrev VO:=@Array.size_extract
abbrev VP:=@Nat.add_sub_cancel_left
abbrev VQ:=@Array.getElem?_eq_none
abbrev VR:=@List.mem_range
abbrev VT:=@List.all_map
abbrev VU:=@List.take_append_of_le_length
abbrev VV:=@Nat.div_lt_of_lt_mul
abbrev VW:=@Option.isSome_map
abbrev VX:=@Nat.add_le_add_left
abbrev VY:=@Array.swapIfInBounds_def
abbrev VZ:=@List.pairwise_append
abbrev V0:=@Nat.eq_zero_of_not_pos
abbrev V1:=@Nat.pos_of_ne_zero
abbrev V2:=@Array.getElem?_range
abbrev V3:=@List.pairwise_singleton
abbrev V4:=@List.getElem_map
abbrev V5:=@List.any_eq_true
abbrev V6:=@Nat.eq_zero_or_pos
abbrev V7:=@List.getElem?_eq_none
abbrev V8:=@List.nodup_range
abbrev V9:=@Classical.byContradiction
abbrev Wa:=@Array.mem_toList_iff
abbrev Wb:=@Array.getElem_mem
abbrev Wc:=@List.ext_getElem?
abbrev Wd:=@Classical.choose_spec
abbrev We:=@Int.emod_eq_of_lt
abbrev Wf:=@List.getElem?_take_of_lt
abbrev Wg:=@List.getElem?_zip_eq_some
abbrev Wh:=@Array.getElem?_extract
abbrev Wi:=@List.extract_eq_drop_take
abbrev Wj:=@Nat.le_of_add_le_add_left
abbrev Wl:=@List.Nodup.length_le_of_subset
abbrev Wm:=@Int.eq_ofNat_of_zero_le
abbrev Ja:=@List.mem_map
abbrev Jb:=@List.mem_append
abbrev Jc:=@List.getElem?_eq_some_iff
abbrev Jd:=@List.mem_singleton
abbrev Je:=@List.map_eq_nil_iff
abbrev Jf:=@List.mem_filter
abbrev Jg:=@Option.bind_eq_some_iff
abbrev Jh:=@List.nodup_cons
abbrev Ji:=@List.pairwise_cons
abbrev Jj:=@Option.map_eq_some_iff
abbrev Jk:=@List.pairwise_iff_getElem
abbrev Jl:=@List.length_eq_zero_iff
abbrev Jm:=@List.mem_iff_getElem?
abbrev Jn:=@List.length_pos_iff
abbrev Jo:=@Array.getElem?_eq_some_iff
abbrev Jp:=@Nat.lt_succ_iff
abbrev Jq:=@List.getElem?_eq_none_iff
abbrev Jr:=@List.mem_flatMap
abbrev Js:=@Bool.and_eq_true_iff
abbrev Jt:=@Array.perm_iff_toList_perm
abbrev Ju:=@List.nodup_append
abbrev Jv:=@List.mem_filterMap
abbrev Jw:=@Option.isSome_iff_exists
abbrev Jx:=@List.mem_iff_getElem
abbrev Jy:=@List.find?_range_eq_none
abbrev Jz:=@List.append_eq_nil_iff
abbrev J0:=List<|3×3
abbrev J1:=List J0
namespace L2
def xa {P:b->4}{G:4}(e:∃a,P a)(c:∀a,P a->G):G:=match e with|(a,h)=>c a h
def y9 {P:b->4}{G:4}(c:∀a,P a->G)(e:∃a,P a):G:=match e with|(a,h)=>c a h
def sV  {P:f->g->4}{G:4}(e:∃a b,P a b)(c:∀a b,P a b->G):G:=match e with|(a,b,h)=>c a b h
def j4  {P:f->g->4}{G:4}(c:∀a b,P a b->G)(e:∃a b,P a b):G:=match e with|(a,b,h)=>c a b h
def jR  {P:c->e->4}(a:c)(b:e)(h:P a b):∃a b,P a b:=(a,b,h)
def gS   {P:g->i->j->4}{G:4}(e:∃a b f,P a b f)(c:∀a b f,P a b f->G):G:=match e with|(a,b,f,h)=>c a b f h
def qf   {P:g->i->j->4}{G:4}(c:∀a b f,P a b f->G)(e:∃a b f,P a b f):G:=match e with|(a,b,f,h)=>c a b f h
def jg   {P:e->f->g->4}(a:e)(b:f)(c:g)(h:P a b c):∃a b c,P a b c:=(a,b,c,h)
def vE    {P:i->j->l->m->4}{G:4}(c:∀a b f g,P a b f g->G)(e:∃a b f g,P a b f g):G:=match e with|(a,b,f,g,h)=>c a b f g h
def jW    {P:f->g->i->j->4}(a:f)(b:g)(c:i)(e:j)(h:P a b c e):∃a b c e,P a b c e:=(a,b,c,e,h)
def qZ     {P:j->l->m->n->o->4}{G:4}(c:∀a b f g i,P a b f g i->G)(e:∃a b f g i,P a b f g i):G:=match e with|(a,b,f,g,i,h)=>c a b f g i h
def jC     {P:g->i->j->l->m->4}(a:g)(b:i)(c:j)(e:l)(f:m)(h:P a b c e f):∃a b c e f,P a b c e f:=(a,b,c,e,f,h)
def uK      {P:l->m->n->o->p->q->4}{G:4}(c:∀a b f g i j,P a b f g i j->G)(e:∃a b f g i j,P a b f g i j):G:=match e with|(a,b,f,g,i,j,h)=>c a b f g i j h
def wV      {P:i->j->l->m->n->o->4}(a:i)(b:j)(c:l)(e:m)(f:n)(g:o)(h:P a b c e f g):∃a b c e f g,P a b c e f g:=(a,b,c,e,f,g,h)
def wU       {P:j->l->m->n->o->p->q->4}(a:j)(b:l)(c:m)(e:n)(f:o)(g:p)(i:q)(h:P a b c e f g i):∃a b c e f g i,P a b c e f g i:=(a,b,c,e,f,g,i,h)
def j5{a b G:4}(c:a->b->G)(e:a/\b):G:=match e with|(h0,f)=>c h0 f
def sW{a b G:4}(e:a/\b)(c:a->b->G):G:=match e with|(h0,f)=>c h0 f
def j8{a b f G:4}(c:a->b->f->G)(e:a/\b/\f):G:=match e with|(h0,g,h2)=>c h0 g h2
def gU{a b f G:4}(e:a/\b/\f)(c:a->b->f->G):G:=match e with|(h0,g,h2)=>c h0 g h2
def xb{a b f g G:4}(c:a->b->f->g->G)(e:a/\b/\f/\g):G:=match e with|(h0,h,h2,h3)=>c h0 h h2 h3
def vG{a b f g h G:4}(c:a->b->f->g->h->G)(e:a/\b/\f/\g/\h):G:=match e with|(h0,i,h2,h3,h4)=>c h0 i h2 h3 h4
def vF{a b f g h i j G:4}(c:a->b->f->g->h->i->j->G)(e:a/\b/\f/\g/\h/\i/\j):G:=match e with|(h0,l,h2,h3,h4,h5,h6)=>c h0 l h2 h3 h4 h5 h6
abbrev jT:=Sum 3 Str
noncomputable def XP:jT->Value->Bool
 |.inl k,v=>Value.isInt k v
 |.inr x,v=>Value.isStrOf x v
noncomputable def tw(w:World):jT->3
 |.inl k=>hashInt k
 |.inr x=>hashStr w x
def WE:∀{k:jT}{v:Value},XP k v=6->(∃i t,k=Uh i/\v=Value.int i t)\/∃x t,k=U0 x/\v=Value.str x t
 |.inl i,v,h=>by
  let(t,e):=Value.isInt_shape h;rw[.inl (i,t,9,e)]
 |.inr x,v,h=>by
  let(t,e):=Value.isStrOf_shape h;rw[.inr (x,t,9,e)]
def Gx(i)(t):XP (.inl i) (.int i t)=6:=by simp[XP,Value.isInt]
def Pk(x)(t):XP (.inr x) (.str x t)=6:=by simp[XP,Value.isStrOf]
def Pm(a b):decide ((Uh a:jT)=Uh b)=(a==b):=()
def Pn(a b):decide ((U0 a:jT)=U0 b)=decide (a=b):=()
def Po(a)(b):decide ((Uh a:jT)=U0 b)=7:=rfl
def Pp(a)(b):decide ((U0 a:jT)=Uh b)=7:=rfl
def Kb(c:Program)(w:World):PySem.KeyKind c w jT where
 is:=XP
 hash:=tw w
 inj:=λv a b m l=>by
  obtain⟨i,t,rfl,rfl⟩|⟨x,t,rfl,rfl⟩:=WE m
  .rcases WE l with ⟨j,u,rfl,e⟩|⟨y,u,rfl,e⟩
   .injection e with f _;rw[f,]
   .rw[nomatch e]
  .rcases WE l with ⟨j,u,rfl,e⟩|⟨y,u,rfl,e⟩
   .rw[nomatch e]
   .injection e with f _;rw[f,]
 byValue:=λk v h=>by
  obtain⟨i,t,rfl,rfl⟩|⟨x,t,rfl,rfl⟩:=WE h<;>rfl
 pyHash:=λg h=>by
  obtain⟨i,t,rfl,rfl⟩|⟨x,t,rfl,rfl⟩:=WE g
  .rw[wpAny_pyHash_int h]
  .rw[wpAny_pyHash_str h]
 eqBool:=λn g h=>by
  obtain⟨i,t,rfl,rfl⟩|⟨x,t,rfl,rfl⟩:=WE n
  .rcases WE g with ⟨j,u,rfl,rfl⟩|⟨y,u,rfl,rfl⟩
   .rw[Pm]at h;rw[wpAny_eqBool_int h]
   .rw[Po]at h;rw[SeqAt.EqAt.int_str i t y u _ _ _ _ h]
  .rcases WE g with ⟨j,u,rfl,rfl⟩|⟨y,u,rfl,rfl⟩
   .rw[Pp]at h;rw[SeqAt.EqAt.str_int x t j u _ _ _ _ h]
   .rw[Pn]at h;rw[wpAny_eqBool_str h]
 «strs»:=λk x t v h=>by
  obtain⟨i,u,rfl,e⟩|⟨y,u,rfl,e⟩:=WE h
  .rw[nomatch e]
  .injection e with f _
   subst f;cases v<;>rfl
inductive V where
 |non|bl(b:Bool)|int(i:Int)|str(x:Str)|byt(b:Array UInt8)|flt(b:UInt64)|ref(a:Addr)|ty(n:String)
 deriving DecidableEq
abbrev _root_.YB:=List V
def jz:V->Value->4
 |.non,u=>u=Value.none
 |.bl b,u=>u=Value.bool b
 |.int i,u=>∃t,u=Value.int i t
 |.str x,u=>∃t,u=Value.str x t
 |.byt b,u=>∃t,u=Value.bytes b t
 |.flt b,u=>∃t,u=Value.float b t
 |.ref a,u=>u=Value.ref a
 |.ty n,u=>u=Value.type n
abbrev jv:YB->List Value->4:=Paired jz
theorem jv.length  (r:jv c e):⇑c=⇑e:=Paired.length r
theorem jv.get:∀{c:YB}{f:Ye}{i:5}{x:V},jv c f->c[i]?=!x->∃u,f[i]?=!u/\jz x u
 |_,_,_,_,.nil,e=>by simp at e
 |_,_,0,_,.cons r _,e=>by ext
 |_,_,i+1,x,.cons _ t,e=>by
  let(-u,j,l):=jv.get t (by simpa using e)
  ext
theorem jv.set  (r:jz x u):∀{c:YB}{e:Ye}i,jv c e->jv (c.set i x) (e.set i u)
 |_,_,_,.nil=>.nil
 |_,_,0,.cons _ t=>.cons r t
 |_,_,i+1,.cons q t=>.cons q (jv.set r i t)
def jv.append:∀{c e:YB}{f i:Ye},jv c f->jv e i->jv (c++e) (f++i):=λh s=>by
 cases(h)with
 |nil=>rw[s]
 |cons r _ j=>rw[.cons r j]
def jv.none_of:∀{c:YB}{f:Ye}{i:5},jv c f->c[i]?=8->f[i]?=8:=λ{c f i}r e=>by
 let j:=⇑r
 ext
def xY:02 V->02 Value->4
 |some v,some u=>jz v u
 |none,none=>True
 |_,_=>False
def KV{κ:Type}:List (κ × V)->List (κ × Value)->4:=Paired λ(p:κ × V)(q:κ × Value)=>p.1=q.1/\jz p.2 q.2
noncomputable def kV:jT->V
 |.inl i=>.int i
 |.inr x=>.str x
inductive HO where
 |lst(xs:YB)
 |tup(xs:YB)
 |dK(kvs:List (jT×V))|dT(kvs:List (List jT×V))
 |set(S:Int->Bool)(n:Nat)
 |ins(C dx:Addr)(fs:List (Str×V))
 |own(x:Addr)
 |xd(fs:List (Str×V))
 |met(f x:Addr)
 |rng(lo hi:Int)
 |frz(o:Obj)(u:HO)
 |tbl(ps:Yk)
 |ext(φ:Heap->Prop)
abbrev Hp:=Addr->02 HO
noncomputable def upd(H:Hp)(a:Addr)(o:HO):Hp:=λb=>if b=a then !o else H b
def JO   :upd H a o a=!o:=by simp_all[upd]
def JI   (h:b≠a):upd H a o b=H b:=by simp_all[upd]
def cr{H:Hp}  (h:H a=!o)(c:H b=!u)(d:o≠u):a≠b:=()
def K5{H:Hp}  (h:H a=!o)(c:H b=8):a≠b:=()
section
variable (P:Program)(w:World)
def yC(H:Hp)(h:Heap)(a:Addr):HO->4
 |.lst e=>⇑e<=00/\∃(b:Ye)(n:5),jv e b/\h.get? a=!{cls:=.type 013,data:=.seq b.toArray n}
 |.tup e=>(⇑e<=00/\∃o,h.get? a=!o/\o.dict=8)/\∃b:Ye,jv e b/\IsTup h a b.toArray
 |.dK c=>⇑c<=00/\(a==sysModules)=7/\∃i,KV c i/\h.DictOf (Kb P w) a i
 |.dT c=>⇑c<=00/\(a==sysModules)=7/\∃e:List (List jT×Addr×Value),
  Paired (λ(p:List jT×V)(q:List jT×Addr×Value)=>p.1=q.1/\H q.2.1=!(.tup<|p.1.map kV)/\jz p.2 q.2.2) c e/\
  ∃o j r,h.get? a=!o/\o.ExactDict/\o.data=.dict j r/\j.toList=e.map (entryOfKey<|tupleKind<|Kb P w)/\(e.map (·.1)).Nodup
 |.set S n=>h.SetOf (intKind P w) a S n
 |.ins C g fs=>H g=! .own a/\⇑fs<=1000/\g≠a/\h.get? a=! W.instObj C g/\
  ∃mA,h.Ns1 g mA/\(∀f,xY (fs.lookup f) (mA f))/\PySem.Within mA (fs.map (·.1))
 |.own _=>∃o,h.get? a=!o
 |.xd fs=>∃mA,h.Ns1 a mA/\∀f,xY (fs.lookup f) (mA f)
 |.rng lo s=>∃t u v,h.get? a=!{cls:=.type "range",data:=.fields #[.int lo t,.int s u,.int 1 v]}
 |.frz o u=>h.get? a=!o/\yC H h a u
 |.tbl y=>h.get? a=!{cls:=.none,data:=.fields y}
 |.met f x=>h.get? a=!(W.methodObj (.ref f)<|.ref x)
 |.ext φ=>φ h/\(∃o,h.get? a=!o)/\∀l m:Heap,φ l->(∀o,l.get? a=!o->m.get? a=!o)->φ m
def xy(H:Hp)(h:Heap):4:=∀a o,H a=!o->yC P w H h a o
end
section
variable     {a:Addr}
theorem yC.lt(x:yC P w H h a o):a<h.objs.size:=by
 cases(o)with
 |lst i=>let(_,_,_,_,e):=x;rw[Zk e]
 |tup i=>let(_,_,_,p):=x;rw[p.lt]
 |dK c=>let(!_,_,(_,_,o,_,_,e,_)):=x;rw[Zk e]
 |dT c=>let(!_,_,(_,_,o,_,_,e,_)):=x;rw[Zk e]
 |set S n=>let(o _ _ _,e,_):=x;rw[Zk e]
 |ins C j fs=>rw[Zk x.2.2.2.1]
 |own y=>let(_,e):=x;rw[Zk e]
 |xd fs=>let(-_,(_,_,_,e,_),_):=x;rw[Zk e]
 |rng lo l=>let(_ _ _,e):=x;rw[Zk e]
 |frz r u=>rw[Zk x.1]
 |tbl s=>rw[Zk<|x]
 |met f y=>rw[Zk<|x]
 |ext φ=>let(!_,(_,e),_):=x;rw[Zk e]
def yx  :∀{l₁:List α}{l₂:List β},Paired F l₁ l₂->(∀a b,F a b->G a b)->Paired G l₁ l₂:=λh f=>by
 cases(h)with
 |nil=>rw[.nil]
 |cons r _ c=>rw[.cons (f _ _ r) c]
def yC.stay(x:yC P w H h a o)(k:∀b u,b=a\/H b=! .own a->h.get? b=!u->F.get? b=!u)
 (O:∀b,H b=! .own a->I b=! .own a)(Q:∀b B,H b=! .tup B->I b=! .tup B):yC P w I F a o:=by
 cases(o)with
 |lst B=>let(z,s,n,r,e):=x;rw[(z,s,n,r,k _ _ 006 e)]
 |tup B=>let((z,E,R,T),s,r,i,e,c):=x;rw[((z,E,k _ _ 006 R,T),s,r,i,k _ _ 006 e,c)]
 |dK G=>let(z,y,U,r,i,j,l,e,c):=x;rw[(z,y,U,r,i,j,l,k _ _ 006 e,c)]
 |dT G=>
  let(!z,y,(B,r,i,j,l,e,c)):=x;rw[(z,y,B,yx r λp q z=>(z.1,Q _ _ z.2.1,z.2.2),i,j,l,k _ _ 006 e,c)]
 |set S n=>let(i j l t,e,c):=x;rw[jW i j l t (k _ _ 006 e,c)]
 |ins C Z fs=>
  let(!d,z,ne,e,(mA,(E,j,l,X,c),r)):=x;rw[(O _ d,z,ne,k _ _ 006 e,mA,(E,j,l,k _ _ (.inr d) X,c),r)]
 |own y=>let(i,e):=x;rw[(i,k _ _ 006 e)]
 |xd fs=>let(mA,(E,j,l,e,c),r):=x;rw[(mA,jg E j l (k _ _ 006 e,c),r)]
 |rng lo hi=>let(t u v,e):=x;rw[jg t u v<|k _ _ 006 e]
 |frz i u Y=>let(e,q):=x;rw[(k _ _ 006 e,Y q)]
 |tbl J=>
  let e:h.get? a=!{cls:=.none,data:=.fields J}:=x;show F.get? a=!{cls:=.none,data:=.fields J};rw[k a _ 006 e]
 |met f y=>
  let e:h.get? a=!(W.methodObj (.ref f)<|.ref y):=x;show F.get? a=!(W.methodObj (.ref f)<|.ref y);rw[k a _ 006 e]
 |ext φ=>let(!p,(o,e),L):=x;rw[(L _ _ p λo q=>k _ _ 006 q,(o,k _ _ 006 e),L)]
theorem xy.lt(x:xy P w H h)(e:H a=!o):a<h.objs.size:=(x a o e).lt
def xy.fresh(x:xy P w H h)(e:h.objs.size<=a):H a=8:=by
 cases q:H a with
 |none=>rfl
 |some u=>rw[Zn (Zg (x.lt q) e)<|Zy _]
def xy.kept(x:xy P w H h)(k:∀b u,h.get? b=!u->c.get? b=!u):xy P w H c:=λa o e=>
 (x a o e).stay (λb u _ q=>k b u q) (λ_ q=>q) 004
def xy.laid(x:xy P w H h)(k:∀b u,h.get? b=!u->f.get? b=!u)(j:h.objs.size<=a)(new:yC P w (upd H a o) f a o):xy P w (upd H a o) f:=λb u e=>by
 let i:=x.fresh j;cases l:b=a
 .simp_all[JO]
 .rw[JI l]at e;rw[(x b u e).stay () λc q=>by rwa[JI (K5 q i),] λc n q=>by rwa[JI (K5 q i),]]
end
def Rd(H:Hp)(a:Addr)(u:HO):4:=H a=!u\/∃o,H a=! .frz o u
def Rd.ok      (r:Rd H a u)(x:xy P w H h):yC P w H h a u:=by
 obtain r|⟨o,r⟩:=r
 .rw[x a u r]
 .let(_,q):=x a _ r;rw[q]
def m5:02 HO->4
 |some (.lst _)=>True
 |some (.dK _)=>True
 |some (.dT _)=>True
 |some (.set _ _)=>True
 |some (.ins _ _ _)=>True
 |some (.ext _)=>True
 |_=>False
def xy.write(ok:xy P w H h)(p:m5 (H x))(F:e=x\/H e=! .own x)(k:∀b u,b≠e->h.get? b=!u->l.get? b=!u)(n:∃u,l.get? e=!u)
 (new:yC P w (upd H x s) l x s):xy P w (upd H x s) l:=λb u q=>by
 let f:∀c y,H c=! .own y->c≠x:=λc y r z=>by subst z;rwa[r]at p
 let i:∀c j,H c=! .tup j->c≠x:=λc j r z=>by subst z;rwa[r]at p
 cases E:b=x
 .simp_all[JO]
 .rw[JI E]at q;cases o:b=e
  .let B:H b=! .own x:=by
    ext
   rw[q]at B;cases B;let(v,G):=n;rw[(v,by rwa[o,])]
  .rw[(ok b u q).stay (λc v I r=>k c v ?_ r) λc r=>by rwa[JI (f c b r),] λc j r=>by rwa[JI (i c j r),]]
   grind
structure Un(fs ex:Yj)(H H':Hp)(h h':Heap):4 where
 keep:∀b o,h.get? b=!o->H b=8->b∉fs->b∉ex->h'.get? b=!o
 slot:∀b o,h.get? b=!o->H b=8->b∈fs->b∉ex->∃sl,h'.get? b=!{o with slots:=sl}
 free:∀b o,h.get? b=!o->H b=8->b∉ex->H' b=8
 there:∀b o,h.get? b=!o->b∉ex->∃o',h'.get? b=!o'
 tups:∀b xs,H b=! .tup xs->H' b=! .tup xs
 frzs:∀b o u,H b=! .frz o u->H' b=! .frz o u
 tbls:∀b ps,H b=! .tbl ps->∃more,H' b=!(.tbl<|ps++more)
section
variable   {h h1 h2 h':Heap}{a x e:Addr}
def Un.any(u:Un fs j H o h h1)  (q:h.get? b=!c)(n:H b=8)(f:b∉j):∃l,h1.get? b=!{c with slots:=l}:=by
 cases i:b∈fs
 .rw[u.slot b c q n i f]
 .rw[(c.slots,u.keep b c q n i f)]
def Un.kept(k:∀b u,h.get? b=!u->h'.get? b=!u):Un fs f H H h h':=
 (λb c q _ _ _=>k b c q,λb c q _ _ _=>(c.slots,k b c q),λ_ _ _ n _=>n,λb c q _=>(c,k b c q),004,λ_ _ _ q=>q,λ_ i q=>(#[],by rw[q,];simp))
theorem Un.refl:Un fs c H H h h:=Un.kept 004
def Un.laid(k:∀b u,h.get? b=!u->h'.get? b=!u)(f:h.objs.size<=a)(c:H a=8):Un fs j H (upd H a o) h h' where
 keep:=by grind
 slot:=λb u q _ _ _=>(u.slots,k b u q)
 free:=λb u q n _=>by rwa[JI (Zi<|Zg (Zk q) f),]
 there:=by grind
 tups:=λb i q=>by rwa[JI (K5 q c),]
 frzs:=λb u i q=>by rwa[JI (K5 q c),]
 tbls:=λb l q=>(#[],by rw[JI (K5 q c),q];simp)
def Un.write(f:m5 (H x))(r:e=x\/H e=! .own x)(k:∀b u,b≠e->h.get? b=!u->h'.get? b=!u)(i:∃u,h'.get? e=!u):Un fs s H (upd H x o) h h':=by
 let j:∀b,H b=8->b≠x:=λb n z=>by subst z;rwa[n]at f
 let l:∀b,H b=8->b≠e:=by grind
 let c:∀b u,H b=!u->¬m5 !u->b≠x:=by grind
 rw[((),λb u q n _ _=>(u.slots,k b u (l b n) q),λb u q n _=>by rwa[JI (j b n),],λb u q _=>?_,
  λb p q=>by rwa[JI (c b _ q λz=>z),],λb u p q=>by rwa[JI (c b _ q λz=>z),],λb v q=>(#[],by rw[JI (c b _ q λz=>z),q];simp))]
 grind
end
noncomputable def trk(h:Heap)(H:Hp):Yj:=(List.range h.objs.size).filter λa=>(H a).isSome
def wg(h:Heap)(H:Hp):Heap:=W.hideAll h<|trk h H
structure Mod(K:f')(mg:Yd)(base:Heap):4 where
 kin:K.In base
 glob:base.Ns 000 mg
 blt:∃mb,base.Ns builtinsNs mb/\∀x:Str,x ≠"__name__"->mb x=bootBuiltins x
 nolimit:base.NoLimit
structure Cx where
 prog:Program
 w:World
 K:f'
 mg:Yd
 base:Heap
 A:Around
 N:Yi
 s₀:Shared
 H₀:Hp
 env:Env
 outer:List Env
 stack:List Env
 ex:Yj
 fn:Str->Bool
 calm:Bool
 pn:Yb
 xe:Ya
abbrev _root_.YE(X:Cx){α:Type}(m:Sem α):=wpAny 009 X.A m
abbrev _root_.YF(P:Program)(w:World)(A:Around){α:Type}(m:Sem α):=wpAny (model P w) A m
abbrev _root_.YG(P:Program)(w:World)(A:Around)(E:Value->Shared->4)(s:Shared){α:Type}(m:StateT PyProof.Rows.SortSt Sem α):=PyProof.Rows.wpS (model P w) A E s m
noncomputable def frs(l:List Env):Yj:=l.filterMap (·.frame)
abbrev Cx.fs(X:Cx):Yj:=frs X.outer
def dA(a:Scope)(x:Str):4:=a.names.lookup x=!.local\/a.names.lookup x=!.cell\/a.names.lookup x=!.free
def zP(a:Scope)(x:Str):4:=a.names.lookup x=!.local\/a.names.lookup x=!.cell
def dH(a:Env)(h:Heap)(m:Yd)(x:Str)(u:Value):4:=
 a.kindOf x=!.local/\m x=!u\/(a.kindOf x=!.cell\/a.kindOf x=!.free)/\∃c,a.cells.lookup x=!c/\h.IsCell c !u
structure Cx.Ok(X:Cx):4 where
 mod:Mod X.K X.mg X.base
 kind:X.env.scope.kind=.function
 glob:X.env.globals=000
 blt:X.env.builtins=builtinsNs
 above:X.s₀.heap.objs.size<=X.env.locals
 inj:∀x y c,X.env.cells.lookup x=!c->X.env.cells.lookup y=!c->x=y
 has:∀x,X.env.kindOf x=!.cell\/X.env.kindOf x=!.free->∃c,X.env.cells.lookup x=!c
 cab:∀x c,X.fn x=6->X.env.cells.lookup x=!c->X.s₀.heap.objs.size<=c
 hd:X.calm=6->X.A.handled=8
 frames:X.A.frames=!X.stack
 stk:X.stack=X.outer\/X.stack=X.env::X.outer/\X.env.frame=!X.env.locals
 exf:∀b∈X.ex,b≠X.env.locals/\∀x c,X.env.cells.lookup x=!c->c≠b
 bs:∀b o,X.base.get? b=!o->X.s₀.heap.get? b=!o/\X.H₀ b=8
 bsz:X.base.objs.size<=X.s₀.heap.objs.size
 noex:∀b o,X.base.get? b=!o->b∉X.ex
 exfs:∀b∈X.ex,b∉X.fs
 funs:X.s₀.heap.FunFrames X.base X.outer
 frf:∀b∈X.fs,X.H₀ b=8
structure Inv(X:Cx)(Y:Yb)(Z:List (02 V))(H:Hp)(s:Shared):4 where
 ok:X.Ok
 os:s.os=X.s₀.os
 bare:AllBare s.gens
 base:Un X.fs X.ex X.H₀ H X.s₀.heap s.heap
 loc:∃m,s.heap.Ns X.env.locals m/\∀(i:5)(x:Str)(v:V),X.N[i]?=!x->Z[i]?=! !v->dA X.env.scope x->∃u,jz v u/\dH X.env s.heap m x u
 cell:∀x c,X.env.cells.lookup x=!c->∃v,s.heap.IsCell c v
 free:H X.env.locals=8
 freeC:∀x c,X.env.cells.lookup x=!c->H c=8
 pin:∀p∈X.pn++Y,↥s p.1=!p.2/\H p.1=8/\p.1≠X.env.locals/\p.1∉X.fs/\∀v,p.2.data ≠ .cell v
 hok:xy X.prog X.w H s.heap
 len:⇑Z=⇑X.N
section
variable {X:Cx}
def Cx.Ok.nofr(ok:X.Ok)  (e:X.base.get? b=!o):b∉X.fs:=λc=>by
 let:=(ok.funs.mem c).1
 ext
theorem Inv.bs(I:003):∀b o,X.base.get? b=!o->↥s b=!o/\H b=8:=λb o e=>
 (I.base.keep b o (I.ok.bs b o e).1 (I.ok.bs b o e).2 (I.ok.nofr e)<|I.ok.noex b o e,I.base.free b o (I.ok.bs b o e).1 (I.ok.bs b o e).2<|I.ok.noex b o e)
def Inv.bk(I:003):∀b o,X.base.get? b=!o->↥s b=!o:=λb o e=>(I.bs b o e).1
theorem Inv.mod(I:003):Mod X.K X.mg X.base:=I.ok.mod
def Inv.kIn(I:003):X.K.In s.heap:=I.ok.mod.kin.keeps I.bk
theorem Inv.lt(I:003):X.env.locals<s⁻¹:=xa I.loc λ_=>j5 λc _=>c.lt
theorem Inv.sz(I:003):X.s₀.heap.objs.size<=s⁻¹:=Zh I.ok.above<|Zz I.lt
def Inv.nofs(I:003){a:Addr}(h:s⁻¹<=a):a∉X.fs:=λc=>by
 let(_,o,e,_):=I.ok.funs.mem c;rw[Zn (Zg (Zk e)<|Zh I.sz h)<|Zy _]
def Inv.cne(I:003):∀x c,X.env.cells.lookup x=!c->c≠X.env.locals:=λx c e z=>by
 let(v o,j,l):=I.cell x c e;let(-m,(n,p,r,f,i,_),_):=I.loc
 ext
theorem Inv.funs(I:003):s.heap.FunFrames X.base X.outer:=by
 let all:∀l,(∀b∈frs l,b∈X.fs)->X.s₀.heap.FunFrames X.base l->s.heap.FunFrames X.base l:=by
  intro l
  cases(l)with
  |nil=>intro _ _;trivial
  |cons j r n=>
   intro f p;let(!u,(L,o,v,y,B,E),F):=p;let c:L∈X.fs:=f L (by simp_all[frs,U4]);let(G,e):=I.base.slot L o B (I.ok.frf L c) c λz=>I.ok.exfs L z c;rw[(u,(L,_,v,y,e,E),n λb i=>f b<|by simp_all[frs,U4] F)]
 rw[all X.outer (λ_ i=>i) I.ok.funs]
theorem Inv.stack(I:003):s.heap.FunFrames X.base X.stack:=by
 obtain e|⟨e,hf⟩:=I.ok.stk
 .rw[e,];rw[I.funs]
 .rw[e,];let(-m,c,_):=I.loc;rw[.cons (by rw[I.ok.kind,];decide) hf c ?_ I.funs];rw[Heap.get?_none_of_le<|Zh I.ok.bsz I.ok.above]
def Inv.stkSub(I:003):∀b∈frs X.stack,b∈X.env.locals::X.fs:=λb c=>by
 obtain e|⟨e,hf⟩:=I.ok.stk
 .ext
 simp_all[frs]
def Inv.stkFree(I:003):∀b∈frs X.stack,H b=8:=λb hb=>by
 rcases UY.mp (I.stkSub b hb)with e|hb
 .rw[e,];rw[I.free]
 .let(_,o,c,_):=I.ok.funs.mem hb;rw[I.base.free b o c (I.ok.frf b hb) λz=>I.ok.exfs b z hb]
def Inv.step   {ch:Yj}(I:003)
 (J:∀b∈ch,(b∈X.ex\/X.s₀.heap.objs.size<=b)/\b≠X.env.locals/\(∀x c,X.env.cells.lookup x=!c->c≠b)/\∀p∈X.pn++Y,p.1≠b)
 (keep:∀b o,b≠X.env.locals->b∉X.fs->b∉ch->↥s b=!o->H b=8->Q.get? b=!o)
 (E:∀b o,b≠X.env.locals->b∈X.fs->b∉ch->↥s b=!o->H b=8->∃sl,Q.get? b=!{o with slots:=sl})(free:∀b o,b∉ch->↥s b=!o->H b=8->S b=8)
 (L:∀b o,b∉ch->↥s b=!o->∃T,Q.get? b=!T)
 (U:∀b F,H b=! .tup F->S b=! .tup F)(frzs:∀b o u,H b=! .frz o u->S b=! .frz o u)(tbls:∀b ps,H b=! .tbl ps->∃more,S b=!(.tbl<|ps++more))
 (ns:∀m,s.heap.Ns X.env.locals m->Q.Ns X.env.locals m)(hok:xy X.prog X.w S Q)(hg:AllBare g'):
 Inv X Y Z S {s with heap:=Q,gens:=g',drawn:=d',toks:=t'}:=by
 let neL:∀b o,X.s₀.heap.get? b=!o->b≠X.env.locals:=λb o e=>Zi<|Zg (Zk e) I.ok.above;let B:∀b o,X.s₀.heap.get? b=!o->b∉X.ex->b∉ch:=λb o e f O=>by
  rcases(J b O).1 with z|z
  .rw[f z]
  .rw[Zn (Zg (Zk e) z)<|Zy _]
 let j:∀x c,X.env.cells.lookup x=!c->∀v,s.heap.IsCell c v->Q.IsCell c v:=λx c e v zh=>by
  let(-o,R,hd):=zh;let y:c∉ch:=by grind
  cases hc:c∈X.fs
  .let(sl,q):=E c o (I.cne x c e) hc y R (I.freeC x c e);rw[(_,q,hd)]
  .rw[(o,keep c o (I.cne x c e) hc y R<|I.freeC x c e,hd)]
 rw[(I.ok,I.os,hg,(λb o e n O f=>?_,λb o e n O f=>?_,λb o e n f=>?_,λb o e f=>?_,λb F e=>U b F<|I.base.tups b F e,λb o F e=>frzs b o F<|I.base.frzs b o F e,λb ps e=>?_),?_,λx c e=>?_,?_,λx c e=>?_,λp hp=>?_,hok,I.len)]
 .rw[keep b o (neL b o e) O (B b o e f) (I.base.keep b o e n O f)<|I.base.free b o e n f]
 .let(sl,G):=I.base.slot b o e n O f;let(sl',e2):=E b _ (neL b o e) O (B b o e f) G (I.base.free b o e n f);rw[(sl',e2)]
 .let(T,G):=I.base.there b o e f;rw[free b T (B b o e f) G<|I.base.free b o e n f]
 .let(T,G):=I.base.there b o e f;rw[L b T (B b o e f) G]
 .let(m1,G):=I.base.tbls b ps e
  grind
 .let(-m,hn,hl):=I.loc;rw[(m,ns m hn,λi x v G e2 e3=>?_)];let(-u,r,l):=hl i x v G e2 e3;rw[(u,r,?_)];obtain l|⟨k,c,e,z⟩:=l
  .rw[.inl l]
  .rw[.inr (k,c,e,j x c e _ z)]
 .let(v,z):=I.cell x c e;rw[(v,j x c e v z)]
 .let(-m,(o,_,_,R,_),_):=I.loc;rw[free _ o (λz=>(J _ z).2.1 9) R I.free]
 .let(v o,R,hd):=I.cell x c e;rw[free c o () R<|I.freeC x c e]
 .let(!e,n,ne,nf,d):=I.pin p hp;let y:=λz=>(J p.1 z).2.2.2 p hp 9;rw[(keep p.1 p.2 ne nf y e n,free p.1 p.2 y e n,ne,nf,d)]
def Inv.un (I:003)(u:Un X.fs [] H p s.heap v)(f:xy X.prog X.w p v):Inv X Y Z p {s with heap:=v,toks:=G}:=by
 let(-m,(o,J,L,y,r),_):=id I.loc;let(O,B):=u.any y I.free ();rw[I.step (g':=s.gens) (d':=s.drawn) (ch:=[]) (λ_ z=>nomatch z) (λb o _ i _ e n=>u.keep b o e n i ()) (λb o _ i _ e n=>u.slot b o e n i ()) (λb o _ e n=>u.free b o e n ()) (λb o _ e=>u.there b o e ()) u.tups u.frzs u.tbls (λQ E=>by
  let(R j l,c,F):=E;rw[y]at c;cases c;rw[jg _ j l (B,F)]) f I.bare]
def Inv.call    (I:003)(u:Un (frs X.stack) ch H E s.heap F)(l:xy X.prog X.w E F)(J:AllBare L)
 (i:∀b∈ch,(b∈X.ex\/X.s₀.heap.objs.size<=b)/\b≠X.env.locals/\(∀x c,X.env.cells.lookup x=!c->c≠b)/\∀p∈X.pn++Y,p.1≠b):
 Inv X Y Z E {s with heap:=F,gens:=L,drawn:=S,toks:=T}:=by
 let(-m,(o,U,ep,G,r),_):=id I.loc;let(sl,v):=u.any G I.free λz=>(i _ z).2.1 9;rw[I.step (ch:=ch) i (λb o v O f e n=>u.keep b o e n (λz=>(UY.mp<|I.stkSub b z).elim v O) f) (λb o _ _ f e n=>u.any e n f) (λb o f e n=>u.free b o e n f) (λb o f e=>u.there b o e f) u.tups u.frzs u.tbls (λm' Q=>by
  let(o' y B,j,R):=Q;rw[G]at j;cases j;rw[jg _ y B (v,R)]) l J]
def Inv.turned  (I:003)(k:∀b o,b≠it->↥s b=!o->l.get? b=!o)(y:H it=8)(j:it≠X.env.locals)
 (B:it∈X.ex\/X.s₀.heap.objs.size<=it)(E:∀x c,X.env.cells.lookup x=!c->c≠it)(F:∀p∈X.pn++Y,p.1≠it):Inv X Y Z H {s with heap:=l,toks:=t'}:=by
 let i:∀b u,H b=!u->b≠it:=λb u e z=>by rw[z,y]at e;cases e
 rw[I.step (g':=s.gens) (d':=s.drawn) (ch:=[it]) (λb G=>?_) (λb o _ _ f e _=>k b o λz=>f<|by simp[z] e) (λb o _ _ f e _=>(o.slots,k b o λz=>f<|by simp[z] e)) (λ_ _ _ _ n=>n)
  (λb o f e=>(o,k b o λz=>f<|by simp[z] e)) (λ_ _ e=>e) (λ_ _ _ e=>e) (λb R e=>(#[],by rw[e,];simp)) (λm J=>?_) (λb u e=>?_) I.bare]
 .let e:b=it:=by simpa using G
  subst e;rw[(B,j,E,F)]
 .let(o L O,Q,r):=J;rw[jg o L O (k _ o (Ne.symm j) Q,r)]
 .rw[(I.hok b u e).stay (λc v f q=>k c v ?_ q) (λ_ q=>q) 004];obtain z|z:=f
  .rw[z,];rw[i b u e]
  .rw[i c _ z]
def Inv.tok(I:003)(t):Inv X Y Z H {s with toks:=t}:=I.un Un.refl I.hok
theorem Inv.kept (I:003)(k:∀b u,↥s b=!u->c.get? b=!u):Inv X Y Z H {s with heap:=c,toks:=t'}:=I.un (Un.kept k)<|I.hok.kept k
theorem Inv.laid{a:Addr}  (I:003)(k:∀b u,↥s b=!u->e.get? b=!u)(c:s⁻¹<=a)(new:yC X.prog X.w (upd H a o) e a o):
 Inv X Y Z (upd H a o) {s with heap:=e,toks:=t'}:=I.un (Un.laid k c<|I.hok.fresh c)<|I.hok.laid k c new
theorem Inv.write   (I:003)(i:m5 (H x))(j:e=x\/H e=! .own x)(k:∀b u,b≠e->↥s b=!u->f.get? b=!u)(c:∃u,f.get? e=!u)
 (new:yC X.prog X.w (upd H x o) f x o):Inv X Y Z (upd H x o) {s with heap:=f,toks:=l}:=I.un (Un.write i j k c)<|I.hok.write i j k c new
def Inv.pins_of (I:003)(h:∀p∈Y',↥s p.1=!p.2/\H p.1=8/\p.1≠X.env.locals/\p.1∉X.fs/\∀v,p.2.data ≠ .cell v):Inv X Y' Z H s:=
 (I.ok,I.os,I.bare,I.base,I.loc,I.cell,I.free,I.freeC,λp c=>(Jb.mp c).elim (λz=>I.pin p<|U9 _ z)<|h p,I.hok,I.len)
def Gy{N:Yi}(c:N.Nodup){i j:5} (a:N[i]?=!x)(b:N[j]?=!x):i=j:=by
 let(g,e):=Jc.mp a;let(h,f):=Jc.mp b;rw[(List.getElem_inj c).mp<|e.trans f.symm]
def Pq        (I:003)(hN:X.N.Nodup)(C:X.N[i]?=!x)(t:zP X.env.scope x)(r:jz v u)
 (h:∀U,Inv X Y (Z.set i<|!v) H U->(∃a,Heap.SameBut a s.heap U.heap/\(a=X.env.locals\/X.env.cells.lookup x=!a))->Q Yq U)(hf:X.fn x=6\/X.env.scope.names.lookup x=!.local:=by trivial):wpAny M A (storeName X.env x u) Q E s:=by
 let(-m,hn,hl):=id I.loc;let N:(X.env.scope.kind==.class||X.env.scope.kind==.module&&X.env.locals !=X.env.globals)=7:=by rw[I.ok.kind,];rfl
 let hiσ:i<⇑Z:=by rw[I.len,];rw[(Jc.mp C).1]
 let cne:=I.cne;let g:∀{a:Addr}{L:Heap},(∃o,↥s a=!o/\H a=8)->Heap.SameBut a s.heap L->xy X.prog X.w H L:=λ{a L}ha f b ob e=>by
  let(_,_,hfree):=ha;rw[(I.hok b ob e).stay (λc S w q=>(f.2 c ?_).trans q) (λ_ q=>q) 004]
  grind
 obtain hk|hk:=t
 .rw[wpAny_storeName_local hk hn (λL hn' f=>?_) N];let(oL _ _,hoL,_):=id hn;rw[h _ (I.ok,I.os,I.bare,(λb o e n F t=>?_,λb o e n F t=>?_,I.base.free,λb o e t=>?_,I.base.tups,I.base.frzs,I.base.tbls),(_,hn',λj y v' l B e3=>?_),λy c e=>?_,I.free,I.freeC,λp hp=>?_,g (oL,hoL,I.free) f,by simpa using I.len) (_,f,006)]
  .rw[(f.2 b<|Zi<|Zg (Zk e) I.ok.above).trans<|I.base.keep b o e n F t]
  .let(sl,l):=I.base.slot b o e n F t;rw[(sl,(f.2 b<|Zi<|Zg (Zk e) I.ok.above).trans l)]
  .let(o',l):=I.base.there b o e t;rw[(o',(f.2 b<|Zi<|Zg (Zk e) I.ok.above).trans l)]
  .cases G:j=i
   .subst G;rw[C]at l;cases l;rw[UT hiσ]at B;cases B;rw[(u,r,.inl (hk,()))]
   .rw[Zx (Ne.symm G)]at B;let(u',r',q):=hl j y v' l B e3;rw[(u',r',?_)];obtain⟨k,e⟩|⟨k,c,e,z⟩:=q
    .rw[.inl (k,?_)];let:y≠x:=λe=>G<|Gy hN l<|e ▸ C;simp[this,e]
    .rw[.inr (k,c,e,z.sameBut f<|cne y c e)]
  .let(S,z):=I.cell y c e;rw[(S,z.sameBut f<|cne y c e)]
  .let(!e,n,ne,nf,d):=I.pin p hp;rw[((f.2 p.1 ne).trans e,n,ne,nf,d)]
 .let J:X.fn x=6:=by
   obtain z|z:=hf
   .rw[z]
   .rw[z]at hk;cases hk
  let(c,w):=I.ok.has x (.inl hk);let(S,z):=I.cell x c w;rw[wpAny_storeName_cell I.ok.kind hk w z<|λL O f=>?_];let(-oc,P,hocd):=id z;rw[h {s with heap:=L} (I.ok,I.os,I.bare,(λb o e n F t=>?_,λb o e n F t=>?_,I.base.free,λb o e t=>?_,I.base.tups,I.base.frzs,I.base.tbls),(m,hn.sameBut f<|Ne.symm<|cne x c w,λj y v' l B e3=>?_),λy T e=>?_,I.free,I.freeC,λp hp=>?_,g (oc,P,I.freeC x c w) f,by simpa using I.len) (c,f,.inr w)]
  .rw[(f.2 b<|Zi<|Zg (Zk e)<|I.ok.cab x c J w).trans<|I.base.keep b o e n F t]
  .let(sl,l):=I.base.slot b o e n F t;rw[(sl,(f.2 b<|Zi<|Zg (Zk e)<|I.ok.cab x c J w).trans l)]
  .let(o',l):=I.base.there b o e t;rw[(o',(f.2 b<|Zi<|Zg (Zk e)<|I.ok.cab x c J w).trans l)]
  .cases G:j=i
   .subst G;rw[C]at l;cases l;rw[UT hiσ]at B;cases B;rw[(u,r,.inr (.inl hk,c,w,O))]
   .rw[Zx (Ne.symm G)]at B;let(-u',r',q):=hl j y v' l B e3;rw[(u',r',?_)];obtain q|⟨k,T,e,z'⟩:=q
    .rw[.inl q]
    .rw[.inr (k,T,e,z'.sameBut f ?_)];rintro rfl;rw[G<|Gy hN l<|I.ok.inj _ _ _ e w ▸ C]
  .cases R:T=c
   .subst R;rw[(_,O)]
   .let(w2,z2):=I.cell y T e;rw[(w2,z2.sameBut f R)]
  .let(!e,n,ne,nf,d):=I.pin p hp;rw[((f.2 p.1 ?_).trans e,n,ne,nf,d)];intro q;rw[q,P]at e;let q':=Zqi e;rw[d S<|by rwa[<-q']]
def BF        (I:003)(b:X.N.Nodup)(c:X.N[i]?=!x)(e:zP X.env.scope x)(r:jz v u)
 (h:∀a,Inv X Y (Z.set i<|!v) H a->Q Yq a)(f:X.fn x=6\/X.env.scope.names.lookup x=!.local:=by trivial):wpAny M A (storeName X.env x u) Q E s:=
 Pq I b c e r (λa g _=>h a g) f
def Inv.call'  (I:003)(j:s'.os=s.os)(u:Un (frs X.stack) ch H i s.heap s'.heap)(e:xy X.prog X.w i s'.heap)(l:AllBare s'.gens)
 (f:∀b∈ch,(b∈X.ex\/X.s₀.heap.objs.size<=b)/\b≠X.env.locals/\(∀x c,X.env.cells.lookup x=!c->c≠b)/\∀p∈X.pn++Y,p.1≠b):Inv X Y Z i s':=by
 let(n,o,r,v,y):=s';subst j;rw[I.call u e l f]
end
abbrev XK:=Value->02 Addr->Hp->4
abbrev St:=List<|02 V
abbrev VK:=V->Hp->4
abbrev TE:=St->Hp->VK->4
abbrev TT:=St->Hp->(Bool->Hp->4)->4
abbrev TA:=St->Hp->(YB->Hp->4)->4
structure Ends where
 nx:St->Hp->4
 rt:VK
 bk:St->Hp->4:=λ_ _=>False
 ct:St->Hp->4:=λ_ _=>False
abbrev TS:=Ends->St->Hp->4
def EP(X:Cx)(Y:Yb)(Z:St)(Q:VK)(u:Value)(b:Shared):4:=∃v a,Inv X Y Z a b/\jz v u/\Q v a
def TP(X:Cx)(Y:Yb)(Z:St)(Q:Bool->Hp->4)(b:Bool)(c:Shared):4:=∃a,Inv X Y Z a c/\Q b a
def AP(X:Cx)(Y:Yb)(Z:St)(Q:YB->Hp->4)(c:Ye)(e:Shared):4:=∃a b,Inv X Y Z b e/\jv a c/\Q a b
def SP(X:Cx)(Y:Yb)(D:Ends)(f:Flow)(c:Shared):4:=
 match f with
 |.next=>∃b a,Inv X Y b a c/\D.nx b a
 |.brk=>∃b a,Inv X Y b a c/\D.bk b a
 |.cont=>∃b a,Inv X Y b a c/\D.ct b a
 |.ret u=>∃v b a,Inv X Y b a c/\jz v u/\D.rt v a
def PE(X:Cx)(e:Expr)(t:TE):4:=
 ∀(Y:Yb)(s:Shared)(Z:St)(H:Hp)(Q:VK),003->t Z H Q->YE X 011 (EP X Y Z Q) X.xe s
def PT(X:Cx)(e:Expr)(t:TT):4:=
 ∀(Y:Yb)(s:Shared)(Z:St)(H:Hp)(Q:Bool->Hp->4),003->t Z H Q->YE X (isTrue e X.env<|011) (TP X Y Z Q) X.xe s
def PW(X:Cx)(e:Expr)(t:TT):4:=
 ∀(a:Sem Value)(Y:Yb)(s:Shared)(Z:St)(H:Hp)(Q:Bool->Hp->4),003->t Z H Q->YE X (isTrue e X.env a) (TP X Y Z Q) X.xe s
def PA(X:Cx)(b:List Expr)(t:TA):4:=
 ∀(a:Pos)(Y:Yb)(s:Shared)(Z:St)(H:Hp)(Q:YB->Hp->4),003->t Z H Q->YE X (spliced<|backTo a<|01 b X.env) (AP X Y Z Q) X.xe s
def PS(X:Cx)(a:Stmt)(t:TS):4:=
 ∀(Y:Yb)(s:Shared)(Z:St)(H:Hp)(D:Ends),003->t D Z H->YE X (exec a X.env) (SP X Y D) X.xe s
def xm(X:Cx)(a:List Stmt)(t:TS):4:=
 ∀(Y:Yb)(s:Shared)(Z:St)(H:Hp)(D:Ends),003->t D Z H->YE X (execs a X.env) (SP X Y D) X.xe s
def jL       (h:wpAny M A t Q E s)(b:∀a s,Q a s->c a s):wpAny M A t c E s:=Zc h b λ_ _ x=>x
section
variable {X:Cx}
def yH(i:5):TE:=λZ H Q=>∃v,Z[i]?=! !v/\Q v H
def tC(v:V):TE:=λ_ H Q=>Q v H
def Gz :PE X (.Constant (.str x) j a) (tC<|.str x):=λ_ _ _ H _ I h=>Calls.Constant_str (.str x,H,I.tok _,(_,9),h)
def Gl(X:Cx)(x:Str):4:=X.env.kindOf x=!.globalImplicit
def YT   {Z:St}     (I:003)(a:Gl X x)(b:X.mg x=!u)(h:Q u s)
 (c:(x==010)=7:=by decide):YE X (eval (.Name x e) X.env) Q E s:=
 Calls.Name_function_global I.ok.kind a (Calls.loadGlobal_global (by rw[I.ok.glob,];rw[I.mod.glob.keeps I.bk]) b h) c
def Xq   {Z:St}     (I:003)(a:Gl X x)(b:X.mg x=8)(c:bootBuiltins x=!u)(h:Q u s)
 (e:x ≠"__name__":=by decide)(f:(x==010)=7:=by decide):YE X (eval (.Name x g) X.env) Q E s:=by
 let(-l,i,j):=I.mod.blt;rw[Calls.Name_function_global I.ok.kind a (Calls.loadGlobal_builtin (by rw[I.ok.glob,];rw[I.mod.glob.keeps I.bk]) b (by rw[I.ok.blt,];rw[i.keeps I.bk]) ((j x e).trans c) h) f]
variable {a b:Expr}{ta tb:TE}
def PC(X:Cx)(c:CmpOp)(a b:Expr)(t:TE):4:=
 ∀(Y:Yb)(s:Shared)(Z:St)(H:Hp)(Q:VK),003->t Z H Q->
  YE X (eval a X.env) (λv s₁=>YE X (eval b X.env) (λu s₂=>YE X (compareOp c v u) (EP X Y Z Q) X.xe s₂) X.xe s₁) X.xe s
def G0(b) (h:c ≠ .In)(e:c ≠ .NotIn):behindInMarks c b=7:=by
 cases b<;>first|rfl|(show(_&&(_||_)&&_)=7;ext)
def kJ(ta:TE):TE:=λZ H Q=>ta Z H λx c=>Q (.bl<|decide<|x=.non) c
def G1(ta:TE):TE:=λZ H Q=>ta Z H λx c=>Q (.bl<|not<|decide<|x=.non) c
def jz.none_iff  (r:jz x v):(v==Value.none)=decide (x=.non):=by
 cases(x)with
 |non=>cases r;rfl
 |bl _=>cases r;rfl
 |int _=>let(t,rfl):=r;rfl
 |str _=>let(t,rfl):=r;rfl
 |byt _=>let(t,rfl):=r;rfl
 |flt _=>let(t,rfl):=r;rfl
 |ref _=>cases r;rfl
 |ty _=>cases r;rfl
def Pr (e:PE X a ta):PC X .Is a (.Constant .none j c) (kJ ta):=λY s Z H Q I h=>jL (e Y s Z H _ I h) λv m=>j4 λx f=>j8 λg i l=>Constant_none<|is_none_gen (.bl _,f,g,by rw[i.none_iff,];rfl,l)
def G2 (e:PE X a ta):PC X .IsNot a (.Constant .none j c) (G1 ta):=λY s Z H Q I h=>jL (e Y s Z H _ I h) λv m=>j4 λx f=>j8 λg i l=>Constant_none<|isnot_none_gen (.bl _,f,g,by rw[i.none_iff,];rfl,l)
def tB(t:TE):TT:=λZ H Q=>t Z H λx e=>∃c,x=.bl c/\Q c e
def Ps  (h:PC X c a b t)(e:behindInMarks c b=7:=by first|rw[G0 _ 008<|008]|rfl):PE X (.Compare a [c] [b] f) t:=λY s Z H Q I g=>wpAny_Compare1 (h Y s Z H Q I g) e
def BG  (h:PC X f a b t)(e:behindInMarks f b=7:=by first|rw[G0 _ 008<|008]|rfl):PT X (.Compare a [f] [b] g) (tB t):=by
 intro Y s Z H Q I i;rw[wpAny_isTrue_Compare1 (jL (h Y s Z H _ I i) λv p e=>jL e λu r j=>jL j λc w=>j4 λx l=>j8 λm n o=>?_) e];let(d,rfl,q):=o;cases n;rw[wpAny_truthy_bool (l,m,q)]
def sD(t u:TT):TT:=λZ H Q=>t Z H λc e=>if c=6 then u Z e Q else Q 7 e
def tOr(t u:TT):TT:=λZ H Q=>t Z H λc e=>if c=6 then Q 6 e else u Z e Q
def tNot(t:TT):TT:=λZ H Q=>t Z H λc e=>Q (not c) e
def Pt(l:PT X a m)(n:PW X (.BoolOp .And (b::rest) e) f):PW X (.BoolOp .And (a::b::rest) e) (sD m f):=by
 intro o Y s Z H Q I h;rw[isTrue_and<|jL (l Y s Z H _ I h) λc p=>y9 λg=>j5 λi j=>?_]
 cases(c)with
 |true=>rw[n o Y p Z g Q i j]
 |false=>rw[(g,i,j)]
def gy(l:PT X a m)(n:PW X (.BoolOp .Or (b::rest) e) f):PW X (.BoolOp .Or (a::b::rest) e) (tOr m f):=by
 intro o Y s Z H Q I h;rw[isTrue_or<|jL (l Y s Z H _ I h) λc p=>y9 λg=>j5 λi j=>?_]
 cases(c)with
 |true=>rw[(g,i,j)]
 |false=>rw[n o Y p Z g Q i j]
def kR(ta tb:TE):TE:=λZ H Q=>ta Z H λx e=>∃c,x=.bl c/\if c=6 then tb Z e Q else Q (.bl 7) e
def dY(ta:TE):TE:=λZ H Q=>ta Z H λx e=>∃c,x=.bl c/\Q (.bl<|not c) e
def Pu(j:PE X a ta)(l:PE X (.BoolOp .And (b::rest) f) tb):PE X (.BoolOp .And (a::b::rest) f) (kR ta tb):=by
 intro Y s Z H Q I h;rw[BoolOp_and<|jL (j Y s Z H _ I h) λv m=>j4 λx g=>j8 λi n e=>?_];let(c,rfl,e):=e;cases n;rw[wpAny_truthy_bool ?_]
 cases(c)with
 |true=>rw[l Y m Z g Q i e]
 |false=>rw[(.bl 7,g,i,9,e)]
end
def qP(K:f')(H:Hp)(a:Addr)(c:YB):4:=
 Rd H a (.lst c)\/
  ∃(o:Obj)(b:Yk)(n:5),K.lookup a=!o/\o.cls=.type 013/\o.dict=8/\o.data=.seq b n/\b.size<=00/\jv c b.toList
def yX(K:f')(H:Hp)(a:Addr)(c:YB):4:=
 Rd H a (.tup c)\/
  ∃(o:Obj)(b:Yk)(n:5),K.lookup a=!o/\o.cls=.type "tuple"/\o.data=.seq b n/\b.size<=00/\jv c b.toList
def d9:Value->02 V
 |.none=>!.non
 |.bool b=>! .bl b
 |.int i _=>! .int i
 |.str x _=>! .str x
 |.bytes b _=>! .byt b
 |.float b _=>! .flt b
 |.ref a=>! 016
 |.type n=>! .ty n
 |_=>8
def jz.abs  (r:jz x u):d9 u=!x:=by
 cases(x)with
 |non=>cases r;rfl
 |bl _=>cases r;rfl
 |int _=>let(t,rfl):=r;rfl
 |str _=>let(t,rfl):=r;rfl
 |byt _=>let(t,rfl):=r;rfl
 |flt _=>let(t,rfl):=r;rfl
 |ref _=>cases r;rfl
 |ty _=>cases r;rfl
def jz.inj  (r:jz x u)(q:jz y u):x=y:=Zqi<|r.abs.symm.trans q.abs
theorem jv.inj:∀{e c:YB}{f:Ye},jv e f->jv c f->e=c:=λ{e c f}g h=>by
 induction g generalizing c with
 |nil=>cases h;rfl
 |cons r _ i=>
  cases h with
  |cons j l=>rw[r.inj j,i l]
section
variable   {Z: St}
def qP.of{K:f'}(h:H a=! .lst c):qP K H a c:=.inl<|.inl h
def yX.of{K:f'}(h:H a=! .tup c):yX K H a c:=.inl<|.inl h
def Inv.list(I:003)(h:qP X.K H a f):∃c:Ye,jv f c/\PlainL s.heap a c.toArray/\⇑f<=00:=by
 obtain h|⟨o,c,n,hk,hc,hd,i,hz,r⟩:=h
 .let(z,c,n,r,e):=h.ok I.hok;rw[(c,r,(_,n,e,9,9,9),z)]
 .rw[(c.toList,r,(o,n,I.kIn a o hk,hc,hd,()),?_)];let e:=⇑r
  ext
def Inv.tuple(I:003)(h:yX X.K H a f):∃c:Ye,jv f c/\IsTup s.heap a c.toArray/\⇑f<=00:=by
 obtain h|⟨o,c,n,hk,hc,i,hz,r⟩:=h
 .let(z,c,r,p):=h.ok I.hok;rw[(c,r,p,z.1)]
 .rw[(c.toList,r,(o,I.kIn a o hk,hc,n,()),?_)];let e:=⇑r
  ext
def Inv.list_inj(I:003)(h:qP X.K H a i)(j:qP X.K H a l):i=l:=by
 let(f,r,(o,n,e,_,_,d),_):=I.list h;let(c,p,(u,v,y,_,_,z),_):=I.list j;let:f=c:=by ext
 subst this;rw[r.inj p]
def Inv.tuple_inj(I:003)(h:yX X.K H a i)(j:yX X.K H a l):i=l:=by
 let(-f,r,(o,e,_,n,d),_):=I.tuple h;let(-c,p,(u,v,_,y,z),_):=I.tuple j;let:f=c:=by ext
 subst this;rw[r.inj p]
end
noncomputable abbrev Cx.wish(X:Cx)(E:Ya):Cx:={X with xe:=E}
abbrev Cx.nox(X:Cx):Cx:=X.wish λ_ _=>False
theorem Cx.Ok.wish{X:Cx}(ok:X.Ok)(E:Ya):(X.wish E).Ok:=
 (ok.mod,ok.kind,ok.glob,ok.blt,ok.above,ok.inj,ok.has,ok.cab,ok.hd,ok.frames,ok.stk,ok.exf,ok.bs,ok.bsz,ok.noex,ok.exfs,ok.funs,ok.frf)
def Cx.Ok.unwish{X:Cx} (ok:(X.wish E).Ok):X.Ok:=
 (ok.mod,ok.kind,ok.glob,ok.blt,ok.above,ok.inj,ok.has,ok.cab,ok.hd,ok.frames,ok.stk,ok.exf,ok.bs,ok.bsz,ok.noex,ok.exfs,ok.funs,ok.frf)
section
variable   {Z: St}
theorem Inv.wish(I:003)(E):Inv (X.wish E) Y Z H s:=(I.ok.wish E,I.os,I.bare,I.base,I.loc,I.cell,I.free,I.freeC,I.pin,I.hok,I.len)
theorem Inv.unwish(I:Inv (X.wish E) Y Z H s):003:=(I.ok.unwish,I.os,I.bare,I.base,I.loc,I.cell,I.free,I.freeC,I.pin,I.hok,I.len)
theorem SP.unwish   (h:SP (X.wish E) Y D f i):SP X Y D f i:=by
 cases(f)with
 |next=>let(c,e,I,q):=h;rw[(c,e,I.unwish,q)]
 |brk=>let(c,e,I,q):=h;rw[(c,e,I.unwish,q)]
 |cont=>let(c,e,I,q):=h;rw[(c,e,I.unwish,q)]
 |ret u=>let(v c e,I,r,q):=h;rw[jg v c e (I.unwish,r,q)]
theorem xm.nox{c:List Stmt} (h:xm X.nox c t):xm X c t:=λY s Z H D I e=>
 Zc (h Y s Z H D (I.wish _) e) (λ_ _ q=>q.unwish) ()
end
section
variable  {st:Stmt}  {t u:TS}  {te:TE}
def kI:TS:=λD Z H=>D.nx Z H
def si(t u:TS):TS:=λD Z H=>t {D with nx:=u D} Z H
def Aw:xm X [] kI:=λ_ _ Z H _ I h=>wpAny_execs_nil (Z,H,I,h)
def YU(a:PS X st t)(b:xm X rest u):xm X (st::rest) (si t u):=by
 intro Y s Z H D I h;rw[wpAny_execs_cons<|jL (a Y s Z H {D with nx:=u D} I h) λf c q=>?_]
 cases(f)with
 |next=>
  let(e g,i,q):=q;rw[b Y c e g D i q]
 |ret v=>rw[q]
 |brk=>rw[q]
 |cont=>rw[q]
def BH(a:PS X st t):xm X [st] t:=by
 intro Y s Z H D I h;rw[wpAny_execs_cons<|jL (a Y s Z H D I h) λf b q=>?_]
 grind[wpAny_execs_nil]
def sC:TS:=λD Z H=>D.bk Z H
def Inv.quiet {Z:St}  (I:003):interactive X.env=7:=by simp[interactive,I.ok.kind]
def kK(te:TE):TS:=λD Z H=>te Z H λ_ a=>D.nx Z a
def YV(b:PE X e te)(c:swapsWith e 8 a.line X.env=pure 7:=by rfl):PS X (.Expr e a) (kK te):=λY s Z H D I h=>wpAny_Expr_any (jL (b Y s Z H _ I h) λv j=>j4 λx f=>j8 λg l i=>(Z,f,g,i)) I.quiet c
def sj(te:TE):TS:=λD Z H=>te Z H D.rt
def Ax(a:PE X e te):PS X (.Return (!e) b) (sj te):=λY s Z H D I h=>wpAny_Return_some<|jL (a Y s Z H _ I h) λv j=>j4 λx c=>j8 λf g i=>jg x Z c (f,g,i)
def so(c:TT)(t u:TS):TS:=λD Z H=>c Z H λb a=>if b=6 then t D Z a else u D Z a
def BI   (j:PT X c l)(m:xm X a t)(n:xm X b u):PS X (.If c a b o) (so l t u):=by
 intro Y s Z H D I h;rw[wpAny_If<|jL (j Y s Z H _ I h) λd e=>y9 λf=>j5 λg i=>?_]
 cases(d)with
 |true=>rw[m Y e Z f D g i]
 |false=>rw[n Y e Z f D g i]
end
abbrev TG:=V->St->Hp->(St->Hp->4)->4
abbrev kj:=YB->St->Hp->(St->Hp->4)->4
def PG(X:Cx)(a:Expr)(t:TG):4:=
 ∀(Y:Yb)(s:Shared)(Z:St)(H:Hp)(v:V)(u:Value)(Q:St->Hp->4),003->jz v u->t v Z H Q->
  YE X (assign a X.env u) (λ_ e=>∃b c,Inv X Y b c e/\Q b c) X.xe s
def rJ(X:Cx)(f:List Expr)(t:kj):4:=
 ∀(Y:Yb)(s:Shared)(Z:St)(H:Hp)(a:YB)(b:Ye)(Q:St->Hp->4),003->jv a b->t a Z H Q->
  YE X (assignInOrder ((assignEach f X.env).map (·.2)) b) (λ_ g=>∃c e,Inv X Y c e g/\Q c e) X.xe s
abbrev mv:=V->V->V->Hp->(Hp->4)->4
def mz(X:Cx)(t:mv):4:=
 ∀(Y:Yb)(s:Shared)(Z:St)(H:Hp)(o i v:V)(a b u:Value)(Q:Hp->4),003->jz o a->jz i b->jz v u->t o i v H Q->
  YE X (setItem a b u) (λ_ e=>∃c,Inv X Y Z c e/\Q c) X.xe s
def WP(i:5):TG:=λv Z H Q=>Q (Z.set i<|!v) H
def Qk  (a:X.N.Nodup)(b:X.N[i]?=!x)(c:zP X.env.scope x)(e:X.fn x=6\/X.env.scope.names.lookup x=!.local:=by trivial):PG X (.Name x f) (WP i):=λY s Z H v u Q I r h=>wpAny_assign_Name<|BF I a b c r (λj g=>(_,H,g,h)) e
def fQ:kj:=λa Z H Q=>a=[]/\Q Z H
def G3(t:TG)(u:kj):kj:=λa Z H Q=>∃v r,a=v::r/\t v Z H λb c=>u r b c Q
def K6:rJ X [] fQ:=λY s Z H a b Q I r h=>sW h λe h=>assignInOrder_nil (Z,H,I,h)
def Qq    (b:PG X e t)(c:rJ X a u)
 (f:(assignEach (e::a) X.env).map (·.2)=assign e X.env::(assignEach a X.env).map (·.2):=by rfl):rJ X (e::a) (G3 t u):=by
 intro Y s Z H p q Q I r h;let(v,w,g,h):=h;subst g;cases r with
 |cons r i=>
  rw[f,];rw[assignInOrder_cons<|jL (b Y s Z H _ _ _ I r h) λ_ j=>j4 λl m=>j5 λn o=>c Y j l m _ _ Q n i o]
def fM(K:f')(n:5)(t:kj):TG:=λv Z H Q=>∃a b,v=016/\yX K H a b/\⇑b=n/\t b Z H Q
def K7    (i:X.calm=6)(h:rJ X c t)
 (j:⇑(assignEach c X.env)=n:=by rfl)(f:(assignEach c X.env).findIdx? (·.1)=8:=by rfl):PG X (.Tuple c k l) (fM X.K n t):=by
 intro Y s Z H v u Q I r g;let(a,m,p,q,w,g):=g;subst p;cases r;let(-x,y,z,E):=I.tuple q;rw[assign_Tuple_tuple (I.ok.hd i) z (by simp[j,<-w,⇑y]) f λA B=>?_];let C:Inv X Y Z H {s with heap:=A}:=I.kept λb o e=>B b o (Zi<|Zk e) e;rw[h Y _ Z H m _ Q C () g]
def xW(a b:TE)(t:mv):TG:=λv Z H Q=>a Z H λo c=>b Z c λi e=>t o i v e λf=>Q Z f
def G4   (e:PE X o f)(g:PE X i j)(l:mz X t)
 (L:∀v,assign (.Subscript o i b) X.env v=(do
  let a<-holding [v] (eval o X.env)
  let c<-holding [v,a] (eval i X.env)
  standAt b
  holding [v,a,c] (setItem a c v)
  release [v,a,c] []):=by intro _;rfl):PG X (.Subscript o i b) (xW f j t):=λY s Z H v u Q I r h=>Za<|wpAny_holding<|jL (e Y s Z H _ I h) λa m=>j4 λx n=>j8 λp q w=>Za<|wpAny_holding<|jL (g Y m Z n _ p w) λc z=>j4 λy A=>j8 λB C E=>Za<|wpAny_standAt<|Za<|wpAny_holding<|jL (l Y z Z A x y v a c u _ B q C r E) λ_ M=>y9 λF=>j5 λG J=>wpAny_release (Z,F,G,J)
def wM(a:TE)(g:TG):TS:=λD Z H=>a Z H λx b=>g x Z b D.nx
def G8   (c:PE X e f)(i:PG X a g)(j:swapsWithSole [a] e b.line X.env=pure 7:=by rfl)(l:swappedStores [a] e X.env=pure 8:=by rfl)
 (m:(assignEach [a] X.env).map (·.2)=[assign a X.env]:=by rfl):PS X (.Assign [a] e b) (wM f g):=by
 intro Y s Z H D I h;rw[wpAny_Assign_stores (jL (c Y s Z H _ I h) λv n=>j4 λx o=>j8 λp r t=>?_) j l];rw[m,];rw[jL (i Y n Z o x v _ p r t) λ_ u q=>q]
def DI     (c:X.N.Nodup)(f:X.N[i]?=!x)(g:zP X.env.scope x)(j:PE X e l)(m:swapsWith e (! .Name x a) b.line X.env=pure 7:=by rfl)(n:X.fn x=6\/X.env.scope.names.lookup x=!.local:=by trivial):
 PS X (.Assign [.Name x a] e b) (wM l<|WP i):=λY s Z H D I h=>wpAny_Assign_Name (jL (j Y s Z H _ I h) λv u=>j4 λy o=>j8 λp q r=>BF p c f g q (λw t=>(_,o,t,r)) n) m
def Pv(c:TT)(h:TS):TS:=λD Z H=>∃W:5->St->Hp->4,(∃m,W m Z H)/\∀m Z H,W m Z H->
 c Z H λb a=>if b=6 then ∃N:St->Hp->4,(∀e f,N e f->∃g,g<m/\W g e f)/\h {D with nx:=N,ct:=N,bk:=D.nx} Z a else D.nx Z a
def Pw    (u:PassesOwn 009 X.A X.env X.xe)(C:PT X c E)(F:xm X a G):PS X (.While c a [] J) (Pv E G):=by
 intro Y s Z H D I h;let(-W,(L,M),e):=h;rw[wpAny_While<|codeAny_whileLoop (λn O=>∃w x,Inv X Y w x O/\W n w x) ?_ L (Z,H,I,M)];rintro n P ⟨j,y,Q,R⟩;rw[wpAny_passesOwn u<|jL (C Y P j y _ Q<|e n j y R) λb S=>y9 λz=>j5 λA l=>?_]
 cases(b)with
 |true=>
  let(-N,B,l):=l;rw[Zd 9,];rw[wpAny_passesOwn u<|jL (F Y S j z _ A l) λf T m=>?_]
  cases(f)with
  |next=>
   let(g,i,o,p):=m;let(q,r,t):=B g i p;rw[(q,r,g,i,o,t)]
  |cont=>
   let(g,i,o,p):=m;let(q,r,t):=B g i p;rw[(q,r,g,i,o,t)]
  |brk=>rw[m]
  |ret v=>rw[m]
 |false=>
  rw[Ze Zj,];rw[wpAny_execs_nil (j,z,A,l)]
structure It where
 go:5->Hp->4
 yld:5->Hp->V->Hp->4
 stop:5->Hp->4
def xQ(X:Cx)(Y:Yb)(H:Hp)(b:Addr):4:=
 H b=8/\b≠X.env.locals/\b∉X.fs/\(b∈X.ex\/X.s₀.heap.objs.size<=b)/\(∀x c,X.env.cells.lookup x=!c->c≠b)/\∀p∈X.pn++Y,p.1≠b
def Inv.fpOk  {Z:St}  {b:Addr}(I:003)(f:s⁻¹<=b)(i:j b=8):xQ X Y j b:=by
 rw[(i,Va<|Zg I.lt f,I.nofs f,.inr<|Zh I.sz f,λx c e z=>?_,λp l z=>?_)]
 .let(v,q):=I.cell x c e;rw[Zn (Zg q.lt<|by rwa[z,])<|Zy _]
 .rw[Zn (Zg (Zk (I.pin p l).1)<|by rwa[z,])<|Zy _]
structure Turn(P:Program)(w:World)(K:f')(tg:Expr)(J:It)(fp:Yj)(it:Addr)(tn:5->Heap->4):4 where
 mem:it∈fp
 obj:∀i h,tn i h->∀b∈fp,∃o,h.get? b=!o/\∀v,o.data ≠ .cell v
 keep:∀i h h',tn i h->(∀b∈fp,∀o,h.get? b=!o->h'.get? b=!o)->tn i h'
 item:∀(X:Cx),X.prog=P->X.w=w->X.K=K->X.calm=6->∀(i:5)(Y:Yb)(s:Shared)(Z:St)(H:Hp)(E:Ya),003->(∀b∈fp,xQ X Y H b)->tn i s.heap->J.go i H->
  wpAny (model P w) X.A (pyNext<|.ref it) (λr s1=>∃u,r=!u/\
   wpAny (model P w) X.A (letOwnedTupleGo tg (.ref it) u) (λ_ s2=>∃x H',Inv X Y Z H' s2/\jz x u/\J.yld i H x H'/\tn (i+1) s2.heap/\∀b∈fp,H' b=8) E s1) E s
 done:∀(X:Cx),X.prog=P->X.w=w->X.K=K->X.calm=6->∀(i:5)(Y:Yb)(s:Shared)(Z:St)(H:Hp)(E:Ya),003->(∀b∈fp,xQ X Y H b)->tn i s.heap->J.stop i H->
  wpAny (model P w) X.A (pyNext<|.ref it) (λr s1=>r=8/\Inv X Y Z H s1) E s
 self:∀(A:Around)(i:5)(s:Shared)(Q:Ya)(E:Ya),tn i s.heap->Q (.ref it) s->wpAny (model P w) A (pyIter<|.ref it) Q E s
abbrev TI:=St->Hp->(It->Hp->4)->4
def PIE(X:Cx)(Y:Yb)(Z:St)(i:Expr)(R:It->Hp->4)(a:Value)(e:Shared):4:=
 ∃(f:Addr)(g:Yj)(h:5->Heap->4)(J:It)(c:Hp),a=.ref f/\Inv X Y Z c e/\Turn X.prog X.w X.K i J g f h/\h 0 e.heap/\(∀b∈g,xQ X Y c b)/\R J c
def PI(X:Cx)(b a:Expr)(wi:TI):4:=
 ∀(Y:Yb)(s:Shared)(Z:St)(H:Hp)(R:It->Hp->4),003->wi Z H R->
  YE X (eval a X.env) (λv c=>YE X (pyIter v) (PIE X Y Z b R) X.xe c) X.xe s
def BJ           (b:↥s c=!o)(e:o.cls=.type n)(f:o.data=.fields g)
 (i:["enumerate","zip","dict_itemiterator","dict_reverseitemiterator","odict_iterator","itertools.zip_longest","itertools.pairwise"].contains n=7)(a:Q Yq s):wpAny M A (letOwnedTupleGo j (.ref c) u) Q E s:=by
 cases j<;>first
  |rw[Zb a]
  |(cases(u)<;>first
   |rw[Zb a]
   |(
    rw[Za<|wpAny_load b ?_];rw[e,f];show wpAny M A (if(["enumerate","zip","dict_itemiterator","dict_reverseitemiterator","odict_iterator","itertools.zip_longest","itertools.pairwise"].contains n&&g[0]?==! rawInt _)=6 then _ else _) Q E s;rw[Ze (by intro h;rw[i,Bool.false_and]at h;cases h),];rw[Zb a]))
def cW(K:f')(a:Addr):It:=
 (λi H=>∃b x,qP K H a b/\b[i]?=!x,λi H x c=>c=H/\∀b,qP K H a b->b[i]?=!x,λi H=>∃b,qP K H a b/\⇑b<=i)
def cV(K:f')(a:Addr):It:=
 (λi H=>∃b x,yX K H a b/\b[i]?=!x,λi H x c=>c=H/\∀b,yX K H a b->b[i]?=!x,λi H=>∃b,yX K H a b/\⇑b<=i)
def dJ(lo:3)(n:5):It:=(λi _=>i<n,λi H x a=>a=H/\x=.int (lo+i),λi _=>n<=i)
def Px  {K:f'} (a g):Turn P w K tg (cW K a) [g] g λi h=>h.IsListIter g a i where
 mem:=by simp
 obj:=λi h f b j=>by
  let(-o,e,c,d):=f
  ext
 keep:=λi h q f k=>f.at λo e=>k g () o e
 item:=by
  intro X r t v L i Y s Z H E I m f y;subst r t v;let(N x,n,M):=y;let(-z,A,p,O):=I.list n;let(-u,hu,Q):=A.get M;let(!B,C,R,F,G,J):=m g ();rw[wpAny_pyNext_list_item f p.isList (x:=u) () λq l S=>?_];let T:Inv X Y Z H {s with heap:=q}:=I.turned (λb o j e=>(S.2 b j).trans e) B C F G J;let(-o,e,c,d):=id l;rw[(u,9,BJ e c d 008 (x,H,T,Q,(9,λys U=>by rwa[I.list_inj U n,]),l,λb j=>(m b j).1))]
 done:=by
  intro X r t v L i Y s Z H E I m f y;subst r t v;let(N,n,M):=y;let(-z,A,p,O):=I.list n;let(!B,C,R,F,G,J):=m g ();let hl:=⇑A;rw[wpAny_pyNext_list_end (I.ok.hd L) f p.isList (by simp;lia) λq eb=>(9,I.turned (λb o j e=>eb b o j e) B C F G J)]
 self:=λ_ _ _ _ _ f h=>wpAny_pyIter_listiter f h
def Py  {K:f'} (a g:Addr):Turn P w K tg (cV K a) [g] g λi h=>h.IsTupleIter g a i where
 mem:=by simp
 obj:=λi h f b j=>by
  let e:b=g:=by simpa using j
  subst e;let(-o,e,c,d):=f;rw[(o,e,λv z=>by rw[d]at z;cases z)]
 keep:=λi h n f k=>f.at λo e=>k g () o e
 item:=by
  intro X t y A O i Y s Z H E I q f B;subst t y A;let(Q x,r,C):=B;let(-l,F,p,R):=I.tuple r;let(-u,S,T):=F.get C;let(!G,J,U,L,M,N):=q g ();rw[wpAny_pyNext_tuple_item f (show s.heap.IsTuple a l.toArray from p) (x:=u) (by simpa using S) λn m sb=>?_];let I1:Inv X Y Z H {s with heap:=n}:=I.turned (t':=s.toks) (λb o j e=>(sb.2 b j).trans e) G J L M N;let(-o,e,c,d):=id m;rw[(u,9,BJ (s:={s with heap:=n}) e c d 008 (x,H,I1,T,(9,λys hy=>by rw[I.tuple_inj hy r,];rw[C]),m,λb j=>(q b j).1))]
 done:=by
  intro X t y A O i Y s Z H E I q f B;subst t y A;let(Q,r,C):=B;let(-l,F,p,R):=I.tuple r;let(!G,J,U,L,M,N):=q g ();let hl:=⇑F;rw[wpAny_pyNext_tuple_end (I.ok.hd O) f (show s.heap.IsTuple a l.toArray from p) (by simp;lia) λn eb=>(9,I.turned (t':=s.toks) (λb o j e=>eb b o j e) G J L M N)]
 self:=λ_ _ _ _ _ f h=>wpAny_pyIter_tupleiter f h
def Pz  {K:f'} (a)(lo)(n):Turn P w K M (dJ lo n) [a] a λi h=>IsRangeIter h a (lo+(i:5)*1) ((n:3)-(i:5)) 1 where
 mem:=by simp
 obj:=by grind
 keep:=by grind
 item:=by
  intro X y z A g i Y s Z H E I j c l;let(!m,p,B,q,r,u):=j a ();rw[(Walks.range (I.ok.hd g) a lo 1 n).item i s _ _ l c λv x C F f N=>?_];let(t,rfl):=F;let G:Inv X Y Z H {s with heap:=x,toks:=C}:=I.turned () m p q r u;rw[(_,9,BJ f 9 9 008 (.int<|lo+i,H,G,(t,?_),(9,9),f,()))];simp
 done:=by
  intro X y z A g i Y s Z H E I j c l;let(!m,p,B,q,r,u):=j a ();rw[wpAny_pyNext_range_end (I.ok.hd g) c (by let:n<=i:=l;lia) λx J=>(9,I.turned (λb o L e=>J b o L e) m p q r u)]
 self:=λ_ _ _ _ _ c h=>wpAny_pyIter_rangeiter c h
def fB(K:f')(c:TE):TI:=λZ H R=>c Z H λx b=>∃a,x=016/\(∃e,qP K b a e)/\R (cW K a) b
def tz(K:f')(c:TE):TI:=λZ H R=>c Z H λx b=>∃a,x=016/\(∃e,yX K b a e)/\R (cV K a) b
def G9  (g:PE X l i):PI X w l (fB X.K i):=by
 intro Y s Z H R I h;rw[jL (g Y s Z H _ I h) λv f=>j4 λx j=>j8 λc m n=>?_];let(-a,e,(y,r),q):=n;subst e;cases m;let(-t,z,p,A):=c.list r;rw[wpAny_pyIter_list p.isList<|jC f⁻¹ [f⁻¹] _ _ j (9,c.kept λb o e=>Zq _ e,Px a _,(_,Zr _ 9,9,9),λb u=>?_,q)];let e:b=f⁻¹:=by simpa using u
 subst e;rw[c.fpOk (Zf _)<|c.hok.fresh<|Zf _]
def P0  (g:PE X l i):PI X w l (tz X.K i):=by
 intro Y s Z H R I h;rw[jL (g Y s Z H _ I h) λv f=>j4 λx j=>j8 λc m n=>?_];let(-a,e,(y,r),q):=n;subst e;cases m;let(-t,z,p,A):=c.tuple r;rw[wpAny_pyIter_tuple p<|jC f⁻¹ [f⁻¹] _ _ j (9,c.kept λb o e=>Zq _ e,Py a _,(_,Zr _ 9,9,9),λb u=>?_,q)];let e:b=f⁻¹:=by simpa using u
 subst e;rw[c.fpOk (Zf _)<|c.hok.fresh<|Zf _]
def f9(a:TA):TI:=λZ H R=>a Z H λb c=>∃j:3,b=[.int j]/\-2^62<=j/\j<2^62/\R (dJ 0 j.toNat) c
def P1   (m:Gl X "range")(n:X.mg "range"=8)(u:PA X [a] v)(w:01 [a] X.env=[%[7|eval a X.env]]:=by rfl):PI X C (.Call (.Name "range" p) [a] [] g) (f9 v):=by
 intro Y s Z H R I h;rw[Call_<|Xq I m n boot_range<|PyProof.Rows.callWith_type1 (jL (u g Y s Z H _ I h) λE c=>j4 λF l=>j8 λf x i=>?_) w 9];let(j,e,i,y,q):=i;subst e;cases x with
 |cons r z=>
  cases z;let(t,rfl):=r;rw[call_range_1<|by
   rw[wpAny_pyIter_range (IsRange.new ..) (small_one () () i y) ?_];let f:Inv X Y Z l {c with heap:=c.heap.push {cls:=.type "range",data:=.fields #[.int 0 c.toks,.int j t,.int 1 (c.toks+1)]},toks:=c.toks+1+1}:=f.kept λb o e=>Zq _ e;rw[jC (c.heap.push {cls:=.type "range",data:=.fields #[.int 0 c.toks,.int j t,.int 1 (c.toks+1)]}).objs.size [(c.heap.push {cls:=.type "range",data:=.fields #[.int 0 c.toks,.int j t,.int 1 (c.toks+1)]}).objs.size] _ _ l (9,
    f.kept λb o e=>Zq _ e,Pz _ 0 (j-0).toNat,?_,λb G=>?_,by simpa using q)]
   .let A:0+((0:5):3)*1=0:=by simp
    let B:(((j-0).toNat:5):3)-((0:5):3)=Builtin.Range.rangeSize 0 j 1:=by grind[rangeSize_one]
    rw[A,B];rw[Zr _ 9]
   .let e:b=(c.heap.push {cls:=.type "range",data:=.fields #[.int 0 c.toks,.int j t,.int 1 (c.toks+1)]}).objs.size:=by ext
    subst e;rw[f.fpOk (Zf _)<|f.hok.fresh<|Zf _]]
def sr(wi:TI)(g:TG)(e:TS):TS:=λD Z H=>wi Z H λJ f=>∃W:5->5->St->Hp->4,(∃m,W 0 m Z f)/\∀i m Z H,W i m Z H->
 J.stop i H/\D.nx Z H\/J.go i H/\∃N:St->Hp->4,(∀b a,N b a->∃c,c<m/\W (i+1) c b a)/\∀x a,J.yld i H x a->g x Z a λh j=>e {D with nx:=N,ct:=N,bk:=D.nx} h j
noncomputable def Ay(a:Yj)(h:Heap):Yb:=a.filterMap λb=>(h.get? b).map λo=>%[b|o]
def BK    (a:b∈c)(e:h.get? b=!o):%[b|o]∈Ay c h:=Jv.mpr (b,a,by rw[e,];rfl)
def P3   (a:p∈Ay c h):p.1∈c/\h.get? p.1=!p.2:=by
 let(-b,f,e):=Jv.mp a
 induction q:h.get? b with
 |none=>ext
 |some o=>
  grind
theorem Inv.pinned {Z:St}   (I:003)(f:∀b∈c,xQ X Y H b)(l:∀b∈c,∃o,↥s b=!o/\∀v,o.data ≠ .cell v):Inv X (Y++Ay c s.heap) Z H s:=
 I.pins_of λp i=>(Jb.mp i).elim (λz=>I.pin p ()) λz=>by
  let(j,e):=P3 z;let(!n,r,u,_):=f p.1 j
  grind
def Inv.unpinned {Z:St}  (I:Inv X (Y++c) Z H s):003:=I.pins_of λp e=>I.pin p ()
def BL  {wi:TI}   (w:PassesOwn 009 X.A X.env X.xe)(U:X.calm=6)(hi:PI X tg q wi)(hg:PG X tg g)(a:xm X y tb)
 (hs:∀x,foldedSetIterable q X.env x=pure x:=by intro _;rfl):PS X (.For tg q y [] pos) (sr wi g tb):=by
 intro Y s Z H D I h;rw[wpAny_For (jL (hi Y s Z H _ I h) λv s1 h1=>jL h1 λitv s2 h2=>?_) hs];let(it z tn J H2,e,I2,T,O,f2,(W,(m0,w0),A)):=h2;subst e;let c:∀{p:Hp},(∀b∈z,p b=8)->∀b∈z,xQ X Y p b:=λhn b a=>(hn b a,(f2 b a).2);rw[codeAny_forLoop_any (λn s'=>∃i B p,Inv X Y B p s'/\tn i s'.heap/\(∀b∈z,p b=8)/\W i n B p) ?_ m0<|jg 0 Z H2 (I2,O,λb a=>(f2 b a).1,w0)];intro n s3;rw[qf λi C M=>xb λI3 E F w3=>?_];obtain⟨G,qn⟩|⟨go,N,hN,step⟩:=A i n C M w3
 .rw[wpAny_passesOwn w<|jL (T.done X 9 9 9 U i Y s3 C M X.xe I3 (c F) E G) λr s4=>j5 λP I4=>?_];subst P;rw[wpAny_execs_nil (C,M,I4,qn)]
 .rw[wpAny_passesOwn w<|jL (T.item X 9 9 9 U i Y s3 C M X.xe I3 (c F) E go) λr s4=>y9 λu=>j5 λP h4=>?_];subst P;rw[wpAny_passesOwn w<|jL h4 λ_ s5=>j4 λx H5=>vG λI5 r5 y5 vB Q=>?_];let R:=I5.pinned (c Q)<|T.obj _ _ vB;rw[wpAny_passesOwn w<|jL (hg _ s5 C H5 x u _ R r5<|step x H5 y5) λ_ s6=>j4 λZ6 H6=>j5 λI6 q6=>?_];rw[wpAny_passesOwn w<|jL (a _ s6 Z6 H6 _ I6 q6) λf S t=>?_];let again:∀{j:St}{H7:Hp},Inv X (Y++Ay z s5.heap) j H7 S->N j H7->∃m,m<n/\∃i B p,Inv X Y B p S/\tn i S.heap/\(∀b∈z,p b=8)/\W i m B p:=λ{j H7}l L=>by
   let(-m',hm,w7):=hN j H7 L;rw[(m',hm,i+1,j,H7,l.unpinned,T.keep _ _ _ vB λb a o e=>(l.pin %[b|o]<|Ui _<|Ui _<|BK a e).1,λb a=>?_,w7)];let(-o,e,d):=T.obj _ _ vB b a;rw[(l.pin %[b|o]<|Ui _<|Ui _<|BK a e).2.1]
  cases(f)with
  |next=>let(j H7,l,L):=t;rw[again l L]
  |cont=>let(j H7,l,L):=t;rw[again l L]
  |brk=>let(j H7,l,t):=t;rw[(j,H7,l.unpinned,t)]
  |ret v=>let(x7 j H7,l,r7,t):=t;rw[(x7,j,H7,l.unpinned,r7,t)]
abbrev R2:=V->V->Hp->VK->4
def yu(X:Cx)(f:Value->Value->Sem Value)(r:R2):4:=
 ∀(Y:Yb)(s:Shared)(Z:St)(H:Hp)(x y:V)(v u:Value)(Q:VK),003->jz x v->jz y u->r x y H Q->
  YE X (f v u) (EP X Y Z Q) X.xe s
def uP(X:Cx)(f:Value->Sem Value)(r:V->Hp->VK->4):4:=
 ∀(Y:Yb)(s:Shared)(Z:St)(H:Hp)(x:V)(v:Value)(Q:VK),003->jz x v->r x H Q->
  YE X (f v) (EP X Y Z Q) X.xe s
def ql(X:Cx)(f:Value)(r:YB->Hp->VK->4):4:=
 ∀(Y:Yb)(s:Shared)(Z:St)(H:Hp)(a:YB)(b:Ye)(Q:VK),003->jv a b->r a H Q->
  YE X (call f b) (EP X Y Z Q) X.xe s
def kH(r:R2)(a b:TE):TE:=λZ H Q=>a Z H λx c=>b Z c λy e=>r x y e Q
def tUn(r:V->Hp->VK->4)(a:TE):TE:=λZ H Q=>a Z H λx b=>r x b Q
def rI(C:3->3->4)(g:3->3->V):R2:=λx y H Q=>∃i j,x=.int i/\y=.int j/\C i j/\Q (g i j) H
def sQ(g:3->3->V):R2:=λx y H Q=>∃i j,x=.int i/\y=.int j/\Q (g i j) H
def rU(g:3->V):V->Hp->VK->4:=λx H Q=>∃i,x=.int i/\Q (g i) H
def uO(i:PE X a j)(l:PE X b m)  {Z:St} {R:V->V->Hp->4}(I:003)
 (h:j Z H λx g=>m Z g λy c=>R x y c) {f:Value->Value->Sem Value}
 (n:∀v u e x y c,Inv X Y Z c e->jz x v->jz y u->R x y c->YE X (f v u) Q X.xe e):
 YE X (eval a X.env) (λv s₁=>YE X (eval b X.env) (λu s₂=>YE X (f v u) Q X.xe s₂) X.xe s₁) X.xe s:=jL (i Y s Z H _ I h) λv o=>j4 λx g=>j8 λp q r=>jL (l Y o Z g _ p r) λu e=>j4 λy c=>j8 λt w z=>n v u e x y c t q w z
def GA  (c:yu X (binaryOp e) r)(f:PE X a g)(i:PE X b j):PE X (.BinOp a e b l) (kH r g j):=λY s Z H Q I h=>wpAny_BinOp<|uO f i I h λv u m x y n o p t q=>c Y m Z n x y v u Q o p t q
def mX  {g:3->3->3}
 (rule:∀i j t u s Q E,C i j->Q (.int (g i j) s.toks) {s with toks:=s.toks+1}->YE X (f (.int i t)<|.int j u) Q E s):
 yu X f (rI C λi j=>.int<|g i j):=by
 intro Y s Z H x y v u Q I a b h;let(i j,rfl,rfl,c,q):=h;let(t,rfl):=a;let(e,rfl):=b;rw[rule i j t e s _ _ c (.int<|g i j,H,I.tok _,(_,9),q)]
def gK {g:3->3->3}
 (rule:∀i j t u s Q E,Q (.int (g i j) s.toks) {s with toks:=s.toks+1}->YE X (f (.int i t)<|.int j u) Q E s):
 yu X f (sQ λi j=>.int<|g i j):=by
 intro Y s Z H x y v u Q I a b h;let(i j,rfl,rfl,q):=h;let(t,rfl):=a;let(c,rfl):=b;rw[rule i j t c s _ _ (.int<|g i j,H,I.tok _,(_,9),q)]
def vD {g:3->3->Bool}
 (rule:∀i j t u s Q E,Q (.bool<|g i j) s->YE X (f (.int i t)<|.int j u) Q E s):
 yu X f (sQ λi j=>.bl<|g i j):=by
 intro Y s Z H x y v u Q I a b h;let(i j,rfl,rfl,q):=h;let(t,rfl):=a;let(c,rfl):=b;rw[rule i j t c s _ _ (.bl<|g i j,H,I,9,q)]
def mI(i j:3):4:=0<j/\j<1073741824
def mH(i j:3):4:=0<=j/\j<=1000000/\i.natAbs<2^64
def P4:yu X (binaryOp .FloorDiv) (rI mI λi j=>.int<|i/j):=mX λi j _ _ _ _ _ a q=>have b:=a.1;have c:=a.2;floordiv_int () (by rwa[Int.fdiv_eq_ediv_of_nonneg i (),]) (.inl<|PyProof.noPylong_small ())
def P5:yu X (binaryOp .Mod) (rI (λ_ j=>0<j) λi j=>.int<|i%j):=mX λi j _ _ _ _ _ a q=>mod_int' ()<|by rwa[Int.fmod_eq_emod_of_nonneg i (),]
def P6:yu X (binaryOp .Pow) (rI mH λi j=>.int<|i^j.toNat):=mX λ_ _ _ _ _ _ _ a q=>pow_int_small a.1 a.2.1 a.2.2 q
def unI {g:3->3}
 (rule:∀i t s Q E,Q (.int (g i) s.toks) {s with toks:=s.toks+1}->YE X (f<|.int i t) Q E s):
 uP X f (rU λi=>.int<|g i):=by
 intro Y s Z H x v Q I a h;let(i,rfl,q):=h;let(t,rfl):=a;rw[rule i t s _ _ (.int<|g i,H,I.tok _,(_,9),q)]
def scal:V->V->Bool
 |.non,.non=>6|.non,.int _=>6|.int _,.non=>6|.non,.bl _=>6|.bl _,.non=>6|.non,.str _=>6|.str _,.non=>6
 |.int _,.int _=>6|.bl _,.bl _=>6|.str _,.str _=>6|.byt _,.byt _=>6
 |.int _,.str _=>6|.str _,.int _=>6|.bl _,.str _=>6|.str _,.bl _=>6
 |_,_=>7
def rEq:R2:=λx y H Q=>scal x y=6/\Q (.bl<|decide<|x=y) H
def rNe:R2:=λx y H Q=>scal x y=6/\Q (.bl<|not<|decide<|x=y) H
def GB :decide (V.int i=V.int j)=(i==j):=by
 rw[Vo,];simp
def GC :decide (V.bl i=V.bl j)=(i==j):=by
 rw[Vo,];simp
def GE :decide (V.str i=V.str j)=(i==j):=by
 rw[Vo,];simp
def GF :decide (V.byt i=V.byt j)=(i.toList==j.toList):=by
 rw[Vo,];simp
def Qr {Z:St}    (I:003)(q:Q (.bl k) H)(e:k=a):EP X Y Z Q (.bool a) s:=by
 subst e;rw[(.bl k,H,I,9,q)]
def gJ:yu X (compareOp .Eq) rEq:=by
 intro Y s Z H x y v u Q I e a h;let(c,q):=h
 cases(x)with
 |non=>
  cases e;cases y with
  |non=>cases a;rw[PySem.EqNone.eq_none_none<|Qr I q ()]
  |bl j=>cases a;rw[PySem.EqNone.eq_none_bool<|Qr I q ()]
  |int j=>let(b,rfl):=a;rw[PySem.EqNone.eq_none_int<|Qr I q ()]
  |str j=>let(b,rfl):=a;rw[PySem.EqNone.eq_none_str<|Qr I q ()]
  |_=>rw[Zn (show 7=6 from c) Zj]
 |bl i=>
  cases e
  cases(y)with
  |non=>cases a;rw[PySem.EqNone.eq_bool_none<|Qr I q ()]
  |bl j=>cases a;rw[eq_bool<|Qr I q GC]
  |str j=>let(b,rfl):=a;rw[PySem.EqMixed.eq_bool_str<|Qr I q ()]
  |_=>rw[Zn (show 7=6 from c) Zj]
 |int i=>
  let(t,rfl):=e
  cases(y)with
  |non=>cases a;rw[PySem.EqNone.eq_int_none<|Qr I q ()]
  |int j=>let(b,rfl):=a;rw[eq_int<|Qr I q GB]
  |str j=>let(b,rfl):=a;rw[PySem.EqMixed.eq_int_str<|Qr I q ()]
  |_=>rw[Zn (show 7=6 from c) Zj]
 |str i=>
  let(t,rfl):=e
  cases(y)with
  |non=>cases a;rw[PySem.EqNone.eq_str_none<|Qr I q ()]
  |bl j=>cases a;rw[PySem.EqMixed.eq_str_bool<|Qr I q ()]
  |int j=>let(b,rfl):=a;rw[PySem.EqMixed.eq_str_int<|Qr I q ()]
  |str j=>let(b,rfl):=a;rw[eq_str<|Qr I q GE]
  |_=>rw[Zn c Zj]
 |byt i=>
  let(t,rfl):=e
  cases(y)with
  |byt j=>let(b,rfl):=a;rw[W.eq_bytes<|Qr I q GF]
  |_=>rw[Zn (show 7=6 from c) Zj]
 |_=>cases(y)<;>rw[Zn (show 7=6 from c) Zj]
def gH:yu X (compareOp .NotEq) rNe:=by
 intro Y s Z H x y v u Q I e a h;let(c,q):=h
 cases(x)with
 |non=>
  cases e;cases y with
  |non=>cases a;rw[PySem.EqNone.ne_none_none<|Qr I q ()]
  |bl j=>cases a;rw[PySem.EqNone.ne_none_bool<|Qr I q ()]
  |int j=>let(b,rfl):=a;rw[PySem.EqNone.ne_none_int<|Qr I q ()]
  |str j=>let(b,rfl):=a;rw[PySem.EqNone.ne_none_str<|Qr I q ()]
  |_=>rw[Zn (show 7=6 from c) Zj]
 |bl i=>
  cases e
  cases(y)with
  |non=>cases a;rw[PySem.EqNone.ne_bool_none<|Qr I q ()]
  |bl j=>cases a;rw[ne_bool<|Qr I q<|Zt not GC]
  |str j=>let(b,rfl):=a;rw[PySem.EqMixed.ne_bool_str<|Qr I q ()]
  |_=>rw[Zn (show 7=6 from c) Zj]
 |int i=>
  let(t,rfl):=e
  cases(y)with
  |non=>cases a;rw[PySem.EqNone.ne_int_none<|Qr I q ()]
  |int j=>let(b,rfl):=a;rw[ne_int<|Qr I q<|Zt not GB]
  |str j=>let(b,rfl):=a;rw[PySem.EqMixed.ne_int_str<|Qr I q ()]
  |_=>rw[Zn (show 7=6 from c) Zj]
 |str i=>
  let(t,rfl):=e
  cases(y)with
  |non=>cases a;rw[PySem.EqNone.ne_str_none<|Qr I q ()]
  |bl j=>cases a;rw[PySem.EqMixed.ne_str_bool<|Qr I q ()]
  |int j=>let(b,rfl):=a;rw[PySem.EqMixed.ne_str_int<|Qr I q ()]
  |str j=>let(b,rfl):=a;rw[ne_str<|Qr I q<|Zt not GE]
  |_=>rw[Zn (show 7=6 from c) Zj]
 |byt i=>
  let(t,rfl):=e
  cases(y)with
  |byt j=>let(b,rfl):=a;rw[W.ne_bytes<|Qr I q<|Zt not GF]
  |_=>rw[Zn c Zj]
 |_=>cases(y)<;>rw[Zn (show 7=6 from c) Zj]
def Qc(b) (h:a ≠ .In:=by decide)(c:a ≠ .NotIn:=by decide):behindInMarks a b=7:=by
 cases b<;>first|rfl|(show(_&&(_||_)&&_)=7;ext)
def kF(t:TE):TT:=λZ H Q=>t Z H λx a=>∃k,x=.bl k/\Q k a
def DJ  (g:yu X (compareOp f) r)(i:PE X a j)(l:PE X b m)(n:behindInMarks f b=7):PT X (.Compare a [f] [b] o) (kF<|kH r j m):=by
 intro Y s Z H Q I h;rw[wpAny_isTrue_Compare1 (jL (i Y s Z H _ I h) λv p=>j4 λx q=>j8 λt w A=>jL (l Y p Z q _ t A) λu B=>j4 λy C=>j8 λE F G=>
  jL (g Y B Z C x y v u _ E w F G) λc O(z,J,L,M,k,e,N)=>?_) n]
 subst e;cases M;rw[wpAny_truthy_bool (J,L,N)]
def YW:(00:5)<2^63:=008
def P7:yu X (binaryOp .Add) λx y H Q=>∃i j,x=.str i/\y=.str j/\⇑i+⇑j<=00/\Q (.str<|i++j) H:=by
 intro Y s Z H x y v u Q I a b h;let(i j,rfl,rfl,c,q):=h;let(t,rfl):=a;let(e,rfl):=b;rw[add_str (λe f=>(.str<|i++j,H,I.tok _,(_,9),q)) c]
def K8  (r:jv [x] a):∃u,a=[u]/\jz x u:=by
 cases r with
 |cons b c=>cases c;rw[(_,9,b)]
def Az  (r:jv [x,y] b):∃u a,b=[u,a]/\jz x u/\jz y a:=by
 cases r with
 |cons c e=>
  cases e with
  |cons f g=>cases g;rw[(_,_,9,c,f)]
def P8(c:X.calm=6):ql X (.builtin "max") λb H Q=>∃i j,b=[.int i,.int j]/\Q (.int<|if j>i then j else i) H:=by
 intro Y s Z H b e Q I r h;let(i j,rfl,q):=h;let(u f,rfl,(t,rfl),(g,rfl)):=Az r;rw[max_two_ints (I.ok.hd c) λl m k=>(_,H,I.kept k,?_,q)];cases a:j>i
 .rw[Zd a,Zd a];rw[(_,9)]
 .rw[Ze a,Ze a];rw[(_,9)]
def P9(c:X.calm=6):ql X (.builtin "min") λb H Q=>∃i j,b=[.int i,.int j]/\Q (.int<|if j<i then j else i) H:=by
 intro Y s Z H b e Q I r h;let(i j,rfl,q):=h;let(u f,rfl,(t,rfl),(g,rfl)):=Az r;rw[min_two_ints (I.ok.hd c) λl m k=>(_,H,I.kept k,?_,q)];cases a:j<i
 .rw[Zd a,Zd a];rw[(_,9)]
 .rw[Ze a,Ze a];rw[(_,9)]
structure ObjM(h:Heap)(x dx C:Addr)(mA:Yd):4 where
 obj:h.get? x=! W.instObj C dx
 ns:h.Ns1 dx mA
 ne:dx≠x
def PB{h:Heap} {mA:Yd}(n:h.Ns1 g mA):∃f,h.get? g=!f/\∀b,W.lookIn b f=! mA b:=by
 let(o i q,j,l,m,_,p):=n;rw[(o,j,λb=>?_)];let e:=p b;unfold nsFind findBy at e;rw[<-Array.find?_toList]at e;ext W.lookIn;rw[l,];dsimp only
 split
 .ext
 .let a:i.toList.any (·.refKey)=7:=by
   rw[List.any_eq_false,];intro y r;have(z,t,c):=m y ();simp[DictEntry.refKey,c]
  ext
def ObjM.look  {mA:Yd}(I:ObjM h x f C mA):∃e,W.InstAt h x (W.instObj C f) C !e/\∀c,W.lookIn c e=! mA c:=
 xa (PB I.ns) λe=>j5 λi j=>(e,(I.obj,9,9,i),j)
section
variable      {K:f'}  {mA:Yd}
def PD  (X:K.In s.heap)(I:ObjM s.heap x l C mA)
 (n:W.findIn K (.ref C) "__setattr__"=! ! .builtin "object.__setattr__")(o:W.plainOver K C=6)(p:W.takerIn K C a=!8)(q:W.hasDictIn K C=6)
 (r:PySem.Within mA t)(u:⇑t<=00)
 (h:∀f,ObjM f x l C (λy=>if y=a then !v else mA y)->Heap.SameBut l s.heap f->Q Yq {s with heap:=f,toks:=s.toks+2}):
 YF m w A (setAttr (.ref x) a v) Q E s:=by
 let(-H,J,L):=I.look;rw[W.set_plain X J n<|W.osa_open X J o p λb=>?_];let(-M,z,g):=W.any_some q;rw[Za<|Zb<|Za<|Za<|wpAny_loadPart I.obj<|Za<|W.Looks.here (W.looks_clsIn X z) ?_];rw[g,];rw[Zb<|Za<|Zb<|Za<|wpAny_nsSet1 I.ns λf c e=>?_];let(N B F,i,j,G):=c.count (PySem.Within.cons a v r);rw[Za<|wpAny_lookBehind i (by rw[j,];rw[pastItsLine_dict ()])<|Zb<|h _ ((e.2 _<|Ne.symm I.ne).trans I.obj,c,I.ne) e]
end
noncomputable def x8(f:Str)(v:V):List (Str×V)->List (Str×V)
 |[]=>[%[f|v]]
 |%[g|x]::r=>if g=f then%[g|v]::r else%[g|x]::x8 f v r
theorem GG(f g)(v):∀fs:List (Str×V),(x8 f v fs).lookup g=if g=f then !v else fs.lookup g
 |[]=>by
  show List.lookup g [%[f|v]]=_
  grind
 |%[k|x]::r=>by
  let a:=GG f g v r;rw[show x8 f v (%[k|x]::r)=if k=f then%[k|v]::r else%[k|x]::x8 f v r from 9,]
  grind
theorem DK(f)(v):∀fs:List (Str×V),f∈(x8 f v fs).map (·.1)/\∀g,g∈fs.map (·.1)->g∈(x8 f v fs).map (·.1)
 |[]=>(by simp[x8],())
 |%[k|x]::r=>by
  have(a,b):=DK f v r;rw[show x8 f v (%[k|x]::r)=if k=f then%[k|v]::r else%[k|x]::x8 f v r from 9,]
  grind
theorem GH(f)(v):∀fs:List (Str×V),⇑(x8 f v fs)<=⇑fs+1
 |[]=>by simp[x8]
 |%[k|x]::r=>by
  let a:=GH f v r;rw[show x8 f v (%[k|x]::r)=if k=f then%[k|v]::r else%[k|x]::x8 f v r from 9,]
  grind
def xl  (r:xY (!v) o):∃u,o=!u/\jz v u:=by
 cases o with
 |none=>rw[(r).elim]
 |some u=>rw[(u,9,r)]
def BM(b:xy P w H h)(e:H a=! .ins C c fs):∃mA,ObjM h a c C mA/\(∀f,xY (fs.lookup f) (mA f))/\PySem.Within mA (fs.map (·.1))/\⇑fs<=1000/\H c=! .own a:=by
 let(!d,z,ne,g,(mA,n,r,q)):=show yC P w H h a (.ins C c fs)from b a _ e;rw[(mA,(g,n,ne),r,q,z,d)]
structure Cls(K:f')(C:Addr):4 where
 pg:W.plainGet K C Str.empty=6
 hd:W.hasDictIn K C=6
 po:W.plainOver K C=6
 sa:W.findIn K (.ref C) "__setattr__"=! ! .builtin "object.__setattr__"
def Cls.get{K:f'} (c:Cls K C)(f):W.plainGet K C f=6:=c.pg
def uv(K:f')(C:Addr)(f:Str):4:=W.findIn K (.ref C) f=!8
def uv.taker{K:f'}  (n:uv K C f):W.takerIn K C f=!8:=by
 ext W.takerIn;rw[n,];rfl
section
variable   {Z: St}
def PF  (I:003)(e:H a=! .ins C p fs)(c:Cls X.K C)(n:uv X.K C f)(l:fs.lookup f=!v)
 (h:∀u j,Inv X Y Z H j->jz v u->Q u j):wpAny 009 A (getAttr 016 f b) Q E s:=by
 let(-mA,O,r,_,_,_):=BM I.hok e;let(-u,m,g):=xl (by rw[<-l];rw[r f]);let(-q,J,o):=O.look;rw[W.get_value I.kIn J (W.plainGet_of<|c.get f).1 (W.findObj_own c.hd n 9<|by rw[o,m]) (by
  cases(v)with
  |non=>cases g;rfl
  |bl b=>cases g;rfl
  |int i=>let(t,e):=g;cases e;rfl
  |str x=>let(t,e):=g;cases e;rfl
  |byt b=>let(t,e):=g;cases e;rfl
  |flt b=>let(t,e):=g;cases e;rfl
  |ref a=>cases g;rfl
  |ty n=>cases g;rfl)<|h u _ (I.tok _) g]
def PH   (I:003)(e:H a=! .ins C j fs)(c:Cls X.K C)(n:uv X.K C f)(G:⇑fs<1000)(J:jz y u)
 (h:∀l,Inv X Y Z (upd H a<|.ins C j<|x8 f y fs) l->Q Yq l):wpAny 009 A (setAttr 016 f u) Q E s:=by
 let(-mA,O,r,wi,_,m):=BM I.hok e;let p:(fs.map (·.1)).length<=00:=by rw[Zql,sizeLine_eq];lia
 rw[PD I.kIn O c.sa c.po n.taker c.hd wi p λt i v=>h _ ?_];let w:∃o,t.get? j=!o:=gS i.ns λo _ _=>j5 λx _=>(o,x);rw[I.write (by rw[e,];rw[True.intro]) (.inr m) (λb q B z=>(v.2 b B).trans z) w (by rwa[JI O.ne,],?_,O.ne,i.obj,_,i.ns,λg=>?_,λg F=>?_)]
 .let:=GH f y fs;lia
 .rw[GG,];cases q:g=f
  .rwa[Zd q,Zd q]
  ext
 .cases q:g=f
  .rw[q,];rw[(DK f y fs).1]
  .rw[(DK f y fs).2 g<|wi g λz=>F ?_]
   ext
def Inv.made(I:003):Inv X Y Z (upd (upd H s⁻¹<|.own<|s⁻¹+1) (s⁻¹+1)<|.ins C s⁻¹ [])
 {s with heap:=(s.heap.push W.emptyDict).push (W.instObj C s⁻¹)}:=by
 let c:(s.heap.push W.emptyDict).get? s⁻¹=!W.emptyDict:=Zr s.heap 9;let f:((s.heap.push W.emptyDict).push<|W.instObj C s⁻¹).get? (s⁻¹+1)=! W.instObj C s⁻¹:=by
  let:=Zr (s.heap.push W.emptyDict) (o:=W.instObj C s⁻¹) 9
  ext
 let i:(s.heap.push W.emptyDict).Ns s⁻¹ λ_=>8:=(W.emptyDict,#[],_,c,9,λe j=>Zn j (),λ_=>9);rw[(I.laid (o:=.own<|s⁻¹+1) (t':=s.toks) (λb u q=>Zq _ q) (Zf _) (_,c)).laid (λb u q=>Zq _ q) () ?_];let ne:s⁻¹≠s⁻¹+1:=()
 rw[(by rw[JI ne,JO],Ub _,ne,f,λ_=>8,(Heap.Ns1.of_empty i).at λo q=>Zq _ q,λ_=>True.intro,λy l=>Zn 9 l)]
end
def su(K:f')(c:TE)(f:Str):TE:=λZ H Q=>c Z H λx b=>∃a C e fs v,x=016/\b a=! .ins C e fs/\Cls K C/\uv K C f/\fs.lookup f=!v/\Q v b
def sG(K:f')(e g:TE)(f:Str):TS:=λD Z H=>g Z H λy h=>e Z h λx b=>∃a C c fs,x=016/\b a=! .ins C c fs/\Cls K C/\uv K C f/\⇑fs<1000/\
 D.nx Z (upd b a<|.ins C c<|x8 f y fs)
def PJ(b:PE X e g)(i:attributeBase e f X.env 011=011):PE X (.Attribute e f j) (su X.K g f):=by
 intro Y s Z H Q I h;rw[(Attribute_any_ (jL (b Y s Z H _ I h) λu z(x,m,o,p,a,C,A,fs,v,r,t,c,n,l,q)=>?_)<|by rw[arm_eval_Attribute,i])];subst r;obtain rfl:=p;rw[PF o t c n l λB E w y=>(v,m,w,y,q)]
def PK(i:PE X o j)(m:PE X b p)(r:swapsWith b (! .Attribute o f e) g.line X.env=pure 7):PS X (.Assign [.Attribute o f e] b g) (sG X.K j p f):=by
 intro Y s Z H D I h;rw[plainObj_wpAny_Assign_Attribute (jL (m Y s Z H _ I h) λu t=>j4 λy v=>j8 λw z q=>jL (i Y t Z v _ w q) λL M(x,N,A,B,a,C,O,fs,E,F,c,n,l,G)=>?_) r];subst E;obtain rfl:=B;rw[PH A F c n l z λP J=>(Z,_,J,G)]
section
variable   {Z: St}
inductive TyOf(K:f')(H:Hp):V->Value->Prop where
 |non:TyOf K H .non (.type "NoneType")
 |bl(x:Bool):TyOf K H (.bl x) (.type "bool")
 |int(i:Int):TyOf K H (.int i) (.type "int")
 |str(x:Str):TyOf K H (.str x) (.type "str")
 |flt(x:UInt64):TyOf K H (.flt x) (.type "float")
 |lst{a:Addr}{xs:YB}(e:H a=! .lst xs):TyOf K H 016 (.type 013)
 |frz{a:Addr}{o:Obj}{xs:YB}(e:H a=!(.frz o<|.lst xs)):TyOf K H 016 (.type 013)
 |tup{a:Addr}{xs:YB}(e:H a=! .tup xs):TyOf K H 016 (.type "tuple")
 |dK{a:Addr}{kvs:List (jT×V)}(e:H a=! .dK kvs):TyOf K H 016 (.type "dict")
 |dT{a:Addr}{kvs:List (List jT×V)}(e:H a=! .dT kvs):TyOf K H 016 (.type "dict")
 |ins{a C dx:Addr}{fs:List (Str×V)}(e:H a=! .ins C dx fs)(cl:Cls K C)(ha:W.findIn K (.ref C) "__class__"=! ! .builtin "object.__class__")
  (hn:W.specialIn K (.builtin "object.__class__") "__get__"=! ! .builtin "getset_descriptor.__get__")(htk:W.takesIn K (.builtin "object.__class__")=!true)
  (hm:W.mroIn K C (.type "object")=!true):TyOf K H 016 (.ref C)
def PM  (I:003)(f:jz x u)(B:TyOf X.K H x t)(e:W.kitOne X.K t c=!b)(h:∀F,Q (.bool b) {s with toks:=F}):
 wpAny 009 A (call (.builtin "isinstance") [u,c]) Q E s:=by
 cases(B)with
 |non=>cases f;rw[W.kia_one W.kitx_none I.kIn True.intro e (λz=>nomatch z) h]
 |bl y=>cases f;rw[W.kia_one W.kitx_bool I.kIn True.intro e (λz=>nomatch z) h]
 |int i=>let(t,q):=f;cases q;rw[W.kia_one W.kitx_int I.kIn True.intro e (λz=>nomatch z) h]
 |str y=>let(t,q):=f;cases q;rw[W.kia_one W.kitx_str I.kIn True.intro e (λz=>nomatch z) h]
 |flt y=>let(t,q):=f;cases q;rw[W.kia_one W.kitx_float I.kIn True.intro e (λz=>nomatch z) h]
 |@lst a m g=>
  cases f;let(_,_,n,_,j):=I.hok a _ g;rw[W.kia_one W.kitx_list I.kIn (_,j,9) e (λz=>nomatch z) h]
 |@frz a R m g=>
  cases f;let(!_,_,(_,n,_,j)):=I.hok a _ g;rw[W.kia_one W.kitx_list I.kIn (_,j,9) e (λz=>nomatch z) h]
 |@tup a m g=>
  cases f;let(_,_,_,p):=I.hok a _ g;let(-o,j,l,_):=p;rw[W.kia_one W.kitx_tuple I.kIn (o,j,l) e (λz=>nomatch z) h]
 |@dK a r g=>
  cases f;let(_,_,S,_,p):=I.hok a _ g;let(o G L,j,l,_):=p;rw[W.kia_one W.kitx_dict I.kIn (o,j,l.1) e (λz=>nomatch z) h]
 |@dT a r g=>
  cases f;let(!_,_,(m,_,o,G,L,j,l,_)):=I.hok a _ g;rw[W.kia_one W.kitx_dict I.kIn (o,j,l.1) e (λz=>nomatch z) h]
 |@ins a C T fs g w M N v P=>
  cases f;let(-mA,O,_):=BM I.hok g;let(-U,J,_):=O.look;rw[W.kia_one (W.kitx_own (w.get _) w.hd M N v P) I.kIn J e (λz=>nomatch z) h]
end
structure Room(k:5)(A:Around):4 where
 hd:A.handled=8
 dp:A.depth+03*k+05<recursionLimit
 un:A.units+16*k+200<cLine
def Room.mono  (r:Room k A)(h:j<=k):Room j A:=(r.hd,by let:=r.dp;lia,by let:=r.un;lia)
theorem Room.deeper  (r:Room (k+1) A)(c):Room k (A.deeper c):=
 (r.hd,by let:=r.dp;show A.depth+1+03*k+05<_;lia,by let:=r.un;show A.units+03+16*k+200<_;lia)
def PN{A:Around}   :(A.under<|.builtin "type.__call__" (.ref C::a,b)).depth=A.depth+1:=by
 rfl
def PP{A:Around}   :(A.under<|.builtin "type.__call__" (.ref C::a,b)).units=A.units+1:=by
 rfl
def Room.make  (r:Room (k+1) A)(C)(c)(e):Room k (A.under<|.builtin "type.__call__" (.ref C::c,e)):=
 (r.hd,by let:=r.dp;rw[PN,];lia,by let:=r.un;rw[PP,];lia)
theorem Room.depth  (r:Room k A):A.depth<recursionLimit:=by let:=r.dp;lia
theorem Room.units  (r:Room k A):A.units+64<cLine:=by let:=r.un;lia
def uD:TA:=λ_ H Q=>Q [] H
def DM(a:TE)(b:TA):TA:=λZ H Q=>a Z H λx c=>b Z c λe f=>Q (x::e) f
section
variable     {t:TA}
def WQ:PA X [] uD:=λ_ _ _ _ H Q I h=>Calls.spliced_nil ([],H,I,.nil,h)
def WF(c:PE X e f)(g:PA X a t)(i:01 (e::a) X.env=%[7|011]::01 a X.env:=by rfl):PA X (e::a) (DM f t):=by
 intro b Y s Z H Q I h;rw[i,];rw[Calls.spliced_cons<|jL (c Y s Z H _ I h) λu j=>j4 λx l=>j8 λm n o=>jL (g b Y j Z l _ m o) λy z=>j4 λp q=>j8 λr v w=>(x::p,q,r,.cons n v,w)]
def rZ(t:TA):TE:=λZ H Q=>t Z H λa b=>⇑a<=00/\∀p,b p=8->Q (.ref p) (upd b p<|.tup a)
def sm(t:TA):TE:=λZ H Q=>t Z H λa b=>⇑a<=00/\∀p,b p=8->Q (.ref p) (upd b p<|.lst a)
def PQ (h:PA X g t):PE X (.Tuple g n a) (rZ t):=λY s Z H Q I i=>wpAny_Tuple_spliced<|jL (h a Y s Z H _ I i) λj c=>j4 λl m=>xb λf r z q=>(by rwa[<-⇑r],(.ref c⁻¹,upd m c⁻¹<|.tup l,f.laid (λb u e=>Zq _ e) (Zf _)<|((z,(_,Zr _ 9,9)),j,r,(_,Zr _ 9,9,_,9)),9,q _<|f.hok.fresh<|Zf _))
def GI(h:PA X g t):PE X (.List g a) (sm t):=λY s Z H Q I i=>wpAny_List_spliced<|jL (h a Y s Z H _ I i) λj c=>j4 λl m=>xb λf r z q=>(by rwa[<-⇑r],(.ref c⁻¹,upd m c⁻¹<|.lst l,f.laid (λb u e=>Zq _ e) (Zf _) (z,j,0,r,Zr _ 9),9,q _<|f.hok.fresh<|Zf _))
end
abbrev Sp:=YB->Hp->VK->XK->4
abbrev uX:=List Env->Hp->Shared->XK->Ya
structure Env0(P:Program)(w:World)(K:f')(mg:Yd)(base:Heap)(A:Around)(outer:List Env)(s:Shared)(H:Hp):4 where
 frames:A.frames=!outer
 mod:Mod K mg base
 bs:∀b o,base.get? b=!o->↥s b=!o/\H b=8
 bsz:base.objs.size<=s⁻¹
 funs:s.heap.FunFrames base outer
 frf:∀b∈frs outer,H b=8
 hok:xy P w H s.heap
 bare:AllBare s.gens
def CE(a:List Env)(P:Program)(w:World)(H:Hp)(s:Shared)(Q:VK)(u:Value)(b:Shared):4:=
 ∃v c,b.os=s.os/\AllBare b.gens/\Un (frs a) [] H c s.heap b.heap/\xy P w c b.heap/\jz v u/\Q v c
def CR(c:uX)(a:List Env)(P:Program)(w:World)(H:Hp)(s:Shared)(Q:VK)(E:XK)(r:Result)(b:Shared):4:=
 match r with
 |.ok (.ret u)=>CE a P w H s Q u b
 |.ok _=>False
 |.error e=>c a H s E e b
structure FnOk(P:Program)(w:World)(K:f')(mg:Yd)(base:Heap)(CX:uX)(k:5)(f:Addr)(fd:FuncData)(ps:Yi)(sp:Sp):4 where
 len:∀vs H Q E,sp vs H Q E->⇑vs=⇑ps
 run:∀(A:Around)(outer:List Env)(s:Shared)(H:Hp)(args:Args)(us:Ye)(vs:YB)(Q:VK)(E:XK),Room k A->Env0 P w K mg base A outer s H->BindsTo s fd args (ps.zip us)->jv vs us->sp vs H Q E->
  codeAny (model P w) A (.call (.ref f) args) (CR CX outer P w H s Q E) s
theorem FnOk.mono  {K:f'}        (F:FnOk P w K l e n j f o p r)(h:j<=k):
 FnOk P w K l e n k f o p r:=(F.len,λA c s H i u v Q E y=>F.run A c s H i u v Q E<|y.mono h)
def FnOk.imp  {K:f'}        (F:FnOk P w K n i o k f p r u)
 (h:∀e H Q E,l e H Q E->u e H Q E):FnOk P w K n i o k f p r l:=
 (λe H Q E q=>F.len e H Q E<|h _ _ _ _ q,λA c s H j v e Q E y z B G I=>F.run A c s H j v e Q E y z B G<|h _ _ _ _ I)
def Env0.make  {K:f'}      (e:Env0 P w K i f A c s H)(C)(j)(l):
 Env0 P w K i f (A.under<|.builtin "type.__call__" (.ref C::j,l)) c s H:=(by first|rw[e.frames]|(simpa using e.frames),e.mod,e.bs,e.bsz,e.funs,e.frf,e.hok,e.bare)
section
variable   {Z: St}
def Inv.env0(I:003):Env0 X.prog X.w X.K X.mg X.base X.A X.stack s H:=
 (I.ok.frames,I.ok.mod,I.bs,Zh I.ok.bsz I.sz,I.stack,I.stkFree,I.hok,I.bare)
def Inv.after  (I:003)(h:CE X.stack X.prog X.w H s Q u e):EP X Y Z Q u e:=by
 let(v f,os,bare,un,c,r,q):=h;let(j,g,d,t,i):=e;obtain rfl:=os;rw[(v,f,I.call un c bare<|λb z=>Zn z (),r,q)]
end
def DN(b:Sp)(a:YB)(E:XK)(t:TA):TE:=λZ H Q=>t Z H λc e=>b (c++a) e Q E
def dZ(C:Addr)(e:Sp)(b:YB)(E:XK)(t:TA):TE:=λZ H Q=>t Z H λf c=>∀x a,c x=8->c a=8->a≠x->
 e (.ref x::(f++b)) (upd (upd c a<|.own x) x<|.ins C a []) (λv g=>v=.non/\Q (.ref x) g) E
def vn(K:f')(e:FuncData)(b:Yi)(c:Ye):4:=
 ∀(s:Shared)(a:Ye),K.In s.heap->⇑(a++c)=⇑b->BindsTo s e (a,[]) (b.zip<|a++c)
def vn.all{K:f'}  (h:∀c:Ye,⇑c=⇑e->bindArgs i (c,[])=pure (e.zip c)):vn K i e []:=λs c _ f=>by
 rw[ZA]at f ⊢;rw[.of_eq<|h c f]
def A0(b:uX)(X:Cx)(E:XK):4:=∀(Y:Yb)(Z:St)(H:Hp)(s:Shared)(e:Value)(a:Shared),003->b X.stack H s E e a->X.xe e a
def PR {Z:St}     (F:FnOk X.prog X.w X.K X.mg X.base m k f n i o)(p:Room k X.A)(q:vn X.K n i g)(t:jv a g)(v:A0 m X E)
 (I:003)(r:jv j b)(h:o (j++a) H Q E):YE X (call (.ref f) b) (EP X Y Z Q) X.xe s:=by
 let l:=r.append t;let w:⇑(b++g)=⇑i:=by rw[<-⇑l];rw[F.len _ _ _ _ h]
 rw[wpAny_call<|codeAny_mono (F.run X.A X.stack s H (b,[]) (b++g) (j++a) Q E p I.env0 (q s b I.kIn w) l h) λr x c=>?_]
 cases(r)with
 |error e=>rw[v Y Z H s e x I c]
 |ok y=>
  cases(y)with
  |ret u=>rw[I.after c]
  |next=>rw[False.elim c]
  |brk=>rw[False.elim c]
  |cont=>rw[False.elim c]
def GJ(F:FnOk X.prog X.w X.K X.mg X.base l k f m n o)(u:Room k X.A)(v:Gl X x)(w:X.mg x=! .ref f)(y:W.keepIn X.K (.ref f)=6)(z:vn X.K m n A)(B:jv c A)(C:A0 l X E)
 (G:PA X (e::b) t)(g:(x==010)=7:=by decide)(J:01 (e::b) X.env=%[7|011]::01 b X.env:=by rfl)(i:(backTo a<|01 b X.env).any (·.1)=7:=by rfl):
 PE X (.Call (.Name x p) (e::b) [] a) (DN o c E t):=by
 intro Y s Z H Q I h;rw[wpAny_Call_Name_kw<|YT I v w (W.callWith_K I.ok.mod.kin y (jL (G a Y s Z H _ I h) λL M=>j4 λN O=>j8 λj r q=>(j.kIn,PR F u z B C j r q)) J i) g]
structure Mk(K:f')(C f:Addr):4 where
 makes:W.makesIn K C=6
 init:W.findIn K (.ref C) "__init__"=! ! .ref f
 fn:W.isFn K (.ref f)=6
 kp:W.keepIn K (.ref C)=6
def PU {Z:St}     (M:Mk X.K C f)(F:FnOk X.prog X.w X.K X.mg X.base q k f t m w)(y:Room (k+1) X.A)(z:vn X.K t m i)(A:jv c i)
 (B:A0 q X E)(I:003)(r:jv n b)
 (h:∀x j,H x=8->H j=8->j≠x->w (.ref x::(n++c)) (upd (upd H j<|.own x) x<|.ins C j []) (λv G=>v=.non/\Q (.ref x) G) E):
 YE X (call (.ref C) b) (EP X Y Z Q) X.xe s:=by
 let o:=h (s⁻¹+1) s⁻¹ (I.hok.fresh<|Nat.le_succ _) (I.hok.fresh<|Zf _)<|Zi<|UC _;let l:=Inv.made (C:=C) I;let p:jv (V.ref (s⁻¹+1)::(n++c)) (Value.ref (s⁻¹+1)::(b++i)):=.cons 9<|r.append A;let J:⇑(Value.ref (s⁻¹+1)::b++i)=⇑m:=by
  let e:=⇑p;rw[F.len _ _ _ _ o]at e;rw[e.symm]
 rw[wpAny_call<|W.make_core (W.makes_of I.kIn M.makes) (W.looks_findIn I.kIn M.init) (λg=>W.bind_fn I.kIn g<|Yp.mp M.fn) 006<|codeAny_mono (F.run _ X.stack _ _ (Value.ref (s⁻¹+1)::b,[]) (Value.ref (s⁻¹+1)::(b++i)) _ _ E (y.make C b [])
  (l.env0.make C b []) (z _ (Value.ref (s⁻¹+1)::b) l.kIn J) p o) λr L a=>?_]
 cases(r)with
 |error e=>rw[B Y Z _ _ e L l a]
 |ok N=>
  cases(N)with
  |ret u=>
   let(v O,P,R,S,T):=l.after a;subst S;rw[(R,(V.ref<|s⁻¹+1,O,P,9,T))]
  |next=>rw[False.elim a]
  |brk=>rw[False.elim a]
  |cont=>rw[False.elim a]
structure FnScope(N P:Yi)(sc:Scope):4 where
 kind:sc.kind=.function
 co:sc.isCoroutine=7
 gen:sc.isGenerator=7
 nd:N.Nodup
 pre:N.take ⇑P=P
 par:∀x∈P,sc.names.lookup x=!.local\/sc.names.lookup x=!.cell
 nofree:∀y∈sc.names,y.2 ≠ .free
theorem GK{kindOf:Str->02 NameKind} :∀{binds:List (Str×Value)}{m:Yd},(∀v,%[x|v]∉binds)->bindL kindOf binds m x=m x
 |[],_,_=>9
 |%[n|v]::r,m,h=>by
  ext bindL;rw[GK (),]
  split
  .grind
  .rfl
theorem GL{kindOf:Str->02 NameKind} :∀{binds:List (Str×Value)}{m:Yd},(∀v,%[x|v]∉binds)->bindC kindOf binds m x=m x
 |[],_,_=>9
 |%[n|v]::r,m,h=>by
  ext bindC;rw[GL (),]
  split
  .rfl
  grind
theorem GM{kindOf:Str->02 NameKind}  :∀{P:Yi}{a:Ye}{i:5}{m:Yd},P.Nodup->P[i]?=!x->a[i]?=!v->kindOf x=!.local->
 bindL kindOf (P.zip a) m x=!v
 |[],_,_,_,_,h,_,_=>by simp at h
 |_::_,[],_,_,_,_,h,_=>by simp at h
 |p::P,w::a,0,m,nd,b,h2,hk=>by
  simp at b h2;subst b;subst h2;show bindL kindOf (%[p|w]::P.zip a) m p=_;ext bindL;rw[GK λv c=>(Jh.mp nd).1 (List.of_mem_zip c).1,Zd hk];simp
 |p::P,w::a,i+1,m,nd,b,h2,hk=>by
  show bindL kindOf (%[p|w]::P.zip a) m x=_;rw[GM () (by simpa using b) (by simpa using h2) hk]
theorem GN{kindOf:Str->02 NameKind}  :∀{P:Yi}{a:Ye}{i:5}{m:Yd},P.Nodup->P[i]?=!x->a[i]?=!v->kindOf x≠!.local->
 bindC kindOf (P.zip a) m x=!v
 |[],_,_,_,_,h,_,_=>by simp at h
 |_::_,[],_,_,_,_,h,_=>by simp at h
 |p::P,w::a,0,m,nd,b,h2,hk=>by
  simp at b h2;subst b;subst h2;show bindC kindOf (%[p|w]::P.zip a) m p=_;ext bindC;rw[GL λv c=>(Jh.mp nd).1 (List.of_mem_zip c).1,Ze hk];simp
 |p::P,w::a,i+1,m,nd,b,h2,hk=>by
  show bindC kindOf (%[p|w]::P.zip a) m x=_;rw[GN () (by simpa using b) (by simpa using h2) hk]
noncomputable def start(N:Yi)(a:YB):St:=a.map some++List.replicate (⇑N-⇑a) 8
noncomputable def qj(h:uX)(P:Program)(w:World)(K:f')(mg:Yd)(base:Heap)(N:Yi)(b:Str)(a:Scope)(f:Addr)(g:Value)(A:Around)(outer:List Env)(s:Shared)(H:Hp)(E:XK):Cx where
 prog:=P
 w:=w
 K:=K
 mg:=mg
 base:=base
 A:=A.deeper (envOfC b a s⁻¹ f g)
 N:=N
 s₀:=s
 H₀:=H
 env:=envOfC b a s⁻¹ f g
 outer:=outer
 stack:=envOfC b a s⁻¹ f g::outer
 ex:=[]
 calm:=6
 fn:=λ_=>6
 pn:=[]
 xe:=λe i=>wpAny (model P w) (A.deeper<|envOfC b a s⁻¹ f g) (leaving (envOfC b a s⁻¹ f g) e) (λ_ c=>h outer H s E e c) (λj c=>h outer H s E j c) i
def GO{a:Scope}  (h:a.names.lookup x=!.cell):∃c,(cellsFrom n a.names []).lookup x=!c:=have q:=W.cellsFrom_some a.names n []<|.inl h;Jw.mp q
def PX   {K:f'}
 (S:FnScope N C g)(U:A.handled=8)(o:Env0 P w K O t A l s H)(hl:⇑F=⇑C)(r:jv F Q)
 (x:InCallC s s⁻¹ (bindL (envOfC m g s⁻¹ f M).kindOf (C.zip Q) λ_=>8) (cellsFrom (s⁻¹+1) g.names []) (bindC (envOfC m g s⁻¹ f M).kindOf (C.zip Q) λ_=>8) X):
 Inv (qj Y P w K O t N m g f M A l s H E) [] (start N F) H X:=by
 let Z:⇑C<=⇑N:=by let:=Zt List.length S.pre;rw[Uq]at this;lia
 let(J tk,rfl,R):=x.done;let B:∀b:Addr,b∉(qj Y P w K O t N m g f M A l s H E).ex:=λb z=>Zn (show b∈([]:Yj)from z) ();rw[((o.mod,S.kind,9,9,Zf _,λy z c J j=>?_,λy hy=>?_,λy c _ h=>?_,λ_=>U,Around.frames_deeper o.frames,.inr (9,9),λb z=>Zn z<|B b,o.bs,o.bsz,λb _ _=>B b,λb z=>Zn z<|B b,o.funs,o.frf),
  9,o.bare,Un.kept R,(_,x.toInCall.ns,λi y v J j h3=>?_),λy c h=>(_,x.cell y c h),o.hok.fresh<|Zf _,λy c h=>?_,λp G=>Zn (show p∈([]:Yb)from G) (),o.hok.kept R,?_)]
 .rw[name_of_addr x.apart (PySem.mem_of_lookup J)<|PySem.mem_of_lookup j]
 .let hy:g.names.lookup y=!.cell\/g.names.lookup y=!.free:=hy;obtain hy|hy:=hy
  .rw[GO hy]
  .rw[Zn 9<|S.nofree _<|PySem.mem_of_lookup hy]
 .rw[Zz<|x.above y c<|PySem.mem_of_lookup h]
 .let L:i<⇑F:=by
   unfold start at j;cases L:i<⇑F
   .rw[L]
   .rw[Uv (by simpa using L)]at j;rw[List.getElem?_replicate]at j
    split at j<;>cases j
  let ha:F[i]?=!v:=by
   unfold start at j;rw[Uj (by simpa using L),Zv]at j
   induction e:F[i]? with
   |none=>rw[e]at j;cases j
   |some a=>rw[e]at j;cases j;rfl
  let(-u,T,rv):=r.get ha;let G:C[i]?=!y:=by
   rw[<-S.pre,Wf ()];rw[J]
  let I:C.Nodup:=by rw[<-S.pre];rw[S.nd.sublist<|List.take_sublist _ _]
  rw[(u,rv,?_)];rcases S.par y (Uf G)with k|k
  .rw[.inl (k,GM I G T k)]
  .let(-c,e):=GO (n:=s⁻¹+1) k;rw[.inr (.inl k,c,e,?_)];let q:=x.cell y c e;rw[GN I G T (by show g.names.lookup y≠_;rw[k,];decide)]at q;rw[q]
 .rw[o.hok.fresh<|Zz<|x.above y c<|PySem.mem_of_lookup h]
 .ext start;show _=⇑N;rw[Ua,Zql,List.length_replicate];lia
def GP   {K:f'}        {dV kV F pm h ct oc:Value}
 (lk:K.lookup f=!(oc,od,.func<|W.fnOf G g j m a dV kV F pm an h ct,osl))(T:W.codeIn K h g=6)(S:FnScope N U a)
 (len:∀l H Q E,sp l H Q E->⇑l=⇑U)
 (z:∀A c s H l Q E,Room k (A.deeper<|envOfC g a s⁻¹ f h)->sp l H Q E->
  ∃t,xm (qj X P w K Y i N g a f h A c s H E) m t/\t {nx:=λ_ p=>Q .non p,rt:=Q} (start N l) H):
 FnOk P w K Y i X (k+1) f (W.fnOf G g j m a dV kV F pm an h ct) U sp:=by
 rw[(len,λA c s H args us l Q E Z L hb r M=>?_)];let KX:=L.mod.kin.keeps λb o e=>(L.bs b o e).1;let B:∀y∈U.zip us,a.names.lookup y.1=!.local\/a.names.lookup y.1=!.cell/\((cellsFrom (s⁻¹+1) a.names []).lookup y.1).isSome=6:=λ(n,v)hy=>by
  obtain q|q:=S.par n (List.of_mem_zip hy).1
  .rw[.inl q]
  .rw[.inr (q,W.cellsFrom_some _ _ _<|.inl q)]
 rw[codeAny_call_function Z.depth (KX _ _ lk) 9 S.co S.gen 9 (W.codeRec_of KX T)<|hb _ _ _ _<|wpAny_newFunctionEnv_cells S.kind B λenv he s1 x=>?_];subst he;rw[((L.mod.nolimit.keeps λb o e=>(L.bs b o e).1).keeps x.toInCall.keep,codeAny_func ?_)];let(t,ht,hq):=z A c s H l Q E (Z.deeper _) M;let I:Inv (qj X P w K Y i N g a f h A c s H E) [] (start N l) H s1:=PX S Z.hd L (len _ _ _ _ M) r x;rw[Zc (ht [] s1 (start N l) H _ I hq) (λfl s' C=>?_) λe s' C=>C];let O:∀{R:St}{p:Hp}{v:V}{u:Value},Inv (qj X P w K Y i N g a f h A c s H E) [] R p s'->jz v u->Q v p->CE c P w H s Q u s':=
  λ{R p v u}J rv q=>(v,p,J.os,J.bare,J.base,J.hok,rv,q)
 cases(fl)with
 |ret u=>
  let(v R p,J,rv,q):=C;rw[O J rv q]
 |next=>
  let(R p,J,q):=C;rw[O (v:=V.non) J 9 q]
 |brk=>
  let(_ _,_,q):=C;rw[False.elim q]
 |cont=>
  let(_ _,_,q):=C;rw[False.elim q]
section
variable      {t:TA}{id T:String}{r:YB->Hp->VK->Prop}
def uE(r:YB->Hp->VK->4)(t:TA):TE:=λZ H Q=>t Z H λa b=>r a b Q
def BN(g:ql X (.builtin id) r)(i:Gl X x)(j:X.mg x=8)(l:bootBuiltins x=! .builtin id)(m:PA X (e::b) t)(n:x ≠"__name__":=by decide)(c:(x==010)=7:=by decide)
 (o:01 (e::b) X.env=%[7|011]::01 b X.env:=by rfl)(f:(backTo a<|01 b X.env).any (·.1)=7:=by rfl):PE X (.Call (.Name x p) (e::b) [] a) (uE r t):=λY s Z H Q I h=>wpAny_Call_Name_kw<|Xq I i j l (PyProof.Rows.callWith_builtin1 (jL (m a Y s Z H _ I h) λq u=>j4 λv w=>j8 λy z A=>g Y u Z w v q Q y z A) o f) n c
def DO(g:ql X (.type T) r)(i:Gl X x)(j:X.mg x=8)(l:bootBuiltins x=! .type T)(m:PA X (e::b) t)(n:x ≠"__name__":=by decide)(c:(x==010)=7:=by decide)
 (o:01 (e::b) X.env=%[7|011]::01 b X.env:=by rfl)(f:(backTo a<|01 b X.env).any (·.1)=7:=by rfl):PE X (.Call (.Name x p) (e::b) [] a) (uE r t):=λY s Z H Q I h=>wpAny_Call_Name_kw<|Xq I i j l (PyProof.Rows.callWith_type1 (jL (m a Y s Z H _ I h) λq u=>j4 λv w=>j8 λy z A=>g Y u Z w v q Q y z A) o f) n c
end
end L2
namespace HT
open PySem PyProof.Rows
noncomputable def lexLt:Yf->List 3->Bool
 |[],[]=>7
 |[],_::_=>6
 |_::_,[]=>7
 |x::a,y::b=>if x=y then lexLt a b else decide (x<y)
theorem lexLt_cons(x y)(a b):lexLt (x::a) (y::b)=if x=y then lexLt a b else decide (x<y):=rfl
theorem lexLt_nil_nil:lexLt [] []=7:=rfl
def PY(y)(a):lexLt [] (y::a)=6:=rfl
def PZ(x)(a):lexLt (x::a) []=7:=rfl
def Ra(A)(s)(a)(t)(c)(u):∃e,SeqAt.EqAt A s (.int a t) (.int c u) e/\(e=6↔a=c):=
 (a==c,SeqAt.EqAt.int_int a t c u,())
def Rb(A)(s)(a)(t)(c)(u)(b)(w)(E)(Q)(h:Q (.bool<|decide<|a<c) s):
 YF b w A (richCompare .Lt (.int a t)<|.int c u) Q E s:=
 (PyProof.Rows.lt_int h:YF b w A (compareOp .Lt (.int a t)<|.int c u) Q E s)
section
open PySem.SeqAt
open PySem.AutoSeq1 (wpAny_loadPart')
open PySem.MeetsSeq PySem.MeetsSeq2 PySem.MeetsSeq3
def Rc(l b:Addr)(i f:Yk)(n M:5)(N C:02 Addr)(O E:Array (02 Value))(F G:Yf)(P:IntsAre i.toList F)(Q:IntsAre f.toList G):
 Meets (Builtin.«tuple.__lt__» ([.ref l,.ref b],[]))
  λ_ R s=>↥s l=!{cls:=.type "tuple",dict:=N,data:=.seq i n,slots:=O}/\↥s b=!{cls:=.type "tuple",dict:=C,data:=.seq f M,slots:=E}/\
   R (.ok<|.ret<|.bool<|lexLt F G) s:=
 .of_wp λo w A R s h=>by
  let(r,g,d,v,os):=s;let(S,T,h):=h;let Z:=AutoSeq1.sub_tuple_tuple;let z1:i.size=⇑F:=by rw[<-⇑P];simp
  let z2:f.size=⇑G:=by rw[<-⇑Q];simp
  wp_walk using wpAny_loadPart' S,wpAny_loadPart' T,wpAny_forIn_list _ (λrest b H=>b.1=8/\H=(r,g,d,v,os)/\∃(z B:Ye)(j m:Yf),rest=z.zip B/\
   IntsAre z j/\IntsAre B m/\⇑j+f.size=⇑m+i.size/\R (.ok<|.ret<|.bool<|lexLt j m) (r,g,d,v,os)) _
  case turn=>
   rintro⟨y,x⟩ rest b H ⟨hb',rfl,z,B,j,m,hz,hvi,hwi,hlen,hR⟩
   cases(hvi)with
   |nil=>rw[List.zip_nil_left]at hz;cases hz
   |cons a t J=>
    cases(hwi)with
    |nil=>rw[List.zip_nil_right]at hz;cases hz
    |cons c u L=>
     rw[VC]at hz;injection hz with hyx hrest
     injection hyx with hy hx
     subst hy hx;rw[lexLt_cons]at hR;simp only[Zu]at hlen;let(e,U,p):=Ra A.in1 (r,g,d,v,os) a t c u;rw[Za<|U o w _ _ ?_]
     cases(e)with
     |true=>
      rw[Zd (p.mp 9)]at hR
      wp_walk
      rw[()]
     |false=>
      rw[Ze λq=>Zn (p.mpr q) Zj]at hR;let I:=Rb A.in1 (r,g,d,v,os) a t c u o w
      wp_walk using I
      rw[()]
  case fin=>
   rintro⟨b1,b2⟩ H ⟨hb',rfl,z,B,j,m,hz,hvi,hwi,hlen,hR⟩;simp only at hb';subst hb';let X:lexLt j m=decide (i.size<f.size):=by
    cases hvi with
    |nil=>
     cases(hwi)with
     |nil=>
      simp only[ZC]at hlen;rw[lexLt_nil_nil,];rw[()]
     |cons c u Y=>
      simp only[ZC,Zu]at hlen;rw[PY,];rw[()]
    |cons a t X=>
     cases(hwi)with
     |nil=>
      simp only[ZC]at hlen;rw[PZ,];rw[()]
     |cons c u Y=>
      cases hz
   wp_walk
   grind[Builtin.Tuple.tupleCompareSizes]
  grind
end
def lt_tupInts    (t:IsTup s.heap l c)(u:IsTup s.heap b a)(v:IntsAre c.toList m)(x:IntsAre a.toList o)
 (y:A.units<cLine)(h:Q (.bool<|lexLt m o) s):YF p w A (compareOp .Lt (.ref l)<|.ref b) Q E s:=by
 let((z,B,q,C),F,G,n,H):=id t;let((r,e,data2,f),g,i,I,j):=id u;subst G H i j;rw[richCompare_meets_room (op:=.Lt) (_,F,9) (_,g,9) PySem.F.slot_tuple_lt PySem.F.entry_tuple_lt (PySem.F.args_tuple_lt_2 _ _) (Rc l b c a n I B e C f m o v x)
  () y]
def cat_tup   (v:IsTup s.heap t f.toArray)(x:IsTup s.heap b a.toArray)(y:f ≠[])
 (z:a=[]->Q (.ref t) s)(B:a ≠[]->Q (.ref s⁻¹) {s with heap:=s.heap.push {cls:=.type "tuple",data:=.seq (f++a).toArray}})
 (C:⇑f+⇑a<=00):YF o w A (binaryOp .Add (.ref t)<|.ref b) Q E s:=by
 let((cls,p,data,q),i,F,n,G):=id v;let((r,g,data2,h),c,l,u,m):=id x;subst F G l m;let e:f.toArray++a.toArray=(f++a).toArray:=by simp
 cases j:a=[]
 .rw[concat_meets (_,i,9) (_,c,9) noFill_tuple_add seq_tuple_add PySem.F.slot_tuple_add PySem.F.entry_tuple_add (PySem.F.args_tuple_add_2 _ _)
   (tuple_addW1 t b f.toArray a.toArray n u p g q h ()<|by simp[j]) (i,c,z j)]
 .rw[concat_meets (_,i,9) (_,c,9) noFill_tuple_add seq_tuple_add PySem.F.slot_tuple_add PySem.F.entry_tuple_add (PySem.F.args_tuple_add_2 _ _)
   (tuple_addW2 t b f.toArray a.toArray n u p g q h (by simpa using y) (by simpa using j) ()) (i,c,?_)]
  rw[e,];rw[B j]
end HT
namespace L2
abbrev TO:=St->Hp->(02 3->Hp->4)->4
def PO(X:Cx)(e:02 Expr)(t:TO):4:=
 ∀(Y:Yb)(s:Shared)(Z:St)(H:Hp)(Q:02 3->Hp->4),003->t Z H Q->
  YE X (evalPart e X.env) (λu b=>∃o a,Inv X Y Z a b/\IsPart u o/\Q o a) X.xe s
def mQ:TO:=λ_ H Q=>Q 8 H
def kG(t:TE):TO:=λZ H Q=>t Z H λx a=>∃i,x=.int i/\Q (!i) a
def GQ :∀{a:Ye},jv (b.map V.int) a->IntsAre a b:=by
 cases(b)with
 |nil=>intro a r;cases r;rw[.nil]
 |cons n b c=>
  intro a r;cases r with
  |cons f g=>
   let(t,e):=f;subst e;rw[.cons n t<|c g]
def Re(h:PE X e a):PO X (!e) (kG a):=by
 intro Y s Z H Q I b;rw[jL (h Y s Z H _ I b) λu l=>j4 λx c=>j8 λf g j=>?_];let(i,rfl,q):=j;let(t,rfl):=g;rw[(!i,c,f,.int i t,q)]
def gh(K:f'):R2:=λx y H Q=>∃a b e c,x=016/\y=.ref b/\yX K H a e/\yX K H b c/\e ≠[]/\⇑e+⇑c<=00/\
 (c=[]->Q 016 H)/\(c ≠[]->∀p,H p=8->Q (.ref p) (upd H p<|.tup<|e++c))
def jv.nil_iff  (r:jv c e):e=[]↔c=[]:=by
 cases(r)with
 |nil=>simp
 |cons _ _=>simp
def GR:yu X (binaryOp .Add) (gh X.K):=by
 intro Y s Z H x y v u Q I g i h;let(a b A B,rfl,rfl,j,l,m,C,n,o):=h;cases g;cases i;let(-p,e,r,_):=I.tuple j;let(-f,c,t,_):=I.tuple l;rw[HT.cat_tup r t (λz=>m<|e.nil_iff.mp z) (λz=>(016,H,I,9,n<|c.nil_iff.mp z)) (λz=>(.ref s⁻¹,_,I.laid (λb E q=>Zq _ q) (Zf _) ?_,9,o (λw=>z<|c.nil_iff.mpr w) _<|I.hok.fresh<|Zf _)) (by rwa[<-⇑e,<-⇑c])];rw[(((),(_,Zr _ 9,9)),_,e.append c,IsTup.new _ _)]
noncomputable def yD(n:5)(i:3):02 5:=if 0<=i then if i<n then !i.toNat else 8 else if-(n:3)<=i then !(i+n).toNat else 8
def qa{α:Type}(a:List α)(i:3):02 α:=(yD ⇑a i).bind λj=>a[j]?
def GS   (h:yD n i=!j):seqIndex? i n=!j/\j<n/\-(n:3)<=i/\i<n:=by
 grind[yD,Zqi,seqIndex_of,seqIndex_neg]
def DP    (h:qa a i=!v):∃j,seqIndex? i ⇑a=!j/\a[j]?=!v/\j<⇑a/\-(⇑a:3)<=i/\i<⇑a:=by
 unfold qa at h
 induction e:yD ⇑a i with
 |none=>ext
 |some j=>
  rw[e]at h;let(!b,c,f,g):=GS e;rw[(j,b,h,c,f,g)]
def A1(b:Expr):4:=∀o i,subscripted b 7 o i=operate [o,i] (getItem o i)
def zQ(X:Cx)(r:R2):4:=
 ∀(b a:Expr)(Y:Yb)(s:Shared)(Z:St)(H:Hp)(x y:V)(v u:Value)(Q:VK),003->jz x v->jz y u->r x y H Q->
  subscripted a 7 v u=operate [v,u] (getItem v u)->YE X (subscriptTail b a v u) (EP X Y Z Q) X.xe s
def dE(X:Cx)(id:String)(r:V->YB->Hp->VK->4):4:=
 ∀(Y:Yb)(s:Shared)(Z:St)(H:Hp)(x:V)(a:YB)(v:Value)(b:Ye)(Q:VK),003->jz x v->jv a b->r x a H Q->
  YE X (call (.builtin id)<|v::b) (EP X Y Z Q) X.xe s
section
def zQ.or (h:zQ X r)(l:zQ X n):zQ X λx y H Q=>r x y H Q\/n x y H Q:=by
 intro c e Y s Z H x y v u Q I f i q j;obtain q|q:=q
 .rw[h c e Y s Z H x y v u Q I f i q j]
 .rw[l c e Y s Z H x y v u Q I f i q j]
def BO (c:zQ X r)(e:PE X a f)(g:PE X b i)(j:A1 b):PE X (.Subscript a b l) (kH r f i):=λY s Z H Q I h=>Subscript_<|uO e g I h λv u m x y n o p t q=>c a b Y m Z n x y v u Q o p t q<|j _ _
def gf(K:f'):R2:=λx y H Q=>∃p a i v,x=.ref p/\y=.int i/\qP K H p a/\qa a i=!v/\Q v H
def ge(K:f'):R2:=λx y H Q=>∃p a i v,x=.ref p/\y=.int i/\yX K H p a/\qa a i=!v/\Q v H
def sP:R2:=λx y H Q=>∃z i c,x=.str z/\y=.int i/\⇑z<=00/\qa z.cps.toList i=!c/\Q (.str ⟨#[c]⟩) H
def rP:zQ X (gf X.K):=by
 intro b c Y s Z H x y v u Q I B C h m;let(p M i z,rfl,rfl,E,F,q):=h;cases B;let(t,rfl):=C;let(-e,r,f,N):=I.list E;let(-j,n,G,O,J,L):=DP F;let(-w,o,g):=r.get G;let P:=⇑r;let R:=YW;let a:EP X Y Z Q w s:=(z,H,I,g,q);cases A:0<=i
 .let l:i.toNat=j:=by
   rw[seqIndex_of A L]at n
   ext
  rw[item_listR f.isList A () (by rw[l,];simpa using o) a m]
 .let l:(i+(e.toArray.size:3)).toNat=j:=by
   rw[seqIndex_neg () J]at n
   ext
  rw[subscriptTail_builtinR f.isList.typeIs slot_list_getitem.lookup
   (wpAny_getItem_list_neg f.isList () () () (by rw[l,];simpa using o) (9,a)) m]
def l6:zQ X (ge X.K):=by
 intro a b Y s Z H x y v u Q I g l h m;let(p E i z,rfl,rfl,n,o,q):=h;cases g;let(t,rfl):=l;let(-A,r,f,F):=I.tuple n;let(-j,G,B,J,L,M):=DP o;let(-w,C,c):=r.get B;let N:=⇑r;let O:=YW;let e:EP X Y Z Q w s:=(z,H,I,c,q);rw[subscriptTail_builtinR f.typeIs slot_tuple_getitem.lookup
  (getItem_tuple (j:=j) f () () () (by simpa using C) (9,e)) m]
def rIx(K:f'):R2:=λx y H Q=>gf K x y H Q\/ge K x y H Q\/sP x y H Q
def Rf:zQ X (rIx X.K):=rP.or<|l6.or<|by
 intro a b Y s Z H x y v u Q I f g h l;let(z i c,rfl,rfl,w,m,q):=h;let(t,rfl):=f;let(A,rfl):=g;let(-j,e,n,B,o,p):=DP m;let r:⇑z.cps.toList=⇑z:=by rfl
 rw[r]at e o p;let C:=YW;rw[tail_any (typeIs_str s z t) slot_str_getitem.lookup (getItem_str (by
  grind) (by rw[e,];simpa using n) (.str ⟨#[c]⟩,H,I.tok _,(_,9),q)) l]
def Rg(a:Ye)(n j)(u):Obj.mapSeq (·.setIfInBounds j u) {cls:=.type 013,data:=.seq a.toArray n}={cls:=.type 013,data:=.seq (a.set j u).toArray n}:=by
 simp[Obj.mapSeq]
theorem Inv.lst {Z:St}    (I:003)(h:H p=! .lst f):
 ∃(c:Ye)(n:5),jv f c/\↥s p=!{cls:=.type 013,data:=.seq c.toArray n}/\⇑f<=00:=by
 let(z,c,n,r,e):=I.hok p _ h;rw[(c,n,r,e,z)]
def Inv.lstUpd {Z:St}    {i c:Ye}  (I:003)(h:H p=! .lst B)
 (v:↥s p=!{cls:=.type 013,data:=.seq i.toArray n})(j:f {cls:=.type 013,data:=.seq i.toArray n}={cls:=.type 013,data:=.seq c.toArray l})(r:jv o c)(y:⇑o<=00)(t):
 Inv X Y Z (upd H p<|.lst o) {s with heap:=s.heap.update p f,toks:=t}:=by
 let e:(s.heap.update p f).get? p=!{cls:=.type 013,data:=.seq c.toArray l}:=by
  rw[Heap.get?_update_self f v (by rw[j,]<;>rfl),j]
 rw[I.write (by rw[h,];trivial) 006 (λb u z q=>(Heap.get?_update_other _ _<|Ne.symm z).trans q) (_,e) (y,c,l,r,e)]
def gc:V->V->V->Hp->(Hp->4)->4:=λo i v H Q=>∃p a k j,o=.ref p/\i=.int k/\H p=! .lst a/\yD ⇑a k=!j/\Q (upd H p<|.lst<|a.set j v)
def GT:mz X gc:=by
 intro Y s Z H o i v l m u Q I c ri e h;let(p w k j,rfl,rfl,b,f,q):=h;cases c;let(t,rfl):=ri;let(a n,r,g,x):=I.lst b;let(!y,z,A,B):=GS f;let C:=⇑r;let E:=YW;let F:=
  I.lstUpd b g (Rg a n j u) (r.set e j) () s.toks
 grind[seqIndex_of,Zqi,W.ki_setAt,seqIndex_neg,W.ki_setBack]
def Rh:ql X (.builtin "len") λg H Q=>∃p a,g=[.ref p]/\(qP X.K H p a\/yX X.K H p a)/\Q (.int ⇑a) H:=by
 intro Y s Z H g l Q I r h;let(p a,rfl,hq,q):=h;let(-u,rfl,i):=K8 r;cases i;let m:=YW;obtain hq|hq:=hq
 .let(c,e,f,j):=I.list hq;let b:=⇑e;rw[Calls.call_len_list f.isList () (.int ⇑a,H,I.tok _,(s.toks+1,()),q)]
 .let(c,e,f,j):=I.tuple hq;let b:=⇑e;rw[len_tuple f () (.int ⇑a,H,I.tok _,(s.toks+1,()),q)]
def Ri:ql X (.builtin "len") λa H Q=>∃z,a=[.str z]/\⇑z<=00/\Q (.int ⇑z) H:=by
 intro Y s Z H a b Q I r h;let(z,rfl,c,q):=h;let(-u,rfl,(t,rfl)):=K8 r;let e:=YW;rw[len_str () (.int ⇑z,H,I.tok _,(_,9),q)]
def ql.or  (h:ql X f r)(j:ql X f l):ql X f λc H Q=>r c H Q\/l c H Q:=by
 intro Y s Z H c e Q I i q;obtain q|q:=q
 .rw[h Y s Z H c e Q I i q]
 .rw[j Y s Z H c e Q I i q]
def Rj:ql X (.type 013) λA H Q=>∃p f,A=[.ref p]/\(qP X.K H p f\/yX X.K H p f)/\∀l,H l=8->Q (.ref l) (upd H l<|.lst f):=by
 intro Y s Z H A E Q I r h;let(p f,rfl,hq,q):=h;let(-u,rfl,C):=K8 r;cases C;let j:∀a,jv f a->⇑f<=00->∀c g,(∀b B,↥s b=!B->c.get? b=!B)->
  c.get? s⁻¹=!{cls:=.type 013,dict:=8,data:=.seq a.toArray g,slots:=#[]}->EP X Y Z Q (.ref s⁻¹) {s with heap:=c}:=λa i m c g t e=>
  (.ref s⁻¹,_,I.laid t (Zf _)<|show yC X.prog X.w _ c _ (.lst f)from(m,a,g,i,e),9,q _<|I.hok.fresh<|Zf _)
 obtain hq|hq:=hq
 .let(a,i,w,m):=I.list hq;let v:=⇑i;let(o,x,y,n,z):=w.isList;rw[call_list_seq p 006 x y z (λc g t e=>j a i m c g t e)<|by simp<;>lia]
 .let(a,i,w,m):=I.tuple hq;let v:=⇑i;let(o,x,y,n,z):=w;rw[call_list_seq p (.inr 9) x y z (λc g t e=>j a i m c g t e)<|by simp<;>lia]
def Rk:ql X (.type "tuple") λm H Q=>∃p c,m=[.ref p]/\((qP X.K H p c/\∀l,H l=8->Q (.ref l) (upd H l<|.tup c))\/yX X.K H p c/\Q (.ref p) H):=by
 intro Y s Z H m z Q I r h;let(p,c,rfl,h):=h;let(-u,rfl,w):=K8 r;cases w;obtain⟨g,q⟩|⟨g,q⟩:=h
 .let(-a,i,j,n):=I.list g;let t:=⇑i;rw[call_tuple_list j.isList (λf x=>?_) ()];let v:Inv X Y Z H {s with heap:=f}:=I.kept x;let y:Inv X Y Z (upd H f.objs.size<|.tup c) {s with heap:=f.push {cls:=.type "tuple",data:=.seq a.toArray}}:=
   v.laid (λb o e=>Zq _ e) (Zf _)<|((n,(_,Zr _ 9,9)),a,i,IsTup.new _ _)
  rw[(.ref f.objs.size,_,y,9,q _<|v.hok.fresh<|Zf _)]
 .let(-a,i,j,n):=I.tuple g;rw[call_tuple_same j (.ref p,H,I,9,q)]
def rY(K:f')(T:String)(x:V)(H:Hp):4:=match x with
 |.str _=>T="str"
 |.int _=>T="int"
 |.ref p=>(T=013/\∃b,qP K H p b)\/(T="tuple"/\∃o,K.lookup p=!o/\o.cls=.type "tuple"/\o.dict=8)\/
  T="dict"/\((∃a,H p=! .dK a)\/∃a,H p=! .dT a)\/T="set"/\∃S n,H p=! .set S n
 |_=>False
def GU {Z:St}     (I:003)(r:jz x v)(g:rY X.K T x H):
 s.TypeIs v T/\∀a,v=016->∃m,↥s a=!m/\m.dict=8:=by
 cases(x)with
 |str z=>
  let(t,rfl):=r;cases g;rw[(typeIs_str s z t,λ_ e=>nomatch e)]
 |int i=>
  let(t,rfl):=r;cases g;rw[(typeIs_int s i t,λ_ e=>nomatch e)]
 |ref p=>
  cases r;obtain⟨rfl,A,u⟩|⟨rfl,o,b,w,h⟩|⟨rfl,b⟩|⟨rfl,S,n,b⟩:=g
  .let(-y,_,q,_):=I.list u;rw[(q.isList.typeIs,λa e=>?_)];cases e;let(o n,e,c,h,_):=q;rw[(o,e,h)]
  .rw[((o,I.kIn p o b,w),λa e=>?_)];cases e;rw[(o,I.kIn _ o b,h)]
  .let z:∃o,↥s p=!o/\o.ExactDict:=by
    obtain⟨j,b⟩|⟨j,b⟩:=b
    .let(_,_,_,_,o,_,_,e,f,_):=I.hok p _ b;rw[(o,e,f)]
    .let(!_,_,(_,_,o,_,_,e,f,_)):=I.hok p _ b;rw[(o,e,f)]
   let(o,e,f):=z;rw[((o,e,f.1),λa l=>?_)];cases l;rw[(o,e,f.2.1)]
  .let(o _ _ _,e,f,_):=I.hok p _ b;rw[((o,e,f.1),λa l=>?_)];cases l;rw[(o,e,f.2.1)]
 |_=>rw[False.elim g]
def kP(K:f')(T:String)(r:V->YB->Hp->VK->4)(b:TE):TE:=λZ H Q=>b Z H λx a=>rY K T x a/\r x [] a Q
def kQ(K:f')(T:String)(r:V->YB->Hp->VK->4)(b:TE)(t:TA):TE:=λZ H Q=>b Z H λx a=>rY K T x a/\t Z a λc e=>r x c e Q
variable       {T id:String}
def GV(m:PlainAttrs T)(e:Slot T a id)(i:typeOf (.builtin id)=pure (.type "method_descriptor"))(n:dE X id r)(p:PE X o q)
 (b:attributeBase o a X.env (eval o X.env)=eval o X.env:=by rfl)(c:(f.endLine==g.line)=6:=by rfl):PE X (.Call (.Attribute o a f) [] [] g) (kP X.K T r q):=by
 intro Y s Z H Q I h;rw[wpAny_Call_method0_late b c<|jL (p Y s Z H _ I h) λv t=>j4 λx u=>xb λj l w y=>?_];let(z,A):=GU j l w;rw[jR T id (m,e,i,z,A,Calls.callWith_builtin 9<|PySem.evalArgs_none<|n Y t Z u x [] v [] Q j l .nil y)]
def KY(w:PlainAttrs T)(j:Slot T c id)(n:typeOf (.builtin id)=pure (.type "method_descriptor"))(y:dE X id r)(z:PE X o A)(B:PA X (e::f) t)
 (g:attributeBase o c X.env (eval o X.env)=eval o X.env:=by rfl)
 (l:((backTo a<|01 (e::f) X.env).all (λx=>not<|x.1)&&(backToKw a<|keywordEach [] X.env).all (λx=>x.1.isSome)
  &&decide (⇑(e::f)+⇑([]:List Keyword)+(if([]:List Keyword).isEmpty then 0 else 1)<30))=6:=by rfl)
 (i:(m.endLine==a.line)=6:=by rfl)(C:01 (e::f) X.env=%[7|011]::01 f X.env:=by rfl)(b:(backTo a<|01 f X.env).any (·.1)=7:=by rfl):
 PE X (.Call (.Attribute o c m) (e::f) [] a) (kQ X.K T r A t):=by
 intro Y s Z H Q I h;rw[wpAny_Call_method_late g l i 9<|jL (z Y s Z H _ I h) λv E=>j4 λx F=>xb λp q G J=>?_];let(L,M):=GU p q G;rw[jR T id (w,j,n,L,M,?_)];let u:=B a Y E Z F _ p J;rw[C]at u ⊢;rw[Calls.callWith_builtin (by show(7||(backTo a<|01 f X.env).any (·.1))=7;rw[b,]<;>rfl)<|Calls.evalArgs_plain<|jL u λN O=>j4 λP R=>j8 λS U q2=>y Y O Z R x P v N Q S q U q2]
end
def dF(X:Cx)(id:String)(r:V->YB->Hp->VK->4):4:=
 ∀(Y:Yb)(s:Shared)(Z:St)(H:Hp)(x:V)(a:YB)(v:Value)(b:Ye)(Q:VK),003->jz x v->jv a b->r x a H Q->
  YE X (call (.builtin id)<|v::b) (EP X Y Z Q) X.xe s
def jv.one:∀{x:V}{c:Ye},jv [x] c->∃u,c=[u]/\jz x u:=λh=>by
 cases h with
 |cons r t=>cases t;rw[(_,9,r)]
def jv.two:∀{x y:V}{c:Ye},jv [x,y] c->∃u v,c=[u,v]/\jz x u/\jz y v:=λh=>by
 cases h with
 |cons r t=>
  cases t with
  |cons e t=>cases t;rw[(_,_,9,r,e)]
def jv.zero:∀{c:Ye},jv [] c->c=[]
 |_,.nil=>9
theorem jv.reverse  (h:jv c e):jv c.reverse e.reverse:=by
 cases(h)with
 |nil=>rw[.nil]
 |cons r t f=>rw[VD,VD];rw[jv.append f<|.cons r .nil]
theorem jv.rep  (h:jv c e):∀k:5,jv (List.replicate k c).flatten (List.replicate k e).flatten
 |0=>.nil
 |k+1=>by
  rw[Vi,Vi,Vp,Vp];rw[jv.append h<|jv.rep h k]
theorem GW(a:Ye):∀(k:5)(b:Ye),
 List.foldl (λc f=>c++f) b.toArray (List.replicate k a.toArray)=(b++(List.replicate k a).flatten).toArray
 |0,b=>by simp
 |k+1,b=>by
  let e:b.toArray++a.toArray=(b++a).toArray:=by simp
  let g:b++a++(List.replicate k a).flatten=b++(List.replicate (k+1) a).flatten:=by
   rw[Vi,Vp,Ul]
  rw[<-g,<-GW a k (b++a),<-e,Vi,Vj]
section
variable   {Z: St}
def Inv.lset{c its':Ye}   (I:003)(j:H l=! .lst z)
 (e:↥s l=!{cls:=.type 013,data:=.seq c.toArray n})(o:f c.toArray=its'.toArray)(p:jv i its')(r:⇑i<=00):
 Inv X Y Z (upd H l<|.lst i) {s with heap:=s.heap.update l (Obj.mapSeq f),toks:=B}:=by
 let q:=PySem.IsL.update e f;rw[o]at q;rw[I.write (by rw[j,];rw[trivial]) 006 (λE u v y=>(Heap.get?_update_other s.heap (Obj.mapSeq f)<|Ne.symm v).trans y) (_,q) (r,its',_,p,q)]
def Inv.lnew  (I:003)(f:jv e c)(i:⇑e<=00):
 Inv X Y Z (upd H s⁻¹<|.lst e) {s with heap:=s.heap.push {cls:=.type 013,data:=.seq c.toArray},toks:=t'}:=
 I.laid (λ_ _ q=>Zq _ q) (Zf _) (i,c,0,f,Zr _ 9)
theorem Inv.fresh(I:003):H s⁻¹=8:=I.hok.fresh<|Zf _
def Inv.lstM(I:003)(i:H l=! .lst f):⇑f<=00/\∃(c:Ye)(n:5),jv f c/\⇑f=⇑c/\↥s l=!{cls:=.type 013,data:=.seq c.toArray n}:=have(z,c,n,r,e):=I.hok l _ i;(z,c,n,r,⇑r,e)
def GX (h:n<=00):Builtin.List.listTooLong n=7:=by
 simp_all[Builtin.List.listTooLong]
end
def BP:V->YB->Hp->VK->4:=λx b H Q=>∃l a y,x=.ref l/\b=[y]/\H l=! .lst a/\⇑a<00/\Q .non (upd H l<|.lst<|a++[y])
def Wu:dF X "list.append" BP:=by
 intro Y s Z H x i v j Q I c f h;let(l m y,rfl,rfl,b,o,q):=h;cases c;let(-u,rfl,g):=f.one;let(z,a,n,r,p,e):=I.lstM b;rw[call_meets F.slot_list_append (_,e,9) F.entry_list_append (F.args_list_append_2 _ _) (PySem.list_append l a.toArray n u ()) (e,(.non,_,I.lset b e () (r.append<|.cons g .nil) ?_,9,q))]
 grind
def GY:V->YB->Hp->VK->4:=λx e H Q=>∃l b a c,x=.ref l/\e=[.ref b]/\H l=! .lst a/\H b=! .lst c/\⇑a+⇑c<=00/\Q .non (upd H l<|.lst<|a++c)
def Rl:dF X "list.extend" GY:=by
 intro Y s Z H x B v C Q I j m h;let(l b E G,rfl,rfl,i,o,J,q):=h;cases j;let(-u,rfl,p):=m.one;cases p;let(z,c,n,r,L,e):=I.lstM i;let(M,a,t,w,y,A):=I.lstM o;let g:c.toArray.size+a.toArray.size<=00:=by ext
 let f:¬(not c.toArray.isEmpty&&Builtin.List.listTooLong (c.toArray.size+a.toArray.size))=6:=by
  rw[GX g,Bool.and_false];rw[Zj]
 rw[call_meets F.slot_list_extend (_,e,9) F.entry_list_extend (F.args_list_extend_2 _ _)
  (AutoSeq1.list_extend_list_list_0 l c.toArray n b a.toArray t f () ()) (e,A,(.non,_,I.lset i e () (r.append w) ?_,9,q))]
 ext
def Rm:V->YB->Hp->VK->4:=λx b H Q=>∃l a,x=.ref l/\b=[]/\H l=! .lst a/\Q .non (upd H l<|.lst a.reverse)
def Rn:dF X "list.reverse" Rm:=by
 intro Y s Z H x i v j Q I f g h;let(l m,rfl,rfl,c,q):=h;cases f;let b:=g.zero;subst b;let(z,a,n,r,o,e):=I.lstM c;rw[call_meets F.slot_list_reverse (_,e,9) F.entry_list_reverse (F.args_list_reverse_1 _) (AutoSeq1.list_reverse_list_0 l a.toArray n<|by rw[Zm,];lia) (e,?_)];rw[(.non,_,I.lset (its':=a.reverse) c e () r.reverse ?_,9,q)];rw[List.length_reverse,];lia
def Ro{α:Type}(a:List α)(k:5):(List.replicate k a).flatten.length=k*⇑a:=by
 cases(k)with
 |zero=>simp
 |succ k b=>rw[Vi,Vp,Ua,b,Nat.succ_mul,Nat.add_comm]
set_option maxRecDepth 100000 in
section
variable {κ: Type}[DecidableEq κ]
noncomputable def qR(a:List (κ × V))(k:κ):02 V:=(a.find? λb=>decide<|b.1=k).map (·.2)
noncomputable def qT(a:List (κ × V))(k:κ)(v:V):List (κ × V):=
 if a.any λb=>decide<|b.1=k=6 then a.map λb=>if b.1=k then%[b.1|v]else b else a++[%[k|v]]
def DQ  {k:κ}(e:p.1=k):qR (p::r) k=!p.2:=by simp[qR,e]
theorem DR  {k:κ}(e:¬p.1=k):qR (p::r) k=qR r k:=by simp[qR,e]
theorem GZ(k):∀a:List (κ × V),a.any λb=>decide<|b.1=k=(qR a k).isSome
 |[]=>9
 |p::r=>by
  rw[List.any_cons,];cases e:p.1=k
  .simp[DQ e,Zp e]
  .rw[DR e,Zo e,Bool.false_or];rw[GZ k r]
def DS(a:List (κ × V))(k)(v):⇑(qT a k v)<=⇑a+1:=by
 grind[qT,Zql,List.length_append,List.length_cons,List.length_nil]
def xY.isSome_eq  (r:xY o u):o.isSome=u.isSome:=by
 cases(o)with
 |none=>cases u with
  |none=>rfl
  |some _=>rw[(r).elim]
 |some _=>cases(u)with
  |none=>rw[(r).elim]
  |some _=>rfl
theorem xY.getD    (r:xY o u)(c:jz d e):jz (o.getD d) (u.getD e):=by
 cases(o)with
 |none=>cases(u)with
  |none=>rw[c]
  |some _=>rw[(r).elim]
 |some _=>cases(u)with
  |none=>rw[(r).elim]
  |some _=>rw[r]
def KV.val {f:List (κ × Value)}(r:KV c f)(k):xY (qR c k) (valueAt f k):=by
 cases(r)with
 |nil=>rw[True.intro]
 |@cons p q j i h t l=>
  let(n,o):=h;cases e:p.1=k
  .let b:valueAt (q::i) k=!q.2:=by simp_all[valueAt]
   rwa[DQ e,b]
  grind[valueAt,DR]
theorem KV.any {f:List (κ × Value)}(r:KV c f)(k):c.any λe=>decide<|e.1=k=f.any λe=>decide<|e.1=k:=by
 cases(r)with
 |nil=>rfl
 |cons h t i=>ext
def KV.repl {f:List (κ × Value)}(r:KV e f)(k)  (j:jz y u):
 KV (e.map λc=>if c.1=k then%[c.1|y]else c) (f.map λc=>if c.1=k then%[c.1|u]else c):=by
 cases(r)with
 |nil=>rw[.nil]
 |@cons p q l n h t i=>
  rw[.cons ?_ i]
  grind
def KV.put {c:List (κ × Value)}(r:KV f c)(k)  (i:jz y u):KV (qT f k y) (stored c k u):=by
 ext qT stored;rw[r.any k,];cases e:c.any λj=>decide<|j.1=k=6
 .rw[Zd e,Zd e];rw[r.repl k i]
 .rw[Ze e,Ze e];rw[Paired.snoc r (9,i)]
theorem KV.length {e:List (κ × Value)}(r:KV c e):⇑c=⇑e:=Paired.length r
end
def YX    (r:jz (kV k) u):(Kb P w).is k u=6:=by
 cases(k)with
 |inl i=>let(t,e):=r;subst e;rw[Gx i t]
 |inr x=>let(t,e):=r;subst e;rw[Pk x t]
theorem Ha  :∀{a:List jT}{b:Ye},jv (a.map kV) b->ItemsAre (Kb P w) a b
 |[],_,r=>by cases r;rw[.nil]
 |k::a,_,r=>by
  cases r with
  |cons h t=>rw[.cons (YX h)<|Ha t]
abbrev KT(H:Hp):List (List jT×V)->List (List jT×Addr×Value)->4:=Paired λp q=>p.1=q.1/\H q.2.1=!(.tup<|p.1.map kV)/\jz p.2 q.2.2
def KT.val   (r:KT H c f)(k):xY (qR c k) ((atKey f k).map (·.2)):=by
 cases(r)with
 |nil=>rw[True.intro]
 |@cons p q j i h t l=>
  let(!n,_,o):=h;cases e:p.1=k
  .let b:atKey (q::i) k=!q.2:=by simp_all[atKey]
   rwa[DQ e,b]
  grind[atKey,DR]
def KT.repl   (r:KT H c f)(k)  (j:jz y u):
 KT H (c.map λe=>if e.1=k then%[e.1|y]else e) (f.map<|putAt k u):=by
 cases(r)with
 |nil=>rw[.nil]
 |@cons p q l n h t i=>
  rw[.cons ?_ i]
  grind[putAt]
def KT.put   (r:KT H c f)(k)   (j:H b=!(.tup<|k.map kV))(i:jz y u):
 KT H (qT c k y) (storedH f k b u):=by
 let e:c.any λl=>decide<|l.1=k=(atKey f k).isSome:=by
  rw[GZ,(r.val k).isSome_eq,VW]
 ext qT storedH;rw[e,];cases q:(atKey f k).isSome=6
 .rw[Zd q,Zd q];rw[r.repl k i]
 .rw[Ze q,Ze q];rw[Paired.snoc r (9,j,i)]
def KT.keeps   (r:KT H c f)(j:∀b e,H b=! .tup e->i b=! .tup e):KT i c f:=
 yx r ()
def Hb (ok:xy P w H h)(e:Rd H a u):yC P w H h a u:=e.ok ok
def Xr (ok:xy P w H h)(e:Rd H a (.dK b)):⇑b<=00/\(a==sysModules)=7/\∃c,KV b c/\h.DictOf (Kb P w) a c:=
 Hb ok e
def DU (ok:xy P w H h)(e:H a=! .dK b):⇑b<=00/\(a==sysModules)=7/\∃c,KV b c/\h.DictOf (Kb P w) a c:=Xr ok<|.inl e
theorem YY (ok:xy P w H h)(e:H a=!(.tup<|c.map kV)):(tupleKind<|Kb P w).is h c a:=by
 let(_,b,r,o,f,g,n,i):=show yC P w H h a (.tup<|c.map kV)from ok a _ e;rw[jg o b.toArray n (f,g,i,by simpa using Ha r)]
def XQ (ok:xy P w H h)(e:Rd H a (.dT b)):⇑b<=00/\(a==sysModules)=7/\
 ∃c,KT H b c/\h.DictOfH (tupleKind<|Kb P w) a c:=by
 let(!z,y,(c,r,o,g,i,j,n,s,u,v)):=Hb ok e;rw[(z,y,c,r,o,g,i,j,n,s,u,λx f=>?_,v)];let all:∀{l:List (List jT×V)}{m:List (List jT×Addr×Value)},KT H l m->∀x∈m,(tupleKind<|Kb P w).is h x.1 x.2.1:=by
  intro l m q
  cases(q)with
  |nil=>intro x f;rw[nomatch f]
  |@cons p q A B C t E=>
   grind[YY]
 rw[all r x f]
def bS (ok:xy P w H h)(e:H a=! .dT b):⇑b<=00/\(a==sysModules)=7/\
 ∃c,KT H b c/\h.DictOfH (tupleKind<|Kb P w) a c:=XQ ok<|.inl e
def yc(H:Hp)(a:Addr)(y:V)(r:02 V):4:=
 (∃c k,Rd H a (.dK c)/\y=kV k/\r=qR c k)\/∃c k b,Rd H a (.dT c)/\y=.ref b/\H b=!(.tup<|k.map kV)/\r=qR c k
def wy(H:Hp)(a:Addr)(y v:V)(e:Hp):4:=
 (∃c k,H a=! .dK c/\y=kV k/\⇑c<00/\e=upd H a (.dK<|qT c k v))\/
 ∃c k b,H a=! .dT c/\y=.ref b/\H b=!(.tup<|k.map kV)/\⇑c<00/\e=upd H a (.dT<|qT c k v)
theorem yc.k   {k:jT}(e:H a=! .dK c):yc H a (kV k) (qR c k):=.inl (c,k,.inl e,9,9)
theorem wy.k   {k:jT} (e:H a=! .dK c)(f:⇑c<00):wy H a (kV k) v (upd H a<|.dK<|qT c k v):=.inl (c,k,e,9,f,9)
section
variable   {Z: St}
def Inv.big(I:003):sysModules<s⁻¹:=have h:=(I.mod.glob.keeps I.bk).lt;Ur 008 h
def Rp (w:A.units+1<cLine)(I:003)(g:yc H a y !v)(r:jz y u)(h:∀i t,Inv X Y Z H t->jz v i->Q i t):
 wpAny 009 A (getItem 016 u) Q E s:=by
 obtain⟨j,k,e,m,l⟩|⟨j,k,b,e,m,x,l⟩:=g
 .subst m;let(!z,B,(F,c,n)):=Xr I.hok e;let(i,o,f):=xl (by rw[l,];rw[c.val k]);rw[wpAny_getItem_of (YX r) n.mapOf o<|h i _ (I.tok _) f]
 .subst m;cases r;let(!z,B,(G,c,n)):=XQ I.hok e;let(-i,o,f):=xl (by rw[l,];rw[c.val k]);let(-p,C,q):=Jj.mp o;rw[wpAny_getItem_heap (tupleKind_room_in1 w) (YY I.hok x) n C ?_];rw[q,];rw[h i _ (I.tok _) f]
def dv (r:A.units+1<cLine)(I:003)(g:yc H a y o)(n:jz y u)(h:∀p,Inv X Y Z H p->Q (.bool o.isSome) p):
 wpAny 009 A (compareOp .In u<|016) Q E s:=by
 obtain⟨f,k,e,i,l⟩|⟨f,k,b,e,i,t,l⟩:=g
 .subst i;let(!z,j,(v,c,m)):=Xr I.hok e;rw[wpAny_in_of (YX n) j m.mapOf ?_];rw[<-(c.val k).isSome_eq,<-l];rw[h _<|I.tok _]
 .subst i;cases show u=Value.ref b from n;let(!z,j,(w,c,m)):=XQ I.hok e;rw[wpAny_in_heap (tupleKind_room_in1 r) (YY I.hok t) j m ?_];let q:=(c.val k).isSome_eq;rw[VW]at q;rw[<-q,<-l];rw[h _<|I.tok _]
def Rq (r:A.units+1<cLine)(I:003)(g:yc H a y o)(n:jz y u)(h:∀p,Inv X Y Z H p->Q (.bool<|not o.isSome) p):
 wpAny 009 A (compareOp .NotIn u<|016) Q E s:=by
 obtain⟨f,k,e,i,l⟩|⟨f,k,b,e,i,t,l⟩:=g
 .subst i;let(!z,j,(v,c,m)):=Xr I.hok e;rw[wpAny_notIn_of (YX n) j m.mapOf ?_];rw[<-(c.val k).isSome_eq,<-l];rw[h _<|I.tok _]
 .subst i;cases n;let(!z,j,(w,c,m)):=XQ I.hok e;rw[wpAny_notIn_heap (tupleKind_room_in1 r) (YY I.hok t) j m ?_];let q:=(c.val k).isSome_eq;rw[VW]at q;rw[<-q,<-l];rw[h _<|I.tok _]
def Hc   (I:003)(f:m5 (H a))(g:Heap.SameBut a s.heap c)(h:∃q,c.get? a=!q)(new:yC X.prog X.w (upd H a e) c a e):
 Inv X Y Z (upd H a e) {s with heap:=c,toks:=j}:=
 I.write f 006 (λb q i z=>(g.2 b i).trans z) h new
def Hd      (z:⇑b<=00)(f:(a==sysModules)=7)(c:KV b e)(g:h.DictOf (Kb P w) a e):
 yC P w i h a (.dK b):=(z,f,e,c,g)
def Rr  (M:A.units+1<cLine)(I:003)(g:wy H a y v N)(C:jz y u)(F:jz v r)(h:∀G,Inv X Y Z N G->Q Yq G):
 wpAny 009 A (setItem 016 u r) Q E s:=by
 obtain⟨f,k,e,n,l,o⟩|⟨f,k,b,e,n,J,l,o⟩:=g
 .subst n o;let(!z,p,(O,i,t)):=DU I.hok e;let w:⇑O<=00:=by rwa[<-⇑i]
  let x:⇑(qT f k v)<=00:=by let:=DS f k v;lia
  rw[wpAny_setItem_pairs (hsz:=w) (YX C) t λL j B=>h _ ?_];let P:∃q,L.get? a=!q:=gS j λq _ _=>j5 λm _=>(q,m);rw[Hc I (by rw[e,];rw[True.intro]) B P<|Hd x p (i.put k F) j]
 .subst n o;cases C;let(!z,p,(R,i,t)):=bS I.hok e;let w:⇑R<=00:=by rwa[<-Paired.length i]
  let x:⇑(qT f k v)<=00:=by let:=DS f k v;lia
  rw[wpAny_setItem_heap (hsz:=w) (tupleKind_room_in1 M) (YY I.hok J) t λL j B=>h _ ?_];let(q S T,m,U,h3,h4,_,h5):=j;rw[Hc I (by rw[e,];rw[True.intro]) B (q,m) (x,p,_,(i.put k J F).keeps λc ys ec=>?_,q,S,T,m,U,h3,h4,h5)]
  rwa[JI (),]
end
section
variable   {Z: St}
def bX (I:003)(e:Rd H a (.dK c))(h:∀t f,Inv X Y Z H f->Q (.int ⇑c t) f):wpAny 009 A (call (.builtin "len") [016]) Q E s:=by
 let(!z,g,(j,b,i)):=Xr I.hok e;rw[call_len_dict g i (by rw[<-⇑b];rw[sizeLine_eq]at z;lia) ?_];rw[<-⇑b];rw[h _ _<|I.tok _]
end
def ve(i:Expr):4:=∀a b,subscripted i 7 a b=operate [a,b] (getItem a b)
def Rs        {T id:String}
 (f:typeLookup (.type T) "__getitem__"=pure ! .builtin id)(g:ve b)
 (h:YF a w A (eval c e) (λo s₁=>YF a w A (eval b e) (λi s₂=>s₂.TypeIs o T/\YF a w A (getItem o i) Q E s₂) E s₁) E s):
 YF a w A (eval (.Subscript c b j) e) Q E s:=by
 rw[Subscript_<|Zc h (λo s₁ h₁=>Zc h₁ (λi s₂ h₂=>?_) λ_ _ x=>x) λ_ _ x=>x];let(l,h₂):=h₂;rw[Za<|Za<|wpAny_specialOf l f ?_];let m:YF a w A (subscripted b 7 o i) (λr s₃=>YF a w A (letTemporaryGo c o r>>=λ_=>pure r) Q E s₃) E s₂:=by
  rw[g o i,];rw[wpAny_operating<|Zc h₂ (λr s₃ h₃=>Za<|wpAny_letTemporaryGo<|Zb h₃) λ_ _ x=>x]
 grind[wpAny_pure,wpAny_bind]
def kO(c e:TE):TE:=λZ H Q=>c Z H λx f=>e Z f λy b=>∃a v,x=016/\yc b a y !v/\Q v b
def sB(c e:TE):TE:=λZ H Q=>c Z H λy f=>e Z f λx b=>∃a o,x=016/\yc b a y o/\Q (.bl o.isSome) b
def Rt(c e:TE):TE:=λZ H Q=>c Z H λy f=>e Z f λx b=>∃a o,x=016/\yc b a y o/\Q (.bl<|not o.isSome) b
def gb(c e f:TE):TS:=λD Z H=>f Z H λv g=>c Z g λx h=>e Z h λy i=>∃a b,x=016/\wy i a y v b/\D.nx Z b
def DV(m:X.A.units+1<cLine)(n:PE X o p)(q:PE X i r)(t:ve i):PE X (.Subscript o i w) (kO p r):=by
 intro Y s Z H Q I h;rw[Rs PySem.F.slot_dict_getitem.lookup t<|jL (n Y s Z H _ I h) λu z=>j4 λx A=>j8 λB C E=>jL (q Y z Z A _ B E) λN O(y,F,c,G,a,v,J,g,L)=>?_];subst J;obtain rfl:=C;rw[(
  by
  obtain⟨f,k,e,_,_⟩|⟨f,k,b,e,_,_,_⟩:=g
  .let(!_,_,(P,_,j)):=Xr c.hok e;rw[j.typeIs]
  .let(!_,_,(R,_,j)):=XQ c.hok e;rw[j.typeIs],Rp m c g G λS T M l=>(v,F,M,l,L))]
def Ru(b:X.A.units+1<cLine)(c:PE X i e)(f:PE X o j):PC X .In i o (sB e j):=by
 intro Y s Z H Q I h;rw[jL (c Y s Z H _ I h) λC l=>j4 λy m=>j8 λn p q=>jL (f Y l Z m _ n q) λu E(x,r,t,v,a,w,z,g,A)=>?_];subst z;obtain rfl:u=Value.ref a:=v;rw[dv b t g p λF B=>(.bl w.isSome,r,B,9,A)]
def Rv(b:X.A.units+1<cLine)(c:PE X i e)(f:PE X o j):PC X .NotIn i o (Rt e j):=by
 intro Y s Z H Q I h;rw[jL (c Y s Z H _ I h) λC l=>j4 λy m=>j8 λn p q=>jL (f Y l Z m _ n q) λu E(x,r,t,v,a,w,z,g,A)=>?_];subst z;obtain rfl:=v;rw[Rq b t g p λF B=>(.bl<|not w.isSome,r,B,9,A)]
def He(f:X.A.units+1<cLine)(j:PE X o l)(m:PE X i n)(p:PE X b q)(t:swapsWith b (! .Subscript o i c) e.line X.env=pure 7):
 PS X (.Assign [.Subscript o i c] b e) (gb l n q):=by
 intro Y s Z H D I h;rw[wpAny_Assign_Subscript (jL (p Y s Z H _ I h) λr w=>j4 λv z=>j8 λA B C=>jL (j Y w Z z _ A C) λu E=>j4 λx F=>j8 λG J L=>jL (m Y E Z F _ G L) λS T(y,U,M,N,a,O,P,g,Q)=>?_) t];subst P;obtain rfl:=J;rw[Rr f M g N B λs4 R=>(Z,O,R,Q)]
def Rx   (h:Heap)(a:sysModules<h.objs.size):yC P w H (h.push {cls:=.type "dict",data:=.dict #[]}) h.objs.size (.dK []):=
 (Ub _,beq_eq_false_iff_ne.mpr<|Ne.symm<|Zi a,[],.nil,Heap.DictOf.new h)
def sA:TE:=λ_ H Q=>∀p,H p=8->Q (.ref p) (upd H p<|.dK [])
def XR(a more:List (jT×V)):List (jT×V):=more.foldl (λb c=>qT b c.1 c.2) a
def vh:∀{more:List (jT×V)}{i:List (jT×Value)}{c:List (jT×V)}{f:List (jT×Value)},KV more i->KV c f->KV (XR c more) (merged f i):=by
 intro more i c f r
 induction r generalizing c f with
 |nil=>intro q;rw[q]
 |@cons p q n o h t j=>
  intro l;let e:KV (qT c p.1 p.2) (stored f q.1 q.2):=by
   let:=l.put p.1 h.2
   rwa[<-h.1]
  rw[j e]
theorem Hf:∀more a,⇑(XR a more)<=⇑a+⇑more
 |[],a=>by show ⇑a<=⇑a+0;lia
 |p::r,a=>by
  let b:=Hf r<|qT a p.1 p.2;let c:=DS a p.1 p.2;show(XR (qT a p.1 p.2) r).length<=_
  grind
structure M2(X:Cx)(o:Expr)(m:Str)(apos:Pos)(e f:Expr)(cpos:Pos):4 where
 base:attributeBase o m X.env (eval o X.env)=eval o X.env
 few:((backTo cpos<|01 [e,f] X.env).all (λx=>not<|x.1)&&(backToKw cpos<|keywordEach [] X.env).all (λx=>x.1.isSome)
  &&decide (⇑([e,f]:List Expr)+⇑([]:List Keyword)+(if([]:List Keyword).isEmpty then 0 else 1)<30))=6
 line:(apos.endLine==cpos.line)=6
 trees:backTo cpos (01 [e,f] X.env)=[%[7|011],%[7|eval f X.env]]
def jf(H:Hp)(a:Addr):4:=(∃b,Rd H a (.dK b))\/∃b,Rd H a (.dT b)
def Ry  {Z:St}   (I:003)(d:jf H a):
 s.TypeIs 016 "dict"/\(∀b,Value.ref a=.ref b->∃c,↥s b=!c/\c.dict=8)/\(a==sysModules)=7:=by
 obtain⟨g,e⟩|⟨g,e⟩:=d
 .let(_,h,l,_,f):=Xr I.hok e;rw[(f.typeIs,λb q=>?_,h)];cases q;let(c _ _,i,j,_):=f;rw[(c,i,j.2.1)]
 .let(_,h,m,_,f):=XQ I.hok e;rw[(f.typeIs,λb q=>?_,h)];cases q;let(c _ _,i,j,_):=f;rw[(c,i,j.2.1)]
section
variable   {Z: St}
def Rz (v:A.units+1<cLine)(I:003)(g:yc H a y o)(n:jz y u)(p:jz d r)(h:∀q t,Inv X Y Z H t->jz (o.getD d) q->Q q t):
 wpAny 009 A (call (.builtin "dict.get") [016,u,r]) Q E s:=by
 obtain⟨i,k,e,j,l⟩|⟨i,k,b,e,j,w,l⟩:=g
 .subst j;let(!z,m,(B,c,f)):=Xr I.hok e;rw[call_meetsIn PySem.F.slot_dict_get f.typeIs PySem.F.entry_dict_get (PySem.F.args_dict_get_3 _ _ _) (meets_dict_get_default (Kb X.prog X.w) a (YX n) m r) (_,f.mapOf,h _ _ (I.tok _) ?_)];rw[l,];rw[(c.val k).getD p]
 .subst j;cases n;let(!z,m,(x,c,f)):=XQ I.hok e;rw[call_meetsIn PySem.F.slot_dict_get f.typeIs PySem.F.entry_dict_get (PySem.F.args_dict_get_3 _ _ _) (meetsH_dict_get_default (tupleKind<|Kb X.prog X.w) a b m r) (tupleKind_room_in1 v,k,x,YY I.hok w,f,h _ _ (I.tok _) ?_)];rw[l,];rw[(c.val k).getD p]
end
def R0(e f g:TE):TE:=λZ H Q=>e Z H λx b=>∃a,x=016/\jf b a/\f Z b λy h=>g Z h λz c=>∃o,yc c a y o/\Q (o.getD z) c
def R1(l:X.A.units+1<cLine)(n:PE X o p)(q:PE X e r)(t:PE X f v)(m:M2 X o "get" b e f c):PE X (.Call (.Attribute o "get" b) [e,f] [] c) (R0 p r v):=by
 intro Y s Z H Q I h;rw[wpAny_Call_method m.base m.few m.line PySem.F.plainAttrs_dict PySem.F.slot_dict_get PySem.F.type_dict_get<|jL (n Y s Z H _ I h) λu w(x,A,j,B,a,C,d,E)=>?_];subst C;obtain rfl:=B;let(!F,G,_):=Ry j d;rw[(F,G,?_)];rw[m.trees,];rw[Calls.callWith_builtin 9<|Calls.evalArgs_plain<|Calls.spliced_cons<|jL (q Y w Z A _ j E) λiv J=>j4 λy L=>j8 λM N O=>
  Calls.spliced_cons<|jL (t Y J Z L _ M O) λfv s3(z,P,R,S,ov,g,T)=>Calls.spliced_nil<|Rz l R g N S λw' s4 U i=>(_,P,U,i,T)]
end L2
namespace Att
open PySem PySem.W PySem.Calls PyProof.Rows
theorem R3  :∀c e,WellAll P h e (c.map WData.int)->IntsAre e c:=by
 intro c
 cases(c)with
 |nil=>
  intro e w;cases w;rw[.nil]
 |cons n c f=>
  intro e w;cases w with
  |cons a b=>
   cases a;rw[.cons _ _<|f _ b]
def R4{l:OpenLaw} (o:l.most=!n)
 (b:l.row.toRowW.claim.pre args=6)(f:WellAll P h e args):
 ∃a i c,e=[Value.ref a]/\args=[WData.list (c.map WData.int)]/\h.get? a=!{cls:=.type 013,data:=.seq i.toArray}/\IntsAre i c/\⇑c<=n:=by
 let(d,r,rfl,p,q):=hasAllW_cons (pre_splitW b).1;obtain rfl:=hasAllW_nil q;let(v,rfl,s):=hasW_list p;let(c,rfl):=items_int s;let j:⇑c<=n:=by
  let g:(WTm.not<|.lt (.lit<|.int (n:3))<|.len<|.arg 0).holds [] {args:=[.list (c.map .int)]}=6:=by
   let g:=(holds_andW<|(pre_splitW b).2).1
   rwa[o]at g
  let w:=condW_of g 9
  ext
 cases f with
 |cons t u=>
  cases u;cases t with
  |list x m=>grind[R3]
def attach_call{l:OpenLaw}
 (J:l.most=!n)(x:d.params.defaults=[])
 (call:∀w s₀ s₁ p y h o z t b a g u,
  Ground q c [] L w s₀ p y s₁.heap->M w s₁.heap->
  ↥s₁ h=!o->o.data=.func (docDef d.name d.params d.body d.scope z t b)->s₁.heap.CodeRec t d.name->p d.name=! .ref h->
  ↥s₁ a=!{cls:=.type 013,data:=.seq g.toArray}->IntsAre g u->⇑u<=n->s₁.gens=#[]->
  codeAny (model l.prog w) callerA (.call (.ref h) ([016],[])) (λr v=>r=.ok (.ret<|.bool 6)/\OldK s₁.heap v.heap/\v.os=s₁.os/\AllBare v.gens) s₁):
 WalkO q c L M l.row.toRowW d [] λf g=>PySem.call f g:=by
 intro w s₀ s₁ p y G Yy h o z t b Z kV N O A E B P F H as i I Q C R;obtain rfl:=Dflts.none E x;obtain rfl:=Dflts.noKw E;let(a,g,u,rfl,rfl,j,e,m):=R4 J i C;rw[enter_call<|codeAny_mono (call w s₀ s₁ p y h o z t b a g u G Yy N (fd_plain O) A B j e m P) λr v S=>?_];let(rfl,T,U,X):=S;rw[(.inl (.bool 6,.bool 6,[],9,λ_=>9,.bool 6,postW_of
  9
  (w_eq_bool (w_res 9) w_lit) 9,λ_=>(List.Pairwise.nil,λ_ Y=>nomatch Y)),T,U,X)]
end Att
namespace L2
def R5:∀{a:Ye}{b:Yf},IntsAre a b->jv (b.map V.int) a:=λh=>by
 cases(h)with
 |nil=>rw[.nil]
 |cons n t _ c=>rw[.cons (t,9) c]
def uS(H:Hp):4:=∀b,H b=8\/∃o a,H b=!(.frz o<|.lst a)
def R6  {K:f'}
 (U:K.In s₁.heap)(t:s₁.heap.Ns 000 I)(f:s₁.heap.Ns builtinsNs X)(L:∀x:Str,x ≠"__name__"->X x=bootBuiltins x)(y:s₁.heap.NoLimit)(hg:s₁.gens=#[])
 (M:↥s₁ a=!{cls:=.type 013,data:=.seq A.toArray})(Y:IntsAre A J)(hl:⇑J<=00)(hr:Room k callerA)
 (F:∀g:Heap,K.In g->g.Ns 000 I->FnOk P w K I g CX k Z fd [x] sp)(p:∀s u,BindsTo s fd ([u],[]) [%[x|u]])
 (N:∀H:Hp,uS H->qP K H a (J.map V.int)->sp [016] H (λv _=>v=.bl 6) λ_ _ _=>False)
 (O:∀H e i,CX [] H s₁ (λ_ _ _=>False) e i->False):
 codeAny (model P w) callerA (.call (.ref Z) ([016],[])) (λr i=>r=.ok (.ret<|.bool 6)/\OldK s₁.heap i.heap/\i.os=s₁.os/\AllBare i.gens) s₁:=by
 let rv:=R5 Y;let B:=⇑Y;let l:∀H:Hp,uS H->qP K H a (J.map V.int)->xy P w H s₁.heap->(∀b,H b≠8->b=a)->(H a≠8->K.lookup a=8)->
  codeAny (model P w) callerA (.call (.ref Z) ([016],[])) (λr i=>r=.ok (.ret<|.bool 6)/\OldK s₁.heap i.heap/\i.os=s₁.os/\AllBare i.gens) s₁:=by
  intro H hO hS C hA hK;let c:∀{b:Addr}{o:Obj},↥s₁ b=!o->H b=8->(wg s₁.heap H).get? b=!o:=λe n=>W.hideAll_get _ e λQ=>by
   let q:=(Jf.mp Q).2
   ext
  let R:∀{b:Addr}{o:Obj}{S:Array DictEntry}{T:5},↥s₁ b=!o->o.data=.dict S T->H b=8:=by grind
  let j:∀{b:Addr}{m:Yd},s₁.heap.Ns b m->(wg s₁.heap H).Ns b m:=λ{b m}(o,S,T,e,d,r)=>jg o S T (c e<|R e d,d,r);let E:K.In (wg s₁.heap H):=λb o e=>c (U b o e)<|by
   grind
  let hM:Mod K I (wg s₁.heap H):=(E,j t,(X,j f,L),xa y λmc=>j5 λh1 h2=>(mc,j h1,h2));let e0:Env0 P w K I (wg s₁.heap H) callerA [] s₁ H:=(9,hM,λb o e=>by
   let e':=W.of_hideAll (trk s₁.heap H) e;rw[(e',?_)]
   induction q:H b with
   |none=>rfl
   |some x=>
    let Q:b∈trk s₁.heap H:=Jf.mpr (VR.mpr<|Zk e',by simp[q]);let z:(wg s₁.heap H).get? b=8:=W.hideAll_none (trk s₁.heap H) Q
    simp_all,Yu<|W.hideAll_size _ _,trivial,λb f=>Zn (show b∈([]:Yj)from f) (),C,.of_eq hg)
  rw[codeAny_mono ((F _ E<|j t).run callerA [] s₁ H ([016],[]) [016] [016] _ _ hr e0 (p s₁<|016) (.cons 9 .nil)<|N H hO hS) λr i h=>?_]
  cases(r)with
  |error e=>rw[(O H e i h).elim]
  |ok fl=>
   cases(fl)with
   |next=>rw[False.elim h]
   |brk=>rw[False.elim h]
   |cont=>rw[False.elim h]
   |ret u=>
    let(v H',os,bare,un,G,r',q):=h;let q':v=.bl 6:=q;subst q';obtain rfl:=r';rw[(9,OldK.of_keep λb o e=>?_,os,bare)]
    induction q:H b with
    |none=>rw[un.keep b o e q (λz=>Zn (show b∈([]:Yj)from z) ()) ()]
    |some u=>
     obtain z|⟨ob,xs,z⟩:=hO b
     .rw[q]at z;cases z
     .let(e1,_):=C b _ z;let(e2,_):=G b _ (un.frzs b ob _ z);rw[e]at e1;cases e1;rw[e2]
 induction hk:K.lookup a with
 |some o=>
  let e:=U a o hk;rw[M]at e;cases e;rw[l (λ_=>8) (λ_=>006) (.inr<|jg _ A.toArray _ (hk,9,9,9,by rwa[Zm,B],by simpa using rv)) (λb u z=>by let z':=z;cases z') () λz=>Zn 9 z]
 |none=>
  rw[l (λb=>if b=a then !(.frz {cls:=.type 013,data:=.seq A.toArray}<|.lst<|J.map V.int)else 8) (λb=>?_) (.inl<|.inr ({cls:=.type 013,data:=.seq A.toArray},Zd 9)) (λb u z=>?_) (λb z=>?_) λ_=>hk]
  .cases f:b=a
   .rw[by grind]
   .rw[.inl<|Ze f]
  .cases f:b=a
   .cases(Zd f).symm.trans z;subst f;rw[(M,by rwa[Zql,],A,_,rv,M)]
   .cases(Ze f).symm.trans z
  .cases f:b=a
   .rw[f]
   .rw[Zn (Ze f) z]
def walk_of{l:W.OpenLaw}      {K:Params->f'}{CX:World->uX}{sp:World->Sp}
 (L:l.most=!n)(r:n<=00)(t:d.params.defaults=[])(M:Room k callerA)
 (N:∀w h,O w h->(K w.params).In h)
 (F:∀w i m h,(K w.params).In h->h.Ns 000 i->i d.name=! .ref m->
  ∃y:FuncData,(∀s u,BindsTo s y ([u],[]) [%[x|u]])/\
   ∀b:Heap,(K w.params).In b->b.Ns 000 i->FnOk l.prog w (K w.params) i b (CX w) k m y [x] (sp w))
 (z:∀w H a(p:Yf),⇑p<=n->uS H->qP (K w.params) H a (p.map V.int)->sp w [016] H (λv _=>v=.bl 6) λ_ _ _=>False)
 (A:∀w H s e B,CX w [] H s (λ_ _ _=>False) e B->False):
 W.WalkO q C Y O l.row.toRowW d [] λf I=>PySem.call f I:=by
 rw[Att.attach_call L t λw s₀ s₁ i Z m o pm cd P a I p G Yy ho hd Q E j g c R=>?_];let J:=N w _ Yy;let(-y,S,T):=F w i m _ J G.T.g E;rw[R6 J G.T.g G.T.b G.T.builtins G.T.nolimit R j g (Zh c r) M T S (λH U X=>z w H a p c U X) λH e B=>A w H s₁ e B]
noncomputable def BQ(s:Stmt)(j:5):Stmt:=match s with
 |.ClassDef _ _ _ a _ _ _ _ _ _ _=>a.getD j (.Pass (0,0,0,0))
 |_=>.Pass (0,0,0,0)
noncomputable def XS(s:Stmt):Arguments:=match s with
 |.FunctionDef _ a _ _ _ _ _ _ _ _=>a
 |_=>{posonlyargs:=[],args:=[],vararg:=8,kwonlyargs:=[],kw_defaults:=[],kwarg:=8,defaults:=[]}
def Ki(s:Stmt):List Stmt:=match s with
 |.FunctionDef _ _ b _ _ _ _ _ _ _=>b
 |_=>[]
noncomputable def JY(s:Stmt):Scope:=match s with
 |.FunctionDef _ _ _ _ _ _ a _ _ _=>a
 |_=>{kind:=.function,names:=[],isGenerator:=7,isCoroutine:=7}
abbrev yL:uX:=λ_ _ _ _ _ _=>False
abbrev E0:XK:=λ_ _ _=>False
def Hg :A0 yL X E0:=λ_ _ _ _ _ _ _ h=>h.elim
structure Fun(K:f')(x qual:Str)(st:Stmt)(f:Addr)(fd:FuncData):4 where
 ex:∃(oc:Value)(od:02 Addr)(kV doc pm:Value)(an:02 Addr)(cdv ct:Value)(osl:Array (02 Value)),
  fd=W.fnOf x qual (XS st) (Ki st) (JY st) .none kV doc pm an cdv ct/\K.lookup f=!(oc,od,.func fd,osl)/\W.codeIn K cdv qual=6
 kp:W.keepIn K (.ref f)=6
section
variable   {K:f'}
def Fun.ok {n:Stmt}     (F:Fun K x i n f y)(S:FnScope N u (JY n))(len:∀j H Q E,v j H Q E->⇑j=⇑u)
 (l:∀e A c s H j Q E,Room k (A.deeper<|envOfC i (JY n) s⁻¹ f e)->v j H Q E->
  ∃t,xm (qj yL P w K z o N i (JY n) f e A c s H E).nox (Ki n) t/\t {nx:=λ_ B=>Q .non B,rt:=Q} (start N j) H):FnOk P w K z o yL (k+1) f y u v:=by
 let(O,R,kV,G,T,U,e,X,I,rfl,J,p):=F.ex;rw[GP J p S len λA c s H j Q E L r=>?_];let(-t,h,q):=l e A c s H j Q E L r;rw[(t,h.nox,q)]
def Fun.binds {j:Stmt}   (F:Fun K x i j f s)
 (h:∀kV c l n e o p,⇑p=⇑r->bindArgs (W.fnOf x i (XS j) (Ki j) (JY j) .none kV c l n e o) (p,[])=pure (r.zip p)):vn K s r []:=by
 let(y,z,kV,c,l,n,e,o,u,rfl,B,v):=F.ex;rw[.all<|h kV c l n e o]
def fun_mk {e:Stmt}    {kV g h b i:Value}(l:K.lookup f=!(n,o,.func<|W.fnOf x a (XS e) (Ki e) (JY e) .none kV g h m b i,j))
 (c:W.codeIn K b a=6)(k:W.keepIn K (.ref f)=6):Fun K x a e f (W.fnOf x a (XS e) (Ki e) (JY e) .none kV g h m b i):=(wU n o kV g h m b (i,j,9,l,c),k)
end
def JE  (a:Room k A):A.units+1<cLine:=U5 (VX (008:1<=64) _) a.units
def Hh (h:n<=1000):n<00:=U5 h<|008
section
variable {X:Cx}
def pv(i){x:Str}{f:Pos}(o:X.N[i]?=!x:=by rfl)(p:dA X.env.scope x:=by first|rw[Or.inl 9]|rw[Or.inr<|Or.inl 9]|rw[Or.inr<|Or.inr 9])(g:(x==010)=7:=by decide)
 (j:(
  x==("__classdict__":Str))=7:=by decide):PE X (.Name x f) (yH i):=by
  intro Y s Z H Q I h;let(-v,e,h):=h;let(-m,q,t):=I.loc;let(-u,r,l):=t i x v o e p;let b:EP X Y Z Q u s:=(v,H,I,r,h);obtain⟨hk,w⟩|⟨hk,c,n,a⟩:=l
  .rw[wpAny_Name (wpAny_loadName_local I.ok.kind hk q w b) g]
  .rcases hk with hk|hk
   .rw[wpAny_Name (wpAny_loadName_cell I.ok.kind hk n a b) g]
   .rw[wpAny_Name (wpAny_loadName_free I.ok.kind hk n a b j) g]
end
def jk(H a:Hp):4:=∀b o,H b=!o->a b=!o
theorem jk.refl(H):jk H H:=λ_ _ h=>h
theorem jk.trans (a:jk H e)(b:jk e f):jk H f:=λc o h=>b c o<|a c o h
def jk.free (e:jk H c) (h:c l=Option.none):H l=Option.none:=by
 induction q:H l with
 |none=>rfl
 |some o=>
  rw[e l o q]at h;cases h
def jk.seq{K:f'}   (e:jk H c)(h:qP K H a f):qP K c a f:=by
 rcases h with(h|⟨o,h⟩)|h
 .rw[.inl<|.inl<|e _ _ h]
 .rw[.inl<|.inr (o,e _ _ h)]
 .rw[.inr h]
def R7:ql X (.builtin "len") λc H Q=>∃a b,c=[V.ref a]/\H a=! .dK b/\Q (.int ⇑b) H:=by
 intro Y s Z H c i Q I r h;let(a b,rfl,e,q):=h;let(-u,rfl,f):=K8 r;cases f;rw[bX I (.inl e) λt j g=>(.int ⇑b,H,g,(t,9),q)]
end L2
def J7{P:4}{α:Type}{z:α}(h:8=!z):P:=by cases h
def JH{P:4}(h:7=6):P:=by cases h
namespace L2
theorem DW(f):∀(names:List (Str×NameKind))b,(∀y∈names,y.2=.free->∃c,f.cells.lookup y.1=!c)->
 ∃i,(forIn names b λ(x:Str×NameKind)(r:List (Str×Addr))=>(match x with
  |%[g|j]=>if(j==NameKind.free)=6 then do let a<-cellOf f g;pure (ForInStep.yield<|%[g|a]::r)else pure (ForInStep.yield r):Sem (ForInStep<|List<|Str×Addr)))=(pure i:Sem (List<|Str×Addr))/\
  (∀x c,i.lookup x=!c->f.cells.lookup x=!c\/b.lookup x=!c)/\(∀x c,b.lookup x=!c->∃l,i.lookup x=!l)/\∀y∈names,y.2=.free->∃c,i.lookup y.1=!c
 |[],b,_=>(b,9,λ_ _ h=>.inr h,λx c h=>(c,h),λ_ h=>nomatch h)
 |%[n|k]::r,b,h=>by
  rw[List.forIn_cons,]
  induction hk:k==NameKind.free with
  |true=>
   let m:k=.free:=by ext
   let(-c,o):=h %[n|k] Zqs m;let(-i,e,p,q,s):=DW f r (%[n|c]::b) ();rw[(i,?_,λx l t=>?_,λx l t=>?_,λy u v=>?_)]
   .simp only[hk,cellOf,o];rw[e]
   .grind
   .grind
   grind
  |false=>
   have(i,e,p,q,s):=DW f r b ()
   grind
def R8(b)(a)(h:∀y∈a.names,y.2=.free->∃c,b.cells.lookup y.1=!c):
 ∃f,closureFor a b=pure f/\(∀x c,f.lookup x=!c->b.cells.lookup x=!c)/\∀y∈a.names,y.2=.free->∃c,f.lookup y.1=!c:=by
 let(-f,e,g,_,i):=DW b a.names [] h;rw[(f,?_,λx c j=>(g x c j).elim id<|λq=>by simp at q,i)]
 first
 |(rfl)
 |rw[Zt (·>>=λl=>pure l) e]
theorem BR{env:Env}{x:Str}:∀{names:List (Str×NameKind)},
 (names.lookup x=!.free->(names.map λ%[n|k]=>if k==NameKind.free&&env.scope.kind==.function&&env.kindOf n==!.cell then%[n|NameKind.cell]else%[n|k]).lookup x=!.cell\/(names.map λ%[n|k]=>if k==NameKind.free&&env.scope.kind==.function&&env.kindOf n==!.cell then%[n|NameKind.cell]else%[n|k]).lookup x=!.free)/\
 ∀a,(names.map λ%[n|k]=>if k==NameKind.free&&env.scope.kind==.function&&env.kindOf n==!.cell then%[n|NameKind.cell]else%[n|k]).lookup x=!a->a=.cell\/a=.free->names.lookup x=!.free\/names.lookup x=!.cell
 |[]=>by simp
 |%[n|k]::r=>by
  let(b,c):=@BR env x r
  grind
theorem A3:∀names n a,cellsFrom n names a=cellsFrom n names []++a
 |[],_,_=>9
 |%[b|c]::r,n,a=>by
  ext cellsFrom
  split
  .rw[A3 r (n+1) (%[b|n]::a),A3 r (n+1) [%[b|n]],Ul];rfl
  .rw[A3 r n a]
theorem DX  :∀names n a,%[x|c]∈cellsFrom n names a->%[x|c]∈a\/%[x|NameKind.cell]∈names
 |[],_,_,h=>.inl h
 |%[b|e]::r,n,a,h=>by
  unfold cellsFrom at h
  split at h
  .rcases DX r (n+1) (%[b|n]::a) h with z|z
   .grind
   ext
  .rcases DX r n a h with z|z
   .rw[.inl z]
   ext
noncomputable def Hi:02 NameKind->Bool
 |some .cell=>6
 |_=>7
def R9 (h:Hi o=6):o=!.cell:=by
 cases(o)with
 |none=>rw[JH h]
 |some k=>cases(k)<;>first|rfl|rw[JH h]
structure CellsAt(scope:Scope)(env:Env)(cl:List (Str×Addr))(C:Addr)(h1:Heap):4 where
 from_:∀x c,cl.lookup x=!c->env.cells.lookup x=!c/\scope.names.lookup x≠!.cell\/C<c/\h1.IsCell c 8
 free:∀x,scope.names.lookup x=!.free->∃c,cl.lookup x=!c/\env.cells.lookup x=!c
 own:∀x,scope.names.lookup x=!.cell->∃c,cl.lookup x=!c
 inj:∀x y c,cl.lookup x=!c->cl.lookup y=!c->x=y
def RA   {i:Heap}{C:Addr}(f:∀x c,g.lookup x=!c->b.cells.lookup x=!c)(l:∀y∈a.names,y.2=.free->∃c,g.lookup y.1=!c)
 (inj:∀x y c,b.cells.lookup x=!c->b.cells.lookup y=!c->x=y)(low:∀x c,b.cells.lookup x=!c->c<=C)(j:i.objs.size=C+1)(m:∀y∈a.names,y.2=.cell->a.names.lookup y.1=!.cell):
 CellsAt a b (cellsFrom (C+1) a.names g) C (pushCells i a.names):=by
 let ok:=cellsFrom_ok a.names i (C+1) [] (λ_ _ n=>(nomatch n),List.Pairwise.nil)<|Yu j.symm;rw[j]at ok;let look:∀x c,(cellsFrom (C+1) a.names g).lookup x=!c->%[x|c]∈cellsFrom (C+1) a.names []\/g.lookup x=!c/\a.names.lookup x≠!.cell:=λx c e=>by
  rw[A3,List.lookup_append]at e
  induction q:(cellsFrom (C+1) a.names []).lookup x with
  |some d=>
   rw[q]at e;let e:some d=!c:=e;obtain rfl:=Zqi e;rw[.inl<|PySem.mem_of_lookup q]
  |none=>
   rw[q]at e;rw[.inr (e,λz=>?_)];let:=W.cellsFrom_some a.names (C+1) []<|.inl z;rw[q]at this;rw[JH this]
 rw[(λx c e=>?_,λx e=>?_,λx e=>?_,λx y c o p=>?_)]
 .rcases look x c e with z|⟨z1,z2⟩
  .rw[.inr ((ok.empty x c z).2,(ok.empty x c z).1)]
  .rw[.inl (f x c z1,z2)]
 .let(c,h):=l %[x|.free] (PySem.mem_of_lookup e) 9;rw[(c,?_,f x c h)];rw[A3,List.lookup_append]
  induction q:(cellsFrom (C+1) a.names []).lookup x with
  |some d=>
   rcases DX _ _ _ (PySem.mem_of_lookup q)with z|z
   .cases z
   .let:=m %[x|.cell] z 9;rw[e]at this;cases this
  |none=>rw[h]
 .rw[Jw.mp<|W.cellsFrom_some a.names (C+1) g<|.inl e]
 .rcases look x c o with z|⟨z1,_⟩<;>obtain w|⟨w1,_⟩:=look y c p
  .rw[PySem.name_of_addr ok.apart z w]
  .rw[Zn (low y c<|f y c w1)<|Nat.not_le_of_lt (ok.empty x c z).2]
  .rw[Zn (low x c<|f x c z1)<|Nat.not_le_of_lt (ok.empty y c w).2]
  .rw[inj x y c (f x c z1)<|f y c w1]
def RB
 (f:Q (newEnv a s⁻¹ b (cellsFrom (s⁻¹+1) a.names g) c 8 .none (!e) builtinsNs) {s with heap:=pushCells (s.heap.push {cls:=.type "dict",data:=.dict #[]}) a.names}):
 wpAny M A (newFunctionEnv a b g [] c 8 .none<|!e) Q E s:=by
 rw[Za<|wpAny_alloc<|Za<|wpAny_layCells _ () _ _ _ _ ?_];rw[Heap.size_push ..,];rw[Za<|Zb<|Zb f]
def A4(X:Cx)(C:Addr):Ya:=λx b=>∃m,b.heap.Ns C m/\∀c,Heap.SameBut C b.heap c->∀a:Env,a.locals=C->YE X (passOn "comprehension.variables-let-go" x a:Sem Value) (λ_ _=>False) X.xe {b with heap:=c}
def JS(X:Cx)(a:Scope)(N:Yi)(b:List (Str×Addr))(C:Addr)(s:Shared)(H:Hp)(ex:Yj):Cx where
 prog:=X.prog
 w:=X.w
 K:=X.K
 mg:=X.mg
 base:=X.base
 A:=X.A
 N:=N
 s₀:=s
 H₀:=H
 env:=compEnvC a b C X.env
 outer:=X.stack
 stack:=X.stack
 ex:=ex
 fn:=λx=>Hi<|a.names.lookup x
 calm:=X.calm
 pn:=[]
 xe:=notedBy 009 X.A (compEnvC a b C X.env) (A4 X C)
def XT(X:Cx)(C:Addr)(s:Shared)(H:Hp)(a:Yj):4:=∃Y Z,003/\(∀b∈a,xQ X Y H b)/\s⁻¹<=C
def WG(cap:List (02 5))(Z:St):St:=cap.map λo=>o.bind λj=>(Z[j]?).join
structure CompOk(X:Cx)(scope:Scope)(N:Yi)(cap:List (02 5)):4 where
 kind:scope.kind=.function
 loc:∀y∈scope.names,y.2=.local->scope.names.lookup y.1=!.local
 cell:∀y∈scope.names,y.2=.cell->scope.names.lookup y.1=!.cell
 free:∀y∈scope.names,y.2=.free->X.env.kindOf y.1=!.cell\/X.env.kindOf y.1=!.free
 len:⇑cap=⇑N
 cap:∀(i j:5)(x:Str),cap[i]?=! !j->N[i]?=!x->X.N[j]?=!x/\scope.names.lookup x=!.free
noncomputable def K9(a:Scope)(b:Env)(c N:Yi)(cap:List (02 5)):Bool:=
 decide (a.kind=.function)&&a.names.all (λy=>(not<|decide<|y.2=.local)||decide (a.names.lookup y.1=!.local))&&a.names.all (λy=>(not<|decide<|y.2=.cell)||decide (a.names.lookup y.1=!.cell))&&
 a.names.all (λy=>(not<|decide<|y.2=.free)||(decide (b.kindOf y.1=!.cell)||decide (b.kindOf y.1=!.free)))&&decide (⇑cap=⇑c)&&
 (c.zip cap).all λp=>match p.2 with|none=>6|some j=>decide (N[j]?=!p.1)&&decide (a.names.lookup p.1=!.free)
def CompOk.of   {cap:List (02 5)}(h:K9 c X.env N X.N cap=6):CompOk X c N cap:=by
 unfold K9 at h;simp only[Ud,UJ,decide_eq_true_eq,UU,Bool.not_eq_true',decide_eq_false_iff_not]at h;let(((((l,n),o),p),r),s):=h;rw[(l,λy e f=>?_,λy e f=>?_,λy e u=>?_,r,λi j x v B=>?_)]
 .rcases n y e with z|z
  .rw[Zn f z]
  .rw[z]
 .rcases o y e with z|z
  .rw[Zn f z]
  .rw[z]
 .rcases p y e with z|z
  .rw[Zn u z]
  .rw[z]
 .let E:%[x|!j]∈N.zip cap:=by
   rw[Uf (i:=i) ?_];rw[Wg,];rw[(B,v)]
  let q:=s %[x|!j] E;simpa using q
section
variable      {Z: St}    {C D:Addr}{fp:Yj}
def RC   (ok:CompOk X a N cap)(I:003)(E:∀b∈fp,xQ X Y H b)(A:∀b∈fp,b<s⁻¹)
 (f:CellsAt a X.env F C G)
 (y:s⁻¹<=C)(n:∀b o,↥s b=!o->G.get? b=!o)(J:G.Ns C m):
 Inv (JS X a N F C s H fp) [] (WG cap Z) H {s with heap:=G,toks:=tk}:=by
 let O:∀x,(JS X a N F C s H fp).env.kindOf x=!.cell\/(JS X a N F C s H fp).env.kindOf x=!.free->a.names.lookup x=!.free\/a.names.lookup x=!.cell:=λx h=>by
  obtain h|h:=h
  .rw[BR (env:=X.env) (x:=x) (names:=a.names).2 _ h<|006]
  .rw[BR (env:=X.env) (x:=x) (names:=a.names).2 _ h<|.inr 9]
 rw[((I.ok.mod,ok.kind,I.ok.glob,I.ok.blt,y,f.inj,λx h=>?_,λx c z e=>?_,I.ok.hd,I.ok.frames,006,λb t=>(?_,λx c e=>?_),I.bs,Zh I.ok.bsz I.sz,
  λb o e t=>?_,λb t z=>?_,I.stack,I.stkFree),9,I.bare,Un.kept n,(m,J,λi x v L g e3=>?_),λx c e=>?_,I.hok.fresh y,λx c e=>?_,λp P=>Zn P<|by show ¬p∈([]:Yb)++[];simp,I.hok.kept n,?_)]
 .rcases O x h with q|q
  .let(-c,e,_):=f.free x q;rw[(c,e)]
  .rw[f.own x q]
 .rcases f.from_ x c e with ⟨_,q⟩|⟨q,_⟩
  .rw[Zn (R9 z) q]
  .rw[Zh y<|Zz q]
 .rw[Zi<|Zg (A b t) y]
 .rcases f.from_ x c e with ⟨q,_⟩|⟨q,_⟩
  .rw[(E b t).2.2.2.2.1 x c q]
  .rw[Va<|Ur (Zg (A b t) y) q]
 .rcases(E b t).2.2.2.1 with z|z
  .rw[I.ok.noex b o e z]
  .rw[Zn (Zg (Zk e)<|Zh I.ok.bsz z)<|Zy _]
 .rcases UY.mp (I.stkSub b z)with q|q
  .rw[(E b t).2.1 q]
  .rw[(E b t).2.2.1 q]
 .let L:N[i]?=!x:=L;let Q:∃j,cap[i]?=! !j/\Z[j]?=! !v:=by
   let g:(cap.map λo=>o.bind λj=>(Z[j]?).join)[i]?=! !v:=g;rw[Zv]at g
   induction q:cap[i]? with
   |none=>rw[q]at g;rw[J7 g]
   |some o=>
    rw[q]at g
    cases(o)with
    |none=>cases g
    |some j=>
     let g:some (Z[j]?).join=! !v:=g
     induction q2:Z[j]? with
     |none=>rw[q2]at g;cases g
     |some w=>rw[q2]at g;rw[(j,9,by cases g;rw[q2])]
  let(-j,R,S):=Q;let(T,M):=ok.cap i j x R L;let(-m0,_,U):=I.loc;let fr:=ok.free %[x|.free] (PySem.mem_of_lookup M) 9;let(u,r,l):=U j x v T S (fr.elim (λz=>.inr<|.inl z) λz=>.inr<|.inr z);rw[(u,r,.inr (BR (x:=x).1 M,?_))];obtain⟨k,_⟩|⟨_,c,ec,z⟩:=l
  .ext
  .let(-c',e',B):=f.free x M;rw[ec]at B;obtain rfl:=Zqi B;rw[(c,e',z.keeps n)]
 .rcases f.from_ x c e with ⟨q,_⟩|⟨_,q⟩
  .let(v,z):=I.cell x c q;rw[(v,z.keeps n)]
  .rw[(8,q)]
 .rcases f.from_ x c e with ⟨q,_⟩|⟨q,_⟩
  .rw[I.freeC x c q]
  .rw[I.hok.fresh<|Zh y<|Zz q]
 .show(cap.map _).length=⇑N;rw[Zql,];rw[ok.len]
def RD{x:St}       (I:003)(j:∀b∈fp,xQ X Y H b)(y:s⁻¹<=C)(A:s⁻¹<=D)(l:D≠C)
 (J:Inv (JS X m N S C s H fp) [] x g p)(E:↥p D=!{cls:=.type 013,data:=.seq h.toArray k})(T:g D=8)(F:jv r h)(G:⇑r<=00)(i:Heap.SameBut C p.heap L)
 (q:Q (.ref D) (upd g D<|.lst r)):EP X Y Z Q (.ref D) {p with heap:=L}:=by
 let t:∀b o,↥s b=!o->b≠C:=λb o e=>Zi<|Zg (Zk e) y;let M:∀b o,↥s b=!o->b≠D:=λb o e=>Zi<|Zg (Zk e) A;let tD:∀b u,g b=!u->b≠D:=by grind
 let tC:∀b u,g b=!u->b≠C:=λb u e z=>by
  let:=J.free;rw[z,show g C=8 from this]at e;rw[J7 e]
 let B:=J.base;rw[(.ref D,upd g D<|.lst r,I.call' J.os ?_ ?_ J.bare<|λb a=>((j b a).2.2.2.1,(j b a).2.1,(j b a).2.2.2.2.1,(j b a).2.2.2.2.2),9,q)]
 .rw[(λb o e n a f=>(i.2 b<|t b o e).trans<|B.keep b o e n a f,λb o e n a f=>?_,λb o e n f=>?_,λb o e f=>?_,λb w e=>?_,λb o u e=>?_,λb O e=>?_)]
  .let(-P,z):=B.slot b o e n a f;rw[(P,(i.2 b<|t b o e).trans z)]
  .rw[JI (M b o e),];rw[B.free b o e n f]
  .let(R,z):=B.there b o e f;rw[(R,(i.2 b<|t b o e).trans z)]
  .let z:=B.tups b w e
   rwa[JI (tD b _ z),]
  .let z:=B.frzs b o u e
   rwa[JI (tD b _ z),]
  .let(more,z):=B.tbls b O e;rw[(more,by rwa[JI (tD b _ z),])]
 .intro b u e;cases a:b=D
  .subst a;rw[JO]at e;obtain rfl:=Zqi e;rw[(G,h,k,F,(i.2 b l).trans E)]
  .rw[JI a]at e;rw[(J.hok b u e).stay (λc v U z=>(i.2 c ?_).trans z) (λc z=>by rwa[JI (tD c _ z),])<|λc w z=>by rwa[JI (tD c _ z),]]
   grind
end
def mf(cap:List (02 5))(g:TG)(j:TE)(Z:St)(Q:VK):It->Hp->4:=λJ l=>∃W:5->5->YB->St->Hp->4,(∃m,W 0 m [] (WG cap Z) l)/\∀i m b c a,W i m b c a->⇑b<00/\
 (
  (J.stop i a/\∀D,a D=8->Q (.ref D) (upd a D<|.lst b))\/
  J.go i a/\∀x e,J.yld i a x e->g x c e λf n=>j f n λy o=>∃h,h<m/\W (i+1) h (b++[y]) f o)
def YZ(cap:List (02 5))(wi:TI)(g:TG)(a:TE):TE:=λZ H Q=>wi Z H<|mf cap g a Z Q
def RE(cap:List (02 5))(g:TG)(n:TT)(o:TE)(Z:St)(Q:VK):It->Hp->4:=λJ p=>∃W:5->5->YB->St->Hp->4,(∃m,W 0 m [] (WG cap Z) p)/\∀i m c h a,W i m c h a->⇑c<00/\
 (
  (J.stop i a/\∀D,a D=8->Q (.ref D) (upd a D<|.lst c))\/
  J.go i a/\∀x j,J.yld i a x j->g x h j λf q=>n f q λb l=>if b=6 then o f l λy r=>∃e,e<m/\W (i+1) e (c++[y]) f r else ∃e,e<m/\W (i+1) e c f l)
def DY(cap:List (02 5))(wi:TI)(g:TG)(a:TT)(b:TE):TE:=λZ H Q=>wi Z H<|RE cap g a b Z Q
section
variable {X:Cx}{tg iter elt c:Expr}   {wi:TI}
def A5(X:Cx)(Y:Yb)(Z:St)(Q:VK)(b:02 (Value->Sem Unit))(R:Ya):4:=
 ∀(C D:Addr)(m:Yd)(a:Shared)(r:Flow),a.heap.Ns C m->¬C=X.env.locals->C∉X.fs->X.s₀.heap.objs.size<=C->(∀x c,X.env.cells.lookup x=!c->c≠C)->(∀p∈X.pn++Y,p.1≠C)->
  (∀e,Heap.SameBut C a.heap e->EP X Y Z (λv f=>f C=8/\Q v f) (.ref D) {a with heap:=e})->compPost 009 X.A X.xe b R (.ref D) C (.ok r) a
def Hj   :A5 X Y Z Q 8 (EP X Y Z Q):=λC D m i r b _ _ _ _ _ k=>(m,b,λe a=>by
 let(v f,g,h,_,q):=k e a;rw[(v,f,g,h,q)])
def mu(X:Cx)(tg elt:Expr)(g f:Value)(a:Env)(R:Result->Yz)(I:5->Yz)(b:(Bool->Yz)->Yz)(n:5)(s:Shared):4:=
 let E:Ya:=notedBy 009 X.A a λe j=>R (.error e) j
 YE X (pyNext g) (λr h=>match r with
  |none=>R (.ok .next) h
  |some v=>YE X (letOwnedTupleGo tg g v) (λ_ l=>YE X (assign tg a v) (λ_ o=>b (λok i=>if ok=6 then YE X (eval elt a) (λx p=>YE X (call (.builtin "list.append") [f,x]) (λ_ q=>∃m,m<n/\I m q) E p) E i else ∃m,m<n/\I m i) o) E l) E h) E s
def Hk (N:Yi){test:Env->(Result->Yz)->(Bool->Yz)->Yz}
 (lp:∀{it acc:Value}{env:Env}{R:Result->Yz}{s:Shared}(I:5->Yz),(∀n s,I n s->mu X tg elt it acc env R I (test env R) n s)->∀n,I n s->codeAny 009 X.A (.compLoop (.ListComp elt [(tg,iter,ifs,0)] a pos) 0 it acc env) R s)
 (ht:∀A C s H ex{Y:Yb}{s7:Shared}{Z7:St}{H7:Hp}{R:Result->Yz}{q:Bool->Hp->4}{Q:Bool->Yz},XT X C s H ex->(∀e E,A4 X C e E->R (.error e) E)->Inv (JS X a N A C s H ex) Y Z7 H7 s7->tt Z7 H7 q->(∀b s8 H8,Inv (JS X a N A C s H ex) Y Z7 H8 s8->q b H8->Q b s8)->test (compEnvC a A C X.env) R Q s7)
 (cap:List (02 5))(hc:X.calm=6)(okB:K9 a X.env N X.N cap=6)(hi:PI X tg iter wi)(hg:∀A C s H ex,PG (JS X a N A C s H ex) tg g)(he:∀A C s H ex,XT X C s H ex->PE (JS X a N A C s H ex) elt te)
 (hs:∀x,foldedSetIterable iter X.env x=pure x)     {Z:St}  (I:003)(h:DY cap wi g tt te Z H Q)(fin:A5 X Y Z Q use R):
 YE X (comprehension (.ListComp elt [(tg,iter,ifs,0)] a pos) a X.env fpos (newList []) 7 (eval iter X.env) use) R X.xe s:=by
 let ok:=CompOk.of okB;let(-cl0,hcl,hcl1,hcl2):=R8 X.env a λy hy hf=>I.ok.has y.1<|ok.free y hy hf;rw[wpAny_comprehension_free (use:=use) 9 hs hcl ok.kind ok.loc<|jL (hi Y s Z H _ I h) λxv s1 h1=>jL h1 λitv j h2=>?_];let(it w tn J L,e,F,T,st2,f2,(W,(m0,w0),turn)):=h2;subst e;let P:∀b∈w,b<j⁻¹:=λb t=>xa (T.obj _ _ st2 b t) λ_=>j5 λe _=>Zk e;rw[wpAny_newObj_type<|RB ?_];dsimp only;generalize hP:j.heap.push {cls:=.type 013,dict:=8,data:=.seq ([]:Ye).toArray}=P2;let hC:P2.objs.size=j⁻¹+1:=by rw[<-hP,Heap.size_push]
 let S:j⁻¹≠P2.objs.size:=by rw[hC,];rw[Zi<|UC _]
 let l:j⁻¹<=P2.objs.size:=by rw[hC,];rw[Nat.le_succ _]
 let below:∀b,b<j⁻¹->b≠P2.objs.size/\b≠j⁻¹:=λb t=>(by rw[hC,];rw[Zi<|UD t],Zi t);let U:CellsAt a X.env (cellsFrom (P2.objs.size+1) a.names cl0) P2.objs.size (pushCells (P2.push {cls:=.type "dict",data:=.dict #[]}) a.names):=
  RA hcl1 hcl2 F.ok.inj (λx c e=>Zh (Zz<|sV (F.cell x c e) λ_ _=>j5 λho _=>Zk ho) l) (Heap.size_push ..) ok.cell
 let hns1:(pushCells (P2.push {cls:=.type "dict",data:=.dict #[]}) a.names).Ns P2.objs.size λ_=>8:=(Heap.Ns.new P2<|.type "dict").keeps<|pushCells_keeps _ _;generalize cellsFrom (P2.objs.size+1) a.names cl0=A at U ⊢;let old:∀b o,↥j b=!o->(pushCells (P2.push {cls:=.type "dict",data:=.dict #[]}) a.names).get? b=!o:=λb o e=>pushCells_keeps _ _ b o<|Zq _<|hP ▸ Zq _ e;let hacc:(pushCells (P2.push {cls:=.type "dict",data:=.dict #[]}) a.names).get? j⁻¹=!{cls:=.type 013,data:=.seq ([]:Ye).toArray 0}:=pushCells_keeps _ _ _ _<|Zq _<|hP ▸ Zr _ 9;generalize pushCells (P2.push {cls:=.type "dict",data:=.dict #[]}) a.names=g1 at U hns1 old hacc ⊢;let M:∀{H':Hp}{pl:Yb},(∀b∈w,H' b=8)->(∀p∈pl,p.1∉w)->∀b∈w,xQ (JS X a N A P2.objs.size j L w) pl H' b:=λ{H' pl}hn G b t=>by
  rw[(hn b t,(below b<|P b t).1,λz=>?_,.inl t,λx c e=>?_,λp hq z=>?_)]
  .rcases UY.mp (F.stkSub b z)with q|q
   .rw[(f2 b t).2.1 q]
   .rw[(f2 b t).2.2.1 q]
  .rcases U.from_ x c e with ⟨q,_⟩|⟨q,_⟩
   .rw[(f2 b t).2.2.2.2.1 x c q]
   .rw[Va<|Ur (Zg (P b t) l) q]
  .let hq:p∈([]:Yb)++pl:=hq;rw[List.nil_append]at hq;rw[G p hq<|by rw[z,];rw[t]]
 let nD:j⁻¹∉w:=λz=>Zn (P _ z)<|Zy _;let loop:∀s3:Shared,s3={j with heap:=g1}->
  codeAny 009 X.A (.compLoop (.ListComp elt [(tg,iter,ifs,0)] a pos) 0 (.ref it) (.ref j⁻¹)<|compEnvC a A P2.objs.size X.env)
   (compPost 009 X.A X.xe use R (.ref j⁻¹) P2.objs.size) s3:=by
  rintro s3 rfl;let I0:=RC (tk:=j.toks) ok F f2 P U l old hns1;rw[lp (λn E=>∃i ys B k Z' H',Inv (JS X a N A P2.objs.size j L w) [] Z' H' E/\tn i E.heap/\(∀b∈w,H' b=8)/\↥E j⁻¹=!{cls:=.type 013,data:=.seq (List.toArray B) k}/\
   H' j⁻¹=8/\jv ys B/\W i n ys Z' H') ?_ m0
  <|wV 0 [] [] 0 (WG cap Z) L (I0,T.keep _ _ _ st2<|λb _ o e=>old b o e,λb t=>(f2 b t).1,hacc,F.hok.fresh<|Zf _,.nil,w0)]
  let cat:XT X P2.objs.size j L w:=(_,_,F,f2,l);let ce:∀e E,A4 X P2.objs.size e E->compPost 009 X.A X.xe use R (.ref j⁻¹) P2.objs.size (.error e) E:=λe E h=>by cases(use)<;>rw[h]
  let xe:∀e E,(JS X a N A P2.objs.size j L w).xe e E->notedBy 009 X.A (compEnvC a A P2.objs.size X.env) (λe E=>compPost 009 X.A X.xe use R (.ref j⁻¹) P2.objs.size (.error e) E) e E:=λe E h=>Zc h (λ_ j q=>ce e j q) λe j q=>ce e j q;intro n s4;rw[uK λi ys B k Z4 H4=>vF λI4 st4 fr4 hd4 hn4 rv4 w4=>?_];let(hz,tn4):=turn i n ys Z4 H4 w4;let J4:Inv (JS X a N A P2.objs.size j L w) [%[j⁻¹|{cls:=.type 013,data:=.seq B.toArray k}]] Z4 H4 s4:=I4.pins_of λp G=>by
   let e:=Jd.mp G;subst e;rw[(hd4,hn4,S,?_,λv z=>by cases z)];rw[λz=>Zn (Zg (by
    rcases UY.mp (F.stkSub _ z)with q|q
    .rw[U5 (Yu q) F.lt]
    .let(_,o,ho,_):=F.ok.funs.mem q;rw[Zg (Zk ho) F.sz])<|Zf j⁻¹)<|Zy _]
  let np:∀p ∈[%[j⁻¹|({cls:=.type 013,data:=.seq B.toArray k}:Obj)]],p.1∉w:=λp G=>by
   let e:=Jd.mp G;subst e;rw[nD]
  obtain⟨stop,qn⟩|⟨go,step⟩:=tn4
  .rw[Zc (T.done (JS X a N A P2.objs.size j L w) 9 9 9 hc i _ s4 Z4 H4 (λ_ _=>False) J4 (M fr4 np) st4 stop) (λr s5 h5=>?_) λ_ _ f=>f.elim];let(rfl,I5):=h5;let(m,hm,_):=id I5.loc;let p5:=I5.pin %[j⁻¹|_]<|Ui _ Zqs;rw[fin _ _ m _ _ hm (Va<|Zg F.lt l) (F.nofs l) (Zh F.sz l) (λx c e z=>?_) (λp G z=>?_) λh' hs'=>RD F f2 l (Zf _) S (I5.pins_of λp G=>nomatch G) p5.1 p5.2.1 rv4 (Zz hz) hs' (by rw[JI (Ne.symm S),];rw[I5.free],qn _ p5.2.1)]
   .let(v o,ho,hd):=F.cell x c e;let:=Zk ho;rw[z]at this;rw[Zn (Zg this l)<|Zy _]
   .let:=Zk (F.pin p G).1;rw[z]at this;rw[Zn (Zg this l)<|Zy _]
  .rw[Zc (T.item (JS X a N A P2.objs.size j L w) 9 9 9 hc i _ s4 Z4 H4 (λ_ _=>False) J4 (M fr4 np) st4 go) (λr s5 h5=>?_) λ_ _ f=>f.elim];let(u,rfl,h5):=h5;rw[Zc h5 (λ_ s6 h6=>?_) λ_ _ f=>f.elim];let(x H6,I6,r6,y6,st6,fr6):=h6;let I6':=I6.pinned (M fr6 np)<|T.obj _ _ st6;rw[Zc (hg A P2.objs.size j L w _ s6 Z4 H6 x u _ I6' r6<|step x H6 y6) (λ_ s7 h7=>?_) xe];let(Z7 H7,I7,q7):=h7;rw[ht A P2.objs.size j L w cat ce I7 q7 λbv s8 H8 I8 q8=>?_];let O:∀(H9:Hp)(s9:Shared)(Z9:St),Inv (JS X a N A P2.objs.size j L w) ([%[j⁻¹|{cls:=.type 013,data:=.seq B.toArray k}]]++Ay w s6.heap) Z9 H9 s9->(∀b∈w,∀o,↥s6 b=!o->↥s9 b=!o)/\∀b∈w,H9 b=8:=λH9 s9 Z9 I9=>by
    rw[(λb t o e=>(I9.pin %[b|o]<|Ui _<|Ui _<|BK t e).1,λb t=>?_)];let(-o,e,d):=T.obj _ _ st6 b t;rw[(I9.pin %[b|o]<|Ui _<|Ui _<|BK t e).2.1]
   let p8:=I8.pin %[j⁻¹|_]<|Ui _<|U9 _ Zqs
   cases(bv)with
   |false=>
    rw[Ze ()]at q8 ⊢;let(-m',hm',w8):=q8;let(z1,z2):=O _ _ _ I8;rw[(m',hm',i+1,ys,B,k,Z7,H8,I8.pins_of (λp G=>nomatch G),T.keep _ _ _ st6 z1,z2,p8.1,p8.2.1,rv4,w8)]
   |true=>
    rw[Zd 9]at q8 ⊢;rw[Zc (he A P2.objs.size j L w cat _ s8 Z7 H8 _ I8 q8) (λyv s9 h9=>?_) xe];let(y H9,I9,ry,(m',hm',w9)):=h9;let p9:=I9.pin %[j⁻¹|_]<|Ui _<|U9 _ Zqs;let hl:=⇑rv4;rw[append_at (hsz:=by show B.toArray.size<=00;rw[Zm,<-hl];rw[Zz hz]) p9.1 λh10 hs10 hd10=>?_];let I10:Inv (JS X a N A P2.objs.size j L w) [] Z7 H9 {s9 with heap:=h10}:=(I9.pins_of (Y':=[]) λp G=>nomatch G).turned (t':=s9.toks) (it:=j⁻¹) (λb o t e=>(hs10.2 b t).trans e) p9.2.1 S (.inr<|Zf _)
     (λx c e z=>by
      let(v o,ho,hd):=I9.cell x c e;rw[z,p9.1]at ho;cases ho;cases hd)<|λp G=>Zn G<|by show ¬p∈([]:Yb)++[];simp
    let(z1,z2):=O _ _ _ I9;rw[(m',hm',i+1,ys++[y],B++[yv],k+1,Z7,H9,I10,T.keep _ _ _ st6<|λb t o e=>?_,z2,?_,p9.2.1,jv.append rv4<|.cons ry .nil,w9)]
    .let hb':b≠j⁻¹:=λz=>nD (by rw[<-z];rw[t]);rw[(hs10.2 b hb').trans<|z1 b t o e]
    .rw[hd10.trans ?_];simp
 rw[codeAny_compStart_list (loop _ 9)<|T.self _ 0 _ _ _ (T.keep _ _ _ st2<|λb _ o e=>old b o e)<|loop _ 9]
def Hl(N)(cap)(o:X.calm=6)(f:K9 a X.env N X.N cap=6)(p:PI X tg iter wi)(r:∀i C s H e,PG (JS X a N i C s H e) tg g)(t:∀i C s H e,XT X C s H e->PE (JS X a N i C s H e) elt u)
 (v:∀x,foldedSetIterable iter X.env x=pure x)     {Z:St}  (I:003)(h:YZ cap wi g u Z H Q)(j:A5 X Y Z Q l R):
 YE X (comprehension (.ListComp elt [(tg,iter,[],0)] a w) a X.env m (newList []) 7 (eval iter X.env) l) R X.xe s:=
 Hk (test:=λ_ _ Q s=>Q 6 s) N (λI b n h=>W.kcp_loop I b n h) (λ_ _ _ _ _ _ _ _ _ _ _ _ _ _ I q k=>k 6 _ _ I q) cap o f p r t v I h j
def Hm(N)(cap)(i:X.calm=6)(e:K9 a X.env N X.N cap=6)(j:PI X tg iter wi)(l:∀f C s H b,PG (JS X a N f C s H b) tg g)(m:∀f C s H b,XT X C s H b->PE (JS X a N f C s H b) elt n)
 (o:∀x,foldedSetIterable iter X.env x=pure x:=by intro _;rfl):PE X (.ListComp elt [(tg,iter,[],0)] a p) (YZ cap wi g n):=λY s Z H Q I h=>Hl N cap i e j l m o I h Hj
def RF(N)(cap)(h:X.calm=6)(b:K9 a X.env N X.N cap=6)(i:PI X tg iter wi)(j:∀e C s H f,PG (JS X a N e C s H f) tg g)(o:∀e C s H f,PE (JS X a N e C s H f) elt l)
 (m:∀x,foldedSetIterable iter X.env x=pure x:=by intro _;rfl):PE X (.ListComp elt [(tg,iter,[],0)] a n) (YZ cap wi g l):=Hm N cap h b i j () m
end
mutual
def Is (H:Hp):PyData->V->Prop
 | .none,v=>v=.non
 | .bool b,v=>v=.bl b
 | .int i,v=>v=.int i
 | .str x,v=>v=.str x
 | .list e,v=>∃a c,v=.ref a/\H a=some (.lst c)/\qG H e c
 | .tuple e,v=>∃a c,v=.ref a/\H a=some (.tup c)/\qG H e c
 | .dict _,_=>False
def qG (H:Hp):List PyData->YB->Prop
 | [],a=>a=[]
 |d::b,a=>∃x r,a=x::r/\Is H d x/\qG H b r
end
mutual
theorem Is.same {H n:Hp}(e:jk H n):∀d v,Is H d v->Is n d v
 | .none,_,h=>h
 | .bool _,_,h=>h
 | .int _,_,h=>h
 | .str _,_,h=>h
 | .list f,v,h=>have ⟨a,c,i,j,l⟩:=h;⟨a,c,i,e _ _ j,qG.same e f c l⟩
 | .tuple f,v,h=>have ⟨a,c,i,j,l⟩:=h;⟨a,c,i,e _ _ j,qG.same e f c l⟩
 | .dict _,_,h=>h.elim
theorem qG.same {H i:Hp}(e:jk H i):∀c f,qG H c f->qG i c f
 | [],_,h=>by simp_all [qG]
 |d::c,f,h=>have ⟨x,r,j,l,n⟩:=h;⟨x,r,j,Is.same e d x l,qG.same e c r n⟩
end
theorem qG.length :∀{c:List PyData}{e:YB},qG H c e->⇑e=⇑c
 |[],_,h=>by simp_all[qG]
 |d::c,e,h=>by
  let(x r,rfl,_,f):=h;rw[Zu,Zu,qG.length f]
theorem qG.get :∀{c:List PyData}{f:YB}{i:5}{d:PyData},qG H c f->c[i]?=!d->∃x,f[i]?=!x/\Is H d x
 |[],_,_,_,_,e=>by simp at e
 |d::c,f,0,j,h,e=>by
  grind[qG]
 |d::c,f,i+1,j,h,e=>by
  let(x r,rfl,_,l):=h;let(-y,n,o):=qG.get l (by simpa using e)
  ext
theorem Hn :∀(a:Yf),qG H (a.map PyData.int) (a.map V.int)
 |[]=>by rfl
 |n::a=>(_,_,9,by rfl,Hn a)
theorem Ho :∀{ns:Yf}{a:YB},qG H (ns.map PyData.int) a->a=ns.map V.int
 |[],_,h=>by
  simp_all[qG]
 |n::ns,a,h=>by
  let(x r,rfl,b,c):=h;rw[b,Ho c];rfl
def yy   :Is H (.list e) v↔∃a c,v=016/\H a=! .lst c/\qG H e c:=Iff.rfl
def zo   :Is H (.tuple e) v↔∃a c,v=016/\H a=! .tup c/\qG H e c:=Iff.rfl
mutual
def Kc:PyData->Bool
 | .int _=>true
 | .list a=>WR a
 | .tuple a=>WR a
 | .none=>false
 | .bool _=>false
 | .str _=>false
 | .dict _=>false
def WR:List PyData->Bool
 | []=>true
 |x::a=>Kc x&&WR a
end
mutual
theorem RG:∀d:PyData,Kc d=true->d.canLay0=true
 | .int _,_=>by rfl
 | .list a,h=>DZ a h
 | .tuple a,h=>DZ a h
 | .none,h=>by rfl
 | .bool _,h=>by rfl
 | .str _,h=>by simp_all [Kc]
 | .dict _,h=>by simp_all [Kc]
theorem DZ:∀a:List PyData,WR a=true->PyData.canLayAll0 a=true
 | [],_=>by rfl
 |x::a,h=>by
  obtain⟨b,c⟩:=Js.mp h;unfold PyData.canLayAll0;rw[RG x b,DZ a c];rfl
end
mutual
theorem Ea:∀d e:PyData,Kc d=true->Kc e=true->(PyData.eqv d e=true↔d=e)
 | .int i,.int j,_,_=>by unfold PyData.eqv;simp
 | .int i,.list a,_,_=>by unfold PyData.eqv;simp
 | .int i,.tuple a,_,_=>by unfold PyData.eqv;simp
 | .list b,.int j,_,_=>by unfold PyData.eqv;simp
 | .list b,.list a,c,h2=>by
  have q:=Eb b a c h2
  simp_all [PyData.eqv]
 | .list b,.tuple a,_,_=>by unfold PyData.eqv;simp
 | .tuple b,.int j,_,_=>by unfold PyData.eqv;simp
 | .tuple b,.list a,_,_=>by unfold PyData.eqv;simp
 | .tuple b,.tuple a,c,h2=>by
  have q:=Eb b a c h2
  simp_all [PyData.eqv]
 | .none,_,h,_=>by simp_all [Kc]
 | .bool _,_,h,_=>by simp_all [Kc]
 | .str _,_,h,_=>by simp_all [Kc]
 | .dict _,_,h,_=>by simp_all [Kc]
 |_,.none,_,h=>by simp_all [Kc]
 |_,.bool _,_,h=>by simp_all [Kc]
 |_,.str _,_,h=>by simp_all [Kc]
 |_,.dict _,_,h=>by simp_all [Kc]
theorem Eb:∀a b:List PyData,WR a=true->WR b=true->(PyData.eqvAll a b=true↔a=b)
 | [],[],_,_=>by unfold PyData.eqvAll;simp
 | [],y::b,_,_=>by unfold PyData.eqvAll;simp
 |x::a,[],_,_=>by unfold PyData.eqvAll;simp
 |x::a,y::b,c,h2=>by
  have ⟨e,f⟩:=Js.mp c;have ⟨g,h⟩:=Js.mp h2;unfold PyData.eqvAll;rw[Bool.and_eq_true_iff,Ea x y e g,Eb a b f h];simp
end
def RH (a:Kc d=6)(b:Kc e=6)(h:d≠e):PyData.eqv d e=7:=by
 grind[Ea]
def RJ (a:Kc d=6):PyData.eqv d d=6:=(Ea d d a a).mpr 9
def qN:Yf->3
 |[]=>0
 |x::r=>r.foldl max x
noncomputable def qV:Yf->3
 |[]=>0
 |x::r=>r.foldl min x
theorem Hq:∀(r:Yf)x,x<=r.foldl max x/\(∀y∈r,y<=r.foldl max x)/\(r.foldl max x=x\/r.foldl max x∈r)
 |[],x=>by simp
 |y::r,x=>by
  let(!b,a,c):=Hq r (max x y);show x<=r.foldl max (max x y)/\(∀z∈y::r,z<=r.foldl max (max x y))/\(r.foldl max (max x y)=x\/r.foldl max (max x y)∈y::r);rw[((),λz hz=>?_,?_)]
  .rcases UY.mp hz with rfl|hz
   .omega
   .rw[a z hz]
  grind
def KZ (h:l ≠[]):qN l∈l/\∀y∈l,y<=qN l:=by
 cases(l)with
 |nil=>ext
 |cons x r=>
  let(!a,b,h3):=Hq r x;rw[(?_,λy hy=>?_)]
  .rcases h3 with h3|h3
   .show r.foldl max x∈x::r;rw[h3,];rw[Zqs]
   .rw[Zqm _ h3]
  .rcases UY.mp hy with rfl|hy
   .rw[a]
   .rw[b y hy]
def Ec  (a:M∈l)(b:∀y∈l,y<=M):M=qN l:=by
 let(c,e):=KZ (l:=l) ()
 grind
theorem Hr:∀(r:Yf)x,r.foldl min x<=x/\(∀y∈r,r.foldl min x<=y)/\(r.foldl min x=x\/r.foldl min x∈r)
 |[],x=>by simp
 |y::r,x=>by
  let(!b,a,c):=Hr r (min x y);show r.foldl min (min x y)<=x/\(∀z∈y::r,r.foldl min (min x y)<=z)/\(r.foldl min (min x y)=x\/r.foldl min (min x y)∈y::r);rw[((),λz hz=>?_,?_)]
  .rcases UY.mp hz with rfl|hz
   .omega
   .rw[a z hz]
  grind
def Z1 (h:l ≠[]):qV l∈l/\∀y∈l,qV l<=y:=by
 cases(l)with
 |nil=>ext
 |cons x r=>
  let(!a,b,h3):=Hr r x;rw[(?_,λy hy=>?_)]
  .rcases h3 with h3|h3
   .show r.foldl min x∈x::r;rw[h3,];rw[Zqs]
   .rw[Zqm _ h3]
  .rcases UY.mp hy with rfl|hy
   .rw[a]
   .rw[b y hy]
def Ed  (a:M∈l)(b:∀y∈l,M<=y):M=qV l:=by
 let(c,e):=Z1 (l:=l) ()
 grind
def RK(w:X.calm=6):ql X (.builtin "max") λm H Q=>∃a c,m=[016]/\qP X.K H a (c.map V.int)/\c ≠[]/\Q (.int<|qN c) H:=by
 intro Y s Z H m J Q I r h;let(a c,rfl,x,y,q):=h;let(-u,rfl,z):=K8 r;obtain rfl:=z;let(-A,B,p,L):=I.list x;let n:=GQ B;let(i,e):=n.allInts.items;let f:c=i.toList.map (·.1):=by
  rw[<-n.numsOf,<-nums_intItems,<-e]
 let l:0<i.size:=by
  grind
 let g:=p.isList;rw[e]at g;rw[max_intList (I.ok.hd w) g l λv M N C E=>?_];let(t,rfl):=intItems_at C;let(O,F):=argBest_gt (numAt i) (i.size-1);rw[(.int<|qN c,H,I.kept E,(t,?_),q)]
 congr 1
 rw[Ec ?_ λb o=>?_]
 .rw[f,numAt_eq];rw[PySem.getD_mem<|by rw[Zql,Uw];lia]
 .rw[f]at o;let(-j,G,rfl):=PySem.mem_getD o;rw[Zql,Uw]at G;rw[<-numAt_eq];rw[F j ()]
def RL(w:X.calm=6):ql X (.builtin "min") λm H Q=>∃a c,m=[016]/\qP X.K H a (c.map V.int)/\c ≠[]/\Q (.int<|qV c) H:=by
 intro Y s Z H m J Q I r h;let(a c,rfl,x,y,q):=h;let(-u,rfl,z):=K8 r;obtain rfl:=z;let(-A,B,p,L):=I.list x;let n:=GQ B;let(i,e):=n.allInts.items;let f:c=i.toList.map (·.1):=by
  rw[<-n.numsOf,<-nums_intItems,<-e]
 let l:0<i.size:=by
  grind
 let g:=p.isList;rw[e]at g;rw[min_intList (I.ok.hd w) g l λv M N C E=>?_];let(t,rfl):=intItems_at C;let(O,F):=argBest_lt (numAt i) (i.size-1);rw[(.int<|qV c,H,I.kept E,(t,?_),q)]
 congr 1
 rw[Ed ?_ λb o=>?_]
 .rw[f,numAt_eq];rw[PySem.getD_mem<|by rw[Zql,Uw];lia]
 .rw[f]at o;let(-j,G,rfl):=PySem.mem_getD o;rw[Zql,Uw]at G;rw[<-numAt_eq];rw[F j ()]
def RM:ql X (.builtin "isinstance") λa H Q=>∃x n t b,a=[x,.ty n]/\TyOf X.K H x t/\W.kitOne X.K t (.type n)=!b/\Q (.bl b) H:=by
 intro Y s Z H a j Q I r h;let(x n t b,rfl,c,e,q):=h;let(u l,rfl,f,g):=Az r;obtain rfl:=g;rw[PM I f c e λi=>(.bl b,H,I.tok i,9,q)]
def wI(P:Program)(w:World)(K:f')(c:Yd)(a:Heap)(b:Str)(k:5)(e:Yi)(h:Sp):4:=
 ∃f g,FnOk P w K c a yL k f g e h/\vn K g e []/\W.keepIn K (.ref f)=6/\c b=! .ref f
theorem wI.mono  {K:f'}      (c:wI P w K l e i j n o)(h:j<=k):wI P w K l e i k n o:=by
 let(f p,F,r):=c;rw[(f,p,F.mono h,r)]
def A6        (c:wI X.prog X.w X.K X.mg X.base a k u l)(m:Room k X.A)(n:Gl X a)(o:PA X (e::g) t)
 (h:(a==010)=7:=by decide)(q:01 (e::g) X.env=%[7|011]::01 g X.env:=by rfl)(i:(backTo j<|01 g X.env).any (·.1)=7:=by rfl):
 PE X (.Call (.Name a p) (e::g) [] j) (DN l [] E0 t):=by
 let(f v,F,b,r,s):=c;rw[GJ F m n s r b .nil Hg o h q i]
def Wv  (h:H p=8)(o):jk H (upd H p o):=λb u q=>by rwa[JI (K5 q h),]
def small (h:n<=1000):n<=00:=Zz<|Hh h
noncomputable def pD(p:3×3):PyData:=.tuple [.int p.1,.int p.2]
def rD(r:J0):PyData:=.tuple<|r.map pD
def rO   :Is H (pD p) v↔∃a,v=016/\H a=! .tup [.int p.1,.int p.2]:=by
 constructor
 .rintro⟨a,g,b,c,f⟩;let e:=Ho (ns:=[p.1,p.2]) f
  ext
 .rintro⟨a,b,c⟩;rw[(a,_,b,c,Hn [p.1,p.2])]
def BS  (o)(s:jk H a)(h:H l=8):jk H (upd a l o):=λb u e=>by
 rw[JI (K5 e h),];rw[s b u e]
theorem RN:∀a:Yf,WR (a.map PyData.int)=6
 |[]=>by rfl
 |n::a=>by
  show WR (PyData.int n::a.map PyData.int)=6;ext WR;rw[RN a,];rfl
def Ee(p):Kc (pD p)=6:=by rfl
theorem RO:∀a:Yf,PyData.depthAll (a.map PyData.int)=0
 |[]=>by rfl
 |n::a=>by
  show PyData.depthAll (PyData.int n::a.map PyData.int)=0;ext PyData.depthAll;rw[RO a,];rfl
def Qf:bootBuiltins "len"=! .builtin "len":=boot_len
def A7:bootBuiltins "max"=! .builtin "max":=boot_max
def BT:bootBuiltins "min"=! .builtin "min":=boot_min
def KL:bootBuiltins "isinstance"=! .builtin "isinstance":=boot_isinstance
def Ef:bootBuiltins "sorted"=! .builtin "sorted":=boot_sorted
def RP:bootBuiltins "int"=! .type "int":=boot_int
def Hs:bootBuiltins "bool"=! .type "bool":=boot_bool
def QL:bootBuiltins 013=! .type 013:=boot_list
def Z3:bootBuiltins "tuple"=! .type "tuple":=boot_tuple
def Eg:bootBuiltins "dict"=! .type "dict":=boot_dict
def bt_set:bootBuiltins "set"=! .type "set":=boot_set
def Ht:entryFor table "dict.update.loop"=!Builtin.«dict.update.loop»:=entryFor_of_tree<|by rfl
def BU:plainId "dict.update.loop"=6:=by decide+kernel
section
variable   {K:Type}[DecidableEq K]
def bW(l:KeyKind u w K)(p t d:Addr)(c:Yk)(h:List (K×Value))(F:Heap)(hlen:c.size=⇑h)
 (Q:∀(j:5)k v,h[j]?=!%[k|v]->∃x n,c[j]?=! .ref x/\F.IsTuple x #[n,v]/\l.is k n=6/\x≠p/\x≠d)
 (G:F.IsTuple t c)(n1:t≠p)(n2:t≠d)(S:d≠p)(m:5):
 ∀i:5,⇑h-i=m->∀A R s(a:List (K×Value)),A.handled=8->s.heap.IsTupleIter p t i->(∀b o,b≠p->b≠d->F.get? b=!o->↥s b=!o)->
  s.heap.DictOf l d a->⇑a+(⇑h-i)<=00->
  (∀y U,y.DictOf l d (merged a<|h.drop i)->(∀b o,b≠p->b≠d->F.get? b=!o->y.get? b=!o)->R (.ok<|.ret .none) {s with heap:=y,toks:=U})->
  wpAny (model u w) A.in1 (Builtin.«dict.update.loop» ([.ref d,.ref p,rawInt i,.none],[])) (λB N=>match B with|.done f=>R (.ok f) N|.again c'=>c'.quiet=6/\codeAny (model u w) A c' R N) (λe N=>R (.error e) N) s:=by
 cases(m)with
 |zero=>
  intro i O A R s a X Y keep Z hz P;let hx:c[i]?=8:=by rw[Array.getElem?_eq_none_iff,];lia
  let ht:s.heap.IsTuple t c:=by
   let(-o,q,r):=G;rw[(o,keep t o n1 n2 q,r)]
  ext Builtin.«dict.update.loop»;rw[Za<|wpAny_pyNext_tuple_end X Y ht hx λy eb=>?_];let hd0:h.drop i=[]:=Vb ();rw[hd0]at P;let H:y.DictOf l d a:=by
   let(o es ep,q,r):=Z;rw[jg o es ep (eb d o S q,r)]
  let B:=P y s.toks H<|λb o I J e=>eb b o I<|keep b o I J e;ext Builtin.Dict.addKeywords;rw[Za<|Zb<|Zb B]
 |succ m ih=>
  intro i O A R s a X Y keep Z hz P;let C:i<⇑h:=()
  let(g,hkv):∃g,h[i]?=!g:=(_,Zqg C);let(x n,hx,hta,L,a1,a2):=Q i g.1 g.2 hkv;let ht:s.heap.IsTuple t c:=by
   let(-o,q,r):=G;rw[(o,keep t o n1 n2 q,r)]
  ext Builtin.«dict.update.loop»;rw[Za<|wpAny_pyNext_tuple_item Y ht hx λI st1 E=>?_];let(-ot,hot,hoc,(nn,hod)):=hta;let z:I.get? x=!ot:=(E.2 x a1).trans<|keep x ot a1 a2 hot;let hD1:I.DictOf l d a:=by
   let(o es ep,q,r):=Z;rw[jg o es ep ((E.2 d S).trans q,r)]
  dsimp only;rw[Za<|wpAny_holding<|Za<|wpAny_tryCatch ?_];ext Builtin.Dict.pairItems;rw[Za<|wpAny_typeOf (T:="tuple") (ot,z,hoc) ?_];rw[Zd 008,];rw[Za<|wpAny_seqItems z hod<|Zb ?_];show wpAny _ _ (holding [n,g.2]<|dictSet d n g.2) _ _ _;rw[wpAny_holding<|wpAny_dictSet_pairs L hD1 (λJ hD2 M=>?_) ()];let hc:(i:3)+1=((i+1:5):3):=by push_cast;rfl
  rw[Zb ?_];rw[hc,];let st2:J.IsTupleIter p t (i+1):=by
   let(-o,q,r):=st1;rw[(o,(M.2 p<|Ne.symm S).trans q,r)]
  let k2:∀b o,b≠p->b≠d->F.get? b=!o->J.get? b=!o:=λb o b1 b2 e=>(M.2 b b2).trans<|(E.2 b b1).trans<|keep b o b1 b2 e;let z2:⇑(stored a g.1 g.2)+(⇑h-(i+1))<=00:=by
   let:⇑(stored a g.1 g.2)<=⇑a+1:=by
    ext stored
    split
    .rw[Zql,];lia
    .rw[Ua,Ug];lia
   rw[O]at hz;rw[Nat.sub_succ,O];rw[Zh (Nat.add_le_add_right this m)<|Zh (Yu<|Nat.succ_add_eq_add_succ ⇑a m) hz]
  let e:merged a (h.drop i)=merged (stored a g.1 g.2) (h.drop<|i+1):=by
   rw[Uo C,];let:h[i]=g:=by
    let:=Zqg C;rw[this]at hkv;rw[Zqi hkv]
   rw[this,];rfl
  rw[(plainId_quiet BU _,codeAny_builtin Ht<|by
   rw[Around.under_plainId BU _,];rw[ih (i+1) (by rw[Nat.sub_succ,O];rfl) A R {s with heap:=J,toks:=s.toks+1} (stored a g.1 g.2) X st2 k2 hD2 z2 λy U H kk=>P y U (by rwa[e,]) kk])]
end
def RQ
 (r:↥s a=!o)(t:o.cls=.type "tuple")(i:o.data=.seq z k)(u:o.dict=8)(j:typeLookup (.type "tuple") f=pure 8)(l:(["__module__","__name__","__qualname__","__doc__","__annotations__"]:Yi).contains f=7)(B:A.handled=8)
 (h:∀p v,(∀b o,↥s b=!o->p.get? b=!o)->Q 8 {s with heap:=p,toks:=v})(q:⇑f+100<=00:=by size_fits):
 YF x w A (getAttr? 016 f) Q E s:=by
 let(c,C,G,H):=o;simp only at t i u;subst t i u;let(I,g,d,v,os):=s;let y:∀m,((I,g,d,m,os):Shared).TypeIs 016 "tuple":=λ_=>(_,r,9);let J:=sub_AttributeError;let L:=F.slot_tuple_getattribute.lookup;let M:=F.slot_tuple_getattribute.bind<|016;let N:=am_tuple_getattr_none;ext getAttr? getAttrBy? getAttrBy
 repeat(any_goals(first|assumption|rw[y _]|((with_reducible show wpAny _ _ (call (Value.builtin "tuple.__getattribute__") _ _) _ _ _);rw[call_meets F.slot_tuple_getattribute (y _) am_entry_tuple_getattribute (F.args_tuple_getattribute_2 _ _) (meets_getattribute_miss_tuple a z k H f _ j l q) (r,B,λp m e n=>?_)])|wp_step))
 let(O P,R):=n.there;show wpAny _ _ (getattributeRaised _ _ _ _ _ _ _) _ _ _;ext getattributeRaised
 repeat(any_goals(first|assumption|wp_step))
 rw[h _ _ n.of.keeps]
section
variable   {K:Type}[DecidableEq K]
def RR(g:KeyKind y w K)      (Z:A.handled=8)(M:↥s t=!o)(N:o.cls=.type "tuple")(p:o.data=.seq a n)(hd:o.dict=8)
 (B:a.size=⇑x)(O:∀(j:5)k v,x[j]?=!%[k|v]->∃l c,a[j]?=! .ref l/\s.heap.IsTuple l #[c,v]/\g.is k c=6)(hz:⇑x<=00)
 (h:∀C P,C.DictOf g s⁻¹ (merged [] x)->(∀b u,↥s b=!u->C.get? b=!u)->Q (.ref s⁻¹) {s with heap:=C,toks:=P}):
 YF y w A (call (.type "dict") [.ref t]) Q E s:=by
 rw[callType_codes (Q₁:=λG s₁=>G=.ref s⁻¹/\s₁={s with heap:=s.heap.push {cls:=.type "dict",data:=.dict #[]}}) F.kt_called_dict (F.kt_typeCall_dict_1 _) F.entry_dict_init (kt_code_dict_new _ (9,9)) ?_];rintro G s₁ ⟨rfl,rfl⟩;let f:(s.heap.push {cls:=.type "dict",data:=.dict #[]}).DictOf g s⁻¹ []:=Heap.DictOf.new s.heap;rw[(f.typeIs,F.args_dict_init_2 _ _,?_)];let q:(s.heap.push {cls:=.type "dict",data:=.dict #[]}).get? t=!o:=Zq _ M;ext Builtin.«dict.__init__»;rw[Za ?_];ext Builtin.Dict.selfAndRest;rw[Za<|wpAny_notOrdered_dict f.typeIs ?_];show wpAny _ _ (pure %[s⁻¹|[Value.ref t]]) _ _ _;rw[Zb ?_];show wpAny _ _ (Builtin.Dict.updateFrom "dict.__init__" s⁻¹ (.ref t) [] .none) _ _ _;ext Builtin.Dict.updateFrom;rw[Za<|wpAny_typeOf (T:="tuple") (o,q,N) ?_];rw[Zd 008,];rw[Za (RQ q N p hd (by rw[typeLookup_type,builtinLookup_eq_fast];kernel_rfl) (by decide+kernel) Z (λm tk2 J=>?_)<|008)];rw[Zd (by rfl),];let H:m.IsTuple t a:=(o,J _ _ q,N,n,p);let lt:s⁻¹<m.objs.size:=by
  let(L _ _,e,_):=f;rw[Zk<|J _ _ e]
 let D2:m.DictOf g s⁻¹ []:=by
  let(L R S,e,r):=f;rw[jg L R S (J _ _ e,r)]
 rw[Za<|wpAny_rule ?_];rw[Za<|wpAny_pyIter_tuple H ?_];let i:∀b u,↥s b=!u->b≠s⁻¹/\b≠m.objs.size:=λb u e=>by
  let z:=Zk e;rw[(Zi z,Zi<|Ur z lt)]
 let up:∀b u,↥s b=!u->m.get? b=!u:=λb u e=>J b u<|Zq _ e;let I:∀(j:5)k v,x[j]?=!%[k|v]->∃l c,a[j]?=! .ref l/\m.IsTuple l #[c,v]/\g.is k c=6/\l≠m.objs.size/\l≠s⁻¹:=λj k v e=>by
  let(l c,a1,(U,X,a3),a4):=O j k v e;rw[(l,c,a1,(U,up _ _ X,a3),a4,(i l U X).2,(i l U X).1)]
 rw[Zb (plainId_quiet BU _,codeAny_builtin Ht ?_)];rw[Around.under_plainId BU _,];rw[bW g m.objs.size t s⁻¹ a x m B I H (i t o M).2 (i t o M).1 (Zi lt) ⇑x 0 () A.in1 _ _ [] Z (_,Zr _ 9,9,9) (λb u _ _ e=>Zq _ e) ?_ (by simpa using hz) ?_]
 .let(L R S,e,r):=D2;rw[jg L R S (Zq _ e,r)]
 .intro C P Y kk;rw[(9,h C P Y λb u e=>kk b u (i b u e).2 (i b u e).1<|up b u e)]
end
def yj(r:J0):List (jT×V):=r.map λp=>%[Uh p.1|V.int p.2]
def BV(r:J0):List (jT×V):=XR []<|yj r
theorem Hu    (ok:xy P w H h):∀{r:J0}{g:YB}{b:Ye},qG H (r.map pD) g->jv g b->
 ∃c:List (jT×Value),KV (yj r) c/\⇑b=⇑c/\∀(j:5)k v,c[j]?=!%[k|v]->∃i f,b[j]?=! .ref i/\h.IsTuple i #[f,v]/\(Kb P w).is k f=6
 |[],g,b,ha,r=>by
  subst ha;cases r;rw[([],.nil,9,())]
 |p::r,g,b,ha,rv=>by
  let(x M,rfl,m,q):=ha;cases rv with
  |@cons _ u _ s t y=>
   let(-c,z,N,A):=Hu ok q y;let(-a,rfl,B):=rO.mp m;obtain rfl:=t;let(_,C,ri,o,E,F,n,G):=ok a _ B;let(O I,rfl,J,L):=Az ri;let(l,rfl):=J;rw[(%[Uh p.1|I]::c,.cons (9,L) z,(),λj k v e=>?_)]
   cases(j)with
   |zero=>
    cases e;rw[(a,.int p.1 l,9,(o,E,F,n,G),Gx p.1 l)]
   |succ j=>
    rw[A j k v<|by simpa using e]
def RU(i:X.calm=6):ql X (.type "dict") λb H Q=>∃a r,b=[016]/\Is H (rD r) 016/\⇑r<=100/\∀p,H p=8->Q (.ref p) (upd H p<|.dK<|BV r):=by
 intro Y s Z H b L Q I l h;let(a,r,rfl,m,M,q):=h;let(-u,rfl,t):=K8 l;obtain rfl:=t;let(N b,w,x,y):=m;cases w;let((O,P,c,A),B,ri,o,f,C,n,E):=I.hok a _ x;rw[c]at f;obtain rfl:=Zqi f;let(-R,g,S,T):=Hu I.hok y ri;let U:=⇑g;let F:⇑(yj r)=⇑r:=Zql _;rw[RR (Kb X.prog X.w) (I.ok.hd i) c C E A () (λj k v e=>?_) (small ()) λh' tk G J=>?_]
 .ext
 .rw[(.ref s⁻¹,upd H s⁻¹<|.dK<|BV r,I.laid J (Zf _)<|Hd ?_ (beq_eq_false_iff_ne.mpr<|Ne.symm<|Zi I.big) (vh g .nil) G,9,q _<|I.hok.fresh<|Zf _)];let z:=Hf (yj r) [];rw[ZC,F]at z;rw[small<|by ext BV;lia]
noncomputable def JA:J0->3->02 3
 |[],_=>8
 |p::r,t=>match JA r t with
  |some w=>!w
  |none=>if p.1=t then !p.2 else 8
def Hv(r s)(t):JA (r++s) t=match JA s t with|some w=>!w|none=>JA r t:=by
 cases(r)with
 |nil=>grind[JA]
 |cons p r a=>
  grind[List.cons_append,JA]
def Q5  (h:JA r t=!w):%[t|w]∈r:=by
 cases(r)with
 |nil=>simp[JA]at h
 |cons p r a=>
  grind[JA]
theorem Hw  (h:JA r t=8):∀w,%[t|w]∉r:=by
 cases(r)with
 |nil=>simp
 |cons p r a=>
  grind[JA]
def j9(r:J0):4:=(r.map (·.1)).Nodup
def j9.eq (h:j9 r) (c:%[t|v]∈r)(e:%[t|w]∈r):v=w:=by
 cases(r)with
 |nil=>cases c
 |cons p r f=>
  let(j,i):=Jh.mp h;obtain e1|e1:=UY.mp c<;>obtain e2|e2:=UY.mp e
  .grind
  .grind
  .grind
  .rw[f i e1 e2]
def j9.look (h:j9 r) (c:%[t|w]∈r):JA r t=!w:=by
 cases q:JA r t with
 |none=>rw[Zn c<|Hw q w]
 |some v=>rw[h.eq (Q5 q) c,]
def zg(o:J0)(p:3×3):Bool:=match JA o p.1 with
 |some w=>decide (p.2<=w)
 |none=>7
def JL(r o:J0):Bool:=r.all<|zg o
def Hx {i:5} (a:r[i]?=!p)(h:zg o p=7):JL r o=7:=by
 ext JL;rw[List.all_eq_false,];rw[(p,Uf a,by rw[h,];simp)]
def KM{α:Type}{r:List α} {p:α}(a:r[i]?=!p):r.take (i+1)=r.take i++[p]:=by
 rw[VE,a];rfl
open PySem PyProof.Rows
def Hy (h:l<r)(c:r-l<=k-x):∃m,(l+r)/2=m/\l<=m/\m<r/\m-l<=k-(x+1)/\r-(m+1)<=k-(x+1):=by
 let a:l<=(l+r)/2:=()
 let b:(l+r)/2<r:=()
 generalize(l+r)/2=m at a b ⊢;rw[(m,9,a,b,Nat.le_pred_of_lt<|Zg (Nat.sub_lt_sub_right a b) c,Nat.pred_le_pred<|Zh (Nat.sub_le_sub_left a r) c)]
structure Wk(lt:Yc):4 where
 asy:∀i j,lt i j=6->lt j i=7
 neg:∀i j k,lt i k=6->lt i j=6\/lt j k=6
def jQ(lt:Yc)(i j:5):4:=lt i j=6\/lt j i=7/\i<j
section
variable  (W:Wk lt)
include W
theorem jQ.no (h:jQ lt i j):lt j i=7:=by
 obtain h|h:=h
 .rw[W.asy _ _ h]
 .rw[h.1]
theorem jQ.trans (c:jQ lt i j)(e:jQ lt j k):jQ lt i k:=by
 let l:=jQ.no W e;let f:lt k i=7:=by
  cases q:lt k i with
  |false=>rfl
  |true=>
   obtain z|z:=W.neg k j i q
   .ext
   .rw[jQ.no W c]at z;rw[JH z]
 obtain a|a:=c
 .rcases W.neg i k j a with z|z
  .rw[.inl z]
  ext
 .rcases e with b|b
  .rcases W.neg j i k b with z|z
   .ext
   .rw[.inl z]
  .rw[.inr (f,())]
end
noncomputable def gx(a:Yg)(k:5):5:=(a[k]?).getD 0
def Eh  (h:k<a.size):a[k]?=! gx a k:=by
 simp_all[gx]
def Hz  (c:a<b.size)(e:d<=a)(k):gx (bubble b a d) k=if k=a-d then gx b a else if a-d<k/\k<=a then gx b (k-1)else gx b k:=by
 ext gx;rw[getElem?_bubble c d e k,]
 repeat' split
 all_goals rfl
def A8  (b:j<=a.size)(k):gx (mirror a i j<|(j-i)/2) k=if i<=k/\k<j then gx a (i+j-1-k)else gx a k:=by
 ext gx;rw[getElem?_mirror_all b k,]
 split
 all_goals rfl
def RV{α β:Type}(f:α->β)(b:Array α)(i j:5):(b.map f).swapIfInBounds i j=(b.swapIfInBounds i j).map f:=by
 apply Array.ext_getElem?;intro k;cases a:i<b.size
 .cases c:j<b.size
  .rw[getElem?_swapIB (by simpa using a) (by simpa using c),U6,U6,U6,U6,getElem?_swapIB a c]
   repeat' split
   all_goals rfl
  .rw[VY,VY,dif_pos (by simpa using a),dif_neg (by simpa using c),dif_pos a,dif_neg c]
 .rw[VY,VY,dif_neg (by simpa using a),dif_neg a]
theorem Ei{α β γ:Type}(f:α->β)(p q:γ->5):∀(l:List γ)(b:Array α),l.foldl (λa k=>a.swapIfInBounds (p k)<|q k) (b.map f)=(l.foldl (λa k=>a.swapIfInBounds (p k)<|q k) b).map f
 |[],b=>9
 |k::l,b=>by
  rw[Vj,Vj,RV,Ei f p q l]
def RW (f:α->β)(b)(a d):bubble (b.map f) a d=(bubble b a d).map f:=Ei f _ _ _ b
def RX (f:α->β)(a)(i j d):mirror (a.map f) i j d=(mirror a i j d).map f:=Ei f _ _ _ a
structure Pl(n:5)(ix:Yg)(k:5):4 where
 size:ix.size=n
 perm:ix.Perm (Array.range n)
 pre:∀a,a<k->gx ix a<k
 suf:∀a,k<=a->a<n->gx ix a=a
def Pl.lt  (h:Pl n e k)(f:k<=n)(i:a<n):gx e a<n:=by
 cases c:a<k
 .rw[Zg (h.pre a c) f]
 .rwa[h.suf a () i,]
def Up(lt:Yc)(c:Yg)(k:5):4:=∀a b,a<b->b<k->jQ lt (gx c a) (gx c b)
structure SB(it:5->Keyed)(kind:SortKind)(ix:Yg)(st:SortSt):4 where
 arr:arrOf st=ix.map it
 kd:kindOf st=kind
 fl:failedOf st=8
 pd:pendingOf st=#[]
def zb(a:Program)(w:World)(A:Around)(s:Shared)(b:SortKind)(c:5->Keyed)(lt:Yc)(n:5):4:=
 ∀i j,i<n->j<n->∀(E:Ya)(Q:Bool->Yz),Q (lt i j) s->YF a w A (keyLt' b (c i).1 (c j).1) Q E s
end L2
set_option maxHeartbeats 4000000
namespace L2
noncomputable def Xs:Bool->Keyed->Array Keyed->5->5->5->StateT SortSt Sem (02 5):=sortPriv%PySem.Builtin.gallop
def Ej:Array Keyed->Array Keyed->StateT SortSt Sem (Array Keyed):=sortPriv%PySem.Builtin.mergeLo
def Ek:Array Keyed->Array Keyed->StateT SortSt Sem (Array Keyed):=sortPriv%PySem.Builtin.mergeHi
abbrev KA:=Array Keyed
abbrev SM:=StateT SortSt Sem
abbrev C3:=02 (02 5)×5×5
def be(lt:Yc)(left:Bool)(x k:5):Bool:=if left then lt x k else not<|lt k x
section
variable          {st:SortSt}
def A9  (O:zb a w A s b c lt N)(e:kindOf st=b)(f:i<N)(g:j<N)(h:Q (! lt i j) st):YG a w A E s (lt' (c i)<|c j) Q st:=by
 rw[lt'_eq,];rw[Yl<|wpS_get ?_];rw[e,];rw[Yl<|wpS_lift<|wpAny_attempt<|O _ _ f g _ _ (9,Ym h)]
def QJ{a:Yg}  (f:p<a.size)(h:Q (b<|gx a p) st):YG c w A E s (elem' (a.map b) p) Q st:=by
 let e:(a.map b)[p]?=!(b<|gx a p):=by rw[U6,Eh f];rfl
 rw[elem'_eq,e];rw[Ym h]
noncomputable def wi  [Decidable c]{m n:SM α} (h:c->YG a w A E s m Q st)(k:¬c->YG a w A E s n Q st):YG a w A E s (if c then m else n) Q st:=()
noncomputable def nj(left:Bool)(a:Keyed)(e:KA)(c i:5):SM (02 Bool):=elem' e (c+i)>>=λx=>if left=6 then lt' x a else lt' a x>>=λr=>pure<|r.map λb=>not b
noncomputable def gaI(b:5->SM (02 Bool))(lo a:5):SM (ForInStep C3):=if lo ≥ a then pure (.done %[8,lo|a])else b (lo+(a-lo)/2)>>=λr=>match r with
 |some t=>if t=6 then pure (.yield %[8,lo+(a-lo)/2+1|a])else pure (.yield %[8,lo|lo+(a-lo)/2])
 |_=>pure (.done %[!8,lo|a])
noncomputable def fL(b:5->SM (02 Bool))(n lo a:5):SM (02 5):=(forIn [:n] (%[8,lo|a]:C3) λ_ c=>gaI b c.2.1 c.2.2)>>=λc=>match c.1 with
 |some r=>pure r
 |none=>pure !c.2.2
noncomputable def gaF(b:5->SM (02 Bool))(a c l o:5):SM (ForInStep C3):=if o ≥ c then pure (.done %[8,l|o])else b (a+o)>>=λr=>match r with
 |some t=>if(not t)=6 then pure (.done %[8,l|o])else pure (.yield %[8,o|2*o+1])
 |_=>pure (.done %[!8,l|o])
noncomputable def gaG(b:5->SM (02 Bool))(a c l o:5):SM (ForInStep C3):=if o ≥ c then pure (.done %[8,l|o])else b (a-o)>>=λr=>match r with
 |some t=>if t=6 then pure (.done %[8,l|o])else pure (.yield %[8,o|2*o+1])
 |_=>pure (.done %[!8,l|o])
noncomputable def cB(b:5->SM (02 Bool))(n a:5):SM (02 5):=(forIn [:n] (%[8,0|1]:C3) λ_ c=>gaF b a (n-a) c.2.1 c.2.2)>>=λc=>match c.1 with
 |some r=>pure r
 |none=>fL b n (a+c.2.1+1) (a+min c.2.2 (n-a))
noncomputable def cC(b:5->SM (02 Bool))(n a:5):SM (02 5):=(forIn [:n] (%[8,0|1]:C3) λ_ c=>gaG b a (a+1) c.2.1 c.2.2)>>=λc=>match c.1 with
 |some r=>pure r
 |none=>fL b n (a+1-min c.2.2 (a+1)) (a-c.2.1)
set_option smartUnfolding false in
def fJ{left:Bool}{k:Keyed}{a:KA}{b n c:5}:Xs left k a b n c=nj left k a b c>>=λr=>match r with
 |some t=>if t=6 then cB (nj left k a b) n c else cC (nj left k a b) n c
 |_=>pure 8:=rfl
section
variable {P:Nat->Bool}{b:Nat->SM (02 Bool)}  {Q:02 Nat->Yy}(hb:∀{i:Nat} {Q:02 Bool->Yy},i<n->Q (some (P i)) st->YG prog w A E s (b i) Q st)
 (mono:∀i j,i<j->j<n->P j=true->P i=true) (h:∀m,m<=n->(∀i,i<m->P i=true)->(∀i,m<=i->i<n->P i=false)->Q (some m) st)
include hb mono h
theorem fK{lo a:5}(p:lo<=a)(f:a<=n)(t:∀i,i<lo->P i=6)(u:∀i,a<=i->i<n->P i=7):YG prog w A E s (fL b n lo a) Q st:=by
 rw[Yl<|Yn (Yo (I:=λx c o=>o=st/\∃lo a,c=%[8,lo|a]/\lo<=a/\a<=n/\(∀i,i<lo->P i=6)/\(∀i,a<=i->i<n->P i=7)/\a-lo<=n-x) (Q:=λc o=>o=st/\∃m,c=%[8,m|m]/\m<=n/\(∀i,i<m->P i=6)/\∀i,m<=i->i<n->P i=7) ?_ ?_ (9,lo,a,9,p,f,t,u,())) ?_]
 .rintro x c o _ G ⟨rfl,lo,a,rfl,p,f,t,u,g⟩;rw[wi (λc=>?_) λc=>?_]
  .let e:lo=a:=Nat.le_antisymm p c;subst e;rw[Ym (9,lo,9,f,t,u)]
  .let c:lo<a:=Ys c;let(m,em,m0,l):∃m,lo+(a-lo)/2=m/\lo<=m/\m<a:=(_,9,Us _ _,Nat.add_lt_of_lt_sub'<|Nat.div_lt_self (Nat.sub_pos_of_lt c)<|008);let r:a-(m+1)<=n-(x+1):=Nat.pred_le_pred<|Zh (Nat.sub_le_sub_left m0 a) g;let v:m-lo<=n-(x+1):=Nat.le_pred_of_lt<|Zg (Nat.sub_lt_sub_right m0 l) g;show wpS _ _ _ _ (b (lo+(a-lo)/2)>>=_) _ _;rw[em,];rw[Yl<|hb (Zg l f)<|wi (λq=>Ym (9,_,_,9,l,f,λi B=>?_,u,r)) λq=>Ym (9,_,_,9,m0,Zh (Zz l) f,t,λi H C=>?_,v)]
   .cases z:i=m
    .rw[z,];rw[q]
    .rw[mono _ _ () (Zg l f) q]
   .induction y:P i with
    |false=>rfl
    |true=>
     cases z:i=m
     .rw[z]at y;rw[Zn y q]
     .rw[Zn (mono _ _ () C y) q]
 .rintro c o ⟨rfl,lo,a,rfl,p,f,t,u,g⟩;rw[Nat.zero_max,VF]at g;let e:lo=a:=Nat.le_antisymm p<|Nat.le_of_sub_eq_zero<|Nat.le_zero.mp g;subst e;rw[(9,lo,9,f,t,u)]
 .rintro c o ⟨rfl,m,rfl,l,m2,F⟩;rw[Ym<|h m l m2 F]
theorem tE (v:a<n)(e:P a=6):YG prog w A E s (cB b n a) Q st:=by
 rw[Yl<|Yn (Yo (I:=λx c p=>p=st/\∃l o,c=%[8,l|o]/\l<o/\x+1<=o/\a+l<n/\P (a+l)=6) (Q:=λc p=>p=st/\∃l o,c=%[8,l|o]/\l<o/\a+l<n/\P (a+l)=6/\(n-a<=o\/o<n-a/\P (a+o)=7)) ?_ ?_ (9,0,1,9,Yt,Zf _,v,e)) ?_]
 .rintro x c p _ _ ⟨rfl,l,o,rfl,r,B,f,g⟩;rw[wi (λc=>Ym (9,l,o,9,r,f,g,.inl c)) λc=>?_];let C:o<n-a:=Ys c;let F:a+o<n:=Nat.add_lt_of_lt_sub' C;rw[Yl<|hb F<|wi (λq=>Ym (9,l,o,9,r,f,g,.inr (C,by simpa using q))) λq=>Ym (9,o,2*o+1,9,(),(),F,by simpa using q)]
 .rintro c p ⟨rfl,l,o,rfl,r,B,f,g⟩;rw[Nat.zero_max]at B;rw[(9,l,o,9,r,f,g,.inl<|Zh (Vk _ _)<|UE B)]
 .rintro c p ⟨rfl,l,o,rfl,r,f,g,t⟩;show wpS _ _ _ _ (fL b n (a+l+1)<|a+min o (n-a)) _ _;rw[fK hb mono h (Nat.add_lt_add_left (Nat.lt_min.mpr (r,Nat.lt_sub_iff_add_lt'.mpr f)) a) (Zh (VX (Nat.min_le_right _ _) _)<|Yu<|VG<|Zz v) (λi H=>?_) λi u G=>?_]
  .cases z:i=a+l
   .rw[z,];rw[g]
   .rw[mono _ _ () f g]
  .rcases t with t|⟨t,h8⟩
   .rw[VH t,VG (Zz v)]at u;rw[Zn G<|Nat.not_lt_of_le u]
   .rw[Vc (Zz t)]at u
    induction y:P i with
    |false=>rfl
    |true=>
     cases z:i=a+o
     .rw[z,h8]at y;cases y
     .rw[mono _ _ (UK u<|Ne.symm z) G y]at h8;cases h8
theorem tF (u:a<n)(e:P a=7):YG prog w A E s (cC b n a) Q st:=by
 rw[Yl<|Yn (Yo (I:=λx c g=>g=st/\∃l o,c=%[8,l|o]/\l<o/\x+1<=o/\l<=a/\P (a-l)=7) (Q:=λc g=>g=st/\∃l o,c=%[8,l|o]/\l<o/\l<=a/\P (a-l)=7/\(a+1<=o\/o<a+1/\P (a-o)=6)) ?_ ?_ (9,0,1,9,Yt,Zf _,Ub _,e)) ?_]
 .rintro x c g _ _ ⟨rfl,l,o,rfl,p,B,r,f⟩;rw[wi (λc=>Ym (9,l,o,9,p,r,f,.inl c)) λc=>?_];let C:o<a+1:=Ys c;rw[Yl<|hb (U5 (Vk _ _) u)<|wi (λq=>Ym (9,l,o,9,p,r,f,.inr (C,q))) λq=>Ym (9,o,2*o+1,9,(),(),Ut C,Yr.mpr q)]
 .rintro c g ⟨rfl,l,o,rfl,p,B,r,f⟩;rw[Nat.zero_max]at B;rw[(9,l,o,9,p,r,f,.inl<|Zh u<|UE B)]
 .rintro c g ⟨rfl,l,o,rfl,p,r,f,t⟩;show wpS _ _ _ _ (fL b n (a+1-min o (a+1))<|a-l) _ _;rw[fK hb mono h (Zh (Nat.sub_le_sub_left (Nat.lt_min.mpr (p,Nat.lt_succ_of_le r))<|a+1)<|Yu<|Nat.add_sub_add_right a 1 l) (Zh (Vk _ _)<|Zz u) (λi v=>?_) λi H F=>?_]
  .rcases t with t|⟨t,h8⟩
   .rw[VH t,VF]at v;rw[Zn v<|UL _]
   .rw[Vc (Zz t),Nat.succ_sub (Ut t)]at v;let G:a-o<n:=U5 (Vk _ _) u;cases z:i=a-o
    .rwa[z,]
    .rw[mono _ _ (UK (Ut v) z) G h8]
  .cases y:P i with
   |false=>rfl
   |true=>
    cases z:i=a-l
    .rw[z,f]at y;cases y
    .rw[mono _ _ () F y]at f;cases f
end
def Z8     (O:zb b w A s f l lt N)(t:kindOf st=f)(u:k<N)(x:a+n<=c.size)(o:∀i,i<n->gx c (a+i)<N)(p:g<n)
 (mono:∀i j,i<j->j<n->be lt left (gx c<|a+j) k=6->be lt left (gx c<|a+i) k=6)
 (h:∀m,m<=n->(∀i,i<m->be lt left (gx c<|a+i) k=6)->(∀i,m<=i->i<n->be lt left (gx c<|a+i) k=7)->Q (!m) st):YG b w A E s (Xs left (l k) (c.map l) a n g) Q st:=by
 let r:∀{i:5}{Q:02 Bool->Yy},i<n->Q (! be lt left (gx c<|a+i) k) st->YG b w A E s (nj left (l k) (c.map l) a i) Q st:=λv q=>by
  let o:=o _ v;rw[Yl<|QJ () ?_]
  cases(left)with
  |true=>rw[A9 O t o u q]
  |false=>rw[Yl<|A9 O t u o<|Ym q]
 rw[fJ,];rw[Yl<|r p<|wi (λe=>tE r mono h p e) λe=>tF r mono h p<|Yr.mpr e]
end
structure MInv(lt:Yc)(xs ys:Yg)(ia ib:5)(o:Yh):4 where
 a:(o++xs.toList.drop ia).Pairwise (jQ lt)
 b:(o++ys.toList.drop ib).Pairwise (jQ lt)
 pm:(o++xs.toList.drop ia++ys.toList.drop ib).Perm (xs.toList++ys.toList)
def wG(lt:Yc)(a b:Yg)(o:Yh):4:=o.Perm (a.toList++b.toList)/\o.Pairwise (jQ lt)
theorem ZD  (h:i<a.size):a.toList.drop i=gx a i::a.toList.drop (i+1):=by
 rw[Uo (by simpa using h),];ext gx;rw[UF h,];simp
def QY  (h:i<a.size):gx a i∈a.toList:=by
 simp_all[gx]
def HA  (h:x∈a.toList.drop i):∃j,i<=j/\j<a.size/\x=gx a j:=by
 let(j,c,e):=Jx.mp h;let b:i+j<a.size:=by grind
 rw[(i+j,(),b,?_)]
 simp_all[gx]
def MInv.addA (M:MInv lt f n i p o)(u:∀c∈(f.toList.drop i).take k,∀y∈n.toList.drop p,jQ lt c y):MInv lt f n (i+k) p (o++(f.toList.drop i).take k):=by
 let e:f.toList.drop i=(f.toList.drop i).take k++f.toList.drop (i+k):=by rw[<-List.drop_drop,UM]
 let j:=M.a;let l:=M.b;let r:=M.pm;rw[e,<-Ul]at j r;rw[(j,?_,r)];rw[VZ]at j l ⊢;rw[(j.1,l.2.1,λx v y s=>?_)];obtain z|z:=Jb.mp v
 .rw[l.2.2 x z y s]
 .rw[u x z y s]
def MInv.addB (M:MInv lt n f p i o)(s:∀c∈(f.toList.drop i).take k,∀x∈n.toList.drop p,jQ lt c x):MInv lt n f p (i+k) (o++(f.toList.drop i).take k):=by
 let e:f.toList.drop i=(f.toList.drop i).take k++f.toList.drop (i+k):=by rw[<-List.drop_drop,UM]
 let l:=M.a;let j:=M.b;let u:=M.pm;rw[e]at j u;rw[<-Ul]at j;rw[(?_,j,?_)]
 .rw[VZ]at l j ⊢;rw[(j.1,l.2.1,λx v y r=>?_)];obtain z|z:=Jb.mp v
  .rw[l.2.2 x z y r]
  .rw[s x z y r]
 .rw[by grind]
def MInv.doneA(M:MInv lt f c j i o)(h:c.size<=i):wG lt f c (o++f.toList.drop j++c.toList.drop i):=by
 let e:=Vb ();rw[(M.pm,?_)];rw[e,ZA];rw[M.a]
def MInv.doneB(M:MInv lt c e f i o)(h:c.size<=f):wG lt c e (o++c.toList.drop f++e.toList.drop i):=by
 rw[(M.pm,?_)];rw[Vb (),ZA];rw[M.b]
def MInv.last(M:MInv lt c i f j o)(h:f+1=c.size)(l:∀y∈i.toList,jQ lt y (gx c f)):wG lt c i (o++i.toList.drop j++c.toList.drop f):=by
 let e:c.toList.drop f=[gx c f]:=by
  grind[ZD,List.drop_eq_nil_of_le]
 let n:=M.a;let p:=M.b;rw[(VI ?_ M.pm,?_)]
 .grind
 grind
def MInv.one(W:Wk lt)(M:MInv lt i f ia ib o)(j:ib<f.size)(l:ia<i.size)(q:lt (gx f ib) (gx i ia)=6):MInv lt i f ia (ib+1) (o++[gx f ib]):=by
 let e:(f.toList.drop ib).take 1=[gx f ib]:=by rw[ZD j,];rfl
 let:=M.addB λc n x p=>by
  rw[e]at n;rw[Jd.mp n,];let r:=(VZ.mp M.a).2.1;rw[ZD l]at p r;obtain z|z:=UY.mp p
  .rw[z,];rw[.inl q]
  .rw[jQ.trans W (.inl q)<|(Ji.mp r).1 x z]
 ext
def MInv.two(W:Wk lt)(s:∀x∈f.toList,∀y∈j.toList,x<y)(M:MInv lt f j i p o)(l:p<j.size)(n:i<f.size)(q:lt (gx j p) (gx f i)=7):MInv lt f j (i+1) p (o++[gx f i]):=by
 let e:(f.toList.drop i).take 1=[gx f i]:=by rw[ZD n,];rfl
 let r:jQ lt (gx f i) (gx j p):=.inr (q,s _ (QY n) _<|QY l);let:=M.addA λc u y v=>by
  rw[e]at u;rw[Jd.mp u,];let B:=(VZ.mp M.b).2.1;rw[ZD l]at v B;obtain z|z:=UY.mp v
  .rwa[z,]
  .rw[jQ.trans W r<|(Ji.mp B).1 y z]
 ext
noncomputable def ar(a:5->Keyed)(o:Yh):Array Keyed:=(o.map a).toArray
section
variable   {xs ys:Yg}
def HB :(ar a o).push (a x)=ar a (o++[x]):=by simp[ar]
def BX:(xs.map a).extract i j=ar a ((xs.toList.take j).drop i):=by
 apply Vq;simp[ar,List.drop_take]
def BY :ar a o++ar a p=ar a (o++p):=by simp[ar]
def HC:(ar a o).reverse=ar a o.reverse:=by simp[ar]
def BZ :#[a x]=ar a [x]:=by simp[ar]
def bZ:(xs.toList.take<|i+k).drop i=(xs.toList.drop i).take k:=by simp_all[List.drop_take]
def RY:(xs.toList.take xs.size).drop i=xs.toList.drop i:=by rw[Uz (),]
def bo:ar a o++(xs.map a).extract i xs.size++(ys.map a).extract j ys.size=ar a (o++xs.toList.drop i++ys.toList.drop j):=by
 simp_all[BX,RY,BY]
theorem ZE(h:xs.toList.Pairwise R)(b:i<j)(a:j<xs.size):R (gx xs i) (gx xs j):=by
 let:=Jk.mp h i j (by simp;lia) (by simpa using a) b;ext gx;rw[UF (),UF a];simpa using this
def El (h:x∈(xs.toList.drop i).take k):∃j,j<k/\i+j<xs.size/\x=gx xs (i+j):=by
 let(j,a,e):=Jx.mp h;rw[Uq,VJ]at a;let b:i+j<xs.size:=by grind
 rw[(j,(),b,?_)]
 simp_all[gx]
end
structure SEq(s t:SortSt):4 where
 arr:arrOf t=arrOf s
 kd:kindOf t=kindOf s
 fl:failedOf t=failedOf s
 pd:pendingOf t=pendingOf s
theorem SEq.refl(s):SEq s s:=(9,9,9,9)
theorem SEq.trans (h:SEq s t)(k:SEq t u):SEq s u:=(k.arr.trans h.arr,k.kd.trans h.kd,k.fl.trans h.fl,k.pd.trans h.pd)
section
variable     (W:Wk lt)
include W
theorem HD (c:a.toList.Pairwise (jQ lt)) (e:b+n<=a.size):∀i j,i<j->j<n->be lt 7 (gx a<|b+j) k=6->be lt 7 (gx a<|b+i) k=6:=λi j f g h=>by
 let h:(not<|lt k<|gx a<|b+j)=6:=h;show(not<|lt k<|gx a<|b+i)=6
 induction q:lt k (gx a<|b+i)with
 |false=>rfl
 |true=>
  obtain z|z:=W.neg _ (gx a<|b+j) _ q
  .ext
  grind[jQ.no,ZE]
theorem HE (c:a.toList.Pairwise (jQ lt)) (e:b+n<=a.size):∀i j,i<j->j<n->be lt 6 (gx a<|b+j) k=6->be lt 6 (gx a<|b+i) k=6:=λi j f g h=>by
 obtain z|z:=W.neg _ (gx a<|b+i) _ h
 .grind[jQ.no,ZE]
 .rw[z]
theorem MInv.galA(s:∀x∈f.toList,∀y∈e.toList,x<y)(F:e.toList.Pairwise (jQ lt))(M:MInv lt f e n p o)(u:p<e.size)(h:∀i,i<m->be lt 7 (gx f<|n+i) (gx e p)=6):MInv lt f e (n+m) p (o++(f.toList.drop n).take m):=by
 rw[M.addA λc v y z=>?_];let(-j,B,E,rfl):=El v;let(-l,G,H,rfl):=HA z;let q:(not<|lt (gx e p)<|gx f<|n+j)=6:=h j B;let q:lt (gx e p) (gx f<|n+j)=7:=by simpa using q
 let r:jQ lt (gx f<|n+j) (gx e p):=.inr (q,s _ (QY E) _<|QY u)
 grind[jQ.trans,ZE]
theorem MInv.galB(z:e.toList.Pairwise (jQ lt))(M:MInv lt e f n p o)(B:n<e.size)(h:∀i,i<m->be lt 6 (gx f<|p+i) (gx e n)=6):MInv lt e f n (p+m) (o++(f.toList.drop p).take m):=by
 rw[M.addB λc s y u=>?_];let(-j,v,E,rfl):=El s;let(-l,F,G,rfl):=HA u;let r:jQ lt (gx f<|p+j) (gx e n):=.inl<|h j v
 grind[jQ.trans,ZE]
end
section
variable       {it:Nat->Keyed}{lt:Yc}  {st:SortSt}
structure MH(lt:Yc)(N:5)(xs ys:Yg):4 where
 W:Wk lt
 xn:∀x∈xs.toList,x<N
 yn:∀y∈ys.toList,y<N
 hxy:∀x∈xs.toList,∀y∈ys.toList,x<y
 px:xs.toList.Pairwise (jQ lt)
 py:ys.toList.Pairwise (jQ lt)
abbrev G7(α β γ:Type):=02 KA × α × β × γ × 5×5×5
abbrev G6(α β γ:Type):=02 KA × α × β × γ × 5×5
abbrev G5(α β γ:Type):=02 KA × α × β × γ × 5
def Cb:5->SM PUnit:=sortPriv%PySem.Builtin.setMinGallop
def Em   (e:SEq a st)(h:∀b,SEq a b->Q ⟨⟩ b):YG c w A E s (Cb m) Q st:=wpS_modify<|h _<|e.trans (9,9,9,9)
section
variable {α β γ: Type}(n:Nat)(f:Nat -> α -> β -> γ -> Nat->Nat->SM (ForInStep (G6 α β γ)))(k:α -> β -> γ -> Nat->Nat->Nat->SM (ForInStep (G7 α β γ)))
noncomputable def mC(c:G7 α β γ):SM (ForInStep<|G5 α β γ):=match c.1 with
 |some r=>pure (.done %[!r,c.2.1,c.2.2.1,c.2.2.2.1|c.2.2.2.2.1])
 |none=>Cb (c.2.2.2.2.1+1)>>=λ_=>pure<|.yield %[8,c.2.1,c.2.2.1,c.2.2.2.1|c.2.2.2.2.1+1]
noncomputable def m2(x:α)(y:β)(z:γ)(a b c:5):SM (ForInStep<|G7 α β γ):=if a>1 then k x y z b c (a-1)else k x y z b c a
noncomputable def mB(a:5)(c:G6 α β γ):SM (ForInStep<|G5 α β γ):=match c.1 with
 |some r=>pure (.done %[!r,c.2.1,c.2.2.1,c.2.2.2.1|a])
 |none=>(liftM (rule "list.sort.gallop"):SM PUnit)>>=λ_=>(forIn [:n] (%[8,c.2.1,c.2.2.1,c.2.2.2.1,a+1,c.2.2.2.2.1|c.2.2.2.2.2]:G7 α β γ) λ_ c=>m2 k c.2.1 c.2.2.1 c.2.2.2.1 c.2.2.2.2.1 c.2.2.2.2.2.1 c.2.2.2.2.2.2)>>=mC
noncomputable def mA(c:G5 α β γ):SM (ForInStep<|G5 α β γ):=
 (forIn [:n] (%[8,c.2.1,c.2.2.1,c.2.2.2.1,0|0]:G6 α β γ) λ_ d=>f c.2.2.2.2 d.2.1 d.2.2.1 d.2.2.2.1 d.2.2.2.2.1 d.2.2.2.2.2)>>=mB n k c.2.2.2.2
noncomputable def mT(x:α)(y:β)(z:γ):SM KA:=get>>=λs=>(forIn [:n] (%[8,x,y,z|gallopOf s]:G5 α β γ) λ_ c=>mA n f k c)>>=λc=>match c.1 with
 |some r=>pure r
 |none=>liftM (unsupported "internal:list.sort.merge-bound")
variable {n f k}{P:Nat -> α -> β -> γ -> Prop}
structure MR(P:α->β->γ->4)(D:KA->4)(st0:SortSt)(R:ForInStep (G7 α β γ)->Yy):4 where
 dn:∀{v t sy},SEq st0 sy->D v->R (.done %[!v|t]) sy
 go:∀{x y z mg ac bc sy},SEq st0 sy->P x y z->R (.done %[8,x,y,z,mg,ac|bc]) sy/\R (.yield %[8,x,y,z,mg,ac|bc]) sy
def m_2     (h:∀b,YG a w A E s (k x y z c e b) R st):YG a w A E s (m2 k x y z b c e) R st:=wi (λ_=>h _) λ_=>h _
def cw    (C:kindOf st=q)(F:P 1 x y z)(u:∀{g x y z},P g x y z->1<=n/\g<=n)(le:∀{g B x y z},P g x y z->B<=g->P B x y z)
 (G:∀{g r x y z m o st}{R:ForInStep (G6 α β γ)->Yy},kindOf st=q->P g x y z->(∀{v t},D v->R (.done %[!v|t]) st)->(∀{x y z m o},P (g+1) x y z->R (.done %[8,x,y,z,m|o]) st/\R (.yield %[8,x,y,z,m|o]) st)->YG j w A E s (f r x y z m o) R st)
 (H:∀{g x y z m o r i R},MR (P g) D st R->SEq st i->P g x y z->YG j w A E s (k x y z m o r) R i)
 (h:∀{v i},SEq st i->D v->Q v i):YG j w A E s (mT n f k x y z) Q st:=by
 rw[Yl<|wpS_get<|Yl<|Yn (Yo (I:=λg c l=>SEq st l/\c.1=8/\P (g+1) c.2.1 c.2.2.1 c.2.2.2.1) (Q:=λc l=>SEq st l/\∃v,D v/\c.1=!v) ?_ ?_ (.refl _,9,F)) ?_]
 .intro g c l _ _;rw[j8 λa _ p=>?_];rw[Yl<|Yn (Yo (I:=λy c b=>b=l/\c.1=8/\P (g+1+y) c.2.1 c.2.2.1 c.2.2.2.1) (Q:=λc b=>b=l/\((∃v,D v/\c.1=!v)\/c.1=8/\P (g+2) c.2.1 c.2.2.1 c.2.2.2.1)) ?_ ?_ (9,9,p)) ?_]
  .rintro y c b _ _ ⟨rfl,_,p⟩;rw[G (a.kd.trans C) p (λd=>(9,.inl (_,d,9))) λp=>((9,.inr (9,le p ())),9,9,p)]
  .rintro c b ⟨rfl,e,p⟩;rw[(9,.inr (e,le p<|by let:=(u p).1;lia))]
  .rintro c b ⟨rfl,⟨v,d,e⟩|⟨e,p⟩⟩
   .ext mB;rw[e,];rw[Ym (a,v,d,9)]
   .ext mB;rw[e,];rw[Yl<|wpS_lift<|wpAny_rule (9,?_)];rw[Yl<|Yn (Yo (I:=λ_ c b=>SEq st b/\c.1=8/\P (g+2) c.2.1 c.2.2.1 c.2.2.2.1) (Q:=λc b=>SEq st b/\((∃v,D v/\c.1=!v)\/c.1=8/\P (g+2) c.2.1 c.2.2.1 c.2.2.2.1)) ?_ (λc b h=>(h.1,.inr h.2)) (a,9,p)) ?_]
    .intro y c b _ _;rw[j8 λa _ p=>?_];rw[m_2 λ_=>H (λa d=>(a,.inl (_,d,9)),λa p=>((a,.inr (9,p)),a,9,p)) a p]
    .rintro c b ⟨a,⟨v,d,e⟩|⟨e,p⟩⟩
     .ext mC;rw[e,];rw[Ym (a,v,d,9)]
     .ext mC;rw[e,];rw[Yl<|Em a λb a=>Ym (a,9,p)]
 .rintro c l ⟨_,_,p⟩;let:=(u p).2;lia
 .rintro c l ⟨a,v,d,e⟩;rw[e,];rw[Ym<|h a d]
end
theorem sz{a:Yg}:(a.map it).size=a.size:=Uu
def bz{a:Yg} (h:(p==(a.map it).size)=6):p=a.size:=(Yp.mp h).trans sz
def nz{a:Yg} (h:¬(p==(a.map it).size)=6):p≠a.size:=()
def uw{v:KA}  (e:v=ar it o):v.push (it x)=ar it (o++[x]):=by rw[e,HB]
def va{a:Yg}{v:KA}  (e:v=ar it o):v++(a.map it).extract i (i+k)=ar it (o++(a.toList.drop i).take k):=by rw[e,BX,bZ,BY]
def MD(lt:Yc)(it:5->Keyed)(a b:Yg)(v:KA):4:=∃o,wG lt a b o/\v=ar it o
abbrev L7:=G7 KA 5 5
def vu(a b o:KA)(i j:5):KA:=o++a.extract i a.size++b.extract j b.size
noncomputable def kh(a b o:KA)(i j:5):KA:=o++b.extract j b.size++a.extract i a.size
noncomputable def tq(a b:KA)(f c e i:5)(o:KA)(j:5):SM (ForInStep L7):=
 elem' a i>>=λx=>if(i+1+1==a.size)=6 then pure (.done %[! kh a b (o.push x) (i+1) j,o.push x,i+1,j,f,c|e])
  else if(decide (c<07)&&decide (e<07))=6 then pure (.done %[8,o.push x,i+1,j,f,c|e])else pure (.yield %[8,o.push x,i+1,j,f,c|e])
noncomputable def cx(a b:KA)(c e i:5)(o:KA)(j k:5):SM (ForInStep L7):=
 if k>0 then if(j+k==b.size)=6 then pure (.done %[!(vu a b (o++b.extract j (j+k)) i<|j+k),o++b.extract j (j+k),i,j+k,c,e|k])
  else tq a b c e k i (o++b.extract j (j+k)) (j+k)else tq a b c e k i o j
noncomputable def tu(a b:KA)(c e f j:5)(o:KA)(i:5):SM (ForInStep L7):=
 elem' b j>>=λx=>if(j+1==b.size)=6 then pure (.done %[!(vu a b (o.push x) i<|j+1),o.push x,i,j+1,c,e|f])
  else elem' a i>>=λy=>Xs 6 y b (j+1) (b.size-(j+1)) 0>>=λr=>match r with
   |some k=>cx a b c e i (o.push x) (j+1) k
   |_=>pure (.done %[!(vu a b (o.push x) i<|j+1),o.push x,i,j+1,c,e|f])
noncomputable def lo4(a b:KA)(c j:5)(o:KA)(i e k:5):SM (ForInStep L7):=
 if k>0 then if(i+k+1==a.size)=6 then pure (.done %[! kh a b (o++a.extract i (i+k)) (i+k) j,o++a.extract i (i+k),i+k,j,e,k|c])
  else if(i+k==a.size)=6 then pure (.done %[! vu a b (o++a.extract i (i+k)) (i+k) j,o++a.extract i (i+k),i+k,j,e,k|c])
  else tu a b e k c j (o++a.extract i (i+k)) (i+k)else tu a b e k c j o i
noncomputable def cy(a b o:KA)(i j f e c:5):SM (ForInStep L7):=
 Cb c>>=λ_=>elem' b j>>=λx=>Xs 7 x a i (a.size-i) 0>>=λr=>match r with
  |some k=>lo4 a b e j o i c k
  |_=>pure (.done %[! vu a b o i j,o,i,j,c,f|e])
noncomputable def vv(a b:KA)(f:5)(o:KA)(i j c e:5):SM (ForInStep<|G6 KA 5 5):=
 elem' b j>>=λx=>elem' a i>>=λy=>lt' x y>>=λr=>match r with
  |some t=>if t=6 then elem' b j>>=λx=>if(j+1==b.size)=6 then pure (.done %[!(vu a b (o.push x) i<|j+1),o.push x,i,j+1,0|e+1])
   else if e+1 ≥ f then pure (.done %[8,o.push x,i,j+1,0|e+1])else pure (.yield %[8,o.push x,i,j+1,0|e+1])
   else elem' a i>>=λx=>if(i+1+1==a.size)=6 then pure (.done %[! kh a b (o.push x) (i+1) j,o.push x,i+1,j,c+1|0])
    else if c+1 ≥ f then pure (.done %[8,o.push x,i+1,j,c+1|0])else pure (.yield %[8,o.push x,i+1,j,c+1|0])
  |_=>pure (.done %[! vu a b o i j,o,i,j,c|e])
set_option smartUnfolding false in
noncomputable def fu{a b:KA}:Ej a b=(liftM (rule "list.sort.merge-lo"):SM PUnit)>>=λ_=>elem' b 0>>=λx=>if(1==b.size)=6 then pure (vu a b #[x] 0 1)else if(0+1==a.size)=6 then pure (kh a b #[x] 0 1)
 else mT (a.size+b.size) (vv a b) (cy a b) #[x] 0 1:=rfl
end
structure LI(lt:Yc)(xs ys:Yg)(g i j:5)(o:Yh):4 where
 M:MInv lt xs ys i j o
 a:i+1<xs.size
 b:j<ys.size
 g:g<=i+j
def LP(lt:Yc)(a:5->Keyed)(b c:Yg)(g:5)(v:KA)(i j:5):4:=∃o,LI lt b c g i j o/\v=ar a o
section
variable          {st st0:SortSt}{xs ys:Yg}   {v:KA}{R:ForInStep L7->Yy}
def AA(e:v=ar a o):vu (xs.map a) (ys.map a) v i j=ar a (o++xs.toList.drop i++ys.toList.drop j):=by
 ext vu;rw[sz,sz,e,bo]
def Cc(e:v=ar a o):kh (xs.map a) (ys.map a) v i j=ar a (o++ys.toList.drop j++xs.toList.drop i):=by
 ext kh;rw[sz,sz,e,bo]
variable (lst:∀y∈ys.toList,jQ lt y (gx xs (xs.size-1)))
include lst
theorem mZ(M:MInv lt xs ys i j o)(z:i+1=xs.size):wG lt xs ys (o++ys.toList.drop j++xs.toList.drop i):=M.last z ()
variable (H:MH lt N xs ys)(L:LI lt xs ys g i j o)(e:v=ar it o)
include H L e
section
variable (C:MR (LP lt it xs ys g) (MD lt it xs ys) st0 R)(se:SEq st0 st)
include C se
theorem fw(q:lt (gx ys j) (gx xs i)=7):YG b w A E s (tq (xs.map it) (ys.map it) mg ac bc i v j) R st:=by
 let a:=U7 L.a;rw[Yl<|QJ a ?_];let M2:=L.M.two H.W H.hxy L.b a q;rw[wi (λz=>Ym<|C.dn se (_,mZ lst M2<|bz z,Cc<|uw e)) λz=>?_];let c:=C.go (mg:=mg) (ac:=ac) (bc:=bc) se (_,(M2,UK L.a<|nz z,L.b,by let:=L.g;lia),uw e);rw[wi (λ_=>Ym c.1) λ_=>Ym c.2]
theorem tj(h:j+k<=ys.size)(l:∀m,m<k->be lt 6 (gx ys<|j+m) (gx xs i)=6)(q:j+k<ys.size->lt (gx ys<|j+k) (gx xs i)=7):YG a w A E s (cx (xs.map it) (ys.map it) p r i v j k) R st:=by
 rw[wi (λc=>?_) λc=>?_]
 .let f:=L.M.galB H.W H.px (U7 L.a) l;rw[wi (λz=>Ym<|C.dn se (_,f.doneA<|Yu (bz z).symm,AA<|va e)) λz=>?_];let b:=UK h<|nz z;rw[fw lst H (f,L.a,b,by let:=L.g;lia) (va e) C se<|q b]
 .let n:=V0 c;subst n;rw[fw lst H L e C se<|q L.b]
variable (O:zb prog w A s kind it lt N)(kd:kindOf st0=kind)
include O kd
theorem fy(q:lt (gx ys j) (gx xs i)=6):YG prog w A E s (tu (xs.map it) (ys.map it) l m n j v i) R st:=by
 let a:=U7 L.a;rw[Yl<|QJ L.b ?_];let c:=L.M.one H.W L.b a q;rw[wi (λz=>Ym<|C.dn se (_,c.doneA<|Yu (bz z).symm,AA<|uw e)) λz=>?_];let b:j+1<ys.size:=UK L.b<|nz z;let z:(ys.map it).size=ys.size:=sz;rw[Yl<|QJ a<|Yl<|Z8 O (se.kd.trans kd) (H.xn _<|QY a) () (λi p=>H.yn _<|QY ()) () (HE H.W H.py ()) λk r f h=>?_];rw[tj lst H (c,L.a,b,by let:=L.g;lia) (uw e) C se () f λy=>h k (Zf _) ()]
theorem tm:YG prog w A E s (cy (xs.map it) (ys.map it) v i j n p r) R st:=by
 let a:=L.a;let z:(xs.map it).size=xs.size:=sz;rw[Yl<|Em se λst se=>Yl<|QJ L.b<|Yl<|Z8 O (se.kd.trans kd) (H.yn _<|QY L.b) () (λi t=>H.xn _<|QY ()) () (HD H.W H.px ()) λk u h l=>?_];let q:i+k<xs.size->lt (gx ys j) (gx xs<|i+k)=6:=λx=>by
  let:(not<|lt (gx ys j)<|gx xs<|i+k)=7:=l k (Zf _) ();simpa using this
 rw[wi (λb=>?_) λb=>?_]
 .let M2:=L.M.galA H.W H.hxy H.py L.b h;rw[wi (λz=>Ym<|C.dn se (_,mZ lst M2<|bz z,Cc<|va e)) λc=>wi (λz=>Ym<|C.dn se (_,M2.doneB<|Yu (bz z).symm,AA<|va e)) λf=>?_];let c:=nz c;let f:=nz f;rw[fy lst H (M2,(),L.b,by let:=L.g;lia) (va e) C se O kd<|q ()]
 .let m:k=0:=V0 b;subst m;rw[fy lst H L e C se O kd<|q<|U7 a]
end
theorem to{R:ForInStep (G6 KA 5 5)->Yy}(O:zb b w A s c it lt N)(l:kindOf st=c)(h:∀{v t},MD lt it xs ys v->R (.done %[!v|t]) st)(go:∀{v i j ac bc},LP lt it xs ys (g+1) v i j->R (.done %[8,v,i,j,ac|bc]) st/\R (.yield %[8,v,i,j,ac|bc]) st):
 YG b w A E s (vv (xs.map it) (ys.map it) m v i j ac bc) R st:=by
 let a:=U7 L.a;rw[Yl<|QJ L.b<|Yl<|QJ a<|Yl<|A9 O l (H.yn _<|QY L.b) (H.xn _<|QY a)<|wi (λq=>Yl<|QJ L.b ?_) λq=>Yl<|QJ a ?_]
 .let M2:=L.M.one H.W L.b a q;rw[wi (λz=>Ym<|h (_,M2.doneA (),AA<|uw e)) λz=>?_];let f:=go (ac:=0) (bc:=bc+1) (_,(M2,L.a,UK L.b<|nz z,VL L.g),uw e);rw[wi (λ_=>Ym f.1) λ_=>Ym f.2]
 .let M2:=L.M.two H.W H.hxy L.b a ();rw[wi (λz=>Ym<|h (_,mZ lst M2<|bz z,Cc<|uw e)) λz=>?_];let f:=go (ac:=ac+1) (bc:=0) (_,(M2,UK L.a<|nz z,L.b,by let:=L.g;lia),uw e);rw[wi (λ_=>Ym f.1) λ_=>Ym f.2]
end
section
variable          {st:SortSt}
def RZ (H:MH lt N b a)(O:zb f w A s g c lt N)(j:kindOf st=g)(t:1<=b.size)(p:1<=a.size)(l:lt (gx a 0) (gx b 0)=6)(lst:∀y∈a.toList,jQ lt y (gx b<|b.size-1))
 (h:∀o i,SEq st i->wG lt b a o->Q (ar c o) i):YG f w A E s (Ej (b.map c)<|a.map c) Q st:=by
 let M1:MInv lt b a 0 1 [gx a 0]:=MInv.one (o:=[]) (ia:=0) (ib:=0) H.W (H.px,H.py,VM _) p t l;rw[fu,];rw[Yl<|wpS_lift<|wpAny_rule (9,Yl<|QJ p ?_)];rw[wi (λz=>?_) λq=>wi (λz=>?_) λr=>?_]
 .rw[AA BZ,];rw[Ym<|h _ _ (.refl _)<|M1.doneA<|Yu (bz z).symm]
 .rw[Cc BZ,];rw[Ym<|h _ _ (.refl _)<|mZ lst M1<|bz z]
 let q:=nz q;let r:=nz r;let u:LI lt b a 1 0 1 [gx a 0]:=(M1,(),(),());let x:(b.map c).size=b.size:=sz;let B:(a.map c).size=a.size:=sz;rw[cw (P:=LP lt c b a) (D:=MD lt c b a) j (_,u,BZ) λv=>by
  let(-_,L,_):=v;let:=L.a;let:=L.b;let:=L.g;lia (λ(o,L,e)h=>(o,(L.M,L.a,L.b,Zh h L.g),e)) (λj(_,L,e)dn go=>to lst H L e O j dn go) (λC n(_,L,e)=>tm lst H L e C n O j) λn(o,m,e)=>by rw[e,];rw[h o _ n m]]
end
structure MInvH(lt:Yc)(xs ys:Yg)(na nb:5)(o:Yh):4 where
 a:(xs.toList.take na++o).Pairwise (jQ lt)
 b:(ys.toList.take nb++o).Pairwise (jQ lt)
 pm:(xs.toList.take na++ys.toList.take nb++o).Perm (xs.toList++ys.toList)
section
variable   {xs ys:Yg}
def Sa :(ar a o.reverse).push (a x)=ar a (x::o).reverse:=by rw[HB,VD]
def Sb :ar a o.reverse++(ar a p).reverse=ar a (p++o).reverse:=by rw[HC,BY,List.reverse_append]
def tJ:(xs.map a).extract 0 i++(ys.map a).extract 0 j++(ar a o.reverse).reverse=ar a (xs.toList.take i++ys.toList.take j++o):=by
 simp_all[BX,HC,BY]
def HF(h:i<=j):xs.toList.take j=xs.toList.take i++(xs.toList.take j).drop i:=by
 grind[List.take_append_drop]
def En (h:x∈(xs.toList.take j).drop i):∃l,i<=l/\l<j/\l<xs.size/\x=gx xs l:=by
 let(m,a,e):=Jx.mp h;rw[VJ,Uq]at a;let b:i+m<xs.size:=by grind
 rw[(i+m,(),(),b,?_)]
 simp_all[gx]
def Eo(h:j<=xs.size)(a:1<=j):(xs.toList.take j).drop (j-1)=[gx xs (j-1)]:=by
 grind[List.drop_take,ZD]
def HG (h:x∈xs.toList.take j):∃l,l<j/\l<xs.size/\x=gx xs l:=xa (En (i:=0) ()) λl=>xb λ_ a b c=>(l,a,b,c)
end
section
def MInvH.addA(M:MInvH lt f l i nb o)(p:m<=i)(r:∀c∈(f.toList.take i).drop m,∀y∈l.toList.take nb,jQ lt y c):MInvH lt f l m nb ((f.toList.take i).drop m++o):=by
 let e:=M.a;let j:=M.b;let s:=M.pm;rw[HF p]at e s;rw[Ul]at e;rw[(e,?_,?_)]
 .rw[VZ]at e j ⊢;rw[(j.1,e.2.1,λy n x u=>?_)];obtain z|z:=Jb.mp u
  .rw[r x z y n]
  .rw[j.2.2 y n x z]
 grind
def MInvH.addB(M:MInvH lt j f l nb o)(p:m<=nb)(r:∀c∈(f.toList.take nb).drop m,∀x∈j.toList.take l,jQ lt x c):MInvH lt j f l m ((f.toList.take nb).drop m++o):=by
 let i:=M.a;let e:=M.b;let s:=M.pm;rw[HF p]at e s;rw[Ul]at e;rw[(?_,e,?_)]
 .rw[VZ]at i e ⊢;rw[(i.1,e.2.1,λy n x u=>?_)];obtain z|z:=Jb.mp u
  .rw[r x z y n]
  .rw[i.2.2 y n x z]
 ext
def MInvH.doneA(M:MInvH lt c e f nb o)(h:f=0):wG lt c e (c.toList.take f++e.toList.take nb++o):=by
 rw[(M.pm,?_)];rw[h,List.take_zero,List.nil_append];rw[M.b]
def MInvH.doneB(M:MInvH lt c e f nb o)(h:nb=0):wG lt c e (c.toList.take f++e.toList.take nb++o):=by
 rw[(M.pm,?_)];rw[h,List.take_zero,ZA];rw[M.a]
def MInvH.first(M:MInvH lt f c i nb o)(h:nb=1)(j:1<=c.size)(l:∀x∈f.toList,jQ lt (gx c 0) x):wG lt f c (c.toList.take nb++f.toList.take i++o):=by
 let n:=M.a;let p:=M.b;let e:c.toList.take 1=[gx c 0]:=by
  let:=Eo j<|Zf _
  ext
 rw[(VI () M.pm,?_)]
 grind
variable (W:Wk lt)
include W
theorem MInvH.galA(B:e.toList.Pairwise (jQ lt))(M:MInvH lt f e n nb o)(p:m<=n)(E:1<=nb)(F:nb<=e.size)(h:∀i,m<=i->i<n->lt (gx e<|nb-1) (gx f i)=6):MInvH lt f e m nb ((f.toList.take n).drop m++o):=by
 rw[M.addA p λc s y u=>?_];let(-j,v,z,G,rfl):=En s;let(-l,H,I,rfl):=HG u;let r:jQ lt (gx e<|nb-1) (gx f j):=.inl<|h j v z
 grind[jQ.trans,ZE]
theorem MInvH.galB(p:∀x∈e.toList,∀y∈f.toList,x<y)(F:e.toList.Pairwise (jQ lt))(M:MInvH lt e f n nb o)(s:m<=nb)(G:1<=n)(H:n<=e.size)(h:∀i,m<=i->i<nb->lt (gx f i) (gx e<|n-1)=7):MInvH lt e f n m ((f.toList.take nb).drop m++o):=by
 rw[M.addB s λc u x v=>?_];let(-j,z,B,E,rfl):=En u;let(-l,I,J,rfl):=HG v;let r:jQ lt (gx e<|n-1) (gx f j):=.inr (h j z B,p _ (QY ()) _<|QY E)
 grind[jQ.trans,ZE]
theorem MInvH.one(f:c.toList.Pairwise (jQ lt))(M:MInvH lt e c na nb o)(i:1<=na)(j:na<=e.size)(l:1<=nb)(n:nb<=c.size)(q:lt (gx c<|nb-1) (gx e<|na-1)=6):MInvH lt e c (na-1) nb (gx e (na-1)::o):=by
 let:=M.galA (m:=na-1) W f () l n ()
 rwa[Eo j i]at this
theorem MInvH.two(i:∀x∈c.toList,∀y∈e.toList,x<y)(j:c.toList.Pairwise (jQ lt))(M:MInvH lt c e f nb o)(l:1<=f)(n:f<=c.size)(p:1<=nb)(r:nb<=e.size)(q:lt (gx e<|nb-1) (gx c<|f-1)=7):MInvH lt c e f (nb-1) (gx e (nb-1)::o):=by
 let:=M.galB (m:=nb-1) W i j () l n ()
 rwa[Eo r p]at this
end
abbrev H7:=G7 5 5 KA
noncomputable def zU(a b:KA)(i j:5)(o:KA):KA:=a.extract 0 i++b.extract 0 j++o.reverse
noncomputable def t9(a b:KA)(f c e i j:5)(o:KA):SM (ForInStep H7):=
 elem' a (i-1)>>=λx=>if(i-1==0)=6 then pure (.done %[!(zU a b (i-1) j<|o.push x),i-1,j,o.push x,f,c|e])
  else if(decide (c<07)&&decide (e<07))=6 then pure (.done %[8,i-1,j,o.push x,f,c|e])else pure (.yield %[8,i-1,j,o.push x,f,c|e])
noncomputable def c8(a b:KA)(c e i j:5)(o:KA)(t:5):SM (ForInStep H7):=
 if j-t>0 then if(t==1)=6 then pure (.done %[!(zU b a t i<|o++(b.extract t j).reverse),i,t,o++(b.extract t j).reverse,c,e|j-t])
  else if(t==0)=6 then pure (.done %[!(zU a b i t<|o++(b.extract t j).reverse),i,t,o++(b.extract t j).reverse,c,e|j-t])
  else t9 a b c e (j-t) i t (o++(b.extract t j).reverse)else t9 a b c e (j-t) i j o
noncomputable def tA(a b:KA)(c e f j i:5)(o:KA):SM (ForInStep H7):=
 elem' b (j-1)>>=λx=>if(j-1==1)=6 then pure (.done %[!(zU b a (j-1) i<|o.push x),i,j-1,o.push x,c,e|f])
  else elem' a (i-1)>>=λy=>Xs 6 y b 0 (j-1) (j-1-1)>>=λr=>match r with
   |some t=>c8 a b c e i (j-1) (o.push x) t
   |_=>pure (.done %[!(zU a b i (j-1)<|o.push x),i,j-1,o.push x,c,e|f])
noncomputable def hi4(a b:KA)(c j i:5)(o:KA)(e t:5):SM (ForInStep H7):=
 if i-t>0 then if(t==0)=6 then pure (.done %[!(zU a b t j<|o++(a.extract t i).reverse),t,j,o++(a.extract t i).reverse,e,i-t|c])
  else tA a b e (i-t) c j t (o++(a.extract t i).reverse)else tA a b e (i-t) c j i o
noncomputable def c9(a b:KA)(i j:5)(o:KA)(f e c:5):SM (ForInStep H7):=
 Cb c>>=λ_=>elem' b (j-1)>>=λx=>Xs 7 x a 0 i (i-1)>>=λr=>match r with
  |some t=>hi4 a b e j i o c t
  |_=>pure (.done %[! zU a b i j o,i,j,o,c,f|e])
noncomputable def cA(a b:KA)(f i j:5)(o:KA)(c e:5):SM (ForInStep<|G6 5 5 KA):=
 elem' b (j-1)>>=λx=>elem' a (i-1)>>=λy=>lt' x y>>=λr=>match r with
  |some t=>if t=6 then elem' a (i-1)>>=λx=>if(i-1==0)=6 then pure (.done %[!(zU a b (i-1) j<|o.push x),i-1,j,o.push x,c+1|0])
   else if c+1 ≥ f then pure (.done %[8,i-1,j,o.push x,c+1|0])else pure (.yield %[8,i-1,j,o.push x,c+1|0])
   else elem' b (j-1)>>=λx=>if(j-1==1)=6 then pure (.done %[!(zU b a (j-1) i<|o.push x),i,j-1,o.push x,0|e+1])
    else if e+1 ≥ f then pure (.done %[8,i,j-1,o.push x,0|e+1])else pure (.yield %[8,i,j-1,o.push x,0|e+1])
  |_=>pure (.done %[! zU a b i j o,i,j,o,c|e])
set_option smartUnfolding false in
noncomputable def fE{a b:KA}:Ek a b=(liftM (rule "list.sort.merge-hi"):SM PUnit)>>=λ_=>elem' a (a.size-1)>>=λx=>if(a.size-1==0)=6 then pure (zU a b (a.size-1) b.size #[x])else if(b.size==1)=6 then pure (zU b a b.size (a.size-1) #[x])
 else mT (a.size+b.size) (cA a b) (c9 a b) (a.size-1) b.size #[x]:=rfl
structure HI(lt:Yc)(xs ys:Yg)(g i j:5)(o:Yh):4 where
 M:MInvH lt xs ys i j o
 a:1<=i
 b:2<=j
 ax:i<=xs.size
 bx:j<=ys.size
 g:g+i+j<=xs.size+ys.size
def HL(lt:Yc)(a:5->Keyed)(b c:Yg)(g i j:5)(v:KA):4:=∃o,HI lt b c g i j o/\v=ar a o.reverse
section
variable          {st st0:SortSt}{xs ys:Yg}   {v:KA}{R:ForInStep H7->Yy}
def WS(e:v=ar a o.reverse):zU (xs.map a) (ys.map a) i j v=ar a (xs.toList.take i++ys.toList.take j++o):=by
 ext zU;rw[e,tJ]
def zy (e:v=ar a o.reverse):v.push (a x)=ar a (x::o).reverse:=by rw[e,Sa]
def vb(e:v=ar a o.reverse):v++((xs.map a).extract t i).reverse=ar a ((xs.toList.take i).drop t++o).reverse:=by rw[e,BX,Sb]
variable (fst:∀x∈xs.toList,jQ lt (gx ys 0) x)(H:MH lt N xs ys)(L:HI lt xs ys g i j o)(e:v=ar it o.reverse)
include fst H L e
section
variable (C:MR (HL lt it xs ys g) (MD lt it xs ys) st0 R)(se:SEq st0 st)
include C se
theorem fF(q:lt (gx ys<|j-1) (gx xs<|i-1)=6):YG b w A E s (t9 (xs.map it) (ys.map it) mg ac bc i j v) R st:=by
 let a:=L.a;let c:=L.ax;rw[Yl<|QJ () ?_];let M2:=L.M.one H.W H.py a c (UE L.b) L.bx q;rw[wi (λz=>Ym<|C.dn se (_,M2.doneA<|Yp.mp z,WS<|zy e)) λz=>?_];let f:=C.go (mg:=mg) (ac:=ac) (bc:=bc) se (_,(M2,V1 λy=>z<|Yp.mpr y,L.b,(),L.bx,by let:=L.g;lia),zy e);rw[wi (λ_=>Ym f.1) λ_=>Ym f.2]
theorem t6(f:t<=j)(r:∀m,t<=m->m<j->lt (gx ys m) (gx xs<|i-1)=7)(q:1<=t->lt (gx ys<|t-1) (gx xs<|i-1)=6):YG h w A E s (c8 (xs.map it) (ys.map it) F G i j v t) R st:=by
 let b:=L.b;let c:=L.bx;rw[wi (λu=>?_) λu=>?_]
 .let a:=L.M.galB H.W H.hxy H.px f L.a L.ax r;rw[wi (λz=>Ym<|C.dn se (_,a.first (Yp.mp z) () fst,WS<|vb e)) λl=>wi (λz=>Ym<|C.dn se (_,a.doneB<|Yp.mp z,WS<|vb e)) λn=>?_];let p:2<=t:=by
   let l:t≠1:=λy=>l<|Yp.mpr y;let n:t≠0:=λy=>n<|Yp.mpr y;lia
  rw[fF fst H (a,L.a,p,L.ax,Zh f c,by let:=L.g;lia) (vb e) C se<|q<|UE p]
 .let B:t=j:=()
  subst B;rw[fF fst H L e C se<|q<|UE b]
variable (O:zb prog w A s kind it lt N)(kd:kindOf st0=kind)
include O kd
theorem fG(q:lt (gx ys<|j-1) (gx xs<|i-1)=7):YG prog w A E s (tA (xs.map it) (ys.map it) r u B j i v) R st:=by
 let a:=L.a;let b:=L.b;let c:=L.bx;let f:=L.ax;rw[Yl<|QJ () ?_];let h:=L.M.two H.W H.hxy H.px a f (UE b) c q;rw[wi (λz=>Ym<|C.dn se (_,h.first (Yp.mp z) () fst,WS<|zy e)) λz=>?_];let z:j-1≠1:=λy=>z<|Yp.mpr y;let p:i-1<xs.size:=()
 rw[Yl<|QJ p<|Yl<|Z8 O (se.kd.trans kd) (H.xn _<|QY p) () (λi F=>H.yn _<|QY ()) () (HE H.W H.py ()) λt n l m=>?_];simp at l m;rw[t6 fst H (h,a,(),f,(),by let:=L.g;lia) (zy e) C se n m λy=>l (t-1)<|Nat.sub_lt y Yt]
theorem t7:YG prog w A E s (c9 (xs.map it) (ys.map it) i j v I J M) R st:=by
 let a:=L.a;let b:=L.b;let c:=L.bx;let n:=L.ax;let p:j-1<ys.size:=()
 rw[Yl<|Em se λst se=>Yl<|QJ p<|Yl<|Z8 O (se.kd.trans kd) (H.yn _<|QY p) () (λi P=>H.xn _<|QY ()) () (HD H.W H.px ()) λt f h l=>?_];simp at h l;let q:=λr=>by
  let:(not<|lt (gx ys<|j-1)<|gx xs<|t-1)=6:=h (t-1)<|Nat.sub_lt r Yt;simpa using this
 rw[wi (λu=>?_) λu=>?_]
 .let M2:=L.M.galA H.W H.py f (UE b) c λi B F=>by
   let:(not<|lt (gx ys<|j-1)<|gx xs i)=7:=l i B F;simpa using this
  rw[wi (λz=>Ym<|C.dn se (_,M2.doneA<|Yp.mp z,WS<|vb e)) λz=>?_];let m:=V1 λy=>z<|Yp.mpr y;rw[fG fst H (M2,m,b,Zh f n,c,by let:=L.g;lia) (vb e) C se O kd<|q m]
 .let G:t=i:=()
  subst G;rw[fG fst H L e C se O kd<|q a]
end
theorem t8{R:ForInStep (G6 5 5 KA)->Yy}(O:zb f w A s h it lt N)(u:kindOf st=h)(r:∀{v t},MD lt it xs ys v->R (.done %[!v|t]) st)(go:∀{i j v ac bc},HL lt it xs ys (g+1) i j v->R (.done %[8,i,j,v,ac|bc]) st/\R (.yield %[8,i,j,v,ac|bc]) st):
 YG f w A E s (cA (xs.map it) (ys.map it) B i j v ac bc) R st:=by
 let a:=L.a;let b:=L.b;let c:=L.bx;let p:=L.ax;let C:=L.g;let m:i-1<xs.size:=()
 let n:j-1<ys.size:=()
 rw[Yl<|QJ n<|Yl<|QJ m<|Yl<|A9 O u (H.yn _<|QY n) (H.xn _<|QY m) ?_];rw[wi (λq=>Yl<|QJ m ?_) λq=>Yl<|QJ n ?_]
 .let M2:=L.M.one H.W H.py a p (UE b) c q;rw[wi (λz=>Ym<|r (_,M2.doneA<|Yp.mp z,WS<|zy e)) λz=>?_];let l:=go (ac:=ac+1) (bc:=0) (_,(M2,V1 λy=>z<|Yp.mpr y,b,Zz m,c,()),zy e);rw[wi (λ_=>Ym l.1) λ_=>Ym l.2]
 .let M2:=L.M.two H.W H.hxy H.px a p (UE b) c<|Yr.mpr q;rw[wi (λz=>Ym<|r (_,M2.first (Yp.mp z) (Zh (UE b) c) fst,WS<|zy e)) λz=>?_];let l:=go (ac:=0) (bc:=bc+1) (_,(M2,a,by let:j-1≠1:=λy=>z<|Yp.mpr y;lia,p,Zz n,()),zy e);rw[wi (λ_=>Ym l.1) λ_=>Ym l.2]
end
section
variable          {st:SortSt}
def Sc (H:MH lt N a b)(O:zb g w A s i c lt N)(l:kindOf st=i)(r:1<=a.size)(t:1<=b.size)(f:∀x∈a.toList,jQ lt (gx b 0) x)(lst:lt (gx b<|b.size-1) (gx a<|a.size-1)=6)
 (h:∀o j,SEq st j->wG lt a b o->Q (ar c o) j):YG g w A E s (Ek (a.map c)<|b.map c) Q st:=by
 let M1:MInvH lt a b (a.size-1) b.size [gx a (a.size-1)]:=by
  rw[MInvH.one (o:=[]) (na:=a.size) (nb:=b.size) H.W H.py (?_,?_,?_) r (Zf _) t (Zf _) lst]
  .rw[Uz (),ZA];rw[H.px]
  .rw[Uz (),ZA];rw[H.py]
  .rw[Uz (),Uz (),ZA]
 rw[fE,sz,sz];let p:a.size-1<a.size:=Nat.sub_lt r Yt;let n:#[c (gx a<|a.size-1)]=ar c [gx a (a.size-1)].reverse:=BZ;rw[Yl<|wpS_lift<|wpAny_rule (9,Yl<|QJ p ?_)];rw[wi (λz=>?_) λu=>wi (λz=>?_) λv=>?_]
 .rw[WS n,];rw[Ym<|h _ _ (.refl _)<|M1.doneA<|Yp.mp z]
 .rw[WS n,];rw[Ym<|h _ _ (.refl _)<|M1.first (Yp.mp z) t f]
 let u:a.size-1≠0:=λy=>u<|Yp.mpr y;let v:b.size≠1:=λy=>v<|Yp.mpr y;let B:HI lt a b 1 (a.size-1) b.size [gx a (a.size-1)]:=(M1,(),(),(),(),());rw[cw (P:=HL lt c a b) (D:=MD lt c a b) l (_,B,n) λF=>by
  let(-_,L,_):=F;let:=L.a;let:=L.b;let:=L.g;lia (λ(o,L,e)h=>(o,(L.M,L.a,L.b,L.ax,L.bx,by let:=L.g;lia),e)) (λl(_,L,e)dn go=>t8 f H L e O l dn go) (λC q(_,L,e)=>t7 f H L e C q O l) λq(o,m,e)=>by rw[e,];rw[h o _ q m]]
end
theorem HH{α:Type}(k):∀l i(a:Array α),k+i+⇑l<=a.size->((l.zipIdx i).foldl (λa(p:α × 5)=>a.setIfInBounds (k+p.2) p.1) a).toList=a.toList.take (k+i)++l++a.toList.drop (k+i+⇑l)
 |[],i,a,h=>by simp
 |x::r,i,a,h=>by
  rw[Zu]at h;rw[List.zipIdx_cons,Vj,HH k r (i+1) _ (by rw[Array.size_setIfInBounds,];lia),Array.toList_setIfInBounds,Zu];let b:(a.toList.set (k+i) x).take (k+(i+1))=a.toList.take (k+i)++[x]:=by
   rw[show k+(i+1)=k+i+1 by lia,VE,List.take_set_of_le (Zf _),UT (by simp;lia)];rfl
  grind[List.append_assoc,List.drop_set_of_lt]
def HJ{α β:Type}(f:α->β)(a:Array α)(i j):(a.map f).extract i j=(a.extract i j).map f:=()
theorem AB  (h:i+a<j)(c:j<=b.size):gx (b.extract i j) a=gx b (i+a):=by
 ext gx;rw[Wh,Zd ()]
section
variable         {st:SortSt}
def sF  (h:Q ⟨⟩ b):YG a w A E s (set b:StateT SortSt Sem PUnit) Q st:=Zb (9,h)
theorem Xt  (b:j<=a.size)(h:x∈(a.extract i j).toList):∃l,i<=l/\l<j/\x=gx a l:=by
 rw[Array.toList_extract,Wi]at h;let(-l,c,e,f):=El h
 grind
def HK {R:5->5->4} (g:j<=ix.size)(h:∀a b,i<=a->a<b->b<j->R (gx ix a) (gx ix b)):(ix.extract i j).toList.Pairwise R:=by
 rw[List.pairwise_iff_getElem,];let e:∀c f,c<j-i->(ix.extract i j).toList[c]=gx ix (i+c):=λc f h=>by
  grind[gx,sz,AB,Array.getElem?_eq_getElem]
 grind
def Se (W:Wk lt)(b:jQ lt x y)(h:be lt 7 y k=6):be lt 7 x k=6:=by
 let h:(not<|lt k y)=6:=h;show(not<|lt k x)=6
 induction q:lt k x with
 |false=>rfl
 |true=>
  obtain z|z:=W.neg _ y _ q
  .ext
  .rw[jQ.no W b]at z;cases z
def Sf (W:Wk lt)(b:jQ lt x y)(h:be lt 6 y k=6):be lt 6 x k=6:=by
 obtain z|z:=W.neg _ x _ h
 .rw[jQ.no W b]at z;cases z
 .rw[z]
end
structure PlO(lo N:5)(bs ix:Yg)(k:5):4 where
 size:ix.size=N
 perm:ix.Perm (Array.range N)
 low:∀a,a<lo->gx ix a=gx bs a
 mid:∀a,lo<=a->a<k->lo<=gx ix a/\gx ix a<k
 suf:∀a,k<=a->a<N->gx ix a=a
def HM  (p:b.Perm (Array.range N))(c:a<b.size):gx b a<N:=by
 let:=(Jt.mp p).mem_iff.mp<|QY c
 ext
section
variable {lo N k:Nat}
def PlO.all(h:PlO lo N bs c k) (e:a<N):gx c a<N:=HM h.perm<|by rwa[h.size,]
def PlO.succ(h:PlO lo N bs e k)(l:lo<=k)(f:k<N):PlO lo N bs e (k+1):=by
 rw[(h.size,h.perm,h.low,λa i n=>?_,λa o j=>h.suf a () j)];cases c:a<k
 .let:=h.mid a i c;lia
 .let:a=k:=()
  subst this;rw[h.suf a (Zf _) f,];lia
def PlO.rev (h:PlO lo N bs f k)(o:k<=N)(p:lo<=i)(r:i<=k):PlO lo N bs (mirror f i k<|(k-i)/2) k:=by
 let c:k<=f.size:=by rwa[h.size,]
 rw[(by rw[mirror_size,];rw[h.size],(mirror_perm _ _ _ _).trans h.perm,λa e=>?_,λa j e=>?_,λa l n=>?_)]
 .rw[A8 c,Ze ()];rw[h.low a e]
 .rw[A8 c,]
  split
  .rw[h.mid _ () ()]
  .rw[h.mid a j e]
 .rw[A8 c,Ze ()];rw[h.suf a l n]
end
def zX(lt:Yc)(lo:5)(c:Yg)(k:5):4:=∀a b,lo<=a->a<b->b<k->jQ lt (gx c a) (gx c b)
def rL(lt:Yc)(lo:5)(c:Yg)(k:5):4:=∀a b,lo<=a->a<b->b<k->jQ lt (gx c b) (gx c a)
structure SBp(it:5->Keyed)(kind:SortKind)(pn:Array (5×5×5))(ix:Yg)(st:SortSt):4 where
 arr:arrOf st=ix.map it
 kd:kindOf st=kind
 fl:failedOf st=8
 pd:pendingOf st=pn
structure EqO(lt:Yc)(lo:5)(ix:Yg)(x u:5):4 where
 le:lo<=u
 ux:u<x
 out:∀a b,lo<=a->a<b->b<x->a<u->lt (gx ix b) (gx ix a)=6\/b<u/\jQ lt (gx ix b) (gx ix a)
 same:∀a b,u<=a->a<x->u<=b->b<x->lt (gx ix a) (gx ix b)=7
 rise:∀a b,u<=a->a<b->b<x->gx ix a<gx ix b
def Xu  (b:j<=a.size)(c:i<=k)(e:k<j):∃m,i<=m/\m<j/\k+m+1=i+j/\gx (mirror a i j<|(j-i)/2) k=gx a m:=by
 rw[(i+j-1-k,(),(),(),?_)];rw[A8 b,Zd (c,e)]
def AC  (b:j<=a.size)(h:k<i\/j<=k):gx (mirror a i j<|(j-i)/2) k=gx a k:=by
 rw[A8 b,Ze ()]
section
variable  {lo:Nat}  (W:Wk lt)
include W
theorem Cd :lt a a=7:=by
 cases z:lt a a with
 |false=>rfl
 |true=>let:=W.asy _ _ z;ext
theorem EqO.down (h:EqO lt lo o x u)(f:x<=o.size):rL lt lo (mirror o u x<|(x-u)/2) x:=by
 intro a b p j l;cases i:u<=b
 .let(-v,n,r,B,e):=Xu f i l;rw[e,];cases c:u<=a
  .let(-E,y,s,F,e):=Xu f c (Ur j l);rw[e,];rw[.inr (h.same _ _ y s n r,h.rise _ _ n () s)]
  .let c:=Ys c;rw[AC f (.inl c),];obtain z|z:=h.out a v p (Zg c n) r c
   .rw[.inl z]
   .rw[z.2]
 .let i:=Ys i;let c:=Ur j i;rw[AC f (.inl i),AC f (.inl c)];obtain z|z:=h.out a b p j l c
  .rw[.inl z]
  .rw[z.2]
theorem EqO.down0 (h:EqO lt lo f (x+1) x):rL lt lo f (x+1):=by
 intro a b i c e;rcases h.out a b i c e (Zg c<|Ut e)with z|z
 .rw[.inl z]
 .rw[z.2]
theorem yb (u:y+1=x)(v:lo<=y)(D:rL lt lo e x)(i:lt (gx e x) (gx e y)=6):EqO lt lo e (x+1) x:=by
 let vr:∀a,lo<=a->a<x->lt (gx e x) (gx e a)=6:=λa f j=>by
  cases c:a=y
  .rw[c,];rw[i]
  .rcases W.neg _ (gx e a) _ i with z|z
   .rw[z]
   .rw[jQ.no W (D a y f () ())]at z;rw[JH z]
 let eq:∀{a},x<=a->a<x+1->a=x:=λh k=>Nat.le_antisymm (Ut k) h;rw[((),UC _,λa b f l n j=>?_,λa b o p r s=>?_,λa b o l n=>())]
 .cases c:b<x
  .rw[.inr (c,D a b f l c)]
  .rw[eq (Nat.le_of_not_lt c) n,];rw[.inl<|vr a f j]
 .rw[eq o p,eq r s];rw[Cd W]
theorem EqO.more (h:EqO lt lo e x u)(S:y+1=x)(I:gx e x=x)(p:∀a,lo<=a->a<x->gx e a<x)(J:lt (gx e x) (gx e y)=7)(L:lt (gx e y) (gx e x)=7):EqO lt lo e (x+1) u:=by
 let le:=h.le;let O:=h.ux;let Q:∀k,lt (gx e y) k=6->lt (gx e x) k=6:=λk z=>by
  obtain y|y:=W.neg _ (gx e x) _ z
  .rw[L]at y;rw[JH y]
  lia
 let R:∀k,lt k (gx e x)=6->lt k (gx e y)=6:=λk z=>by
  obtain y|y:=W.neg _ (gx e y) _ z
  .rw[y]
  ext
 let r:∀k,lt (gx e x) k=6->lt (gx e y) k=6:=λk z=>by
  obtain y|y:=W.neg _ (gx e y) _ z
  .rw[J]at y;rw[JH y]
  lia
 let s:y<x:=()
 let l:u<=y:=()
 let f:∀{b},b<x+1->¬b=x->b<x:=λh k=>UK (Ut h) k;rw[(le,UD O,λa b E n v B=>?_,λa b j F G H=>?_,λa b j n v=>?_)]
 .cases c:b=x
  .rw[c,];obtain z|z:=h.out a y E (Zg B l) s B
   .rw[.inl<|Q _ z]
   .rw[Zn z.1<|Nat.not_lt_of_le l]
  .rw[h.out a b E n (f v c) B]
 .cases o:a=x
  .cases i:b=x
   .rw[o,i];rw[Cd W]
   .rw[o,];cases z:lt (gx e x) (gx e b)with
    |false=>rfl
    |true=>
     let w:=r _ z;rw[h.same y b l s G (f H i)]at w;rw[JH w]
  .cases i:b=x
   .rw[i,]
    induction z:lt (gx e a) (gx e x)with
    |false=>rfl
    |true=>
     let w:=R _ z;rw[h.same a y j (f F o) l s]at w;rw[JH w]
   .rw[h.same a b j (f F o) G<|f H i]
 .cases i:b=x
  .rw[i,I];rw[p a (Zh le j)<|i ▸ n]
  .rw[h.rise a b j n<|f v i]
end
abbrev C2:=02 (02 5)×5
noncomputable def rG(p c:5):SM (ForInStep C2):=ltAt' p (p-1)>>=λr=>match r with
 |some t=>if t=6 then pure (.done %[8|c])else pure (.yield %[8|c+1])
 |_=>pure (.done %[!8|c])
noncomputable def dw(lo a n:5):SM (02 5):=reverseSlice' lo (lo+n)>>=λ_=>(forIn [n:a] (%[8|n]:C2) λ_ c=>rG (lo+c.2) c.2)>>=λc=>match c.1 with
 |some r=>pure r
 |none=>pure !c.2
noncomputable def cN(lo a n q:5):SM (02 5):=if q>0 then reverseSlice' (lo+n-(q+1)) (lo+n)>>=λ_=>dw lo a n else dw lo a n
noncomputable def cM(p n q:5):SM (ForInStep C3):=ltAt' p (p-1)>>=λr=>match r with
 |some t=>if t=6 then if q>0 then reverseSlice' (p-(q+1)) p>>=λ_=>pure<|.yield %[8,n+1|0]else pure (.yield %[8,n+1|0])
  else ltAt' (p-1) p>>=λr=>match r with
   |some t=>if t=6 then pure (.done %[8,n|q])else pure (.yield %[8,n+1|q+1])
   |_=>pure (.done %[!8,n|q])
 |_=>pure (.done %[!8,n|q])
noncomputable def dy(lo a n:5):SM (02 5):=(liftM (rule "list.sort.descending-run"):SM PUnit)>>=λ_=>(forIn [n+1:a] (%[8,n+1|0]:C3) λ_ c=>cM (lo+c.2.1) c.2.1 c.2.2)>>=λc=>match c.1 with
 |some r=>pure r
 |none=>cN lo a c.2.1 c.2.2
noncomputable def cr1(lo a n:5):SM (02 5):=if(n==a)=6 then pure !n else if n>1 then ltAt' lo (lo+n-1)>>=λr=>match r with
 |some t=>if t=6 then pure !n else reverseSlice' lo (lo+n)>>=λ_=>dy lo a n
 |_=>pure 8
 else dy lo a n
set_option smartUnfolding false in
def ma{lo a:5}:countRun' lo a=(forIn [1:a] (%[8|1]:C2) λ_ c=>rG (lo+c.2) c.2)>>=λc=>match c.1 with|some r=>pure r|none=>cr1 lo a c.2:=rfl
section
variable         {lo N:Nat}  {st:SortSt}
def AD  (O:zb c w A s e g lt N)(B:SBp g e n f st)(L:PlO lo N bs f k)(i:a<N)(j:b<N)(h:Q (!(lt (gx f a)<|gx f b)) st):
 YG c w A E s (ltAt' a b) Q st:=by
 let l:(arrOf st)[a]?=!(g<|gx f a):=by rw[B.arr,U6,Eh (by rwa[L.size,])];rfl
 let m:(arrOf st)[b]?=!(g<|gx f b):=by rw[B.arr,U6,Eh (by rwa[L.size,])];rfl
 show wpS _ _ _ _ (elem' (arrOf st) a>>=λx=>elem' (arrOf st) b>>=λy=>lt' x y) Q st;rw[elem'_eq,elem'_eq,l,m];rw[Yl<|Ym<|Yl<|Ym<|A9 O B.kd (L.all i) (L.all j) h]
def SBp.set (B:SBp f c i n st) (e:j=l.map f):SBp f c i l (setArr st j):=(e,B.kd,B.fl,B.pd)
def SBp.rev (B:SBp e c f l st):SBp e c f (mirror l i j m) (setArr st<|mirror (arrOf st) i j m):=B.set<|by rw[B.arr,RX]
variable (W:Wk lt)(O:zb prog w A s kind it lt N)
include W O
theorem Sh  (b:p<N)(h:lo<p)(B:SBp it kind n a st)(L:PlO lo N bs a p)(U:zX lt lo a p)
 (l:lt (gx a p) (gx a<|p-1)=6->R (.done %[8|c]) st)(go:PlO lo N bs a (p+1)->zX lt lo a (p+1)->R (.yield %[8|c+1]) st):YG prog w A E s (rG p c) R st:=by
 let(y,rfl):∃y,p=y+1:=(p-1,());let f:=Ut h;rw[Yl<|AD O B L b (U7 b)<|wi (λq=>Ym<|l q) λq=>Ym<|go (L.succ (Vr f) b) λi j g m o=>?_];let last:jQ lt (gx a y) (gx a<|y+1):=.inr (Yr.mpr q,by rw[L.suf _ (Zf _) b,];rw[(L.mid _ f<|UC _).2]);cases c:j<y+1
 .rw[U i j g m c]
 .let e:j=y+1:=()
  subst e;cases d:i=y
  .ext
  .rw[jQ.trans W (U i y g ()<|UC _) last]
theorem HN {Q:C2->Yy}
 (p:lo+e<=N)(r:1<=a)(f:a<=e)(B:SBp it kind t b st)(L:PlO lo N bs b (lo+a))(U:zX lt lo b (lo+a))
 (h:∀m,a<=m->m<=e->PlO lo N bs b (lo+m)->zX lt lo b (lo+m)->m=e\/lt (gx b<|lo+m) (gx b<|lo+m-1)=6->Q %[8|m] st):YG prog w A E s (forIn [a:e] (%[8|a]:C2) λ_ c=>rG (lo+c.2) c.2) Q st:=by
 rw[Yo (I:=λx c j=>j=st/\c=%[8|x]/\PlO lo N bs b (lo+x)/\zX lt lo b (lo+x)) ?_ ?_ (9,9,L,U)]
 .rintro x c j n o ⟨rfl,rfl,g,i⟩;rw[Sh W O () () B g i (λq=>h x n (Zz o) g i<|.inr q) λl u=>(9,9,l,u)]
 .rintro c j ⟨rfl,rfl,g,i⟩;rw[Nat.max_eq_right f]at g i ⊢;rw[h e f (Zf _) g i<|006]
variable  {Q:02 Nat->Yy}(hn:lo+nr<=N)(h:∀k jx st',SBp it kind pn jx st'->1<=k->k<=nr->PlO lo N bs jx (lo+k)->zX lt lo jx (lo+k)->Q (some k) st')
include hn h
theorem HQ(f:1<=x)(n:x<=nr)(B:SBp it kind pn c st)(L:PlO lo N bs c (lo+x))(D:rL lt lo c (lo+x)):YG prog w A E s (dw lo nr x) Q st:=by
 let g:lo+x<=c.size:=by rw[L.size,];lia
 let o:=L.rev (i:=lo) () (Zf _) ();rw[Yl<|wpS_reverse<|Yl<|HN W O hn f n B.rev o (λa b j l m=>?_) λk p q r t _=>Ym<|h k _ _ B.rev (Zh f p) q r t];let(-z,C,u,F,e):=Xu g j (Ur l m);let(-G,v,H,I,y):=Xu g (Zz<|U5 j l) m;rw[e,y];rw[D _ _ v () u]
theorem Si(a:1<=x)(b:x<=nr)(B:SBp it kind pn c st)(L:PlO lo N bs c (lo+x))(X:EqO lt lo c (lo+x) u)(e:u+(q+1)=lo+x):YG prog w A E s (cN lo nr x q) Q st:=by
 rw[wi (λf=>?_) λf=>?_]
 .rw[show lo+x-(q+1)=u by lia,];let le:=X.le;let g:=X.ux;rw[Yl<|wpS_reverse<|HQ W O hn h a b B.rev (L.rev () le<|Zz g)<|X.down W<|by rw[L.size,];lia]
 .let i:q=0:=V0 f;subst i;rw[<-e]at X;rw[HQ W O hn h a b B L<|e ▸ X.down0 W]
omit hn h in
theorem Sj{p:5}{R:ForInStep C3->Yy}(b:p<N)(B:SBp it kind pn c st)(L:PlO lo N bs c p)(X:EqO lt lo c p u)(e:u+(q+1)=p)
 (n:R (.done %[8,x|q]) st)(go:∀jx u q st',SBp it kind pn jx st'->PlO lo N bs jx (p+1)->EqO lt lo jx (p+1) u->u+(q+1)=p+1->R (.yield %[8,x+1|q]) st'):YG prog w A E s (cM p x q) R st:=by
 let le:=X.le;let g:=X.ux;let i:p<=c.size:=by rw[L.size,];rw[Zz b]
 let(y,rfl):∃y,p=y+1:=(p-1,());let j:=U7 b;let f:lo<=y:=Zh le<|Ut g;rw[Yl<|AD O B L b j<|wi (λz=>wi (λl=>?_) λl=>?_) λz=>?_]
 .let z:lt (gx c<|y+1) (gx c y)=6:=z;rw[show y+1-(q+1)=u by lia,];rw[Yl<|wpS_reverse<|Ym<|go _ _ 0 _ B.rev ((L.rev (Zz b) le<|Zz g).succ (Vr f) b) (yb W 9 f (X.down W i) ?_) 9];let(m,o,m2,_,e):=Xu i (Ut g) (UC y);rw[AC i (.inr<|Zf _),e];obtain y|y:=W.neg _ (gx c m) _ z
  .rw[y]
  .rw[X.same _ _ o m2 (Ut g) (UC _)]at y;rw[JH y]
 .let r:q=0:=V0 l;subst r;let e:u=y:=UN e;subst e;rw[Ym<|go c _ 0 st B (L.succ (Vr f) b) (yb W 9 f (X.down0 W) z) 9]
 .rw[Yl<|AD O B L j b<|wi (λ_=>Ym n) λt=>?_];rw[Ym<|go c u _ st B (L.succ (Vr f) b) (X.more W 9 (L.suf _ (Zf _) b) (λa v C=>(L.mid a v C).2) (Yr.mpr z)<|Yr.mpr t)<|Zt (·+1) e]
theorem HR(p:x+1<=nr)(B:SBp it kind pn ix st)(L:PlO lo N bs ix (lo+x+1))(X:EqO lt lo ix (lo+x+1) (lo+x)):YG prog w A E s (dy lo nr x) Q st:=by
 rw[Yl<|wpS_lift<|wpAny_rule (9,Yl<|Yn (Yo (I:=λx c n=>∃u q a,c=%[8,x|q]/\SBp it kind pn a n/\PlO lo N bs a (lo+x)/\EqO lt lo a (lo+x) u/\u+(q+1)=lo+x) (Q:=λc n=>∃y u q a,c=%[8,y|q]/\1<=y/\y<=nr/\SBp it kind pn a n/\PlO lo N bs a (lo+y)/\EqO lt lo a (lo+y) u/\u+(q+1)=lo+y) ?_ ?_<|jg (lo+x) 0 ix (9,B,L,X,9)) ?_)]
 .intro y c n r t;rw[qf λu q a=>vG λf o g i e=>?_];subst f;rw[Sj W O (show lo+y<N from()) o g i e (jW y u q a (9,Zh (Nat.le_add_left 1 x) r,Zz t,o,g,i,e)) λjx u q st' b l x e=>jg u q jx (9,b,l,x,e)]
 .intro c n;rw[qf λu q a=>vG λj o g i e=>?_];subst j;rw[Nat.max_eq_right p]at g i e ⊢;rw[jW nr u q a (9,Zh (Nat.le_add_left 1 x) p,Zf _,o,g,i,e)]
 .intro c n;rw[vE λx u q a=>vF λm v p o g i e=>?_];subst m;rw[Si W O hn h v p o g i e]
theorem Sk(S:1<=nr)(B:SBp it kind pn ix st)(L:PlO lo N bs ix (lo+1)):YG prog w A E s (countRun' lo nr) Q st:=by
 rw[ma,];rw[Yl<|HN W O hn (Zf 1) S B L (λa b f g q=>()) λm R m2 j n F=>?_];rw[wi (λ_=>Ym<|h m ix st B R m2 j n) λr=>?_];let r:m≠nr:=λz=>r<|Yp.mpr z;let t:lt (gx ix<|lo+m) (gx ix<|lo+m-1)=6:=F.resolve_left r;let m2:m+1<=nr:=UK m2 r;let l:lo+m<N:=()
 let v:lo<lo+m:=()
 let x:lo+m<=ix.size:=by rw[j.size,];rw[Zz l]
 rw[wi (λT=>?_) λT=>?_]
 .let G:=λ{H st'}=>HR (E:=E) (bs:=bs) (ix:=H) (st:=st') W O hn h m2;let U:=h m ix st B R (UE m2) j n;generalize lo+m=p at*;let(y,rfl):∃y,p=y+1:=(p-1,());let t:lt (gx ix<|y+1) (gx ix y)=6:=t;let I:=Ut v;let X:=U7 l;let J:=UC y;rw[Yl<|AD O B j (Ur v l) X<|wi (λ_=>Ym U) λc=>?_];let c:lt (gx ix lo) (gx ix y)=7:=Yr.mpr c;let flat:∀a b,lo<=a->a<y+1->lo<=b->b<y+1->lt (gx ix a) (gx ix b)=7:=λa b f Y Z i=>by
   induction z:lt (gx ix a) (gx ix b)with
   |false=>rfl
   |true=>
    obtain w|w:=W.neg _ (gx ix lo) _ z
    .cases a0:a=lo
     .rw[a0,Cd W]at w;rw[JH w]
     .rw[jQ.no W (n lo a (Zf _) () Y)]at w;rw[JH w]
    .rcases W.neg _ (gx ix y) _ w with u|u
     .rw[c]at u;rw[JH u]
     .cases M:b=y
      .rw[M,Cd W]at u;rw[JH u]
      .rw[jQ.no W (n b y Z () J)]at u;rw[JH u]
  let o:∀a b,lo<=a->a<b->b<y+1->gx ix a<gx ix b:=λa b f g i=>by
   obtain z|z:=n a b f g i
   .rw[flat a b f (Ur g i) (Zh f<|Zz g) i]at z;rw[JH z]
   .rw[z.2]
  rw[Yl<|wpS_reverse<|G B.rev ((j.rev (Zz l) (Zf _)<|Zz v).succ (Zz v) l)<|yb W 9 I (λa b f g i=>?_) ?_]
  .let(-a',P,C,a3,e):=Xu x f (Ur g i);let(-b',q,b2,b3,e'):=Xu x (Zh f<|Zz g) i;rw[e,e'];rw[.inr (flat _ _ P C q b2,o _ _ q () C)]
  .let(-m,P,C,_,e):=Xu x I J;rw[AC x (.inr<|Zf _),e];obtain z|z:=W.neg _ (gx ix m) _ t
   .rw[z]
   .rw[flat _ _ P C I J]at z;rw[JH z]
 .let e1:m=1:=()
  subst e1;rw[HR W O hn h m2 B (j.succ (Us _ _) l)<|yb W 9 (Zf _) (λa b f g q=>()) t]
omit hn h
omit O W in
theorem ZF{a:Yg}{p l k:5}(b:p<a.size)(c:l<=p)(e:k<=p):k<l/\gx (bubble a p<|p-l) k=gx a k\/k=l/\gx (bubble a p<|p-l) k=gx a p\/∃j,k=j+1/\l<=j/\j<p/\gx (bubble a p<|p-l) k=gx a j:=by
 rw[Hz b (Vk _ _),show p-(p-l)=l by lia]
 grind
omit O W in
theorem Sl{p l:5}(y:p<N)(f:l<=p)(r:lo<=l)(L:PlO lo N bs g p)(U:zX lt lo g p)(low:∀i,lo<=i->i<l->lt p (gx g i)=7)(C:∀i,l<=i->i<p->lt p (gx g i)=6):PlO lo N bs (bubble g p<|p-l) (p+1)/\zX lt lo (bubble g p<|p-l) (p+1):=by
 let n:p<g.size:=by rw[L.size,];rw[y]
 let x:gx g p=p:=L.suf p (Zf _) y;let md:∀{i},lo<=i->i<p->lo<=gx g i/\gx g i<p+1:=λh k=>((L.mid _ h k).1,UD (L.mid _ h k).2);rw[((by rw[bubble_size,];rw[L.size],(bubble_perm _ _ _).trans L.perm,λa t=>?_,λa E t=>?_,λa F G=>?_),λa b u B o=>?_)]
 .rcases ZF n f (Zz<|Zg t<|Zh r f)with ⟨_,e⟩|⟨z,_⟩|⟨j,z,h,_⟩
  .rw[e,];rw[L.low a t]
  .omega
  .omega
 .rcases ZF n f (Ut t)with ⟨z,e⟩|⟨z,e⟩|⟨j,z,h,k,e⟩
  .rw[e,];rw[md E<|Zg z f]
  .rw[e,x];rw[(Zh r f,UC _)]
  .rw[e,];rw[md (Zh r h) k]
 .rw[Hz n (Vk _ _),Ze (),Ze ()];rw[L.suf a (UE F) G]
 .let o:=Ut o;rcases ZF n f (Zh (Zz B) o)with ⟨z,e⟩|⟨z,e⟩|⟨i,z,h,k,e⟩
  .rcases ZF n f o with ⟨m,c⟩|⟨m,c⟩|⟨j,m,v,q,c⟩
   .rw[e,c];rw[U a b u B<|Zg m f]
   .rw[e,c,x];rw[.inr (low a u z,(L.mid a u<|Zg z f).2)]
   .rw[e,c];rw[U a j u (Zg z v) q]
  .rcases ZF n f o with ⟨m,c⟩|⟨m,c⟩|⟨j,m,v,q,c⟩
   .omega
   .omega
   .rw[e,c,x];rw[.inl<|C j v q]
  .rcases ZF n f o with ⟨m,c⟩|⟨m,c⟩|⟨j,m,v,q,c⟩
   .omega
   .omega
   .rw[e,c];rw[U i j (Zh r h) () q]
theorem Sm {Q:Bool->Yy}(T:lo+f<=N)(X:ok<=f)(n:1<=ok)(B:SBp it kind pn C st)(L:PlO lo N bs C (lo+ok))(U:zX lt lo C (lo+ok))
 (h:∀jx st',SBp it kind pn jx st'->PlO lo N bs jx (lo+f)->zX lt lo jx (lo+f)->Q 6 st'):YG prog w A E s (binarySort' lo f ok) Q st:=by
 rw[binarySort'_eq,];let F:max ok 1=ok:=()
 rw[F,];rw[Yl<|Yn (Yo (I:=λk c st'=>c=%[8|Yq]/\∃jx,SBp it kind pn jx st'/\PlO lo N bs jx (lo+k)/\zX lt lo jx (lo+k)) (Q:=λc st'=>c=%[8|Yq]/\∃jx,SBp it kind pn jx st'/\PlO lo N bs jx (lo+f)/\zX lt lo jx (lo+f)) ?_ ?_ (9,C,B,L,U)) ?_]
 .rintro k c o Y Z ⟨rfl,jx,Bk,G,H⟩;let ek:gx jx (lo+k)=lo+k:=G.suf _ (Zf _) ();rw[Yl<|Yn (Yo (I:=λx c j=>j=o/\∃l r,c=%[8,l|r]/\l<=r/\r<=k/\r-l<=k-x/\(∀i,i<l->lt (lo+k) (gx jx<|lo+i)=7)/\∀i,r<=i->i<k->lt (lo+k) (gx jx<|lo+i)=6)
   (Q:=λc j=>j=o/\∃l r,c=%[8,l|r]/\l<=k/\(∀i,i<l->lt (lo+k) (gx jx<|lo+i)=7)/\∀i,l<=i->i<k->lt (lo+k) (gx jx<|lo+i)=6) ?_ ?_ ()) ?_]
  .rintro x c j _ hx ⟨rfl,l,r,rfl,lr,p,t,low,g⟩;dsimp only;cases J:l ≥ r
   .rw[Zd J,];let e:l=r:=()
    subst e;rw[Ym (9,l,l,9,p,low,g)]
   .rw[Ze J,];let(-m,F,m1,m2,m3,m4):=Hy (Ys J) t;rw[F,];let mk:=Zg m2 p;rw[Yl<|AD O Bk G () () ?_];rw[ek,]
    induction q:lt (lo+k) (gx jx<|lo+m)with
    |true=>
     simp only[if_true];rw[Ym (9,l,m,9,m1,Zz mk,m3,low,λi a b=>?_)];cases M:i=m
     .rw[M,];rw[q]
     .rcases W.neg (lo+k) (gx jx<|lo+i) _ q with z|z
      .rw[z]
      .rw[jQ.no W (H (lo+m) (lo+i) () () ())]at z;rw[JH z]
    |false=>
     simp only[UO,if_false];rw[Ym (9,m+1,r,9,m2,p,m4,λi a=>?_,g)];cases M:i=m
     .rw[M,];rw[q]
     .induction z:lt (lo+k) (gx jx<|lo+i)with
      |false=>rfl
      |true=>
       obtain y|y:=W.neg (lo+k) (gx jx<|lo+m) _ z
       .rw[q]at y;rw[JH y]
       .rw[jQ.no W (H (lo+i) (lo+m) () () ())]at y;rw[JH y]
  .rintro c j ⟨rfl,l,r,rfl,lr,p,t,low,g⟩;let e:l=r:=()
   subst e;rw[(9,l,l,9,p,low,g)]
  .rintro c j ⟨rfl,l,r,rfl,lk,low,g⟩;show wpS _ _ _ _ (moveDown' (lo+k) (lo+l)>>=λ_=>pure<|ForInStep.yield %[8|Yq]) _ _;rw[moveDown'_eq,];let low:∀i,lo<=i->i<lo+l->lt (lo+k) (gx jx i)=7:=λi n P=>by
    let(d,rfl):=Vl n;rw[low d<|VN P]
   let g:∀i,lo+l<=i->i<lo+k->lt (lo+k) (gx jx i)=6:=λi n P=>by
    let(d,rfl):=Vl (Zh (Us _ _) n);rw[g d (Wj n)<|VN P]
   let S:=Sl () (VX lk lo) (Us _ _) G H low g;rw[Yl<|wpS_modify<|Ym (9,bubble jx (lo+k)<|lo+k-(lo+l),Bk.set<|by rw[Bk.arr,RW],S.1,S.2)]
 .rintro c o ⟨rfl,jx,R,u,v⟩;let e:max ok f=f:=()
  rw[e]at u v;rw[(9,jx,R,u,v)]
 .rintro c o ⟨rfl,jx,R,u,v⟩;rw[Ym<|h jx o R u v]
end
structure Seg(lt:Yc)(ix:Yg)(a b:5):4 where
 pl:∀i,a<=i->i<b->a<=gx ix i/\gx ix i<b
 up:∀i j,a<=i->i<j->j<b->jQ lt (gx ix i) (gx ix j)
def Seg.same   (S:Seg lt l a b)(h:∀i,a<=i->i<b->gx n i=gx l i):Seg lt n a b:=(λi c e=>by rw[h i c e,];rw[S.pl i c e],λi j c e f=>by rw[h i c (),h j () f];rw[S.up i j c e f])
section
variable        {lt:Yc}{st:SortSt}{N:Nat}
def Seg.join  (W:Wk lt)(S:Seg lt c a m)(T:Seg lt c m b)(p:m<b)(k:∀i,a<=i->i<m->jQ lt (gx c i) (gx c m))(r:a<=m):Seg lt c a b:=by
 rw[(λi f o=>?_,λi j f l n=>?_)]
 .cases z:i<m
  .let:=S.pl i f z;lia
  .let:=T.pl i () o;lia
 .cases z:j<m
  .rw[S.up i j f l z]
  .cases y:m<=i
   .rw[T.up i j y l n]
   .cases e:j=m
    .ext
    .rw[jQ.trans W (k i f ())<|T.up m j (Zf _) () n]
def Seg.put   (W:Wk lt)(S:Seg lt e a f)(T:Seg lt e f b)(hb:b<=e.size)(H:a<=m)(O:m<f)(hk:1<=k)(F:f+k<=b)(U:∀i,a<=i->i<m->lt (gx e f) (gx e i)=7)(X:∀i,f+k<=i->i<b->lt (gx e i) (gx e<|f-1)=7)
 (M:wG lt (e.extract m f) (e.extract f<|f+k) o):∃r:Yg,r.toList=e.toList.take m++o++e.toList.drop (f+k)/\⇑o=f+k-m/\r.Perm e/\Seg lt r a b/\∀i,i<a\/b<=i->gx r i=gx e i:=by
 let ol:⇑o=f+k-m:=by
  rw[M.1.length_eq,Ua,Uw,Uw,VO,VO,Vc (),Vc ()];lia
 let Z:m+⇑o=f+k:=()
 let I:e.toList.take m++((e.extract m f).toList++(e.extract f<|f+k).toList)++e.toList.drop (f+k)=e.toList:=by
  let ex:(e.extract m f).toList++e.toList.drop f=e.toList.drop m:=by
   rw[Array.toList_extract,Wi];let:e.toList.drop f=(e.toList.drop m).drop (f-m):=by rw[List.drop_drop,VG (Zz O)]
   rw[this,UM]
  let ey:(e.extract f<|f+k).toList++e.toList.drop (f+k)=e.toList.drop f:=by
   rw[Array.toList_extract,Wi,VP,<-List.drop_drop,UM]
  rw[Ul,Ul,ey,ex,UM]
 let pm:(e.toList.take m++o++e.toList.drop (f+k)).Perm e.toList:=by
  conv=>rhs;rw[<-I]
  rw[List.Perm.append_right _<|List.Perm.append_left _ M.1]
 let J:∀x∈o,(∃b,m<=b/\b<f/\x=gx e b)\/∃b,f<=b/\b<f+k/\x=gx e b:=λx hx=>by
  rcases Jb.mp (M.1.mem_iff.mp hx)with z|z
  .rw[.inl<|Xt () z]
  .rw[.inr<|Xt (Zh F hb) z]
 let(r,ej):∃r:Yg,r=(e.toList.take m++o++e.toList.drop (f+k)).toArray:=(_,9);let L:r.toList=e.toList.take m++o++e.toList.drop (f+k):=by rw[ej,]
 let s:⇑(e.toList.take m)=m:=by rw[Uq,Uw];rw[Vc ()]
 let G:∀i,i<m->gx r i=gx e i:=λi h=>by
  ext gx;rw[<-Vs,<-Vs,L,Ul,Uj (by rw[s,];rw[h]),List.getElem?_take,Zd h]
 let at2:∀j h,gx r (m+j)=o[j]:=λj h=>by
  ext gx;rw[<-Vs,L,Ul,Uv (by rw[s,];rw[Us _ _]),s,VP,Uj h,Zqg h];rfl
 let n:∀j,gx r (f+k+j)=gx e (f+k+j):=λj=>by
  ext gx;rw[<-Vs,<-Vs,L,Uv (by rw[Ua,s,Z];rw[Us _ _]),Ua,s,Z,VP,List.getElem?_drop]
 let u:∀i,i<m\/(∃j,j<⇑o/\i=m+j)\/∃j,i=f+k+j:=λi=>by
  cases c1:i<m
  .rw[.inl c1]
  .cases c2:i<f+k
   .rw[.inr<|.inl (i-m,(),())]
   .rw[.inr<|.inr (i-(f+k),())]
 let pq:∀i j,a<=i->i<m->f<=j->j<b->jQ lt (gx e i) (gx e j):=λi j Q h l p=>by
  let nb:=U5 l p;let pk:jQ lt (gx e i) (gx e f):=.inr (U i Q h,Zg (S.pl i Q<|Ur h O).2 (T.pl f (Zf _) nb).1);cases z:j=f
  .rw[z,];rw[pk]
  .rw[jQ.trans W pk<|T.up f j (Zf _) () p]
 let sq:∀i c,a<=i->i<f->f+k<=c->c<b->jQ lt (gx e i) (gx e c):=λi c Q l p h3=>by
  let sk:jQ lt (gx e<|f-1) (gx e c):=.inr (X c p h3,Zg (S.pl (f-1) () ()).2 (T.pl c (Zh (Us _ _) p) h3).1);cases z:i=f-1
  .rw[z,];rw[sk]
  .rw[jQ.trans W (S.up i (f-1) Q () ()) sk]
 let sp:∀{y},a<=y->y<f->a<=gx e y/\gx e y<b:=λl p=>((S.pl _ l p).1,by let:=(S.pl _ l p).2;lia);let tp:∀{y},f<=y->y<b->a<=gx e y/\gx e y<b:=λl p=>(by let:=(T.pl _ l p).1;lia,(T.pl _ l p).2);rw[(r,L,ol,?_,(λi l p=>?_,λi j l Y R=>?_),λi h=>?_)]
 .rw[Array.perm_iff_toList_perm,L];rw[pm]
 .rcases u i with c|⟨j,c,rfl⟩|⟨j,rfl⟩
  .rw[G i c,];rw[sp l<|Ur c O]
  .rw[at2 j c,];rcases J _ (UA c)with ⟨y,v,B,E⟩|⟨y,v,B,E⟩
   .rw[E,];rw[sp (Zh H v) B]
   .rw[E,];rw[tp v<|Zg B F]
  .rw[n j,];rw[tp () p]
 .rcases u i with c|⟨i,c,rfl⟩|⟨i,rfl⟩
  .rw[G i c,];obtain d|⟨j,d,rfl⟩|⟨j,rfl⟩:=u j
   .rw[G j d,];rw[S.up i j l Y<|Ur d O]
   .rw[at2 j d,];rcases J _ (UA d)with ⟨y,v,B,E⟩|⟨y,v,B,E⟩
    .rw[E,];rw[S.up i y l (Zg c v) B]
    .rw[E,];rw[pq i y l c v<|Zg B F]
   .rw[n j,];rw[pq i _ l c () R]
  .rw[at2 i c,];obtain d|⟨j,d,rfl⟩|⟨j,rfl⟩:=u j
   .omega
   .rw[at2 j d,];rw[Jk.mp M.2 i j c d<|VN Y]
   .rw[n j,];rcases J _ (UA c)with ⟨y,v,B,E⟩|⟨y,v,B,E⟩
    .rw[E,];rw[sq y _ (Zh H v) B (Us _ _) R]
    .rw[E,];rw[T.up y _ v (Zg B<|Us _ _) R]
  .rcases u j with d|⟨j,d,rfl⟩|⟨j,rfl⟩
   .omega
   .omega
   .rw[n i,n j];rw[T.up _ _ () Y R]
 .rcases h with z|z
  .rw[G i<|Zg z H]
  .let(j,rfl):=Vl (Zh F z);rw[n j]
noncomputable def ti(b:5)(v:KA):SM Bool:=(modify λs=>setArr s<|List.foldl (λa x=>match x with|%[p|j]=>a.setIfInBounds (b+j) p) (arrOf s) v.toList.zipIdx)>>=λ_=>get>>=λz=>pure (failedOf z).isNone
noncomputable def cs(a:KA)(c e b k:5):SM Bool:=if(k==0)=6 then pure 6 else if e<=k then Ej (a.extract c b) (a.extract b<|b+k)>>=ti c else Ek (a.extract c b) (a.extract b<|b+k)>>=ti c
noncomputable def cu(a:KA)(c b e nb:5):SM Bool:=if(b==0)=6 then pure 6 else elem' a (c+b-1)>>=λx=>Xs 6 x a e nb (nb-1)>>=λr=>match r with
 |some k=>cs a c b e k
 |_=>pure 7
noncomputable def cv(a:KA)(b c e nb:5):SM Bool:=elem' a e>>=λx=>Xs 7 x a b c 0>>=λr=>match r with
 |some k=>cu a (b+k) (c-k) e nb
 |_=>pure 7
set_option smartUnfolding false in
def fg{i:5}:mergeAt' i=get>>=λz=>match(pendingOf z)[i]?,(pendingOf z)[i+1]? with
 |some %[sa,a|b],some %[sb,nb|_]=>set (setPending z<|((pendingOf z).setIfInBounds i %[sa,a+nb|b]).eraseIdxIfInBounds<|i+1)>>=λ_=>cv (arrOf z) sa a sb nb
 |_,_=>liftM (unsupported "internal:list.sort.pending"):=rfl
def Ep :pendingOf (setPending st p)=p:=by rfl
section
variable    {Q:Bool->Yy}(W:Wk lt)(S:Seg lt ix a (q+1))(T:Seg lt ix (q+1) b)(hz:ix.size=N)(hb:b<=N)(B:SBp it kind pn ix st)
 (h:∀jx st',SBp it kind pn jx st'->jx.Perm ix->Seg lt jx a b->(∀i,i<a\/b<=i->gx jx i=gx ix i)->Q true st')
include W S T hz hb B h
theorem HS  (g:a<=c)(j:c<q+1)(m:1<=k)(n:q+1+k<=b)(p:∀i,a<=i->i<c->lt (gx ix<|q+1) (gx ix i)=7)(r:∀i,q+1+k<=i->i<b->lt (gx ix i) (gx ix q)=7)
 (e:SEq st t)(M:wG lt (ix.extract c<|q+1) (ix.extract (q+1)<|q+1+k) o):YG l w A E s (ti c<|ar it o) Q t:=by
 let(-jx,u,H,v,y,C):=S.put W T (by rwa[hz,]) g j m n p r M;rw[Yl<|wpS_modify<|Yl<|wpS_get<|Ym ?_];let f:=e.fl.trans B.fl;rw[f,];rw[h jx _ (?_,e.kd.trans B.kd,f,e.pd.trans B.pd) v y C];rw[e.arr,B.arr];apply Vq;let F:(ar it o).toList=o.map it:=by simp[ar]
 rw[Eq.trans (Zt (λz=>(List.foldl (λ(a:Array Keyed)(x:Keyed×5)=>a.setIfInBounds (c+x.2) x.1) (ix.map it) z.zipIdx).toList) F) ?_];let G:c+⇑o=q+1+k:=()
 rw[HH c (o.map it) 0 _ (),Array.toList_map,Array.toList_map,u,Zql,Nat.add_zero,G,Uc,Uc,List.map_take,List.map_drop]
theorem HU(j:∀i,a<=i->i<q+1->jQ lt (gx ix i) (gx ix<|q+1))(c:a<=q+1)(e:q+1<b):Q 6 st:=h ix st B (.refl _) (S.join W T e j c) 002
variable (O:zb prog w A s kind it lt N)(vv:∀i,i<N->gx ix i<N)
include O vv
theorem sY(e:f+u=q+1)(u1:1<=u)(g:a<=f)(L:q+1<b)(v:q+1+k<=b)(m3:∀i,a<=i->i<f->lt (gx ix<|q+1) (gx ix i)=7)(m4:∀i,f<=i->i<q+1->lt (gx ix<|q+1) (gx ix i)=6)
 (k3:∀i,q+1<=i->i<q+1+k->lt (gx ix i) (gx ix q)=6)(P:∀i,q+1+k<=i->i<b->lt (gx ix i) (gx ix q)=7):YG prog w A E s (cs (ix.map it) f u (q+1) k) Q st:=by
 let m:f<q+1:=()
 let bz:b<=ix.size:=by rw[hz,];rw[hb]
 rw[wi (λc=>Ym<|HU W S T hz hb B h (λi h3 hi=>?_) (Zz<|U5 g m) L) λc=>?_]
 .let c:k=0:=Yp.mp c;subst c;let b:jQ lt (gx ix q) (gx ix<|q+1):=.inr (P _ (Zf _) L,Zg (S.pl q (Zh g<|Ut m)<|UC _).2 (T.pl _ (Zf _) L).1);cases z:i=q
  .rw[z,];rw[b]
  .rw[by grind]
 let I:1<=k:=by grind
 let C:q+1<=ix.size:=()
 let n:=Zh v bz;let xn:∀x∈(ix.extract f<|q+1).toList,x<N:=λx p=>by
  grind[Xt]
 let yn:∀y∈(ix.extract (q+1)<|q+1+k).toList,y<N:=λx p=>by
  let(-l,r,t,rfl):=Xt n p;rw[vv _ ()]
 let U:∀x∈(ix.extract f<|q+1).toList,∀y∈(ix.extract (q+1)<|q+1+k).toList,x<y:=λx p y X=>by
  let(-l,r,t,rfl):=Xt C p;let(-l',Y,Z,rfl):=Xt n X;rw[Zg (S.pl l (Zh g r) t).2 (T.pl l' Y<|Zg Z v).1]
 let px:=HK (ix:=ix) (R:=jQ lt) (i:=f) (j:=q+1) C λa b h ab bm=>S.up a b (Zh g h) ab bm;let py:=HK (ix:=ix) (R:=jQ lt) (i:=q+1) (j:=q+1+k) n λa b h ab bm=>T.up a b h ab<|Zg bm v;let H:MH lt N (ix.extract f<|q+1) (ix.extract (q+1)<|q+1+k):=(W,xn,yn,U,px,py);let J:(ix.extract f<|q+1).size=u:=by rw[VO,];lia
 let sy:(ix.extract (q+1)<|q+1+k).size=k:=by rw[VO,];lia
 let gx0:gx (ix.extract f<|q+1) 0=gx ix f:=AB m C;let F:gx (ix.extract f<|q+1) (u-1)=gx ix q:=by rw[AB () C,show f+(u-1)=q by lia]
 let G:gx (ix.extract (q+1)<|q+1+k) 0=gx ix (q+1):=AB () n;let gyl:gx (ix.extract (q+1)<|q+1+k) (k-1)=gx ix (q+k):=by rw[AB () n,show q+1+(k-1)=q+k by lia]
 rw[HJ,HJ];rw[wi (λ_=>Yl<|RZ H O B.kd (by rw[J,];rw[u1]) (by rw[sy,];rw[I]) (by rw[G,gx0];rw[m4 f (Zf _) m]) (λy X=>?_) λo s2 se M=>HS W S T hz hb B h g m I v m3 P se M)
  λ_=>Yl<|Sc H O B.kd (by rw[J,];rw[u1]) (by rw[sy,];rw[I]) (λx p=>?_) (by rw[J,sy,gyl,F];rw[k3 _ () ()]) λo s2 se M=>HS W S T hz hb B h g m I v m3 P se M]
 .let(-l,r,t,rfl):=Xt n X;rw[J,F];rw[.inl<|k3 l r t]
 .let(-l,r,t,rfl):=Xt C p;rw[G,];rw[.inl<|m4 l r t]
theorem sZ(e:f+u=q+1)(H:1<=y)(I:q+1+y=b)(g:a<=f)(o:∀i,a<=i->i<f->lt (gx ix<|q+1) (gx ix i)=7)(t:∀i,f<=i->i<q+1->lt (gx ix<|q+1) (gx ix i)=6):YG prog w A E s (cu (ix.map it) f u (q+1) y) Q st:=by
 let l:q+1<b:=()
 let v:q+1<N:=Zg l hb;let x:a<=q+1:=Zh g<|Nat.le.intro e;rw[wi (λc=>Ym<|HU W S T hz hb B h (λi p n=>.inr (o i p ?_,Zg (S.pl i p n).2 (T.pl _ (Zf _) l).1)) x l) λc=>?_]
 .let c:u=0:=Yp.mp c;subst c;let e:f=q+1:=e;rw[e,];rw[n]
 let z:1<=u:=V1 λy=>c<|Yp.mpr y;rw[show f+u-1=q by rw[e,];rfl,];rw[Yl<|QJ ()<|Yl<|Z8 O B.kd (vv _<|U7 v) () (λi n=>vv _ ()) () (λi j C J q=>Sf W (T.up _ _ (Us _ _) (Nat.add_lt_add_left C _) ()) q) λk L F G=>?_];rw[sY W S T hz hb B h O vv e z g l () o t (λi m r=>?_) λi m r=>?_]
 .let(d,rfl):=Vl m;rw[F d<|VN r]
 .let(d,rfl):=Vl (Zh (Us _ _) m);rw[G d (Wj m) ()]
theorem tc(e:a+x=q+1)(g:1<=x)(l:1<=y)(n:q+1+y=b):YG prog w A E s (cv (ix.map it) a x (q+1) y) Q st:=by
 let o:q+1<N:=()
 rw[Yl<|QJ ()<|Yl<|Z8 O B.kd (vv _ o) () () g (λi j p u q=>Se W (S.up _ _ (Us _ _) (Nat.add_lt_add_left p _) ()) q) λm m2 r t=>sZ W S T hz hb B h O vv (by rwa[Nat.add_assoc,VG m2]) l n (Us _ _) (λi c f=>?_) λi c f=>?_]
 .let(d,rfl):=Vl c;let z:(not<|lt (gx ix<|q+1)<|gx ix<|a+d)=6:=r d<|VN f;simpa using z
 .let(d,rfl):=Vl (Zh (Us _ _) c);let z:(not<|lt (gx ix<|q+1)<|gx ix<|a+d)=7:=t d (Wj c) ();simpa using z
end
def Sn    (W:Wk lt)(O:zb f w A s b n lt N)(B:SBp n b (l++%[a,x|j]::%[a+x,y|t]::r).toArray c st)(o:c.size=N)(u:c.Perm (Array.range N))(S:Seg lt c a (a+x))(T:Seg lt c (a+x) (a+x+y))(v:1<=x)(z:1<=y)(p:a+x+y<=N)
 (h:∀m g,SBp n b (l++%[a,x+y|j]::r).toArray m g->m.Perm c->Seg lt m a (a+x+y)->(∀i,i<a\/a+x+y<=i->gx m i=gx c i)->Q 6 g):YG f w A E s (mergeAt' ⇑l) Q st:=by
 let C:(pendingOf st)[⇑l]?=!%[a,x|j]:=by rw[B.pd,];simp
 let F:(pendingOf st)[⇑l+1]?=!%[a+x,y|t]:=by
  rw[B.pd,List.getElem?_toArray,Uv (Us _ _),VP];rfl
 rw[fg,];rw[Yl<|wpS_get ?_];rw[C,F];rw[B.arr,];let G:SBp n b (l++%[a,x+y|j]::r).toArray c (setPending st<|((pendingOf st).setIfInBounds ⇑l %[a,x+y|j]).eraseIdxIfInBounds<|⇑l+1):=(B.arr,B.kd,B.fl,by rw[Ep,B.pd];(simp_all[List.eraseIdx_append_of_length_le]));let(q,e):∃q,a+x=q+1:=(a+x-1,());rw[e]at S T p h ⊢;rw[tc W S T o p G h O λi H=>HM u<|by rwa[o,] e v z 9]
def yZ(lt:Yc)(c:Yg):5->List (5×5×5)->5->4
 |a,[],b=>a=b
 |a,p::r,b=>p.1=a/\1<=p.2.1/\Seg lt c a (a+p.2.1)/\yZ lt c (a+p.2.1) r b
theorem yZ.le :∀{l:List (5×5×5)}{a b:5},yZ lt c a l b->a+⇑l<=b
 |[],a,b,h=>by rw[h,];simp
 |p::r,a,b,(_,h2,_,h4)=>by let:=h4.le;grind
theorem yZ.app :∀{l r:List (5×5×5)}{a b:5},yZ lt e a (l++r) b->∃c,yZ lt e a l c/\yZ lt e c r b
 |[],r,a,b,h=>(a,9,h)
 |p::l,r,a,b,(f,h2,h3,h4)=>by
  let(-c,i,j):=yZ.app (l:=l) h4;rw[(c,(f,h2,h3,i),j)]
theorem yZ.cat :∀{l r:List (5×5×5)}{a b c:5},yZ lt e a l c->yZ lt e c r b->yZ lt e a (l++r) b
 |[],r,a,b,c,h,k=>by rwa[h,]
 |p::l,r,a,b,c,(f,h2,h3,h4),k=>(f,h2,h3,yZ.cat h4 k)
theorem yZ.same :∀{l:List (5×5×5)}{a b:5},yZ lt c a l b->(∀i,a<=i->i<b->gx e i=gx c i)->yZ lt e a l b
 |[],a,b,h,_=>h
 |p::r,a,b,(f,h2,h3,h4),k=>(f,h2,h3.same λi x y=>k i x<|by let:=h4.le;lia,h4.same ())
structure RI(it:5->Keyed)(kind:SortKind)(lt:Yc)(N:5)(ps:List (5×5×5))(lo:5)(ix:Yg)(st:SortSt):4 where
 b:SBp it kind ps.toArray ix st
 size:ix.size=N
 perm:ix.Perm (Array.range N)
 ch:yZ lt ix 0 ps lo
 le:lo<=N
def HV{i lo:5}   (W:Wk lt)(O:zb g w A s b t lt N)(R:RI t b lt N f lo o st)(S:i+1<⇑f)
 (h:∀j m a,⇑j+1=⇑f->RI t b lt N j lo m a->(∀i,lo<=i->gx m i=gx o i)->Q 6 a):YG g w A E s (mergeAt' i) Q st:=by
 let(l,x,y,r,rfl,hl):∃l x y r,f=l++x::y::r/\⇑l=i:=(f.take i,f[i],f[i+1],f.drop<|i+2,by
  rw[<-Uo S,<-Uo (),UM],by rw[Uq,];lia)
 let(-c,T,U):=R.ch.app;let(p,e,X):=x;let(Y,n,yp):=y;let(!u,v,z,C,F,G,H):=U;let Z:p=c:=u;let q4:Y=c+e:=C;let I:1<=e:=v;let q5:1<=n:=F;let q3:Seg lt o c (c+e):=z;let q6:Seg lt o (c+e) (c+e+n):=G;let J:yZ lt o (c+e+n) r lo:=H;clear u v z C F G H;subst Z q4;let lr:=J.le;let le:=R.le;let B:=R.b;subst hl;rw[Sn W O B R.size R.perm q3 q6 I q5 () λm a B' L M q=>h (l++%[p,e+n|X]::r) m a (by rw[Ua,Ua];rfl) (B',by rw[L.size_eq,];rw[R.size],L.trans R.perm,?_,R.le) λi P=>q i<|.inr ()];rw[Nat.add_assoc]at M;rw[(T.same λi _ h2=>q i<|.inl h2).cat (9,Zh I<|Us _ _,M,?_)];show yZ lt m (p+(e+n)) r lo;rw[<-Nat.add_assoc];rw[J.same λi P _=>q i<|.inr P]
def So {x:5×5×5}(f):(l++[x]).toArray.modify ((l++[x]).toArray.size-1) f=(l++[f x]).toArray:=by
 let e:∀l:List (5×5×5),(l++[x]).modify ⇑l f=l++[f x]:=λl=>by
  cases(l)with
  |nil=>rfl
  |cons y l a=>show y::(l++[x]).modify ⇑l f=_;rw[a,];rfl
 simp[e]
abbrev U2:=02 Unit×Unit
abbrev U1:=02 Unit×5
noncomputable def ci(a:5):SM (ForInStep U2):=get>>=λz=>match if(pendingOf z).size>1 then(pendingOf z)[(pendingOf z).size-2]? else 8 with
 |some %[_,_|older]=>if older<=a then pure (.done %[8|Yq])else mergeAt' ((pendingOf z).size-2)>>=λb=>if(not b)=6 then pure (.done %[!Yq|Yq])else pure (.yield %[8|Yq])
 |_=>pure (.done %[8|Yq])
noncomputable def sE(lo n:5):SM (ForInStep U1):=(modify λs=>setPending s<|(pendingOf s).push %[lo,n|0])>>=λ_=>pure<|.yield %[8|lo+n]
noncomputable def cf(lo n a:5)(c:U2):SM (ForInStep U1):=match c.1 with
 |some r=>pure (.done %[!r|lo])
 |none=>(modify λs=>setPending s<|(pendingOf s).modify ((pendingOf s).size-1) λ%[st,len|_]=>%[st,len|a])>>=λ_=>sE lo n
noncomputable def mU(N lo n:5):SM (ForInStep U1):=get>>=λz=>match(pendingOf z).back? with
 |some %[b,a|_]=>(forIn [:N] (%[8|Yq]:U2) λ_ _=>ci<|power' N (2*b+a) (2*b+a+a+n) N)>>=cf lo n (power' N (2*b+a) (2*b+a+a+n) N)
 |_=>sE lo n
noncomputable def srB(N a lo:5):SM (ForInStep U1):=if lo ≥ N then pure (.done %[8|lo])else countRun' lo (N-lo)>>=λr=>match r with
 |some n=>if n<a then(liftM (rule "list.sort.binary-insertion"):SM PUnit)>>=λ_=>binarySort' lo (min (N-lo) a) n>>=λb=>if(not b)=6 then pure (.done %[!Yq|lo])else mU N lo (min (N-lo) a)else mU N lo n
 |_=>pure (.done %[!Yq|lo])
noncomputable def cg(p:Array (5×5×5)):5:=if Option.any (λx=>decide<|x<p[p.size-2+1]?.elim 0 λx=>x.2.1) (if p.size-2>0 then p[p.size-2-1]?.map λx=>x.2.1 else 8)=6 then p.size-2-1 else p.size-2
noncomputable def cj:SM (ForInStep U2):=get>>=λz=>if(pendingOf z).size<=1 then pure (.done %[8|Yq])else mergeAt' (cg<|pendingOf z)>>=λb=>if(not b)=6 then pure (.done %[!Yq|Yq])else pure (.yield %[8|Yq])
set_option smartUnfolding false in
def kT:sortRuns'=get>>=λz=>(forIn [:(arrOf z).size] (%[8|0]:U1) λ_ c=>srB (arrOf z).size (minRun' (arrOf z).size (arrOf z).size 0) c.2)>>=λc=>match c.1 with
 |some r=>pure r
 |none=>(forIn [:(arrOf z).size] (%[8|Yq]:U2) λ_ _=>cj)>>=λc=>match c.1 with
  |some r=>pure r
  |none=>pure Yq:=rfl
def Sq [Decidable c]{x y z:5}(h:x<=z)(k:y<=z):(if c then x else y)<=z:=by split<;>assumption
def Sr :cg p<=p.size-2:=Sq (Vk _ _)<|Zf _
section
variable  {lo k pw:Nat}  {R:ForInStep U1->Yy}(Sg:Seg lt jx lo (lo+k))(k1:1<=k)(k2:lo+k<=N)(suf:∀i,lo+k<=i->i<N->gx jx i=i)
 (go:∀ps jx st',RI it kind lt N ps (lo+k) jx st'->(∀i,lo+k<=i->i<N->gx jx i=i)->R (.yield (none,lo+k)) st')
include Sg k1 k2 suf go
theorem HW(a:RI it kind lt N ps lo jx st):YG b w A E s (sE lo k) R st:=
 Yl<|wpS_modify<|Ym<|go (ps++[%[lo,k|0]]) jx _ ((a.b.arr,a.b.kd,a.b.fl,by rw[Ep,a.b.pd];simp),a.size,a.perm,a.ch.cat (9,k1,Sg,9),k2) suf
theorem Ss(l:1<=⇑ps)(a:RI it kind lt N ps lo jx st):YG b w A E s (cf lo k pw %[8|Yq]) R st:=by
 obtain z|⟨l2,v,z⟩:=List.eq_nil_or_concat ps
 .ext
 .subst z;rw[List.concat_eq_append]at a;rw[Yl<|wpS_modify<|HW (ps:=l2++[%[v.1,v.2.1|pw]]) Sg k1 k2 suf go ((a.b.arr,a.b.kd,a.b.fl,?_),a.size,a.perm,?_,a.le)]
  .rw[Ep,a.b.pd];rw[So _]
  .let(-c,e,f,g,h,j):=a.ch.app;rw[e.cat (f,g,h,j)]
end
def Su {lo m:5}  (W:Wk lt)(O:zb e w A s c g lt N)(q:1<=⇑h)(j:RI g c lt N h lo n st)(l:Q (.done %[8|Yq]) st)
 (go:∀a f b,1<=⇑a->RI g c lt N a lo f b->(∀i,lo<=i->gx f i=gx n i)->Q (.yield %[8|Yq]) b):YG e w A E s (ci m) Q st:=by
 rw[Yl<|wpS_get ?_];rw[j.b.pd,]
 split
 .let r:2<=⇑h:=by
   grind
  rw[wi (λ_=>Ym l) λ_=>Yl<|HV W O j () λa f b t o p=>Ym<|go a f b () o p]
 .rw[Ym l]
def Sv {lo k:5}  (W:Wk lt)(O:zb j w A s a m lt N)(B:SBp m a b.toArray f st)(L:PlO lo N F f (lo+k))(U:zX lt lo f (lo+k))(G:yZ lt F 0 b lo)(le:lo<=N)(t:1<=k)(u:lo+k<=N)
 (go:∀b e g,RI m a lt N b (lo+k) e g->(∀i,lo+k<=i->i<N->gx e i=i)->R (.yield %[8|lo+k]) g):YG j w A E s (mU N lo k) R st:=by
 let v:Seg lt f lo (lo+k):=(L.mid,U);let x:RI m a lt N b lo f st:=(B,L.size,L.perm,G.same λi _ o=>L.low i o,le);rw[Yl<|wpS_get ?_];rw[B.pd,];obtain z|⟨l,y,z⟩:=List.eq_nil_or_concat b
 .subst z;rw[HW v t u L.suf go x]
 .let h:1<=⇑b:=by rw[z,List.concat_eq_append,Ua];rw[Nat.le_add_left _ _]
  rw[show b.toArray.back?=!y by rw[z,List.concat_eq_append];simp,];rw[Yl<|Yn (Yo (I:=λ_ c n=>c=%[8|Yq]/\∃b e,1<=⇑b/\RI m a lt N b lo e n/\∀i,lo<=i->gx e i=gx f i) (Q:=λc n=>c=%[8|Yq]/\∃b e,1<=⇑b/\RI m a lt N b lo e n/\∀i,lo<=i->gx e i=gx f i) ?_ (λ_ _ z=>z) (9,_,f,h,x,002)) ?_]
  .rintro y c n _ _ ⟨rfl,b,e,h,p,un⟩;rw[Su W O h p (9,b,e,h,p,un) λr H g J M P=>(9,r,H,J,M,λi C=>(P i C).trans<|un i C)]
  .rintro c n ⟨rfl,b,e,h,p,un⟩;rw[Ss (v.same λi q o=>un i q) t u (λi q o=>(un i<|Zh (Us _ _) q).trans<|L.suf i q o) go h p]
def Sw   (W:Wk lt)(O:zb f w A s e h lt N)(R:RI h e lt N g N i st)(j:⇑g<=1->Q (.done %[8|Yq]) st)
 (go:∀a l b,⇑a+1=⇑g->RI h e lt N a N l b->Q (.yield %[8|Yq]) b):YG f w A E s cj Q st:=by
 rw[Yl<|wpS_get ?_];rw[R.b.pd,];rw[wi (λc=>Ym<|j c) λc=>Yl<|HV W O R ?_ λa i b m n _=>Ym<|go a i b m n];let:=Sr (p:=g.toArray)
 grind
def Sx  (W:Wk lt)(O:zb t w A s j u lt N)(S:RI u j lt N [] 0 l st)(q:∀i,i<N->gx l i=i)(y:2<=N)
 (h:∀o n,arrOf n=o.map u->failedOf n=8->Pl N o N->Up lt o N->Q Yq n):YG t w A E s sortRuns' Q st:=by
 let sz:(arrOf st).size=N:=by rw[S.b.arr,Uu];rw[S.size]
 rw[kT,];rw[Yl<|wpS_get ?_];rw[sz,];rw[Yl<|Yn (Yo (I:=λx c F=>∃lo f l,c=%[8|lo]/\x<=lo/\RI u j lt N f lo l F/\∀i,lo<=i->i<N->gx l i=i) (Q:=λc F=>∃f l,c=%[8|N]/\RI u j lt N f N l F) ?_ ?_ (0,[],l,9,Zf _,S,λi _ hi=>q i hi)) ?_]
 .intro x c F _ xn;rw[qf λlo f l=>xb λz Z R q=>?_];subst z;let le:=R.le;rw[wi (λC=>?_) λC=>?_]
  .let e:lo=N:=Nat.le_antisymm le C;subst e;rw[Ym (f,l,9,R)]
  let C:lo<N:=Ys C;let L1:PlO lo N l l (lo+1):=(R.size,R.perm,002,λa G y=>by
   rw[q a G (Zg y C),];rw[(G,y)],λa G y=>q a (UE G) y)
  let sub:∀{k},k<=N-lo->lo+k<=N:=λh=>Zh (VX h _)<|Yu<|VG le;let J:∀{k P T}{v:ForInStep U1->Yy},SBp u j f.toArray P T->1<=k->k<=N-lo->PlO lo N l P (lo+k)->zX lt lo P (lo+k)->(∀f o n,x+1<=lo+k->RI u j lt N f (lo+k) o n->(∀i,lo+k<=i->i<N->gx o i=i)->v (.yield %[8|lo+k]) n)->YG t w A E s (mU N lo k) v T:=
   λB k1 k2 L U g=>Sv W O B L U R.ch le k1 (sub k2) λf o n v M=>g f o n (Nat.add_le_add Z k1) v M
  rw[Yl<|Sk W O (sub<|Zf _) (λm kx s2 B2 m1 m2 L2 U2=>wi (λmn=>Yl<|wpS_lift<|wpAny_rule (9,Yl<|Sm W O (sub<|Nat.min_le_left _ _) (Nat.le_min.mpr (m2,Zz mn)) m1 B2 L2 U2 λP T B3 L3 U3=>J B3 (Nat.le_min.mpr (Nat.sub_pos_of_lt C,Nat.zero_lt_of_lt mn)) (Nat.min_le_left _ _) L3 U3 λf o n g v M=>jg _ f o (9,g,v,M))) λ_=>J B2 m1 m2 L2 U2 λf o n g v M=>jg _ f o (9,g,v,M)) (Nat.sub_pos_of_lt C) R.b L1]
 .rintro c F ⟨lo,f,l,rfl,Z,R,q⟩;let le:=R.le
  grind
 .rintro c F ⟨f,l,rfl,R⟩;rw[Yl<|Yn (Yo (I:=λx c H=>∃f l,c=%[8|Yq]/\(⇑f<=1\/⇑f+x<=N)/\RI u j lt N f N l H) (Q:=λc H=>∃f l,c=%[8|Yq]/\⇑f<=1/\RI u j lt N f N l H) ?_ ?_ (f,l,9,.inr<|by let:=R.ch.le;lia,R)) ?_]
  .rintro x c H _ xn ⟨f,l,rfl,lp,R⟩;rw[Sw W O R (λc1=>(f,l,9,c1,R)) ()]
  .grind
  .rintro c H ⟨f,l,rfl,lp,R⟩;cases f with
   |nil=>
    let:0=N:=R.ch;lia
   |cons p r=>
    let e:r=[]:=List.eq_nil_of_length_eq_zero<|Nat.le_zero.mp<|Nat.le_of_succ_le_succ lp;subst e;let(!d1,d2,X,Y):=R.ch;let Y:0+p.2.1=N:=Y;rw[Y]at X;rw[Ym<|h l H R.b.arr R.b.fl (R.size,R.perm,λa ha=>(X.pl a (Ub _) ha).2,λa G y=>Zn y<|Nat.not_lt_of_le G) λa b ab bn=>X.up a b (Ub _) ab bn]
end
open PySem PyProof.Rows
section
variable           {st:SortSt}
def HX(W:Wk lt)(O:zb b w A s c f lt n) (B:SB f c ix st)(L:Pl n ix 1)(g:2<=n)(j:n<1000)
 (h:∀e a,arrOf a=e.map f->failedOf a=8->Pl n e n->Up lt e n->Q Yq a):YG b w A E s sortRuns' Q st:=
 Sx W O ((B.arr,B.kd,B.fl,B.pd),L.size,L.perm,9,Ub _) (λi l=>if z:i=0 then by rw[z,];let:=L.pre 0 ();lia else L.suf i () l) g h
end
def jI(a:Ye)(i:5):Value:=a.getD i .none
def Er(a):a.toArray.zip a.toArray=(Array.range ⇑a).map λi=>%[jI a i|jI a i]:=by
 apply Array.ext_getElem?;intro k;rw[U6,];cases h:k<⇑a
 .rw[V2,Zd h];let e:jI a k=a[k]:=by ext jI;rw[Ue,Zqg h];rfl
  simp[Array.getElem?_zip_eq_some,h,e]
 .rw[V2,Ze h,VQ (by simp;lia)];rfl
def HY (h:k<n):gx (Array.range n) k=k:=by
 simp_all[gx]
def Ce(n k)(b:k<=n):Pl n (Array.range n) k:=by
 rw[(Array.size_range,Array.Perm.refl _,λa c=>?_,λa _ h=>HY h)]
 rwa[HY (),]
section
variable {prog:Program}{w:World}{A:Around}  {s:Shared}{lt:Yc}
def vg(prog:Program)(w:World)(A:Around)(s:Shared)(b:Ye)(lt:Yc):4:=
 ∃a,(∀(E:Ya)(Q:SortKind->Yz),Q a s->YF prog w A (keyKind' b.toArray) Q E s)/\zb prog w A s a (λi=>%[jI b i|jI b i]) lt ⇑b
def HZ    (W:Wk lt)(u:↥s a=! seqObj 013 c.toArray n)(x:⇑c<1000)
 (G:∀z,(∀b o,b≠a->↥s b=!o->z.get? b=!o)->2<=⇑c->vg prog w A {s with heap:=z} c lt)
 (h:∀f,Pl ⇑c f ⇑c->Up lt f ⇑c->P (.done<|.ret .none) {s with heap:=sortedHeap s.heap a c (f.map<|jI c)}):
 YF prog w A (Builtin.«list.sort» ([016],[])) P E s:=by
 rw[list_sort_plain,];let B:a<s⁻¹:=Zk u;let(y,C):∃y,(s.heap.update a<|Obj.mapSeq λ_=>#[]).get? a=! seqObj 013 #[] y:=(_,get?_update_seq u<|λ_=>#[]);rw[Za<|listItems_at u 9<|Za<|listUpdate_at u 9<|Za<|seqEpoch_at C 9<|Za<|wpAny_newTuple<|Za<|wpAny_newList<|wpAny_holding ?_];let p:∀b,b<s⁻¹->b≠(s.heap.update a<|Obj.mapSeq λ_=>#[]).objs.size:=λb q=>by
  rw[Heap.size_update,];rw[Zi q]
 let r:∀b,b<s⁻¹->b≠((s.heap.update a<|Obj.mapSeq λ_=>#[]).push<|seqObj "tuple" c.toArray 0).objs.size:=λb q=>by
  rw[size_push',Heap.size_update];rw[Zi<|UD q]
 let v:(((s.heap.update a<|Obj.mapSeq λ_=>#[]).push<|seqObj "tuple" c.toArray 0).push<|seqObj 013 #[] 0).get? a=! seqObj 013 #[] y:=by
  rw[Heap.get?_push_ne _ _ _ (r a B),Heap.get?_push_ne _ _ _ (p a B)];rw[C]
 let H:∀b o,b≠a->↥s b=!o->(((s.heap.update a<|Obj.mapSeq λ_=>#[]).push<|seqObj "tuple" c.toArray 0).push<|seqObj 013 #[] 0).get? b=!o:=λb o q e=>by
  rw[Heap.get?_push_ne _ _ _ (r b<|Zk e),Heap.get?_push_ne _ _ _ (p b<|Zk e),Heap.get?_update_ne _ _ _ _ q];rw[e]
 let F:∀(f:Yg),(f.map λi=>%[jI c i|jI c i]).map (·.2)=f.map (jI c):=λf=>by
  rw[Array.map_map,];rfl
 show YF prog w A _ P E {s with heap:=((s.heap.update a<|Obj.mapSeq λ_=>#[]).push<|seqObj "tuple" c.toArray 0).push (seqObj 013 #[] 0)};dsimp only;let sz:c.toArray.size=⇑c:=by simp
 cases l:c.toArray.size<2
 .rw[Zd l,Zd l];rw[Za<|Zb ?_];rw[StateT.run_pure,];rw[Za<|Zb ?_];dsimp only;rw[Za<|seqEpoch_at v 9<|Za<|listUpdate_at v 9 ?_ (hsz2:=by rw[Uu,Er,Uu,Array.size_range,sizeLine_eq];lia)];simp only[bne_self_eq_false,UO,if_false];let g:=h (Array.range ⇑c) (Ce _ _<|Zf _) λi j R S=>()
  rw[<-F,<-Er]at g;rw[Zb g]
 .rw[Ze l,Ze l];let(-t,I,J):=G _ H ();rw[Za<|I _ _ ?_];rw[Za<|Zc (HX W J (ix:=Array.range ⇑c) (st:=SortSt.mk' t (c.toArray.zip c.toArray) #[] 07 8) (Q:=λ_ m=>∃f,arrOf m=f.map (λi=>%[jI c i|jI c i])/\failedOf m=8/\Pl ⇑c f ⇑c/\Up lt f ⇑c)
   (Er c,9,9,9) (Ce _ _ ()) () x λf m L M N O=>(f,L,M,N,O)) ?_ λ_ _ e=>e]
  rintro⟨⟨⟩,m⟩ T ⟨rfl,f,q1,q2,q3,q4⟩;dsimp only;rw[Za<|seqEpoch_at v 9<|Za<|listUpdate_at v 9 ?_ (hsz2:=by
   rw[Uu,q1,Uu,q3.size,sizeLine_eq];lia)]
  rw[q2,];simp only[bne_self_eq_false,UO,if_false];let g:=h f q3 q4;rw[<-F,<-q1]at g;rw[Zb g]
def Ia  (W:Wk lt)
 (j:wpAny (model prog w) A.in1 (collect x) (λa c=>⇑a<1000/\(∀f,(∀b o,↥c b=!o->f.get? b=!o)->2<=⇑a->vg prog w A.in1.in1 {c with heap:=f} a lt)/\
  ∀g f l,Pl ⇑a g ⇑a->Up lt g ⇑a->(∀b o,↥c b=!o->f.get? b=!o)->c⁻¹<=l->(∃e,f.get? l=! seqObj 013 (g.map<|jI a) e)->Q (.ref l) {c with heap:=f}) E s):
 YF prog w A (call (.builtin "sorted") [x]) Q E s:=by
 rw[Calls.call_function_entry kind_sorted plain_sorted entry_sorted (args_sorted1 _)<|Za<|Zb<|Za<|Zc j (λa c z=>?_) λ_ _ e=>e];let(h,m,n):=z;let i:(c.heap.push<|seqObj 013 a.toArray 0).get? c⁻¹=! seqObj 013 a.toArray 0:=Zr _ 9;let q:∀b o,↥c b=!o->b≠c⁻¹:=λb o e=>Zi<|Zk e;rw[Za<|wpAny_newList<|Za<|wpAny_holding<|wpAny_call_entry slot_list_sort (_,i,9) entry_list_sort (HZ W i h (λf r=>m f λb o e=>r b o (q b o e)<|Zq _ e) λg p u=>(_,9,Zb (_,9,n g _ _ p u (λb o e=>?_) (Zf _)<|sortedHeap_at i)))<|args_list_sort _]
 grind[size_push',sortedHeap_old,Nat.lt_succ_of_lt,Heap.lt_size,Heap.get?_push_of_some]
end
structure Tot{α:Type}(ltb:α->α->Bool):4 where
 asy:∀a b,ltb a b=6->ltb b a=7
 neg:∀a b c,ltb a c=6->ltb a b=6\/ltb b c=6
 tot:∀a b,ltb a b=7->ltb b a=7->a=b
def Tot.irr  (T:Tot c)(a):c a a=7:=by
 cases q:c a a with
 |false=>rfl
 |true=>let:=T.asy _ _ q;ext
def Tot.wk {c:α->α->Bool}(T:Tot c)(f:5->α):Wk λi j=>c (f i)<|f j:=(λi j=>T.asy _ _,λi j k=>T.neg _ _ _)
noncomputable def qo(p q:3×3):Bool:=decide (p.1<q.1)||decide (p.1=q.1)&&decide (p.2<q.2)
theorem XU :qo p q=6↔p.1<q.1\/p.1=q.1/\p.2<q.2:=by
 ext qo;simp
theorem AE :qo p q=7↔¬(p.1<q.1\/p.1=q.1/\p.2<q.2):=by
 rw[<-XU];simp
def v0:Tot qo:=by
 rw[(λa b h=>?_,λa b c h=>?_,λa b e f=>?_)]
 .rw[XU]at h;rw[AE,];lia
 .grind[XU]
 grind[AE]
def jK:J0->J0->Bool
 |[],[]=>7
 |[],_::_=>6
 |_::_,[]=>7
 |p::r,q::s=>if p=q then jK r s else qo p q
def WT(p q)(r s):jK (p::r) (q::s)=if p=q then jK r s else qo p q:=rfl
theorem Ib:∀a b:J0,jK a b=6->jK b a=7
 |[],[],h=>JH h
 |[],_::_,_=>9
 |_::_,[],h=>JH h
 |p::r,q::s,h=>by
  rw[WT]at h ⊢;cases e:p=q
  .rw[Zd e]at h;rw[Zd e.symm,];rw[Ib r s h]
  .rw[Ze e]at h;rw[Ze λz=>e z.symm,];rw[v0.asy _ _ h]
theorem Ic:∀a b c:J0,jK a c=6->jK a b=6\/jK b c=6
 |[],[],c,h=>.inr h
 |[],_::_,_,_=>006
 |_::_,_,[],h=>JH h
 |p::r,[],q::s,_=>.inr 9
 |p::r,x::t,q::s,h=>by
  rw[WT]at h;rw[WT,WT];cases e:p=q
  .rw[Zd e]at h;cases f:p=x
   .rw[Zd f,Zd (f.symm.trans e)];rw[Ic r t s h]
   .rw[Ze f,Ze λz=>f<|e.trans z.symm]
    induction z:qo p x with
    |true=>simp
    |false=>
     right;rw[<-e]
     induction y:qo x p with
     |true=>rfl
     |false=>rw[Zn (v0.tot _ _ z y) f]
  .rw[Ze e]at h;cases f:p=x
   .ext
   .rw[Ze f,];cases g:x=q
    .left
     rwa[g,]
    .rw[Ze g,];rw[v0.neg _ _ _ h]
theorem Ie:∀a b:J0,jK a b=7->jK b a=7->a=b
 |[],[],_,_=>9
 |[],_::_,h,_=>by cases h
 |_::_,[],_,h=>by cases h
 |p::r,q::s,c,h2=>by
  rw[WT]at c h2;cases e:p=q
  .rw[Zd e]at c;rw[Zd e.symm]at h2;rw[e,Ie r s c h2]
  .rw[Ze e]at c;rw[Ze λz=>e z.symm]at h2;rw[Zn (v0.tot _ _ c h2) e]
def yJ:Tot jK:=(Ib,Ic,Ie)
section
variable {α: Type}(ltb:α -> α -> Bool)
noncomputable def wf(x:α):List α->List α
 |[]=>[x]
 |y::r=>if ltb x y=6 then x::y::r else y::wf x r
def Qs:List α->List α
 |[]=>[]
 |x::r=>wf ltb x (Qs r)
def Sd(l:List α):4:=l.Pairwise λa b=>ltb b a=7
variable {ltb}
theorem Es(x):∀l:List α,(wf ltb x l).Perm (x::l)
 |[]=>VM _
 |y::r=>by
  ext wf
  split
  .rfl
  .rw[((Es x r).cons y).trans<|List.Perm.swap x y r]
theorem QM:∀l:List α,(Qs ltb l).Perm l
 |[]=>VM _
 |x::r=>(Es x _).trans ((QM r).cons x)
theorem Ig(T:Tot ltb)(x):∀l:List α,Sd ltb l->Sd ltb (wf ltb x l)
 |[],_=>V3 _ _
 |y::r,h=>by
  have(f,b):=Ji.mp h;ext wf
  split
  .rename_i c;rw[Ji.mpr (λz a=>?_,h)];obtain e|e:=UY.mp a
   .rw[e,];rw[T.asy _ _ c]
   .induction q:ltb z x with
    |false=>rfl
    |true=>
     obtain u|u:=T.neg x z y c
     .rw[T.asy _ _ u]at q;rw[JH q]
     ext
  .rw[Ji.mpr (λz a=>?_,Ig T x r b)]
   grind[Es]
theorem XV(T:Tot ltb):∀l:List α,Sd ltb (Qs ltb l)
 |[]=>List.Pairwise.nil
 |x::r=>Ig T x _ (XV T r)
theorem Cf(T:Tot ltb):∀{a b:List α},a.Perm b->Sd ltb a->Sd ltb b->a=b
 |[],b,p,_,_=>p.nil_eq
 |x::r,b,p,ha,hb=>by
  cases(b)with
  |nil=>ext
  |cons y t=>
   have(c,f):=Ji.mp ha;have(g,h):=Ji.mp hb;let e:x=y:=by
    rcases UY.mp (p.mem_iff.mp Zqs)with z|z
    .rw[z]
    .rcases UY.mp (p.mem_iff.mpr Zqs)with u|u
     .rw[u.symm]
     .rw[T.tot _ _ (g x z)<|c y u]
   subst e;rw[Cf T p.cons_inv f h,]
def Et(T:Tot ltb)   (p:Pl ⇑l c ⇑l)(u:Up (λi j=>ltb (l.getD i d)<|l.getD j d) c ⇑l):c.toList.map (λi=>l.getD i d)=Qs ltb l:=by
 rw[Cf T ?_ ?_<|XV T l]
 .rw[VI ?_ (QM l).symm];let q:c.toList.Perm (List.range ⇑l):=by
   let:=Jt.mp p.perm;simpa using this
  rw[(q.map _).trans<|List.Perm.of_eq ?_];apply List.ext_getElem
  .simp
  .intro i o e;simp[e]
 .rw[Jk.mpr λa b f g h=>?_];rw[V4,V4];let sz:⇑c.toList=⇑l:=by rw[Uw,p.size]
  rw[Zql]at f g;let m:c.toList[a]=gx c a:=by
   simp_all[gx]
  let n:c.toList[b]=gx c b:=by
   simp_all[gx]
  rw[m,n];rw[jQ.no (T.wk λi=>l.getD i d)<|u a b h ()]
end
def Q0{α:Type}{l:List α} {d x:α}(h:l[i]?=!x):l.getD i d=x:=()
def XX(h:Heap)(b:Ye)(c:J0):4:=⇑b=⇑c/\∀(i:5)p,c[i]?=!p->∃a o n t u,b[i]?=! 016/\h.get? a=!o/\o.cls=.type "tuple"/\o.data=.seq #[.int p.1 t,.int p.2 u] n
theorem Ih :∀{vs:Ye}{ps:J0},XX h vs ps->∃fs,W.KatTups h vs fs/\⇑fs=⇑vs/\∀v∈fs,∃k t,v=Value.int k t
 |[],ps,q=>([],.nil,9,λv b=>nomatch b)
 |v::vs,[],q=>by let:=q.1;simp at this
 |v::vs,p::ps,q=>by
  let(a o n t u,c,e,f,g):=q.2 0 p 9;let c:some v=! Value.ref a:=c;obtain rfl:=Zqi c;let(-fs,j,l,m):=Ih (h:=h) (vs:=vs) (ps:=ps) (by let:=q.1;simpa using this,λi p r=>q.2 (i+1) p r);rw[(.int p.1 t::fs,.cons e f g 9 j,by simp[l],λv b=>?_)];obtain z|z:=UY.mp b
  .rw[jR p.1 t z]
  .rw[m v z]
def Sy  (q:XX s.heap l m)(N:2<=⇑l):vg e w A s l λi j=>qo (m.getD i %[0|0])<|m.getD j %[0|0]:=by
 let(-fs,x,O,y):=Ih q;rw[(tuples'<|Value.type "int"!=Value.type "tuple",λE Q h=>W.kat_kind (T:=Value.type "int") x () (λv B=>?_) 9 h,λi j P R E Q h=>?_)]
 .let(k t,rfl):=y v B;rw[W.Looks.of_pure 9]
 .let S:=q.1;let(p,r):∃p,m[i]?=!p:=by grind
  let(b,f):∃p,m[j]?=!p:=by grind
  let(a o n t u,C,F,U,G):=q.2 i p r;let(X Y Z H I,J,L,f3,M):=q.2 j b f;dsimp only at h;rw[Q0 r,Q0 f]at h;show YF e w A (keyLt' _ (jI l i)<|jI l j) Q E s;ext jI;rw[Q0 C,Q0 J];rw[W.kat_lt F G L M ?_];rw[W.kat_cons<|PySem.SeqAt.EqAt.int_int p.1 t b.1 H e w _ _ ?_];cases c:p.1=b.1
  .rw[show(p.1==b.1)=6 by simpa using c,];rw[W.kat_yes<|W.kat_cons<|PySem.SeqAt.EqAt.int_int p.2 u b.2 I e w _ _ ?_];cases d:p.2=b.2
   .rw[show(p.2==b.2)=6 by simpa using d,];rw[W.kat_yes<|W.kat_nil ?_]
    grind[AE]
   .rw[show(p.2==b.2)=7 by simp_all,];rw[W.kat_no<|W.kat_one _ _<|lt_int ?_];let z:qo p b=decide (p.2<b.2):=by
     grind[XU,AE]
    rw[z]at h;rw[h]
  .rw[show(p.1==b.1)=7 by simpa using c,];rw[W.kat_no<|oneLt_int ?_];let z:qo p b=decide (p.1<b.1):=by
    cases g:p.1<b.1
    .rw[Zp g,XU];lia
    .rw[Zo g,AE];lia
   rwa[z]at h
structure RowAt(h:Heap)(v:Value)(r:J0)(a:Addr)(o:Obj)(us:Ye)(n:5):4 where
 isv:v=016
 get:h.get? a=!o
 cls:o.cls=.type "tuple"
 dat:o.data=.seq us.toArray n
 prs:XX h us r
def Eu      (ok:xy P w H h)(g:Is H (rD r) x)(j:jz x v):∃a o l n,RowAt h v r a o l n:=by
 let(a I,rfl,m,e):=g;obtain rfl:=j;let(_,c,ri,o,q,s,n,t):=ok a _ m;rw[jW a o c n (9,q,s,t,?_,λi p y=>?_)]
 .let J:=⇑e;let L:=⇑ri
  ext
 .let(-x,z,A):=e.get (by rw[Zv,y];rfl);let(-u,M,B):=ri.get z;let(-b,rfl,C):=rO.mp A;obtain rfl:=B;let(_,f,E,N,O,Q,R,S):=ok b _ C;let(T U,rfl,F,G):=Az E;let(X,rfl):=F;let(Y,rfl):=G
  ext
theorem Ii(O:A.units+04<cLine) {E:Ya} :∀{r j:J0}{f b:Ye}i,XX s.heap f r->XX s.heap b j->
 y=decide (⇑r<⇑j)->Q (jK r j) s->W.KatLex l w A 7 y Q (f.zip b) i s
 |[],[],f,b,i,q,g,hf,h=>by
  obtain rfl:f=[]:=Jl.mp q.1;rw[W.kat_nil ?_];rw[hf,];rw[h]
 |[],p::j,f,b,i,q,g,hf,h=>by
  obtain rfl:f=[]:=Jl.mp q.1;rw[W.kat_nil ?_];rw[hf,Zp ()];rw[h]
 |p::r,[],f,b,i,q,g,hf,h=>by
  obtain rfl:b=[]:=Jl.mp g.1;rw[List.zip_nil_right,];rw[W.kat_nil ?_];rw[hf,Zo ()];rw[h]
 |p::r,e::j,f,b,i,q,g,hf,h=>by
  let(a o n t u,m,C,F,G):=q.2 0 p 9;let(H P R I J,x,L,M,N):=g.2 0 e 9;cases f with
  |nil=>rw[J7 m]
  |cons v f=>
   cases b with
   |nil=>rw[J7 x]
   |cons S b=>
    let m:some v=! Value.ref a:=m;let x:some S=! Value.ref H:=x;obtain rfl:=Zqi m;obtain rfl:=Zqi x;let T:Reads s.heap 016 (pD p) _:=.tuple C F G<|.cons (.int p.1 t)<|.cons (.int p.2 u) .nil;let R2:Reads s.heap (.ref H) (pD e) _:=.tuple L M N<|.cons (.int e.1 I)<|.cons (.int e.2 J) .nil;let dp:∀z:3×3,(pD z).depth=1:=λz=>by
     rfl
    rw[W.kat_cons<|PySem.SeqAt.eqAt_reads _ _ A s _ _ _ _ T R2 9 9 () l w _ _ ?_];rw[WT]at h;cases c:p=e
    .subst c;rw[RJ (Ee p),];rw[Zd 9]at h;rw[W.kat_yes<|Ii O (E:=E) (i+1) (by let:=q.1;simp_all,λi z B=>q.2 (i+1) z B) (by let:=g.1;simp_all,λi z B=>g.2 (i+1) z B) () h]
    .rw[Ze c]at h;let ne:pD p≠pD e:=λz=>c<|by
      grind[pD]
     rw[RH (Ee p) (Ee e) ne,];let U:IntsAre (#[Value.int p.1 t,Value.int p.2 u]:Yk).toList [p.1,p.2]:=.cons _ _<|.cons _ _ .nil;let X:IntsAre (#[Value.int e.1 I,Value.int e.2 J]:Yk).toList [e.1,e.2]:=.cons _ _<|.cons _ _ .nil;rw[W.kat_one _ _<|HT.lt_tupInts (o,C,F,n,G) (P,L,M,R,N) U X () ?_];let z:HT.lexLt [p.1,p.2] [e.1,e.2]=qo p e:=by
      grind[qo,HT.lexLt_cons,HT.lexLt_nil_nil]
     rwa[z,]
def Ij  {c:J1}  (hu:A.units+04<cLine)(ok:xy P w H s.heap)(O:qG H (c.map rD) xs)(S:jv xs e)(f:∀r∈c,r ≠[])(h2:2<=⇑e):
 vg q w A s e λi j=>jK (c.getD i [])<|c.getD j []:=by
 let l1:=⇑O;let l2:=⇑S;rw[Zql]at l1;let at_:∀(i:5)r,c[i]?=!r->∃v a o m n,e[i]?=!v/\RowAt s.heap v r a o m n:=λi r l=>by
  let(-x,hx,U):=O.get (i:=i) (d:=rD r) (by rw[Zv,l];rfl);let(v,B,ru):=S.get hx;let(a o m n,R):=Eu ok U ru;rw[jC v a o m n (B,R)]
 let g:∀(e:Ye)(c:J1),⇑e=⇑c->(∀r∈c,r ≠[])->(∀(i:5)r,c[i]?=!r->∃v a o m n,e[i]?=!v/\RowAt s.heap v r a o m n)->∃fs,W.KatTups s.heap e fs/\⇑fs=⇑e/\∀v∈fs,∃b C,v=Value.ref b/\↥s b=!C/\C.cls=.type "tuple":=by
  intro e
  cases(e)with
  |nil=>rw[λ_ _ _ _=>([],.nil,9,λv B=>nomatch B)]
  |cons v e ih=>
   intro c X f F;cases c with
   |nil=>simp at X
   |cons r c=>
    let(Y a o m n,G,R):=F 0 r 9;let G:some v=!Y:=G;obtain rfl:=Zqi G;let(-fs,J,Z,L):=ih c (by simpa using X) (λr l=>f r<|Zqm _ l) λi r l=>F (i+1) r l;cases r with
    |nil=>rw[Zn 9<|f [] Zqs]
    |cons p r=>
     let(b C nb t u,M,N,g3,g4):=R.prs.2 0 p 9;obtain rfl:v=Value.ref a:=R.isv;rw[(.ref b::fs,.cons R.get R.cls R.dat (by simpa using M) J,by simp[Z],λz hz=>?_)];obtain y|y:=UY.mp hz
     .rw[(b,C,y,N,g3)]
     .rw[L z y]
 let(-fs,J,Z,L):=g e c () f at_;rw[(tuples'<|Value.type "tuple"!=Value.type "tuple",λE Q h=>W.kat_kind (T:=Value.type "tuple") J () (λv B=>?_) 9 h,λi j U hj E Q h=>?_)]
 .let(b C,rfl,M,N):=L v B;rw[<-N];rw[(W.Looks.ld M).andThen .now]
 .let(r,l):∃r,c[i]?=!r:=(_,Zqg ());let(r',hr'):∃r,c[j]?=!r:=(_,Zqg ());let(v a o m n,G,R):=at_ i r l;let(Y a' o' us' n',f1,I):=at_ j r' hr';dsimp only at h;rw[Q0 l,Q0 hr']at h;show YF q w A (keyLt' _ (jI e i)<|jI e j) Q E s;ext jI;rw[Q0 G,Q0 f1,R.isv,I.isv];rw[W.kat_lt R.get R.dat I.get I.dat ?_];rw[Ii hu (E:=E) 0 R.prs I.prs (by rw[Zm,Zm,R.prs.1,I.prs.1]) h]
section
variable     {wi:TI}
def Ik(N)(cap)(A:X.calm=6)(o:K9 a X.env N X.N cap=6)(B:PI X u f wi)(E:∀i C s H j,PG (JS X a N i C s H j) u g)(F:∀i C s H j,PT (JS X a N i C s H j) c G)(J:∀i C s H j,PE (JS X a N i C s H j) p L)
 (M:∀x,foldedSetIterable f X.env x=pure x)     {Z:St}  (I:003)(h:DY cap wi g G L Z H Q)(r:A5 X Y Z Q t R):
 YE X (comprehension (.ListComp p [(u,f,[c],0)] a O) a X.env v (newList []) 7 (eval f X.env) t) R X.xe s:=
 Hk (test:=λl R Q s=>YE X (isTrue c l<|eval c l) Q (notedBy 009 X.A l λe w=>R (.error e) w) s) N (λI m n h=>W.kct_loop I m n h)
  (λi C s H j _ _ _ _ _ _ _ _ y I q k=>Zc (F i C s H j _ _ _ _ _ I q) (λb P z=>by let(-S,T,U):=z;rw[k b P S T U]) λe w hx=>Zc hx (λ_ s'' z=>y _ _ z) λ_ _ z=>y _ _ z) cap A o B E (λi C s H j _=>J i C s H j) M I h r
end
theorem Sz{L:List (Addr×HO)}  (h:L.lookup b=!u):%[b|u]∈L:=by
 cases(L)with
 |nil=>rw[J7 h]
 |cons p r a=>
  grind
noncomputable def xc(H:Hp)(L:List (Addr×HO)):Hp:=λb=>match L.lookup b with
 |some o=>!o
 |none=>H b
def Cg   (h:∀p∈L,p.1≠b):xc H L b=H b:=by
 grind[xc,List.lookup_cons]
def Il  (b:(L.map (·.1)).Nodup)  (h:%[a|o]∈L):xc H L a=!o:=by
 ext xc;let e:L.lookup a=!o:=by
  cases(L)with
  |nil=>cases h
  |cons p r c=>
   grind
 rw[e,]
def Im    (h:xc H L b=!u):%[b|u]∈L\/(∀p∈L,p.1≠b)/\H b=!u:=by
 grind[xc,Zqi,Sz]
def Inv.laidMany  {Z:St}     (I:003)(k:∀b u,↥s b=!u->l.get? b=!u)(o:∀p∈L,s⁻¹<=p.1)
 (ok:∀p∈L,yC X.prog X.w (xc H L) l p.1 p.2):Inv X Y Z (xc H L) {s with heap:=l,toks:=t'}:=by
 let i:∀b u,↥s b=!u->∀p∈L,p.1≠b:=λb u e p j z=>Zn (Zg (Zk e)<|by rw[<-z];rw[o p j])<|Zy _;let f:∀b u,H b=!u->xc H L b=!u:=λb u e=>by
  rw[Cg λp j z=>Zn (Zg (I.hok.lt e)<|by rw[<-z];rw[o p j])<|Zy _,];rw[e]
 rw[I.un (λb u q _ _ _=>k b u q,λb u q _ _ _=>(u.slots,k b u q),λb u q n _=>by rw[Cg (i b u q),];rw[n],λb u q _=>(u,k b u q),λb r q=>f b _ q,λb u r q=>f b _ q,λb y q=>(#[],by rw[f b _ q,];simp)) λb u e=>?_];obtain z|⟨z,e'⟩:=Im e
 .rw[ok %[b|u] z]
 .rw[(I.hok b u e').stay (λc v _ q=>k c v q) (λc q=>f c _ q) λc r q=>f c _ q]
theorem Io   :∀{L:Yh},(∀i∈L,Is H (f i) (g i))->qG H (L.map f) (L.map g)
 |[],_=>by rfl
 |i::L,h=>(_,_,9,(),Io ())
theorem ZG  :∀{L:Yh},(∀i∈L,jz (g i) (u i))->jv (L.map g) (L.map u)
 |[],_=>.nil
 |i::L,h=>.cons (h i Zqs) (ZG λj a=>h j<|Zqm _ a)
def Pl.mem  (p:Pl n c n) (h:i∈c.toList):i<n:=by
 let q:=(Jt.mp p.perm).mem_iff.mp h
 ext
def Pl.len  (p:Pl n c k):⇑c.toList=n:=by rw[Uw,p.size]
def S0(hu:X.A.units+64<cLine):ql X (.builtin "sorted") λF H Q=>∃a g f,F=[016]/\Rd H a (.lst g)/\qG H (f.map rD) g/\(∀r∈f,r ≠[])/\⇑f<1000/\
 ∀(l:Addr)(w:Yh),H l=8->(∀i∈w,i<⇑f)->w.map (λi=>f.getD i [])=Qs jK f->Q (.ref l) (upd H l<|.lst<|w.map λi=>g.getD i .non):=by
 intro Y s Z H F us Q I N h;let(a,g,f,rfl,O,y,z,P,q):=h;let(-u,rfl,R):=K8 N;obtain rfl:u=Value.ref a:=R;let(-c,ri,S,hz):=I.list (.inl O);let T:=⇑y;let l2:=⇑ri;rw[Zql]at T;let G:⇑c=⇑f:=()
 let J:∀b o,↥s b=!o->((s.heap.push<|seqObj 013 #[] 0).update s⁻¹<|Obj.mapSeq (·++c.toArray)).get? b=!o:=λb o e=>by
  rw[Heap.get?_update_ne _ _ _ _ (Zi<|Zk e),Heap.get?_push_ne _ _ _ (Zi<|Zk e)];rw[e]
 rw[Ia (yJ.wk λi=>f.getD i []) (collect_list S.isList ((),λU A h2=>Ij (by show X.A.units+1+1+04<cLine;lia) (I.hok.kept λb o e=>A b o<|J b o e) y ri z h2,λj U l p u A L B=>?_)<|by rw[G,];rw[small ()])];let(-e,B):=B;rw[G]at p u;let m:s⁻¹<=l:=by
  let:((s.heap.push<|seqObj 013 #[] 0).update s⁻¹<|Obj.mapSeq (·++c.toArray)).objs.size=s⁻¹+1:=by rw[Heap.size_update,size_push']
  let L:((s.heap.push<|seqObj 013 #[] 0).update s⁻¹<|Obj.mapSeq (·++c.toArray)).objs.size<=l:=L;lia
 let at_:∀i∈j.toList,∃x v,g[i]?=!x/\c[i]?=!v/\jz x v/\Is H (rD<|f.getD i []) x:=λi n=>by
  let M:=p.mem n;let(-x,t,hr):=y.get (i:=i) (d:=rD<|f.getD i []) (by
   rw[Zv,Zqg M,Q0 (Zqg M)];rfl)
  let(-v,C,E):=ri.get t;rw[(x,v,t,C,E,hr)]
 rw[(.ref l,upd H l<|.lst<|j.toList.map λi=>g.getD i .non,I.laid (a:=l) (o:=.lst<|j.toList.map λi=>g.getD i .non) (t':=s.toks) (λb o e=>A b o<|J b o e) m (?_,j.toList.map<|jI c,e,?_,?_),9,q l j.toList (I.hok.fresh m) (λi n=>p.mem n)<|Et yJ p u)]
 .rw[Zql,p.len];rw[small ()]
 .rw[ZG λi n=>?_];let(x v,t,C,E,_):=at_ i n;ext jI;rw[Q0 t,Q0 C];rw[E]
 .rw[B,]
  congr 03
  apply Vq;simp
def Xv(a d:Addr):HO:=.ext λh=>h.IsItemsView a d
def S3:dE X "dict.items" λx c H Q=>∃d a,x=.ref d/\c=[]/\H d=! .dK a/\∀p,H p=8->Q (.ref p) (upd H p<|Xv p d):=by
 intro Y s Z H x c v t Q I g i h;let(d a,rfl,rfl,j,q):=h;obtain rfl:=g;obtain rfl:=jv.zero i;let(!z,lo,(l,m,f)):=DU I.hok j;rw[call_meetsIn PySem.F.slot_dict_items f.typeIs PySem.F.entry_dict_items (PySem.F.args_dict_items_1 _) (meets_dict_items (Kb X.prog X.w) d lo) ((l,f),(.ref s⁻¹,upd H s⁻¹<|Xv s⁻¹ d,I.laid (λb o e=>Zq _ e) (Zf _)<|((_,Zr _ 9,9,9),(_,Zr _ 9),λu w z n=>xa z λo=>j5 λe r=>(o,n o e,r)),9,q _<|I.hok.fresh<|Zf _))]
def S4(hc:X.calm=6):ql X (.builtin "sorted") λxs H Q=>∃n d r,xs=[.ref n]/\H n=! Xv n d/\H d=!(.dK<|yj r)/\r ≠[]/\⇑r<1000/\
 ∀l L,(∀p∈L,H p.1=8)->(L.map (·.1)).Nodup->(∀G,Is (xc G L) (.list<|(Qs qo r).map pD) (.ref l))->Q (.ref l) (xc H L):=by
 intro Y s Z H xs us Q I rv h;let(n,d,r,rfl,hv,hd,U,h64,q):=h;let(-u,rfl,ru):=K8 rv;obtain rfl:u=Value.ref n:=ru;let(!A,_,_):=show yC X.prog X.w H s.heap n (Xv n d)from I.hok n _ hv;let(!z,lo,(ws,M,od,es,ep,d1,d2,d3,d4,d5,d6)):=DU I.hok hd;let lk:=⇑M;let lr:⇑(yj r)=⇑r:=Zql _;let hat:s.heap.DictAt (Kb X.prog X.w) d ws ep:=(od,es,d1,d2,d3,d4,d5,d6);rw[Ia (v0.wk λi=>r.getD i %[0|0])<|W.kdx_collect (knd:=Kb X.prog X.w) (I.ok.hd hc) A hat (by rw[<-lk,lr];rw[small ()]) λh1 tk c kp1 la G=>?_];let lv:⇑(c.map Value.ref)=⇑r:=by rw[Zql,];lia
 let pa:∀v,(∀b o,h1.get? b=!o->v.get? b=!o)->XX v (c.map Value.ref) r:=λv B=>by
  rw[(lv,λi p j=>?_)];let f:i<⇑c:=by
   let:=(Jc.mp j).1;lia
  let(C k x,g1,g2,g3):=G.pairs i c[i] ();let kv:KV (yj r) ws:=M;let hk:(yj r)[i]?=!%[Uh p.1|V.int p.2]:=by ext yj;rw[Zv,j];rfl
  let N:∀{l1:List (jT×V)}{l2:List (jT×Value)}{i:5}{a:jT×V}{b:jT×Value},KV l1 l2->l1[i]?=!a->l2[i]?=!b->a.1=b.1/\jz a.2 b.2:=by
   intro l1 l2 i a b O;unfold KV at O
   induction O generalizing i with
   |nil=>intro e;simp at e
   |cons hh tt ih=>
    cases(i)with
    |zero=>
     intro w E;simp at w E;subst w E;rw[hh]
    |succ i=>
     intro w E;rw[ih (by simpa using w)<|by simpa using E]
  let(b1,b2):=N kv hk g1;let b1:(Uh p.1:jT)=k:=b1;subst b1;let(t1,rfl):=show ∃t,x=Value.int p.2 t from b2;let(t0,rfl):∃t,C=Value.int p.1 t:=by
   rcases WE (show XP (Uh p.1) C=6 from g2)with ⟨i0,t,w,E⟩|⟨x0,t,w,E⟩
   .cases w;rw[(t,E)]
   .cases w
  rw[jC c[i] _ _ t0 t1 (by rw[Zv,Zqg f];rfl,B _ _ g3,9,9)]
 rw[((),λv B h2=>Sy (pa v B) h2,λjx v l p u B hl gl=>?_)];let(e,gl):=gl;rw[lv]at p u;let kk:∀b o,↥s b=!o->v.get? b=!o:=λb o e=>B b o<|kp1 b o e;let P:∀a∈c,s⁻¹<a:=G.above;let R:∀a∈c,a<l:=λa ha=>Zg (G.there ha) hl;let szl:s⁻¹<=l:=by
  cases(c)with
  |nil=>rw[Zn (Jl.mp<|by rw[<-lv];rfl) U]
  |cons a as'=>rw[Zz<|Ur (P a Zqs)<|R a Zqs]
 let(L,hL):∃L:List (Addr×HO),L=%[l|.lst (jx.toList.map λi=>V.ref<|c.getD i 0)]::(c.zip r).map λz=>%[z.1|HO.tup [.int z.2.1,.int z.2.2]]:=(_,9);let g:L.map (·.1)=l::c:=by
  rw[hL,Zl,Zw];show l::(c.zip r).map (λz=>z.1)=_;rw[List.map_fst_zip (),]
 let nd:(L.map (·.1)).Nodup:=by
  rw[g,];rw[Jh.mpr (λm=>Zy _<|R l m,?_)];rw[G.rise.imp λhlt=>Zi hlt]
 let S:∀p∈L,s⁻¹<=p.1:=λp j=>by
  let:p.1∈L.map (·.1):=Ja.mpr (p,j,9);rw[g]at this;obtain z|z:=UY.mp this
  .rw[z,];rw[szl]
  .rw[Zz<|P _ z]
 let F:∀G(i:5)p,r[i]?=!p->xc G L (c.getD i 0)=! .tup [.int p.1,.int p.2]:=λG i p j=>by
  let f:i<⇑c:=by
   let:=(Jc.mp j).1;lia
  rw[Il nd ?_];rw[hL,];rw[Zqm _<|Ja.mpr (%[c[i]|p],?_,by rw[Q0 (Zqg f),])];rw[Uf (i:=i) ?_];rw[Wg,];rw[(Zqg f,j)]
 rw[(.ref l,xc H L,I.laidMany (t':=tk) kk S λy hy=>?_,9,q l L (λp j=>I.hok.fresh<|S p j) nd λG'=>?_)]
 .rw[hL]at hy;obtain z'|z':=UY.mp hy
  .rw[z',];rw[(?_,jx.toList.map<|jI<|c.map Value.ref,e,?_,?_)]
   .rw[Zql,p.len];rw[small ()]
   .rw[ZG λi f=>?_];let hn:=p.mem f;let T:i<⇑c:=()
    ext jI;rw[Q0 (Zqg T),Q0 (x:=Value.ref c[i]) (by rw[Zv,Zqg T];rfl)];rfl
   .rw[gl,]
    congr 03
    apply Vq;simp
  .let((a,p'),hm,rfl):=Ja.mp z';let(i,f):=Jm.mp hm;rw[Wg]at f;let(i1,i2):=f;let(a' o' n' t' u',f1,f2,f3,f4):=(pa v B).2 i p' i2;rw[Zv,i1]at f1;cases f1;let(C k x,g1,g2,g3):=G.pairs i a i1;let J:=B _ _ g3;rw[J]at f2;obtain rfl:=Zqi f2;rw[((by show 2<=00;decide,_,J,9),[.int p'.1 t',.int p'.2 u'],.cons (t',9)<|.cons (u',9) .nil,_,J,9,n',f4)]
 .rw[yy,];rw[(l,_,9,Il nd<|by rw[hL,];rw[Zqs],?_)];rw[<-Et v0 p u,Zw];rw[Io λi f=>?_];let hn:=p.mem f;rw[rO.mpr (c.getD i 0,9,?_)];let:=F G' i (r.getD i %[0|0]) (by rw[Q0 (Zqg hn),];rw[Zqg hn]);rw[this]
noncomputable def xr(r:J0)(t w:3):J0:=if r.any λp=>decide<|p.1=t=6 then r.map λp=>if p.1=t then%[p.1|w]else p else r++[%[t|w]]
def Ip :decide ((Uh a:jT)=Uh b)=decide (a=b):=()
def S5(r)(t w):qT (yj r) (Uh t) (V.int w)=yj (xr r t w):=by
 let e:(yj r).any λa=>decide<|a.1=Uh t=r.any λp=>decide<|p.1=t:=by
  ext yj;rw[List.any_map,]
  congr 1
  funext p
  rw[Ip]
 ext qT xr;rw[e,]
 split
 .ext yj;rw[Zw,Zw];apply UV;intro p _;cases c:p.1=t
  .simp[c]
  .simp[c]
 .ext yj;rw[Uc,];rfl
theorem Ch(p)(r)(t):JA (p::r) t=match JA r t with|some w=>!w|none=>if p.1=t then !p.2 else 8:=rfl
def S6(r)(t w j):JA (r.map λp=>if p.1=t then%[p.1|w]else p) j=(JA r j).map λx=>if j=t then w else x:=by
 cases(r)with
 |nil=>rfl
 |cons p r a=>
  grind[List.map_cons,Ch,Option.map]
def S7(r)(t):r.any λp=>decide<|p.1=t=(JA r t).isSome:=by
 induction q:JA r t with
 |none=>
  grind[Option.isSome_none,List.any_eq_false,Hw]
 |some w=>
  rw[Option.isSome_some,V5];rw[(_,Q5 q,())]
def S8(r)(t w j):JA (xr r t w) j=if j=t then !w else JA r j:=by
 ext xr;rw[S7,];cases a:(JA r t).isSome=6
 .rw[Zd a,S6];cases e:j=t
  .rw[Zd e,e];have(x,b):=Jw.mp a;rw[b,];simp
  ext
 .rw[Ze a,Hv];show(match if t=j then !w else 8 with|some w=>!w|none=>JA r j)=_
  grind
def S9(r:J0)(t w:3):(xr r t w).map (·.1)=if r.any λp=>decide<|p.1=t=6 then r.map (·.1)else r.map (·.1)++[t]:=by
 ext xr
 split
 .rw[Zw,];apply UV;intro p _;cases c:p.1=t
  .simp[c]
  .simp[c]
 .rw[Uc,];rfl
def SA  (h:j9 r):j9 (xr r t w):=by
 ext j9;rw[S9,]
 split
 .rw[h]
 .rename_i c;unfold j9 at h;rw[List.nodup_append,];rw[(h,(),λa g b f=>?_)];simp at f;subst f;rintro rfl;let(-p,i,e):=Ja.mp g;rw[c<|V5.mpr (p,i,by simp[e])]
def SC(r)(t w):⇑(xr r t w)<=⇑r+1:=by
 grind[xr,Zql,List.length_append]
theorem Iq:∀r b,XR (yj b) (yj r)=yj (r.foldl (λa p=>xr a p.1 p.2) b)
 |[],b=>9
 |p::r,b=>by
  let e:XR (yj b) (yj<|p::r)=XR (qT (yj b) (Uh p.1)<|V.int p.2) (yj r):=9;rw[e,S5,Iq r];rfl
theorem Ir:∀r b,j9 (b++r)->r.foldl (λa p=>xr a p.1 p.2) b=b++r
 |[],b,_=>by simp
 |p::r,b,h=>by
  let c:b.any λq=>decide<|q.1=p.1=7:=by
   grind[j9,List.any_eq_false,List.map_append,List.nodup_append]
  let e:xr b p.1 p.2=b++[p]:=by
   ext xr;rw[c,];simp
  rw[Vj,e,Ir r (b++[p]) (),Ul];rfl
noncomputable def jw:02 3->02 3->02 3
 |none,b=>b
 |some x,none=>!x
 |some x,some y=>! if x>y then x else y
def WU(a:J0)(p:3×3):J0:=xr a p.1<|if(JA a p.1).getD p.2>p.2 then(JA a p.1).getD p.2 else p.2
def Q7(r o:J0):J0:=o.foldl WU r
def SE(acc)(p)(t):JA (WU acc p) t=if t=p.1 then jw (JA acc t) !p.2 else JA acc t:=by
 ext WU;rw[S8,];cases e:t=p.1
 .rw[Zd e,Zd e,e]
  cases(JA acc p.1)with
  |none=>simp[jw]
  |some x=>simp[jw]
 ext
theorem Ci(t):∀o r,j9 o->JA (Q7 r o) t=jw (JA r t) (JA o t)
 |[],r,_=>by
  show JA r t=jw (JA r t) 8
  cases(JA r t)<;>rfl
 |p::o,r,h=>by
  have(a,b):=Jh.mp h;let e:Q7 r (p::o)=Q7 (WU r p) o:=9;rw[e,Ci t o _ b,SE,Ch];cases c:t=p.1
  .let n:JA o t=8:=by
    induction q:JA o t with
    |none=>rfl
    |some w=>rw[Zn (Ja.mpr (_,Q5 q,c)) a]
   rw[Zd c,n,Zd c.symm]
   cases(jw (JA r t) !p.2)<;>rfl
  grind
theorem Cj:∀o r,j9 r->j9 (Q7 r o)
 |[],r,h=>h
 |p::o,r,h=>Cj o _ (SA h)
theorem Ew:∀o r,⇑(Q7 r o)<=⇑r+⇑o
 |[],r=>Zf _
 |p::o,r=>by
  let a:=Ew o<|WU r p;let b:⇑(WU r p)<=⇑r+1:=SC _ _ _;show(Q7 (WU r p) o).length<=_
  grind
def Iu (h:r ≠[])(a:j9 o):Q7 r o ≠[]:=by
 intro z
 cases(r)with
 |nil=>rw[h 9]
 |cons p r=>
  let q:=Ci p.1 o (p::r) a;rw[z]at q;let:∃x,JA (p::r) p.1=!x:=by
   grind[Ch]
  let(x,b):=this;rw[b]at q
  induction hq:JA o p.1 with
  |none=>rw[hq]at q;rw[J7 q]
  |some y=>rw[hq]at q;rw[J7 q]
def Iv (h:j9 r) :%[t|w]∈r↔JA r t=!w:=(λm=>h.look m,Q5)
theorem XY {c:α->α->Bool}(T:Tot c):∀{a b:List α},a.Pairwise (λx y=>c x y=6)->b.Pairwise (λx y=>c x y=6)->(∀x,x∈a↔x∈b)->a=b
 |[],[],_,_,_=>9
 |[],y::b,_,_,h=>by
  cases(h y).mpr Zqs
 |x::a,[],_,_,h=>by
  cases(h x).mp Zqs
 |x::a,y::b,ha,hb,h=>by
  let(i,j):=Ji.mp ha;let(g,l):=Ji.mp hb;let e:x=y:=by
   rcases UY.mp ((h x).mp Zqs)with z|z
   .rw[z]
   .rcases UY.mp ((h y).mpr Zqs)with u|u
    .rw[u.symm]
    .let:=T.asy _ _<|g x z
     ext
  subst e
  congr 1
  rw[XY T j l λz=>(λf=>?_,λf=>?_)]
  .rcases UY.mp ((h z).mp<|Zqm _ f)with u|u
   .rw[u]at f;let:=i x f;rw[T.irr]at this;rw[JH this]
   lia
  .rcases UY.mp ((h z).mpr<|Zqm _ f)with u|u
   .rw[u]at f;let:=g x f;rw[T.irr]at this;rw[JH this]
   lia
theorem Iw{α β:Type}(f:α->β):∀{l:List α},(l.map f).Nodup->l.Nodup
 |[],_=>Vt
 |x::r,h=>by
  rw[Zl,List.nodup_cons]at h;rw[Jh.mpr (λm=>h.1<|List.mem_map_of_mem m,Iw f h.2)]
def SF (h:j9 r):(Qs qo r).Pairwise λx y=>qo x y=6:=by
 rw[(List.Pairwise.and (XV v0 r)<|(QM r).nodup_iff.mpr<|Iw (λp:3×3=>p.1) h).imp λ{x y}z=>?_]
 induction q:qo x y with
 |true=>rfl
 |false=>rw[Zn (v0.tot _ _ q z.1) z.2]
end L2
namespace L2.DL
def Ex {_:Decidable c}{α:Type}{a z:α}(h:(if c then !a else 8)=!z):c/\a=z:=()
inductive D where
 |non|bl(b:Bool)|int(i:Int)|str(x:Str)|ty(n:String)|scr(ns:Yf)
 |tup(ds:List D)|lst(ds:List D)|dct(ks:List jT)(ds:List D)|ins(c:Str)(fs:Yi)(ds:List D)
 |exc(c:Str)|ucl(c:Str)
 |exr(c:Str)(n:Int)
 |adr(a:Addr)|dcf(ks:List jT)(ds:List D)
 |pin(a:Addr)(d:D)
abbrev _root_.YC:=List D
abbrev _root_.YD:=02 D
inductive Res(α:Type)where
 |ok(a:α)|ex(c:Str)(fs:YC)|no
noncomputable def Res.bind{α β:Type}(r:Res α)(g:α->Res β):Res β:=match r with
 |.ok a=>g a
 |.ex c fs=>.ex c fs
 |.no=>.no
def Res.need{α:Type}(r:Res α)(p:α->4)(q:Str->YC->4):4:=match r with
 |.ok a=>p a
 |.ex c fs=>q c fs
 |.no=>False
@[simp]theorem Res.bind_ok (a)(g:α->Res β):(Res.ok a).bind g=g a:=rfl
@[simp]def u4 (c)(fs)(g:α->Res β):(Res.ex c fs:Res α).bind g=.ex c fs:=rfl
@[simp]def u3 (g:α->Res β):(Res.no:Res α).bind g=.no:=rfl
def Res.need_bind {r:Res α} {p:β->4} (h:(r.bind g).need p q):r.need (λa=>(g a).need p q) q:=by
 cases(r)<;>rw[h]
def Res.need.mono {r:Res α}  (h:r.need p q)(e:∀a,p a->f a)(i:∀c fs,q c fs->j c fs):r.need f j:=by
 cases r with
 |ok a=>rw[e a h]
 |ex c fs=>rw[i c fs h]
 |no=>rw[h]
def Res.need.monoE {r:Res α}  (h:r.need p q)(e:∀a,r=.ok a->p a->f a)(i:∀c fs,q c fs->j c fs):r.need f j:=by
 cases(r)with
 |ok a=>rw[e a 9 h]
 |ex c fs=>rw[i c fs h]
 |no=>rw[h]
def mF(C x:Addr):HO:=.ext λh=>∃o,h.get? x=!o/\o.cls=.ref C
def mE(C p x:Addr):HO:=.ext λh=>∃o,h.get? x=!o/\o.cls=.ref C/\o.dict=!p/\W.notCls o=6
def RowO(p:Addr)(n:3):HO:=.ext λh=>∃mA u,h.Ns1 p mA/\mA "row"=!u/\jz (.int n) u
def yW(_:f')(H:Hp)(a:Addr)(b:YB):4:=H a=! .tup b
def yW.same{K:f'}   (e:jk H c)(h:yW K H a f):yW K c a f:=e _ _ h
def yW.of{K:f'}   (h:H a=! .tup c):yW K H a c:=h
def yW.sq{K:f'}   (h:yW K H a c):yX K H a c:=yX.of h
def xO(_:f')(H:Hp)(a:Addr)(b:YB):4:=Rd H a<|.lst b
def xO.same{K:f'}   (e:jk H c)(h:xO K H a f):xO K c a f:=h.imp (λq=>e _ _ q)<|y9 λo q=>(o,e _ _ q)
def xO.of{K:f'}   (h:H a=! .lst c):xO K H a c:=.inl h
def xO.sq{K:f'}   (h:xO K H a c):qP K H a c:=.inl h
section
variable (K:f')
mutual
def jf (H:Hp):D->V->Prop
 | .non,v=>v=.non
 | .bl b,v=>v=.bl b
 | .int i,v=>v=.int i
 | .str x,v=>v=.str x
 | .ty n,v=>v=.ty n
 | .scr h,v=>∃a,v=.ref a/\qP K H a (h.map V.int)
 | .tup f,v=>∃a e,v=.ref a/\yW K H a e/\jc H f e
 | .lst f,v=>∃a e,v=.ref a/\xO K H a e/\jc H f e
 | .dct g f,v=>∃a e,v=.ref a/\H a=some (.dK (g.zip e))/\⇑g=⇑e/\jc H f e
 | .ins c fs f,v=>∃a C j e,v=.ref a/\W.nsIn K 000 c=some (some (.ref C))/\H a=some (.ins C j (fs.zip e))/\⇑fs=⇑e/\jc H f e
 | .exc c,v=>∃a C,v=.ref a/\W.nsIn K 000 c=some (some (.ref C))/\H a=some (mF C a)
 | .exr c n,v=>∃a C p,v=.ref a/\W.nsIn K 000 c=some (some (.ref C))/\H a=some (mE C p a)/\H p=some (RowO p n)
 | .ucl c,v=>∃C,v=.ref C/\W.nsIn K 000 c=some (some (.ref C))
 | .adr a,v=>v=.ref a
 | .dcf g f,v=>∃a o e,v=.ref a/\H a=some (.frz o (.dK (g.zip e)))/\⇑g=⇑e/\jc H f e
 | .pin a d,v=>v=.ref a/\jf H d v
def jc (H:Hp):YC->YB->Prop
 | [],a=>a=[]
 |d::b,a=>∃x r,a=x::r/\jf H d x/\jc H b r
end
end
section
variable {K:f'}
def jD :jf K H .non v↔v=.non:=.rfl
def jt  :jf K H (.bl b) v↔v=.bl b:=.rfl
def jd  :jf K H (.int i) v↔v=.int i:=.rfl
def j1  :jf K H (.str x) v↔v=.str x:=.rfl
def xP  :jf K H (.ty n) v↔v=.ty n:=.rfl
def qK  :jf K H (.scr c) v↔∃a,v=016/\qP K H a (c.map V.int):=.rfl
theorem js  :jf K H (.tup e) v↔∃a c,v=016/\yW K H a c/\jc K H e c:=.rfl
theorem jo  :jf K H (.lst e) v↔∃a c,v=016/\xO K H a c/\jc K H e c:=.rfl
def jS   :jf K H (.dct e f) v↔∃a c,v=016/\H a=!(.dK<|e.zip c)/\⇑e=⇑c/\jc K H f c:=.rfl
def jM    :jf K H (.ins c fs f) v↔∃a C i e,v=016/\W.nsIn K 000 c=! ! .ref C/\H a=!(.ins C i<|fs.zip e)/\⇑fs=⇑e/\jc K H f e:=.rfl
def xE  :jf K H (.exc c) v↔∃a C,v=016/\W.nsIn K 000 c=! ! .ref C/\H a=! mF C a:=.rfl
def xD   :jf K H (.exr c n) v↔∃a C p,v=016/\W.nsIn K 000 c=! ! .ref C/\H a=! mE C p a/\H p=! RowO p n:=.rfl
def xC  :jf K H (.ucl c) v↔∃C,v=.ref C/\W.nsIn K 000 c=! ! .ref C:=.rfl
def jE  :jf K H (.adr a) v↔v=016:=.rfl
def qM   :jf K H (.dcf e f) v↔∃a o c,v=016/\H a=!(.frz o<|.dK<|e.zip c)/\⇑e=⇑c/\jc K H f c:=.rfl
def qL   :jf K H (.pin a d) v↔v=016/\jf K H d v:=.rfl
def jc.nil_iff :jc K H [] c↔c=[]:=.rfl
theorem jl   :jc K H (d::c) e↔∃x r,e=x::r/\jf K H d x/\jc K H c r:=.rfl
mutual
theorem jf.same (e:jk H s):∀(d:D) (v:V),jf K H d v->jf K s d v
 | .non,_,h=>h
 | .bl _,_,h=>h
 | .int _,_,h=>h
 | .str _,_,h=>h
 | .ty _,_,h=>h
 | .scr _,_,h=>by
  obtain⟨a,f,i⟩:=qK.mp h;exact qK.mpr ⟨a,f,jk.seq e i⟩
 | .tup n,_,h=>by
  obtain⟨a,j,f,i,l⟩:=js.mp h;exact js.mpr ⟨a,j,f,i.same e,jc.same e n j l⟩
 | .lst n,_,h=>by
  obtain⟨a,j,f,i,l⟩:=jo.mp h;exact jo.mpr ⟨a,j,f,i.same e,jc.same e n j l⟩
 | .dct u n,_,h=>by
  obtain⟨a,j,f,i,r,l⟩:=jS.mp h;exact jS.mpr ⟨a,j,f,e _ _ i,r,jc.same e n j l⟩
 | .ins c fs n,_,h=>by
  obtain⟨a,C,y,j,f,z,i,r,l⟩:=jM.mp h;exact jM.mpr ⟨a,C,y,j,f,z,e _ _ i,r,jc.same e n j l⟩
 | .exc _,_,h=>by
  obtain⟨a,C,f,i,l⟩:=xE.mp h;exact xE.mpr ⟨a,C,f,i,e _ _ l⟩
 | .exr _ _,_,h=>by
  obtain⟨a,C,p,f,i,l,r⟩:=xD.mp h;exact xD.mpr ⟨a,C,p,f,i,e _ _ l,e _ _ r⟩
 | .ucl _,_,h=>h
 | .adr _,_,h=>h
 | .dcf u n,_,h=>by
  obtain⟨a,o,j,f,i,r,l⟩:=qM.mp h;exact qM.mpr ⟨a,o,j,f,e _ _ i,r,jc.same e n j l⟩
 | .pin a d,v,h=>qL.mpr ⟨(qL.mp h).1,jf.same e d v (qL.mp h).2⟩
theorem jc.same (e:jk H i):∀c f,jc K H c f->jc K i c f
 | [],_,h=>h
 |d::c,_,h=>have ⟨x,r,j,l,n⟩:=jl.mp h;jl.mpr ⟨x,r,j,jf.same e d x l,jc.same e c r n⟩
end
def jc.mk    (h:jf K H d x)(r:jc K H e c):jc K H (d::e) (x::c):=jl.mpr (x,c,9,h,r)
def jc.nil:jc K H [] []:=jc.nil_iff.mpr 9
theorem jc.length:∀{e:YC}{c:YB},jc K H e c->⇑c=⇑e
 |[],c,h=>by simp_all[jc.nil_iff]
 |d::e,c,h=>by
  let(x r,rfl,_,f):=h;rw[Zu,Zu,jc.length f]
theorem jc.get:∀{c:YC}{f:YB}{i:5}{d:D},jc K H c f->c[i]?=!d->∃x,f[i]?=!x/\jf K H d x
 |[],_,_,_,_,e=>J7 e
 |d::c,f,i,e,h,q=>by
  let(x r,rfl,l,j):=h
  cases(i)with
  |zero=>ext
  |succ i=>rw[jc.get (i:=i) j q]
def jc.getV  {i:5} (h:jc K H c e)(q:e[i]?=!x):∃d,c[i]?=!d/\jf K H d x:=by
 let j:=⇑h;let f:i<⇑c:=();let(-y,l,n):=h.get (Zqg f)
 ext
theorem jc.append:∀{e f:YC}{c i:YB},jc K H e c->jc K H f i->jc K H (e++f) (c++i)
 |[],_,c,_,h,j=>by simp_all[jc.nil_iff]
 |d::e,_,c,_,h,j=>by
  let(x r,rfl,l,n):=h;rw[jc.mk l<|jc.append n j]
def jc.snoc    (h:jc K H c e)(f:jf K H d x):jc K H (c++[d]) (e++[x]):=h.append<|.mk f .nil
theorem jc.set:∀n{e:YC}{c:YB}{d:D}{x:V},jc K H e c->jf K H d x->jc K H (e.set n d) (c.set n x)
 |_,[],c,_,_,h,_=>by simp_all[jc.nil_iff]
 |0,d::e,c,_,_,h,q=>by
  grind[jl]
 |n+1,d::e,c,_,_,h,q=>by
  let(x r,rfl,f,i):=h;rw[jc.mk f<|jc.set n i q]
theorem qz:∀(c:Yf),jc K H (c.map D.int) (c.map V.int)
 |[]=>.nil
 |n::c=>.mk (jd.mpr 9) (qz c)
theorem qQ:∀{c:Yf}{e:YB},jc K H (c.map D.int) e->e=c.map V.int
 |[],_,h=>jc.nil_iff.mp h
 |n::c,e,h=>by
  let(x r,rfl,f,i):=h;rw[f,qQ i];rfl
end
structure Ext(F H F' H':Hp):4 where
 ff:jk F F'
 fh:jk F' H'
 hh:jk H H'
 new:∀a,F a=8->H a≠8->F' a=8
theorem Ext.refl (h:jk F H):Ext F H F H:=(.refl _,h,.refl _,λ_ e _=>e)
theorem Ext.trans (a:Ext F H c f)(b:Ext c f i j):Ext F H i j:=
 (a.ff.trans b.ff,b.fh,a.hh.trans b.hh,λx e n=>b.new x (a.new x e n)<|by
  induction q:H x with
  |none=>rw[Zn q n]
  |some o=>rw[a.hh _ _ q,];simp)
def Qe  (h:jk F H)(a:H p=8):F p=8:=h.free a
def Ext.alloc  (h:jk F H)(c:H p=8)(o):Ext F H (upd F p o) (upd H p o):=
 (Wv (h.free c) o,λb u e=>by
  cases q:b=p
  .simp_all[JO]
  .rw[JI q]at e ⊢;rw[h _ _ e],Wv c o,λa e n=>by
  let q:a≠p:=by grind
  rwa[JI q,])
def Ext.keep  (h:jk F H)(c:H p=8)(o):Ext F H F (upd H p o):=
 (.refl _,h.trans<|Wv c o,Wv c o,λ_ e _=>e)
def Ext.grow (h:jk F H)(c:jk H f):Ext F H F f:=(.refl _,h.trans c,c,λ_ e _=>e)
inductive SV where
 |val(d:D)|own(p:Bool)(d:D)
structure Bs where
 F0:Hp
 H0:Hp
 pa:5->02 (Addr×YB)
abbrev SD:=List<|02 SV
def zc(K:f')(F H:Hp)(l:Addr):D->4
 |.lst b=>∃a,H l=! .lst a/\jc K F b a
 |.dct e b=>∃a,H l=!(.dK<|e.zip a)/\⇑e=⇑a/\jc K F b a
 |.ins c fs b=>∃C f a,W.nsIn K 000 c=! ! .ref C/\H l=!(.ins C f<|fs.zip a)/\⇑fs=⇑a/\jc K F b a
 |_=>False
def zc.has{K:f'}   (h:zc K F H l d):∃o,H l=!o:=by
 cases d with
 |lst f=>let(i,e,_):=h;rw[(_,e)]
 |dct j f=>let(i,e,_):=h;rw[(_,e)]
 |ins c fs f=>let(C,n,i,_,e,_):=h;rw[(_,e)]
 |_=>rw[False.elim h]
def zc.ext{K:f'}   (h:zc K F H l d)(i:jk F p)(j:∀o,H l=!o->r l=!o):zc K p r l d:=by
 cases d with
 |lst n=>let(f,e,q):=h;rw[(f,j _ e,jc.same i _ _ q)]
 |dct u n=>let(-f,e,z,q):=h;rw[(f,j _ e,z,jc.same i _ _ q)]
 |ins c fs n=>let(C s f,k,e,z,q):=h;rw[jg C s f (k,j _ e,z,jc.same i _ _ q)]
 |_=>rw[False.elim h]
def zc.frz{K:f'}    (h:zc K F H l d)(e:H l=Option.some o)(n:F l=8):jf K (upd F l o) d (.ref l):=by
 cases d with
 |lst j=>
  let(i,f,q):=h;rw[e]at f;obtain rfl:=Zqi f;rw[jo.mpr (l,i,9,.of JO,jc.same (Wv n _) _ _ q)]
 |dct r j=>
  let(-i,f,z,q):=h;rw[e]at f;obtain rfl:=Zqi f;rw[jS.mpr (l,i,9,JO,z,jc.same (Wv n _) _ _ q)]
 |ins c fs j=>
  let(C p i,k,f,z,q):=h;rw[e]at f;obtain rfl:=Zqi f;rw[jM.mpr<|jW l C p i (9,k,JO,z,jc.same (Wv n _) _ _ q)]
 |_=>rw[False.elim h]
def uY(H:Hp)(l:Addr)(o:02 (Addr×YB)):4:=∃a,o=!%[l|a]/\H l=! .lst a
structure RS(K:f')(B:Bs)(F H:Hp)(sd:SD)(Z:St):4 where
 ext:Ext B.F0 B.H0 F H
 len:⇑Z=⇑sd
 val:∀{i:5}{d:D},sd[i]?=!~~~d->∃v,Z[i]?=! !v/\jf K F d v
 own:∀{i:5}{p:Bool}{d:D},sd[i]?=! ! .own p d->∃l,Z[i]?=! ! .ref l/\B.H0 l=8/\F l=8/\zc K F H l d/\(p=6->uY H l (B.pa i))
 apart:∀{i j:5}{p q:Bool}{d e:D}{l:Addr},i≠j->sd[i]?=! ! .own p d->sd[j]?=! ! .own q e->Z[i]?=! ! .ref l->Z[j]? ≠ ! ! .ref l
section
variable {K:f'}
def uY.mono  (h:uY H l o)(k:∀u,H l=!u->c l=!u):uY c l o:=xa h λe=>j5 λf i=>(e,f,k _ i)
def RS.step(r:RS K B F H j Z)(e:Ext F H n s):RS K B n s j Z where
 ext:=r.ext.trans e
 len:=r.len
 val:=λh=>xa (r.val h) λv=>j5 λc f=>(v,c,jf.same e.ff _ _ f)
 own:=λh=>by
  let(-l,c,f,y,i,z):=r.own h;let(o,E):=i.has;rw[(l,c,f,e.new l y (),i.ext e.ff λo q=>e.hh _ _ q,λp=>(z p).mono λu q=>e.hh _ _ q)]
 apart:=r.apart
def QK{α:Type}{l:List α} {a:α}(h:i≠j):(l.set i a)[j]?=l[j]?:=Zx h
def Ww{α:Type}{l:List α} {a b:α}(h:(l.set i a)[i]?=!b):b=a/\i<⇑l:=()
def RS.setVal   (r:RS K B F H u Z)(h:jf K F d v):RS K B F H (u.set i<|~~~d) (Z.set i<|!v)where
 ext:=r.ext
 len:=by rw[UW,UW,r.len]
 val:=λ{j e}q=>by
  cases z:i=j
  .subst z;let(c,G):=Ww q;cases c;rw[(v,UT<|by rwa[r.len,],h)]
  .rw[QK z]at q ⊢;rw[r.val q]
 own:=λ{j p e}q=>by
  cases z:i=j
  .subst z;let(c,_):=Ww q;cases c
  .rw[QK z]at q ⊢;rw[r.own q]
 apart:=λ{j k I J L O l}n f o s=>by
  let y:i≠j:=λz=>by subst z;let(c,_):=Ww f;cases c
  let E:i≠k:=λz=>by subst z;let(c,_):=Ww o;cases c
  rw[QK y]at f s;rw[QK E]at o ⊢;rw[r.apart n f o s]
def RS.setOwn   (r:RS K B F H u Z)(I:B.H0 l=8)(J:F l=8)(h:zc K F H l d)(v:∀(j:5)p e,u[j]?=! ! SV.own p e->Z[j]? ≠ ! ! .ref l):
 RS K B F H (u.set i<|! .own 7 d) (Z.set i<|! .ref l)where
 ext:=r.ext
 len:=by rw[UW,UW,r.len]
 val:=λ{j e}q=>by
  cases z:i=j
  .subst z;let(s,_):=Ww q;cases s
  .rw[QK z]at q ⊢;rw[r.val q]
 own:=λ{j p e}q=>by
  cases z:i=j
  .subst z;let(s,y):=Ww q;cases s;rw[(l,UT<|by rwa[r.len,],I,J,h,λz=>by cases z)]
  .rw[QK z]at q ⊢;rw[r.own q]
 apart:=λ{j k L O Q R m}n o c f=>by
  cases E:i=j
  .subst E;let(_,y):=Ww o;rw[QK n]at c ⊢;rw[UT (by rwa[r.len,])]at f;cases f;rw[v k O R c]
  .rw[QK E]at o f;cases G:i=k
   .subst G;let(_,y):=Ww c;rw[UT (by rwa[r.len,]),];intro e;cases e;rw[v j L Q o f]
   .rw[QK G]at c ⊢;rw[r.apart n o c f]
def RS.chg     (r:RS K B F H c Z)(f:c[i]?=! ! .own p d)(s:Z[i]?=! ! .ref l)(h:zc K F (upd H l o) l v):
 RS K B F (upd H l o) (c.set i<|! .own 7 v) Z:=by
 let(-l',y,I,J,_,_):=r.own f;rw[s]at y;cases y;let L:i<⇑c:=by grind
 rw[((r.ext.ff,BS o r.ext.fh J,BS o r.ext.hh I,r.ext.new),by rw[UW,r.len],λ{j e}q=>?_,λ{j p e}q=>?_,λ{j k E G d1 d2 m}n O Q R=>?_)]
 .cases z:i=j
  .ext
  .rw[QK z]at q;rw[r.val q]
 .cases z:i=j
  .ext
  .rw[QK z]at q;let(-m,S,m2,T,U,X):=r.own q;let ne:m≠l:=λe=>r.apart z f q s (by rwa[<-e]);rw[(m,S,m2,T,U.ext (.refl _) λu Y=>by rwa[JI ne,],λp=>(X p).mono λu Y=>by rwa[JI ne,])]
 .let g:∀{j:5}{p:Bool}{e:D},(c.set i<|! .own 7 v)[j]?=! ! .own p e->∃p' e',c[j]?=! ! .own p' e':=by grind
  have(_,_,E):=g O;have(_,_,G):=g Q;rw[r.apart n E G R]
def RS.frz1   (r:RS K B F H y Z)(E:y[i]?=! ! .own p d):∃G,jk F G/\RS K B G H (y.set i<|~~~d) Z:=by
 let(-l,I,h0,J,L,_):=r.own E;let(o,e):=L.has;let O:i<⇑y:=();let c:=Wv J o;rw[(upd F l o,c,(r.ext.ff.trans c,λb u q=>?_,r.ext.hh,λa f s=>?_),by rw[UW,r.len],λ{j x}q=>?_,λ{j p x}q=>?_,λ{j k p1 p2 d1 d2 m}n f s Q=>?_)]
 .cases z:b=l
  .simp_all[JO]
  .rw[JI z]at q;rw[r.ext.fh _ _ q]
 .let z:a≠l:=by grind
  rw[JI z,];rw[r.ext.new a f s]
 .cases z:i=j
  .subst z;let(R,_):=Ww q;cases R;rw[(_,I,L.frz e J)]
  .rw[QK z]at q;have(v,S,T):=r.val q;rw[(v,S,jf.same c _ _ T)]
 .cases z:i=j
  .ext
  .rw[QK z]at q;let(-m,U,m2,m3,X,Y):=r.own q;let ne:m≠l:=λe=>r.apart z E q I (by rwa[<-e]);rw[(m,U,m2,by rwa[JI ne,],X.ext c λu q'=>q',Y)]
 .let z1:i≠j:=λz=>by ext
  let z2:i≠k:=λz=>by ext
  rw[QK z1]at f;rw[QK z2]at s;rw[r.apart n f s Q]
def RS.pin    (r:RS K B F H c Z)(y:c[i]?=! ! .own p d)(I:B'.F0=B.F0)(o:B'.H0=B.H0)(J:∀j,j≠i->B'.pa j=B.pa j)(L:∀l,Z[i]?=! ! .ref l->p'=6->uY H l (B'.pa i)):
 RS K B' F H (c.set i<|! .own p' d) Z:=by
 let O:i<⇑c:=by grind
 rw[(by rw[I,o];rw[r.ext],by rw[UW,r.len],λ{j e}q=>?_,λ{j s e}q=>?_,λ{j k E s Y d2 m}n Q R S=>?_)]
 .cases z:i=j
  .ext
  .rw[QK z]at q;rw[r.val q]
 .cases z:i=j
  .subst z;let(T,_):=Ww q;cases T;let(-l,f,m2,u,v,G):=r.own y;rw[(l,f,by rwa[o,],u,v,L l f)]
  .rw[QK z]at q;let(-l,f,m2,u,v,G):=r.own q;rw[(l,f,by rwa[o,],u,v,λU=>by rw[J j (Ne.symm z),];rw[G U])]
 .let g:∀{j:5}{p:Bool}{e:D},(c.set i<|! .own p' d)[j]?=! ! .own p e->∃p' X,c[j]?=! ! .own p' X:=λ{j p e}q=>by
   cases z:i=j
   .subst z;rw[jR _ d y]
   .rw[QK z]at q;rw[jR p e q]
  have(_,_,E):=g Q;have(_,_,s):=g R;rw[r.apart n E s S]
noncomputable def qp:Yh->SD->SD
 |[],a=>a
 |i::is,a=>qp is (match a[i]? with
  |some (some<|.own _ d)=>a.set i (~~~d)
  |_=>a)
theorem RS.frz:∀c{F:Hp}{e:SD},RS K B F H e Z->∃f,jk F f/\RS K B f H (qp c e) Z
 |[],F,e,r=>(F,.refl _,r)
 |i::c,F,e,r=>by
  ext qp
  split
  .rename_i p d h;let(-u,j,l):=r.frz1 h;let(-n,o,s):=RS.frz c l;rw[(n,j.trans o,s)]
  .rw[RS.frz c r]
end
def mG(K:f')(F H:Hp)(c:Str)(fs:YC)(b:Value)(a:02 Addr):4:=
 ∃C,b=.ref C/\W.nsIn K 000 c=! ! .ref C/\(fs=[]\/∃p n,fs=[.int n]/\a=!p/\F p=! RowO p n)
def XW(K:f')(E:XK)(F H:Hp)(c:Str)(fs:YC):4:=∀e a f b,Ext F H f b->mG K f b c fs e a->E e a b
def XW.ext{K:f'}    (h:XW K E F H c fs)(e:Ext F H f i):XW K E f i c fs:=λj a l n o q=>h j a l n (e.trans o) q
abbrev FE:=SD->Res D
abbrev FT:=SD->Res Bool
abbrev FA:=SD->Res YC
def zu(K:f')(F H:Hp)(Q:VK)(d:D):4:=∀v a b,Ext F H a b->jf K a d v->Q v b
def uT(F H:Hp)(Q:Bool->Hp->4)(b:Bool):4:=∀c a,Ext F H c a->Q b a
def OkA(K:f')(F H:Hp)(Q:YB->Hp->4)(e:YC):4:=∀a b c,Ext F H b c->jc K b e a->Q a c
def yK(K:f')(F H:Hp)(Q:VK)(d:D):4:=∀l a b,Ext F H a b->H l=8->a l=8->zc K a b l d->Q (.ref l) b
def tD(K:f')(E:XK)(f:FE):TE:=λZ H Q=>∃B F a,RS K B F H a Z/\(f a).need (zu K F H Q) (XW K E F H)
def mR(K:f')(E:XK)(f:FT):TT:=λZ H Q=>∃B F a,RS K B F H a Z/\(f a).need (uT F H Q) (XW K E F H)
def cb(K:f')(E:XK)(f:FA):TA:=λZ H Q=>∃B F a,RS K B F H a Z/\(f a).need (OkA K F H Q) (XW K E F H)
def kf(K:f')(E:XK)(f:FE):TE:=λZ H Q=>∃B F a,RS K B F H a Z/\(f a).need (yK K F H Q) (XW K E F H)
abbrev QE(X:Cx)(E:XK)(e:Expr)(f:FE):4:=PE X e<|tD X.K E f
abbrev QT(X:Cx)(E:XK)(e:Expr)(f:FT):4:=PT X e<|mR X.K E f
abbrev QW(X:Cx)(E:XK)(e:Expr)(f:FT):4:=PW X e<|mR X.K E f
abbrev QA(X:Cx)(E:XK)(es:List Expr)(f:FA):4:=PA X es<|cb X.K E f
abbrev QN(X:Cx)(E:XK)(e:Expr)(f:FE):4:=PE X e<|kf X.K E f
def PE.weak   (h:PE X e t)(w:∀Z H Q,c Z H Q->t Z H Q):PE X e c:=λY s Z H Q I q=>h Y s Z H Q I<|w _ _ _ q
def PT.weak   (h:PT X e t)(w:∀Z H Q,c Z H Q->t Z H Q):PT X e c:=λY s Z H Q I q=>h Y s Z H Q I<|w _ _ _ q
def PW.weak   (h:PW X e t)(w:∀Z H Q,f Z H Q->t Z H Q):PW X e f:=λc Y s Z H Q I q=>h c Y s Z H Q I<|w _ _ _ q
def PA.weak   (h:PA X e t)(w:∀Z H Q,f Z H Q->t Z H Q):PA X e f:=λc Y s Z H Q I q=>h c Y s Z H Q I<|w _ _ _ q
def PS.weak   (h:PS X e t)(w:∀D Z H,c D Z H->t D Z H):PS X e c:=λY s Z H D I q=>h Y s Z H D I<|w _ _ _ q
def xm.weak   (h:xm X e t)(w:∀D Z H,c D Z H->t D Z H):xm X e c:=λY s Z H D I q=>h Y s Z H D I<|w _ _ _ q
def PI.weak   (h:PI X c e t)(w:∀Z H R,f Z H R->t Z H R):PI X c e f:=λY s Z H R I q=>h Y s Z H R I<|w _ _ _ q
section
variable {K:f'}
def zu.ext  (h:zu K F H Q d)(e:Ext F H c f):zu K c f Q d:=λv i j l q=>h v i j (e.trans l) q
def uT.ext  (h:uT F H Q b)(e:Ext F H c f):uT c f Q b:=λi j l=>h i j<|e.trans l
def yK.ext  (h:yK K F H Q d)(e:Ext F H c f):yK K c f Q d:=λl i j n q=>h l i j (e.trans n)<|Qe e.hh q
def Ck {r:Res D}(h:r.need (zu K F H Q) (XW K E F H))(e:Ext F H a b):r.need (zu K a b Q) (XW K E a b):=h.mono (λ_ q=>q.ext e) λ_ _ q=>q.ext e
def Ix {r:Res Bool}(h:r.need (uT F H Q) (XW K E F H))(e:Ext F H a b):r.need (uT a b Q) (XW K E a b):=h.mono (λ_ q=>q.ext e) λ_ _ q=>q.ext e
def Ey {r:Res D}(h:r.need (yK K F H Q) (XW K E F H))(e:Ext F H a b):r.need (yK K a b Q) (XW K E a b):=h.mono (λ_ q=>q.ext e) λ_ _ q=>q.ext e
theorem zu.new  (h:zu K F H Q d):yK K F H Q d:=λl f i e n c o=>by
 let(u,j):=o.has;rw[h (.ref l) (upd f l u) i (e.ff.trans<|Wv c u,λb v q=>?_,e.hh,λa p r=>?_)<|o.frz j c]
 .cases z:b=l
  .simp_all[JO]
  .rw[JI z]at q;rw[e.fh _ _ q]
 .let z:a≠l:=by grind
  rw[JI z,];rw[e.new a p r]
end
section
def jr  (h:QN X E e f):QE X E e f:=PE.weak h λZ H Q=>qf λB F c=>j5 λr n=>jg B F c (r,n.mono (λ_ q=>q.new) 004)
noncomputable def ja(i:5):FE:=λsd=>match sd[i]? with
 |some (~~~d)=>.ok d
 |_=>.no
def dC(d:D):FE:=λ_=>.ok d
def ZH   (h:PE X e (tC v))(i:∀F,jf X.K F d v):QE X E e (dC d):=PE.weak h λZ H Q=>qf λB F a=>j5 λr n=>n v F H (.refl r.ext.fh)<|i F
def J6 :QE X E (.Constant (.int i) j a) (dC<|.int i):=ZH (λ_ _ _ H _ I h=>wpAny_Constant_int (.int i,H,I.tok _,(_,9),h)) λ_=>jd.mpr 9
def Kv :QE X E (.Constant (.bool b) j a) (dC<|.bl b):=ZH (λ_ _ _ H _ I h=>Constant_bool (.bl b,H,I,9,h)) λ_=>jt.mpr 9
def WV :QE X E (.Constant .none j a) (dC .non):=ZH (λ_ _ _ H _ I h=>Constant_none (.non,H,I,9,h)) λ_=>jD.mpr 9
def Kw :QE X E (.Constant (.str x) j a) (dC<|.str x):=ZH Gz λ_=>j1.mpr 9
noncomputable def Res.ofO{α:Type}:02 α->Res α
 |some a=>.ok a
 |none=>.no
@[simp]def vR (a:α):Res.ofO (!a)=.ok a:=rfl
@[simp]def vS :Res.ofO (8:02 α)=.no:=rfl
def ji    (h:(Res.ofO o).need p q):∃a,o=!a/\p a:=by
 cases(o)with
 |none=>rw[h.elim]
 |some a=>rw[(a,9,h)]
def jh(g:D->D->YD)(a b:FE):FE:=λsd=>(a sd).bind λx=>(b sd).bind λy=>.ofO<|g x y
def jZ(g:D->YD)(a:FE):FE:=λsd=>(a sd).bind λx=>.ofO<|g x
def uH(K:f')(g:D->D->YD):R2:=λv w H Q=>∃F d e z,jk F H/\jf K F d v/\jf K F e w/\g d e=!z/\zu K F H Q z
def sR(K:f')(g:D->D->YD):R2:=λv w H Q=>∃F d e z,jk F H/\jf K F d v/\jf K F e w/\g d e=!z/\yK K F H Q z
def cp(K:f')(g:D->YD):V->Hp->VK->4:=λv H Q=>∃F d z,jk F H/\jf K F d v/\g d=!z/\zu K F H Q z
def wS(K:f')(g:YC->YD):YB->Hp->VK->4:=λb H Q=>∃F a z,jk F H/\jc K F a b/\g a=!z/\zu K F H Q z
def wR(K:f')(g:YC->YD):YB->Hp->VK->4:=λb H Q=>∃F a z,jk F H/\jc K F a b/\g a=!z/\yK K F H Q z
def AF{K:f'}     (h:tD K E (jh g e f) Z H Q):kH (uH K g) (tD K E e) (tD K E f) Z H Q:=by
 let(B F c,r,n):=h;rw[jg B F c (r,(Res.need_bind n).mono (λx i v j t a l=>jg B j c (r.step a,(Res.need_bind i).mono (λy m w o u b p=>?_) λ_ _ q=>q.ext a)) 004)];let(-z,s,q):=ji m;rw[jW o x y z (b.fh,jf.same b.ff _ _ l,p,s,q.ext<|a.trans b)]
abbrev zt(X:Cx)(f:Value->Value->Sem Value)(g:D->D->YD):4:=yu X f<|uH X.K g
abbrev uR(X:Cx)(f:Value->Value->Sem Value)(g:D->D->YD):4:=yu X f<|sR X.K g
def yu.weak  (h:yu X f r)(w:∀x y H Q,c x y H Q->r x y H Q):yu X f c:=λY s Z H x y v u Q I e i q=>h Y s Z H x y v u Q I e i<|w _ _ _ _ q
def uP.weak  (h:uP X f r)(w:∀x H Q,c x H Q->r x H Q):uP X f c:=λY s Z H x v Q I e q=>h Y s Z H x v Q I e<|w _ _ _ q
def ql.weak  (h:ql X f r)(w:∀x H Q,c x H Q->r x H Q):ql X f c:=λY s Z H x v Q I e q=>h Y s Z H x v Q I e<|w _ _ _ q
def zQ.weak (h:zQ X r)(w:∀x y H Q,i x y H Q->r x y H Q):zQ X i:=λc f Y s Z H x y v u Q I j l q e=>h c f Y s Z H x y v u Q I j l (w _ _ _ _ q) e
variable  {fa fb:FE}
def jq  (c:zt X (binaryOp e) g)(f:QE X E a fa)(i:QE X E b fb):QE X E (.BinOp a e b j) (jh g fa fb):=PE.weak (GA c f i) λ_ _ _ h=>AF h
def Iy  (i:uR X (binaryOp j) g)(l:QE X E a fa)(m:QE X E b fb):QN X E (.BinOp a j b o) (jh g fa fb):=PE.weak (GA i l m) λ_ _ _ h=>by
 let(B F f,r,n):=h;rw[jg B F f (r,(Res.need_bind n).mono (λx p v s H c t=>jg B s f (r.step c,(Res.need_bind p).mono (λy u w A I e C=>?_) λ_ _ q=>q.ext c)) 004)];let(-z,G,q):=ji u;rw[jW A x y z (e.fh,jf.same e.ff _ _ t,C,G,q.ext<|c.trans e)]
def xq  (e:uP X (unaryOp f) (cp X.K g))(i:QE X E a fa):QE X E (.UnaryOp f a j) (jZ g fa):=PE.weak (λY s Z H Q I h=>UnaryOp_<|jL (i Y s Z H _ I h) λv l=>j4 λx b=>j8 λm o p=>e Y l Z b x v Q m o p) λ_ _ _ h=>by
 let(B F t,r,n):=h;rw[jg B F t (r,(Res.need_bind n).mono (λx u v w b c y=>?_) 004)];let(-z,A,q):=ji u;rw[jg w x z (c.fh,y,A,q.ext c)]
def Iz  (e:zt X (compareOp c) g)(f:QE X E a fa)(i:QE X E b fb)(j:behindInMarks c b=7):QE X E (.Compare a [c] [b] l) (jh g fa fb):=PE.weak (λY s Z H Q I h=>wpAny_Compare1 (uO f i I h λv u m x y n o p r q=>e Y m Z n x y v u Q o p r q) j) λ_ _ _ h=>AF h
def J9(fa:FE):FT:=λsd=>(fa sd).bind λx=>match x with
 |.bl b=>.ok b
 |_=>.no
def Xw{K:f'}   (h:mR K E (J9 fa) Z H Q):tD K E fa Z H λx b=>∃k,x=.bl k/\Q k b:=by
 let(B F c,r,n):=h;rw[jg B F c (r,(Res.need_bind n).mono (λx a v e f g i=>?_) 004)];cases x with
 |bl k=>rw[(k,jt.mp i,a e f g)]
 |_=>rw[a.elim]
def Qg  (e:zt X (compareOp c) g)(f:QE X E a fa)(i:QE X E b fb)(j:behindInMarks c b=7):QT X E (.Compare a [c] [b] l) (J9<|jh g fa fb):=
 PT.weak (DJ e f i j) λZ H Q h=>have h:=Xw h;AF h
def Kq(c:QE X E a fa)(e:∀b,isTrue a X.env b=(do let v<-b;standAt a.pos;holding [v] (truthy v)):=by intro _;rfl):QT X E a (J9 fa):=PT.weak (by
 intro Y s Z H Q I f;rw[isTrue_plain (jL (c Y s Z H _ I f) λv l=>j4 λx g=>j8 λh i j=>?_)<|e _];let(d,rfl,q):=j;cases i;rw[wpAny_truthy_bool (g,h,q)]) λZ H Q q=>Xw q
def Kj(f:FT):FT:=λsd=>(f sd).bind λb=>.ok<|not b
def Kr(f g:FT):FT:=λa=>(f a).bind λb=>if b then g a else .ok 7
def xN(f g:FT):FT:=λsd=>(f sd).bind λb=>if b then .ok 6 else g sd
variable {f g:FT}
def Wx(b:QT X E a f):QT X E (.UnaryOp .Not a e) (Kj f):=PT.weak (λY s Z H Q I h=>isTrue_not<|b Y s Z H (λc i=>Q (not c) i) I h) λZ H Q=>qf λB F j=>j5 λr n=>
 jg B F j (r,(Res.need_bind n).mono (λ_ q=>q) 004)
def ZI(b:QT X E a f):QW X E (.BoolOp .And [a] i) f:=by
 intro j Y s Z H Q I h;rw[isTrue_and<|jL (b Y s Z H Q I h) λc l e=>?_]
 cases(c)with
 |true=>rw[isTrue_and_nil e]
 |false=>rw[e]
def WW(b:QT X E a f):QW X E (.BoolOp .Or [a] i) f:=by
 intro j Y s Z H Q I h;rw[isTrue_or<|jL (b Y s Z H Q I h) λc l e=>?_]
 cases(c)with
 |false=>rw[isTrue_or_nil e]
 |true=>rw[e]
def Xx(l:QT X E a f)(m:QW X E (.BoolOp .And (b::rest) c) g):QW X E (.BoolOp .And (a::b::rest) c) (Kr f g):=PW.weak (Pt l m) λZ H Q o=>by
 let(B F h,r,n):=o;rw[jg B F h (r,(Res.need_bind n).mono (λk i j p e=>?_) 004)]
 cases(k)with
 |true=>rw[jg B j h (r.step e,Ix i e)]
 |false=>rw[i j p e]
def Uk(l:QT X E a f)(m:QW X E (.BoolOp .Or (b::rest) c) g):QW X E (.BoolOp .Or (a::b::rest) c) (xN f g):=PW.weak (gy l m) λZ H Q o=>by
 let(B F h,r,n):=o;rw[jg B F h (r,(Res.need_bind n).mono (λk i j p e=>?_) 004)]
 cases(k)with
 |true=>rw[i j p e]
 |false=>rw[jg B j h (r.step e,Ix i e)]
def qF (h:QW X E e f):QT X E e f:=h _
def ZJ(fa fb:FE):FE:=λa=>(J9 fa a).bind λb=>if b then fb a else .ok (.bl 7)
def Cm(fa:FE):FE:=λa=>(J9 fa a).bind λb=>.ok<|.bl<|not b
def Co (h:QE X E a fa):QE X E (.BoolOp e [a] b) fa:=λY s Z H Q I c=>BoolOp_one<|h Y s Z H Q I c
def Cp(l:QE X E a fa)(m:QE X E (.BoolOp .And (b::rest) c) fb):QE X E (.BoolOp .And (a::b::rest) c) (ZJ fa fb):=PE.weak (Pu l m) λZ H Q o=>by
 let(B F h,r,n):=o;rw[Xw<|jg B F h (r,(Res.need_bind n).mono (λk i j p e=>?_) 004)]
 cases(k)with
 |true=>rw[jg B j h (r.step e,Ck i e)]
 |false=>rw[i _ j p e<|jt.mpr 9]
def IA(i:QE X E a fa):QE X E (.UnaryOp .Not a j) (Cm fa):=PE.weak (by
 intro Y s Z H Q I h;rw[UnaryOp_<|jL (i Y s Z H _ I h) λv w=>j4 λx b=>j8 λl m e=>?_];let(c,rfl,e):=e;cases m;rw[not_of<|wpAny_truthy_bool (.bl<|not c,b,l,9,e)]) λZ H Q=>qf λB F o=>j5 λr n=>Xw<|jg B F o (r,(Res.need_bind n).mono (λk p t b u=>p _ t b u<|jt.mpr 9) 004)
def jb:FA:=λ_=>.ok []
def J2(fa:FE)(a:FA):FA:=λsd=>(fa sd).bind λx=>(a sd).bind λb=>.ok<|x::b
def J5:QA X E [] jb:=PA.weak WQ λZ H Q=>qf λB F a=>j5 λr n=>n [] F H (.refl r.ext.fh) .nil
def J3    (i:QE X E e j)(l:QA X E a m)(o:01 (e::a) X.env=%[7|011]::01 a X.env:=by rfl):QA X E (e::a) (J2 j m):=
 PA.weak (WF i l o) λZ H Q=>qf λB F c=>j5 λr n=>jg B F c (r,(Res.need_bind n).mono (λx p v s A b t=>jg B s c (r.step b,(Res.need_bind p).mono (λC u G w y h z=>u _ w y (b.trans h)<|.mk (jf.same h.ff _ _ t) z) λ_ _ q=>q.ext b)) 004)
def qI(b:FA):FE:=λsd=>(b sd).bind λa=>if ⇑a<=1000 then .ok (.lst a)else .no
def xi(b:FA):FE:=λc=>(b c).bind λa=>if ⇑a<=1000 then .ok (.tup a)else .no
def Kx  (h:QA X E j l):QN X E (.List j m) (qI l):=PE.weak (GI h) λZ H Q o=>by
 let(B F s,r,n):=o;rw[jg B F s (r,(Res.need_bind n).mono (λv b e t u a i=>?_) 004)]
 split at b
 .let w:=⇑i;rw[(small (),λp c=>b p t (upd u p<|.lst e) (a.trans<|.keep a.fh c _) (Qe a.hh c) (Qe a.fh c) (e,JO,i))]
 .rw[b.elim]
def KN   (h:QA X E j l):QE X E (.Tuple j u m) (xi l):=PE.weak (PQ h) λZ H Q o=>by
 let(B F s,r,n):=o;rw[jg B F s (r,(Res.need_bind n).mono (λv a b w x c e=>?_) 004)]
 split at a
 .let y:=⇑e;rw[(small (),λp t=>?_)];let i:=Ext.alloc c.fh t<|.tup b;rw[a _ _ _ (c.trans i)<|js.mpr (p,b,9,.of JO,jc.same i.ff _ _ e)]
 .rw[a.elim]
def qJ(K:f')(b:YC->Res D):Sp:=λc H Q _=>∃F a,jk F H/\jc K F a c/\(b a).need (zu K F H Q) (XW K E0 F H)
def zY(K:f')(b:YC->Res D):Sp:=λc H Q _=>∃F a,jk F H/\jc K F a c/\(b a).need (yK K F H Q) (XW K E0 F H)
def JB(a:YC->Res D)(b:FA):FE:=λsd=>(b sd).bind a
def jH        (c:wI X.prog X.w X.K X.mg X.base a k I (qJ X.K l))(o:Room k X.A)(s:Gl X a)(t:QA X E0 (e::b) u)
 (h:(a==010)=7:=by decide)(v:01 (e::b) X.env=%[7|011]::01 b X.env:=by rfl)(i:(backTo j<|01 b X.env).any (·.1)=7:=by rfl):
 QE X E0 (.Call (.Name a p) (e::b) [] j) (JB l u):=PE.weak (A6 c o s t h v i) λZ H Q w=>by
 let(B F x,r,n):=w;rw[jg B F x (r,(Res.need_bind n).mono (λy z A C E m G=>?_) 004)];show qJ X.K l (A++[]) E Q E0;rw[ZA,];rw[(C,y,m.fh,G,Ck z m)]
def AG        (c:wI X.prog X.w X.K X.mg X.base a k I (zY X.K l))(o:Room k X.A)(s:Gl X a)(t:QA X E0 (e::b) u)
 (h:(a==010)=7:=by decide)(v:01 (e::b) X.env=%[7|011]::01 b X.env:=by rfl)(i:(backTo j<|01 b X.env).any (·.1)=7:=by rfl):
 QN X E0 (.Call (.Name a p) (e::b) [] j) (JB l u):=PE.weak (A6 c o s t h v i) λZ H Q w=>by
 let(B F x,r,n):=w;rw[jg B F x (r,(Res.need_bind n).mono (λy z A C E m G=>?_) 004)];show zY X.K l (A++[]) E Q E0;rw[ZA,];rw[(C,y,m.fh,G,Ey z m)]
def jj(g:YC->YD)(a:FA):FE:=λsd=>(a sd).bind λb=>.ofO<|g b
def JM{id:String}    {g:YC->YD} (j:ql X (.builtin id) (wS X.K g))(l:Gl X x)(m:X.mg x=8)(o:bootBuiltins x=! .builtin id)(s:QA X E (e::a) t)(u:x ≠"__name__":=by decide)(b:(x==010)=7:=by decide)
 (v:01 (e::a) X.env=%[7|011]::01 a X.env:=by rfl)(c:(backTo h<|01 a X.env).any (·.1)=7:=by rfl):QE X E (.Call (.Name x p) (e::a) [] h) (jj g t):=
 PE.weak (BN j l m o s u b v c) λZ H Q w=>by
  let(B F y,r,n):=w;rw[jg B F y (r,(Res.need_bind n).mono (λA C L G M i I=>?_) 004)];let(-z,J,q):=ji C;rw[jg G A z (i.fh,I,J,q.ext i)]
def SG{id:String}    {g:YC->YD} (j:ql X (.builtin id) (wR X.K g))(l:Gl X x)(m:X.mg x=8)(o:bootBuiltins x=! .builtin id)(s:QA X E (e::a) t)(u:x ≠"__name__":=by decide)(b:(x==010)=7:=by decide)
 (v:01 (e::a) X.env=%[7|011]::01 a X.env:=by rfl)(c:(backTo h<|01 a X.env).any (·.1)=7:=by rfl):QN X E (.Call (.Name x p) (e::a) [] h) (jj g t):=
 PE.weak (BN j l m o s u b v c) λZ H Q w=>by
  let(B F y,r,n):=w;rw[jg B F y (r,(Res.need_bind n).mono (λA C L G M i I=>?_) 004)];let(-z,J,q):=ji C;rw[jg G A z (i.fh,I,J,q.ext i)]
def Ez     {g:YC->YD} (j:ql X (.type T) (wS X.K g))(l:Gl X x)(m:X.mg x=8)(o:bootBuiltins x=! .type T)(s:QA X E (e::a) t)(u:x ≠"__name__":=by decide)(b:(x==010)=7:=by decide)
 (v:01 (e::a) X.env=%[7|011]::01 a X.env:=by rfl)(c:(backTo h<|01 a X.env).any (·.1)=7:=by rfl):QE X E (.Call (.Name x p) (e::a) [] h) (jj g t):=
 PE.weak (DO j l m o s u b v c) λZ H Q w=>by
  let(B F y,r,n):=w;rw[jg B F y (r,(Res.need_bind n).mono (λA C L G M i I=>?_) 004)];let(-z,J,q):=ji C;rw[jg G A z (i.fh,I,J,q.ext i)]
def Kd     {g:YC->YD} (j:ql X (.type T) (wR X.K g))(l:Gl X x)(m:X.mg x=8)(o:bootBuiltins x=! .type T)(s:QA X E (e::a) t)(u:x ≠"__name__":=by decide)(b:(x==010)=7:=by decide)
 (v:01 (e::a) X.env=%[7|011]::01 a X.env:=by rfl)(c:(backTo h<|01 a X.env).any (·.1)=7:=by rfl):QN X E (.Call (.Name x p) (e::a) [] h) (jj g t):=
 PE.weak (DO j l m o s u b v c) λZ H Q w=>by
  let(B F y,r,n):=w;rw[jg B F y (r,(Res.need_bind n).mono (λA C L G M i I=>?_) 004)];let(-z,J,q):=ji C;rw[jg G A z (i.fh,I,J,q.ext i)]
noncomputable def Um:D->Bool
 |.tup _=>7
 |.lst _=>7
 |.dct _ _=>7
 |.ins _ _ _=>7
 |.exc _=>7
 |.exr _ _=>7
 |.dcf _ _=>7
 |.pin _ _=>7
 |.scr _=>7
 |_=>6
def jf.scal{K:f'}   (s:Um d=6)(h:jf K F d v):jf K c d v:=by
 cases d with
 |tup _=>rw[JH s]
 |lst _=>rw[JH s]
 |dct _ _=>rw[JH s]
 |ins _ _ _=>rw[JH s]
 |exc _=>rw[JH s]
 |exr _ _=>rw[JH s]
 |dcf _ _=>rw[JH s]
 |pin _ _=>rw[JH s]
 |scr _=>rw[JH s]
 |_=>rw[h]
noncomputable def Res.bare{α:Type}(r:Res α):Res α:=match r with
 |.ok a=>.ok a
 |.ex c []=>.ex c []
 |_=>.no
def xJ {K:f'} {r:Res α} (e:jk F H)(h:r.bare.need p (XW K E0 F H)):r.need p (XW K E0 s H):=by
 cases(r)with
 |ok a=>rw[h]
 |no=>rw[h]
 |ex c fs=>
  cases(fs)with
  |nil=>rw[λi a u j l=>y9 λC=>j8 λn o _=>h i 8 F j (.grow e l.hh) (C,n,o,006)]
  |cons d r=>rw[h.elim]
def yB(a:Yh)(f:FE):FE:=λsd=>(f<|qp a sd).bare.bind λd=>if Um d then .ok d else .no
def E1(a:Yh)(f:FT):FT:=λb=>(f<|qp a b).bare
def Xy  (is)(h:QE X E0 e b):QE X E0 e (yB is b):=PE.weak h λZ H Q i=>by
 let(B F t,r,n):=i;let(-j,u,l):=r.frz is;rw[jg B j _ (l,(xJ r.ext.fh<|001).mono (λd a v w m o p=>?_) λc fs q=>q)]
 split at a
 .rename_i s;rw[a v F m (.grow r.ext.fh o.hh)<|p.scal s]
 .rw[a.elim]
def SH  (a:Yh)(h:QT X E0 e b):QT X E0 e (E1 a b):=PT.weak h λZ H Q i=>by
 let(B F s,r,n):=i;let(-j,t,l):=r.frz a;rw[jg B j _ (l,(xJ r.ext.fh n).mono (λd m u o p=>?_) λc fs q=>q)];rw[m F o<|.grow r.ext.fh p.hh]
end
inductive Out where
 |next(sd:SD)|ret(d:D)|brk(sd:SD)|cont(sd:SD)
def rK(K:f')(F H:Hp)(Q:VK)(d:D):4:=if Um d=6 then zu K F H Q d else yK K F H Q d
def Cq(K:f')(m:02 Bool)(B:Bs)(Q:VK)(d:D):4:=match m with
 |some true=>yK K B.F0 B.H0 Q d
 |some false=>zu K B.F0 B.H0 Q d
 |none=>rK K B.F0 B.H0 Q d
def zE(K:f')(m:02 Bool)(B:Bs)(F:Hp)(T:Ends):Out->4
 |.next c=>∀Z a b,jk F a->RS K B a b c Z->T.nx Z b
 |.brk c=>∀Z a b,jk F a->RS K B a b c Z->T.bk Z b
 |.cont c=>∀Z a b,jk F a->RS K B a b c Z->T.ct Z b
 |.ret d=>Cq K m B T.rt d
abbrev FS:=SD->Res Out
def ke(K:f')(E:XK)(m:02 Bool)(g:FS):TS:=λT Z H=>∃B F a,RS K B F H a Z/\(g a).need (zE K m B F T) (XW K E B.F0 B.H0)
abbrev QS(X:Cx)(E:XK)(m:02 Bool)(st:Stmt)(g:FS):4:=PS X st<|ke X.K E m g
abbrev zZ(X:Cx)(E:XK)(m:02 Bool)(st:List Stmt)(g:FS):4:=xm X st<|ke X.K E m g
section
variable {K:f'}
def zE.mono (h:zE K m B F T o)(e:jk F j):zE K m B j T o:=by
 cases o with
 |next i=>rw[λZ c f s r=>h Z c f (e.trans s) r]
 |brk i=>rw[λZ c f s r=>h Z c f (e.trans s) r]
 |cont i=>rw[λZ c f s r=>h Z c f (e.trans s) r]
 |ret d=>rw[h]
end
section
variable  {E:XK}  {st:Stmt}  {g g1 g2:FS}
def Qa:FS:=λsd=>.ok<|.next sd
def jp(g1 g2:FS):FS:=λsd=>(g1 sd).bind λo=>match o with
 |.next a=>g2 a
 |o=>.ok o
def Qv:zZ X E m [] Qa:=xm.weak Aw λT Z H=>qf λB F a=>j5 λr n=>n Z F H (.refl _) r
def JC(h:QS X E m st g):zZ X E m [st] g:=BH h
def JD(e:QS X E m st g1)(f:zZ X E m c g2):zZ X E m (st::c) (jp g1 g2):=xm.weak (YU e f) λT Z H h=>by
 let(B F i,r,n):=h;rw[jg B F i (r,(Res.need_bind n).mono (λo b=>?_) 004)]
 cases(o)with
 |next a=>rw[λp j t s l=>jg B j a (l,b.mono (λo q=>q.mono s) 004)]
 |ret d=>rw[b]
 |brk a=>rw[b]
 |cont a=>rw[b]
def Cr(is)(h:QS X E m st g):QS X E m st λa=>g<|qp is a:=PS.weak h λT Z H b=>by
 let(B F a,r,n):=b;let(-c,e,f):=r.frz is;rw[jg B c _ (f,n.mono (λ_ q=>q.mono e) 004)]
def uF:FS:=λa=>.ok<|.brk a
def SI:QS X E m (.Break a) uF:=PS.weak (λ_ _ Z H _ I h=>wpAny_Break (Z,H,I,h)) λT Z H=>qf λB F b=>j5 λr n=>n Z F H (.refl _) r
def jA(i:5)(f:FE):FS:=λsd=>(f sd).bind λd=>.ok<|.next<|sd.set i<|~~~d
def qX(i:5)(f:FE):FS:=λa=>(f a).bind λd=>.ok<|.next<|a.set i<|! .own 7 d
def JX   (f:X.N.Nodup)(h:X.N[i]?=!x)(j:zP X.env.scope x)(l:QE X E e o)(p:swapsWith e (! .Name x a) b.line X.env=pure 7:=by rfl)
 (s:X.fn x=6\/X.env.scope.names.lookup x=!.local:=by trivial):QS X E m (.Assign [.Name x a] e b) (jA i o):=PS.weak (DI f h j l p s) λT Z H=>qf λB F t=>j5 λr n=>jg B F t (r,(Res.need_bind n).mono (λd u v w y c z=>u _ w y c.ff<|(r.step c).setVal z) λ_ _ q=>q.ext r.ext)
def Ux   (f:X.N.Nodup)(h:X.N[i]?=!x)(s:zP X.env.scope x)(t:QN X E e u)(v:swapsWith e (! .Name x a) b.line X.env=pure 7:=by rfl)
 (w:X.fn x=6\/X.env.scope.names.lookup x=!.local:=by trivial):QS X E m (.Assign [.Name x a] e b) (qX i u):=PS.weak (DI f h s t v w) λT Z H y=>by
 let(B F z,r,n):=y;rw[jg B F z (r,(Res.need_bind n).mono (λd A l C G c I J L=>A _ C G c.ff<|(r.step c).setOwn (Qe r.ext.hh I) J L λj p O M P=>?_) λ_ _ q=>q.ext r.ext)];let(-Q,R,_,_,N,_):=r.own M;let(o,S):=N.has
 ext
def j0(f:FE):FS:=λsd=>(f sd).bind λd=>.ok<|.ret d
def JN(a:QE X E e b):QS X E 7 (.Return (!e) c) (j0 b):=PS.weak (Ax a) λT Z H=>qf λB F f=>j5 λr n=>jg B F f (r,(Res.need_bind n).mono (λd h v i j l m=>h v i j (r.ext.trans l) m) λ_ _ q=>q.ext r.ext)
def ZK(a:QN X E e b):QS X E 6 (.Return (!e) c) (j0 b):=PS.weak (Ax a) λT Z H=>qf λB F f=>j5 λr n=>jg B F f (r,(Res.need_bind n).mono (λd h l i j m o p s=>h l i j (r.ext.trans m) (Qe r.ext.hh o) p s) λ_ _ q=>q.ext r.ext)
noncomputable def KO(i:5):FS:=λa=>match a[i]? with
 |some (some<|.own _ d)=>.ok (.ret d)
 |_=>.no
def ZL (a:PE X e (yH i)):QS X E 6 (.Return (!e) b) (KO i):=PS.weak (Ax a) λT Z H c=>by
 let(B F o,r,n):=c;unfold KO at n
 split at n
 .rename_i d q;let(-l,f,h,j,m,_):=r.own q;rw[(.ref l,f,n l F H r.ext h j m)]
 .rw[n.elim]
def xx(c:FT)(g1 g2:FS):FS:=λsd=>(c sd).bind λb=>if b then g1 sd else g2 sd
def Qw   (j:QT X E c l)(o:zZ X E m a g1)(p:zZ X E m b g2):QS X E m (.If c a b s) (xx l g1 g2):=PS.weak (BI j o p) λT Z H t=>by
 let(B F f,r,n):=t;rw[jg B F f (r,(Res.need_bind n).mono (λb h i u e=>?_) λ_ _ q=>q.ext r.ext)]
 cases(b)with
 |true=>rw[(B,i,f,r.step e,h.mono (λ_ q=>q.mono e.ff) 004)]
 |false=>rw[jg B i f (r.step e,h.mono (λ_ q=>q.mono e.ff) 004)]
def Wy(i:5)(f:FE):FS:=λsd=>match sd[i]? with
 |some (some<|.own false<|.lst ds)=>(f sd).bind λd=>if ⇑ds<00 then .ok (.next<|sd.set i<|!(.own 7<|.lst<|ds++[d]))else .no
 |_=>.no
def AH   (J:PE X o (yH i))(L:QE X E e x)
 (M:∀{y:TE}{t:TA},PE X o y->PA X [e] t->PE X (.Call (.Attribute o "append" a) [e] [] b) (kQ X.K 013 BP y t))
 (N:swapsWith (.Call (.Attribute o "append" a) [e] [] b) 8 j.line X.env=pure 7:=by rfl)
 (p:01 [e] X.env=%[7|011]::01 [] X.env:=by rfl):QS X E m (.Expr (.Call (.Attribute o "append" a) [e] [] b) j) (Wy i x):=
 PS.weak (YV (M J<|J3 L J5 p) N) λT Z H O=>by
  let(B F z,r,n):=O;unfold Wy at n
  split at n
  .rename_i U A;let(-l,C,Y,h3,(s,G,I),_):=r.own A;rw[(.ref l,C,.inl (9,s,qP.of G),B,F,z,r,?_)];ext J2 jb;let f:=001
   induction q:x z with
   |no=>rwa[q]at f
   |ex c fs=>rw[q]at f;rw[f.ext r.ext]
   |ok d=>
    rw[q]at f;intro vs P H1 h Q;let(v w,rfl,R,S):=Q;subst S;let u:=f
    split at u
    .let hl:=⇑I;rw[jg l s v (9,9,h.hh _ _ G,(),u Z P _ h.ff<|(r.step h).chg A C (s++[v],JO,(jc.same h.ff _ _ I).snoc R))]
    .rw[u.elim]
  .rw[n.elim]
def ZM(i:5)(f:FE):FS:=λsd=>match sd[i]? with
 |some (some<|.own false<|.lst ds)=>(f sd).bind λd=>match d with
  |.lst a=>if ⇑ds+⇑a<=00 then .ok (.next<|sd.set i<|!(.own 7<|.lst<|ds++a))else .no
  |_=>.no
 |_=>.no
def SJ   (J:PE X o (yH i))(L:QN X E e M)
 (N:∀{u:TE}{t:TA},PE X o u->PA X [e] t->PE X (.Call (.Attribute o "extend" a) [e] [] c) (kQ X.K 013 GY u t))
 (O:swapsWith (.Call (.Attribute o "extend" a) [e] [] c) 8 h.line X.env=pure 7:=by rfl)
 (j:01 [e] X.env=%[7|011]::01 [] X.env:=by rfl):QS X E m (.Expr (.Call (.Attribute o "extend" a) [e] [] c) h) (ZM i M):=
 PS.weak (YV (N J<|WF L WQ j) O) λT Z H P=>by
  let(B F v,r,n):=P;unfold ZM at n
  split at n
  .rename_i w x;let(-l,y,U,Y,(p,z,A),_):=r.own x;rw[(.ref l,y,.inl (9,p,qP.of z),B,F,v,r,(Res.need_bind n).mono (λd C b Q H1 f i1 i2 R=>?_) λ_ _ q=>q.ext r.ext)];cases d with
   |lst G=>
    have(I,g1,g2):=R;let s:(if ⇑w+⇑G<=00 then Res.ok (Out.next<|v.set i<|!(.own 7<|.lst<|w++G))else .no).need (zE X.K m B F T) (XW X.K E B.F0 B.H0):=C
    split at s
    .let hl:=⇑A;let S:=⇑g2;rw[jW l b p I (9,9,f.hh _ _ z,g1,(),s Z Q _ f.ff<|(r.step f).chg x y (p++I,JO,(jc.same f.ff _ _ A).append g2))]
    .rw[s.elim]
   |_=>rw[C.elim]
  .rw[n.elim]
inductive Tg where
 |one(i:Nat)|tup(is:Yh)
noncomputable def setAll:Yh->YC->SD->SD
 |i::is,d::b,a=>setAll is b (a.set i<|~~~d)
 |_,_,a=>a
def JQ:Tg->D->SD->Res SD
 |.one i,d,a=>.ok (a.set i<|~~~d)
 |.tup is,.tup b,a=>if ⇑b=⇑is then .ok (setAll is b a)else .no
 |_,_,_=>.no
noncomputable def Cs:Yh->YB->St->St
 |i::is,v::a,Z=>Cs is a (Z.set i<|!v)
 |_,_,Z=>Z
theorem RS.setAll{K:f'}{B:Bs}{F H:Hp}:∀{is:Yh}{f:YC}{c:YB}{e:SD}{Z:St},RS K B F H e Z->jc K F f c->RS K B F H (setAll is f e) (Cs is c Z)
 |[],f,c,e,Z,r,_=>r
 |i::is,[],c,e,Z,r,h=>by
  subst h;rw[r]
 |i::is,d::f,c,e,Z,r,h=>by
  let(v w,rfl,j,l):=h;rw[RS.setAll (is:=is) (r.setVal j) l]
def RS.forget{K:f'}    (r:RS K B F H e Z)(f:⇑c=⇑e)(h:∀(i:5)x,c[i]?=! !x->e[i]?=! !x):RS K B F H c Z:=
 (r.ext,by rw[r.len,f],λq=>r.val<|h _ _ q,λq=>r.own<|h _ _ q,λn j l o=>r.apart n (h _ _ j) (h _ _ l) o)
def gT:Tg->f'->TG
 |.one i,_=>WP i
 |.tup is,K=>λv Z H Q=>∃a b,v=016/\yX K H a b/\⇑b=⇑is/\Q (Cs is b Z) H
def XZ{K:f'}          (r:RS K B F H e Z)(o:jf K F d v)(n:(JQ l d e).need p q)
 (h:∀b s,p b->JQ l d e=.ok b->RS K B F H b s->Q s H):gT l K v Z H Q:=by
 cases(l)with
 |one i=>rw[h _ _ n 9<|r.setVal o]
 |tup f=>
  cases d with
  |tup j=>
   let(a u,rfl,w,t):=o;let c:JQ (.tup f) (.tup j) e=if ⇑j=⇑f then .ok (setAll f j e)else .no:=9
   cases m:⇑j=⇑f
   .rw[Zd m]at c;rw[c]at n;rw[(a,u,9,(w.same r.ext.fh).sq,by rw[⇑t,m],h _ _ n c<|r.setAll t)]
   .rw[Ze m]at c;rw[c]at n;rw[n.elim]
  |_=>rw[n.elim]
abbrev QG(X:Cx)(e:Expr)(tg:Tg):4:=PG X e<|gT tg X.K
def vO(K:f')(h:Hp)(J:It)(b:YC):4:=∀(i:5)(c a:Hp),jk h c->jk c a->
 (i<⇑b->J.go i a/\∀x e,J.yld i a x e->∃d f,b[i]?=!d/\Ext c a f e/\jf K f d x)/\(⇑b<=i->J.stop i a)
def mS(K:f')(E:XK)(f:FA):TI:=λZ H R=>∃B F a,RS K B F H a Z/\(f a).need (λe=>∀J b c,Ext F H b c->vO K b J e->R J c) (XW K E F H)
abbrev QI(X:Cx)(E:XK)(tg iter:Expr)(f:FA):4:=PI X tg iter<|mS X.K E f
def zj(b:D->FS):YC->FS
 |[],c=>.ok (.next c)
 |x::e,c=>(b x c).bind λo=>match o with
  |.next a=>zj b e a
  |.cont a=>zj b e a
  |.brk a=>.ok (.next a)
  |.ret d=>.ok (.ret d)
def qS(c:FA)(e:Tg)(b:FS):FS:=λa=>(c a).bind λf=>zj (λx a=>(JQ e x a).bind b) f a
def Ke    (hp:PassesOwn 009 X.A X.env X.xe)(hc:X.calm=6)(R:QI X E S f fi)(hg:QG X S t)(hb:zZ X E m u g)
 (C:∀x,foldedSetIterable f X.env x=pure x:=by intro _;rfl):QS X E m (.For S f u [] pos) (qS fi t g):=PS.weak (BL hp hc R hg hb C) λT Z H zh=>by
 let(B F a,r,n):=zh;rw[jg B F a (r,(Res.need_bind n).mono (λb n1 J G H1 U wk=>(λi k Z H=>k=⇑b-i/\i<=⇑b/\∃p a,jk G p/\RS X.K B p H a Z/\(zj (λx a=>(JQ t x a).bind g) (b.drop i) a).need (zE X.K m B p T) (XW X.K E B.F0 B.H0),
  (⇑b,9,Ub _,G,a,.refl _,r.step U,n1.mono (λ_ q=>q.mono U.ff) 004),?_)) λ_ _ q=>q.ext r.ext)]
 rintro i k Z2 Y ⟨rfl,R,p,sd2,I,L,v⟩;let(w1,w2):=wk i p Y I L.ext.fh;cases h:i<⇑b
 .let(go,yl):=w1 h;rw[.inr (go,λM H'=>∃j c,jk G j/\RS X.K B j H' c M/\(zj (λx a=>(JQ t x a).bind g) (b.drop<|i+1) c).need (zE X.K m B j T) (XW X.K E B.F0 B.H0),
   λM H'=>j4 λj c=>j8 λq1 q2 q3=>(⇑b-(i+1),(),9,h,j,c,q1,q2,q3),λx H3 y=>?_)]
  let(d j,hd,s,i3):=yl x H3 y;rw[Uo h]at v;let N:b[i]=d:=by ext
  rw[N]at v;rw[XZ (L.step s) i3 (Res.need_bind<|Res.need_bind v) λO M n4 _ r4=>jg B j O (r4,n4.mono (λo A=>?_) 004)]
  cases(o)with
  |next e=>rw[λP w Q l z=>(w,e,(I.trans s.ff).trans l,z,A.mono (λ_ q=>q.mono<|s.ff.trans l) 004)]
  |cont e=>rw[λP w Q l z=>(w,e,(I.trans s.ff).trans l,z,A.mono (λ_ q=>q.mono<|s.ff.trans l) 004)]
  |brk e=>rw[λP w Q l z=>A P w Q (s.ff.trans l) z]
  |ret d=>rw[A]
 .let he:i=⇑b:=()
  rw[.inl (w2 (),?_)];subst he;rw[UX]at v;rw[v Z2 p Y (.refl _) L]
noncomputable def pinned(i:5)(a:SD):Bool:=match a[i]? with
 |some (some<|.own true _)=>6
 |_=>7
def ZN(i:5)(v:SV)(a:SD):Res Out:=if pinned i a then .ok (.next<|a.set i<|!v)else .no
def yA(i:5)(v:SV)(b:D->FS):YC->FS
 |[],c=>ZN i v c
 |x::e,c=>if pinned i c then(b x c).bind λo=>match o with
  |.next a=>yA i v b e a
  |.cont a=>yA i v b e a
  |.brk a=>ZN i v a
  |.ret d=>.ok (.ret d)else .no
def Ct(i:5)(e:Tg)(b:FS):FS:=λa=>match a[i]? with
 |some (some<|.own p<|.lst c)=>yA i (.own p<|.lst c) (λx a=>(JQ e x a).bind b) c (a.set i<|!(.own 6<|.lst c))
 |_=>.no
def E2  (h:pinned i a=6):∃d,a[i]?=! ! .own 6 d:=by
 grind[pinned]
def SK    (u:PassesOwn 009 X.A X.env X.xe)(hc:X.calm=6)(hv:PE X C (yH i))(hg:QG X tg t)(hb:zZ X E m R g)
 (hss:∀x,foldedSetIterable C X.env x=pure x:=by intro _;rfl):QS X E m (.For tg C R [] pos) (Ct i t g):=PS.weak (BL u hc (G9 hv) hg hb hss) λT Z H zh=>by
 let(B F S,r,n):=zh;unfold Ct at n
 split at n
 .rename_i p b hi;let(-l,h1,h2,h3,(f,h4,h5),h6):=r.own hi
  rw[let B':Bs:=(B.F0,B.H0,λj=>if j=i then !%[l|f]else B.pa j);?_]
  let hx:uY H l (B'.pa i):=(f,Zd 9,h4);let r1:RS X.K B' F H (S.set i<|!(.own 6<|.lst b)) Z:=r.pin hi 9 9 (λj hj=>Ze hj) λI e _=>by ext
  let hl:=⇑h5;let U:∀{a:SD}{v:St}{Y G:Hp},jk F Y->RS X.K B' Y G a v->(ZN i (.own p<|.lst b) a).need (zE X.K m B F T) (XW X.K E B.F0 B.H0)->T.nx v G:=λ{a v Y G}sf O n'=>by
   unfold ZN at n'
   split at n'
   .rename_i u;let(d',P):=E2 u;let(-I,k1,k2,k3,k4,Q):=O.own P;let(h,c,J):=Q 9;let c:(if i=i then !%[l|f]else B.pa i)=!%[I|h]:=c;rw[Zd 9]at c;cases c;let ro:RS X.K B' Y G (a.set i<|!(.own 6<|.lst b)) v:=(O.ext,by rw[UW,O.len],λ{j e}q=>by
     cases z:i=j
     .grind
     .rw[QK z]at q;rw[O.val q],λ{j p2 e}q=>by
     cases z:i=j
     .subst z;let(e1,_):=Ww q;cases e1;rw[(l,k1,k2,k3,(f,J,jc.same sf _ _ h5),Q)]
     .rw[QK z]at q;rw[O.own q],λ{j k p1 p2 d1 d2 m}nn q1 q2 q3=>by
     let gg:∀{j:5}{p:Bool}{e:D},(a.set i<|!(.own 6<|.lst b))[j]?=! ! .own p e->∃p' e',a[j]?=! ! .own p' e':=by grind
     let(_ _,p1):=gg q1;let(_ _,p2):=gg q2;rw[O.apart nn p1 p2 q3])
    let hil:i<⇑a:=(Jc.mp P).1;let rf:=ro.pin (B':=B) (p':=p) (UT hil) 9 9 () λI e u=>by
     rw[k1]at e;cases e;let(-xs2,g1,g2):=h6 u;rw[h4]at g2;cases g2;rw[(f,g1,J)]
    rw[List.set_set]at rf;rw[n' v Y G sf rf]
   .rw[n'.elim]
  rw[(.ref l,h1,l,9,(f,qP.of h4),λk mm Z H=>mm=⇑b-k/\k<=⇑b/\∃F2 L,jk F F2/\RS X.K B' F2 H L Z/\(yA i (.own p<|.lst b) (λx S=>(JQ t x S).bind g) (b.drop k) L).need (zE X.K m B F T) (XW X.K E B.F0 B.H0),
   (⇑b,9,Ub _,F,_,.refl _,r1,n),?_)]
  rintro k mm Z2 H2 ⟨rfl,hk,F2,L,s2,r2,s⟩;cases M:k<⇑b
  .rw[Uo M]at s;unfold yA at s
   split at s
   .rename_i u;let(-d',P):=E2 u;let(-I,k1,k2,k3,k4,Q):=r2.own P;let(-h,c,J):=Q 9;let c:(if i=i then !%[l|f]else B.pa i)=!%[I|h]:=c;rw[Zd 9]at c;cases c;let hkx:k<⇑f:=()
    rw[.inr ((f,f[k],qP.of J,()),λv G=>∃F3 w,jk F F3/\RS X.K B' F3 G w v/\(yA i (.own p<|.lst b) (λx S=>(JQ t x S).bind g) (b.drop<|k+1) w).need (zE X.K m B F T) (XW X.K E B.F0 B.H0),
     λv G(F3,w,q1,q2,q3)=>(⇑b-(k+1),(),9,M,F3,w,q1,q2,q3),λx H3 y=>?_)]
    let(rfl,hy):=y;let hx:=hy f<|qP.of J;let(-d,hd1,hd2):=h5.getV hx;let ed:b[k]=d:=by rw[Zqg M]at hd1;rw[Zqi hd1]
    rw[ed]at s;let n3:=Res.need_bind<|Res.need_bind s;rw[XZ r2 (jf.same s2 _ _ hd2) n3 λa v n4 _ r4=>?_];rw[jg B' F2 a (r4,n4.mono (λo n5=>?_) 004)]
    cases(o)with
    |next A=>rw[λZ5 F5 H5 s5 r5=>(F5,A,s2.trans s5,r5,n5)]
    |cont A=>rw[λZ5 F5 H5 s5 r5=>(F5,A,s2.trans s5,r5,n5)]
    |brk A=>rw[λZ5 F5 H5 s5 r5=>U (s2.trans s5) r5 n5]
    |ret d=>rw[n5]
   .rw[s.elim]
  .let he:k=⇑b:=()
   subst he;rw[UX]at s;unfold yA at s;let N:=s;unfold ZN at N
   split at N
   .rename_i u;let(-d',P):=E2 u;let(-I,k1,k2,k3,k4,Q):=r2.own P;let(h,c,J):=Q 9;let c:(if i=i then !%[l|f]else B.pa i)=!%[I|h]:=c;rw[Zd 9]at c;cases c;rw[.inl ((f,qP.of J,()),U s2 r2 s)]
   .rw[N.elim]
 .rw[n.elim]
def yR{α β:Type}(f:α->Res β):List α->Res (List β)
 |[]=>.ok []
 |x::a=>(f x).bind λy=>(yR f a).bind λb=>.ok<|y::b
def qr(cap:List (02 5))(a:SD):SD:=cap.map λo=>o.bind λj=>match a[j]? with
 |some (~~~d)=>~~~d
 |_=>8
noncomputable def WX(a:SD)(i:5):Bool:=match a[i]? with
 |some none=>6
 |_=>7
def WY(a:SD):Tg->Bool
 |.one i=>WX a i
 |.tup is=>is.all (WX a)
def Q6(cap:List (02 5))(b:FA)(a:Tg)(f:FE):FE:=λsd=>(b sd).bind λds=>if WY (qr cap sd) a=6/\⇑ds<00 then
 (yR (λx=>(JQ a x<|qr cap sd).bind f) ds).bind λc=>.ok<|.lst c else .no
theorem RS.cap{K:f'}    (cap:List (02 5))(r:RS K B F H n Z):RS K B F H (qr cap n) (WG cap Z):=by
 let c:∀{i:5}{x:SV},(qr cap n)[i]?=! !x->∃j d,cap[i]?=! !j/\n[j]?=!~~~d/\x=.val d:=λ{i x}q=>by
  unfold qr at q;rw[Zv]at q
  induction hc:cap[i]? with
  |none=>rw[hc]at q;rw[J7 q]
  |some o=>
   rw[hc]at q
   cases(o)with
   |none=>cases q
   |some j=>
    let q:(match n[j]? with
     |some (~~~d)=>! SV.val d
     |_=>8)=!x:=Zqi q
    split at q
    .rename_i d z;rw[(j,d,9,z,(Zqi q).symm)]
    .rw[J7 q]
 rw[(r.ext,by ext qr WG;rw[Zql,Zql],λ{i d}q=>?_,λ{i p d}q=>?_,λ{i j p J d e l}_ q=>?_)]
 .let(j y,s,u,f):=c q;cases f;let(-v,G,I):=r.val u;rw[(v,?_,I)];ext WG;rw[Zv,s];show some (Option.bind (!j) λj=>(Z[j]?).join)=_;rw[Option.bind_some,G];rfl
 .let(j y,s,u,f):=c q;cases f
 .let(j y,s,u,f):=c q;cases f
theorem E3:∀c e a b,c.all (WX a)=6->⇑b=⇑a->(∀(i:5)x,a[i]?=! !x->b[i]?=! !x)->
 ⇑(setAll c e b)=⇑a/\∀(i:5)x,a[i]?=! !x->(setAll c e b)[i]?=! !x
 |[],e,a,b,_,hl,h=>(hl,h)
 |i::c,[],a,b,_,hl,h=>(hl,h)
 |i::c,d::e,a,b,hn,hl,h=>by
  rw[UG,Ud]at hn;rw[E3 c e a (b.set i<|~~~d) hn.2 (by rw[UW,hl]) λj x q=>?_];let ne:i≠j:=λz=>by
   subst z;let:=hn.1;unfold WX at this;rw[q]at this;rw[JH this]
  rw[QK ne,];rw[h j x q]
def E4   (j:WY a e=6)(h:JQ e d a=.ok f):⇑a=⇑f/\∀(i:5)x,a[i]?=! !x->f[i]?=! !x:=by
 cases(e)with
 |one i=>
  cases h;let:=E3 [i] [d] a a (by rwa[UG,List.all_nil,Bool.and_true]) 9 004;rw[(this.1.symm,this.2)]
 |tup b=>
  cases d with
  |tup c=>
   let l:JQ (.tup b) (.tup c) a=if ⇑c=⇑b then .ok (setAll b c a)else .no:=9
   rw[l]at h
   split at h
   .cases h;let:=E3 b c a a j 9 004;rw[(this.1.symm,this.2)]
   .cases h
  |_=>cases h
def IB  {a:List α}  {p:List β->4} (m:a[i]?=!x)(h:(yR f<|a.drop i).need p q):(f x).need (λy=>(yR f<|a.drop<|i+1).need (λc=>p<|y::c) q) q:=by
 let b:i<⇑a:=();rw[Uo b]at h;let e:a[i]=x:=by ext
 rw[e]at h;rw[(Res.need_bind h).mono (λy j=>(Res.need_bind j).mono (λc l=>l) λ_ _ z=>z) λ_ _ z=>z]
def E5{K:f'}       (o:kf K E (Q6 cap O t f) Z H Q):YZ cap (mS K E O) (gT t K) (tD K E f) Z H Q:=by
 let(B F p,r,n):=o;rw[jg B F p (r,(Res.need_bind n).mono (λb s J M P m wk=>?_) 004)]
 split at s
 .rename_i o;let(R,hz):=o;rw[(λi k u Z c=>k=⇑b-i/\i<=⇑b/\∃a e,Ext M P a c/\RS K B a c (qr cap p) Z/\jc K a e u/\⇑e=i/\
   (yR (λx=>(JQ t x<|qr cap p).bind f)<|b.drop i).need (λw=>yK K a c Q<|.lst<|e++w) (XW K E a c),(⇑b,9,Ub _,M,[],.refl m.fh,(r.step m).cap cap,.nil,9,?_),?_)]
  .rw[(Res.need_bind s).mono (λw q=>(q).ext m) λ_ _ q=>q.ext m]
  rintro i k u Z2 c ⟨rfl,hi,a,e,z,A,C,hl,G⟩;let ly:=⇑C;rw[((),?_)];let(!S,T):=wk i a c z.ff z.fh;cases j:i<⇑b
  .let(!go,U):=S j;rw[.inr (go,λx X y=>?_)];let(d Y,hd,h,i3):=U x X y;let n3:=IB hd G;let r3:=A.step h;rw[XZ r3 i3 (Res.need_bind n3) λI Z' n4 hb N=>?_];let(b1,b2):=E4 R hb;rw[jg B Y I (N,n4.mono (λy n5 v F4 H4 l i4=>(⇑b-(i+1),(),9,j,F4,e++[y],(z.trans h).trans l,(N.step l).forget b1 b2,(jc.same (h.ff.trans l.ff) _ _ C).snoc i4,(),n5.mono (λw q=>?_) λ_ _ q=>q.ext<|h.trans l)) λ_ _ q=>q.ext h)];rw[Ul,];rw[q.ext<|h.trans l]
  .let he:i=⇑b:=()
   subst he;rw[.inl (T<|Zf _,λD L=>?_)];rw[UX]at G;let q:yK K a c Q (.lst<|e++[]):=G;rw[ZA]at q;rw[q D a _ (.keep A.ext.fh L _) L (Qe A.ext.fh L) (u,JO,C)]
 .rw[s.elim]
def Ky     (N)(cap)(m:X.calm=6)(c:K9 a X.env N X.N cap=6)(n:QI X E l b o)
 (p:∀e C s H i,QG (JS X a N e C s H i) l t)(q:∀e C s H i,QE (JS X a N e C s H i) E j f)(r:∀x,foldedSetIterable b X.env x=pure x:=by intro _;rfl):
 QN X E (.ListComp j [(l,b,[],0)] a u) (Q6 cap o t f):=PE.weak (RF N cap m c n p q r) λ_ _ _ h=>E5 h
noncomputable def Qt(n:5)(a:YC):SD:=a.map (λd=>~~~d)++List.replicate (n-⇑a) 8
def jJ(n ar:5)(g:FS)(a:YC):Res D:=if ⇑a=ar then(g<|Qt n a).bind λo=>match o with
 |.ret d=>.ok d
 |.next _=>.ok .non
 |_=>.no else .no
def q9(n ar:5)(g:FS)(a:YC):Res D:=if ⇑a=ar then(g<|Qt n a).bind λo=>match o with
 |.ret d=>.ok d
 |_=>.no else .no
theorem RS.start{K:f'}{F H:Hp}{N:Yi}{f:YC}{o:YB}(s:jk F H)(h:jc K F f o):RS K (F,H,λ_=>8) F H (Qt ⇑N f) (start N o):=by
 let c:∀{i:5}{x:SV},(Qt ⇑N f)[i]?=! !x->∃d,f[i]?=!d/\x=.val d:=λ{i x}q=>by
  unfold Qt at q;cases r:i<⇑f
  .rw[Uj (by rwa[Zql,]),Zv,Zqg r]at q;rw[(f[i],Zqg r,(Zqi<|Zqi q).symm)]
  .rw[Uv (by rw[Zql,];lia),List.getElem?_replicate]at q
   split at q<;>(first|rw[J7 q]|cases q)
 rw[(.refl s,by ext Qt L2.start;simp[⇑h],λ{i d}q=>?_,λ{i p d}q=>?_,λ{i j p B d e l}_ q=>?_)]
 .let(G,y,n):=c q;cases n;let(-v,u,z):=h.get y;rw[(v,?_,z)];ext L2.start;rw[Uj (by rw[Zql,];rw[(Jc.mp u).1]),Zv,u];rfl
 .let(-_,_,n):=c q;cases n
 .let(-_,_,n):=c q;cases n
section
variable   {K:f'}
def qq (F:Fun K x c st f m)(S:FnScope N j (JY st))
 (p:∀b A a s H E,Room k (A.deeper<|envOfC c (JY st) s⁻¹ f b)->zZ (qj yL P w K t e N c (JY st) f b A a s H E).nox E0 7 (Ki st) g):
 FnOk P w K t e yL (k+1) f m j (qJ K<|jJ ⇑N ⇑j g):=by
 rw[F.ok S (λu H Q E=>j4 λF v=>j8 λ_ h n=>?_) λb A a s H u Q E y=>j4 λF v=>j8 λz h n=>(_,p b A a s H E y,?_)]
 .unfold jJ at n
  split at n
  .rw[⇑h,];lia
  .rw[n.elim]
 .unfold jJ at n
  split at n
  .rw[jg (F,H,λ_=>8) F _ (RS.start z h,(Res.need_bind n).mono (λo i=>?_) 004)]
   cases(o)with
   |next l=>rw[λZ B C _ r=>i .non B C r.ext<|jD.mpr 9]
   |ret d=>rw[i]
   |brk l=>rw[i.elim]
   |cont l=>rw[i.elim]
  .rw[n.elim]
def zk (F:Fun K x c st f m)(S:FnScope N j (JY st))
 (p:∀b A a s H E,Room k (A.deeper<|envOfC c (JY st) s⁻¹ f b)->zZ (qj yL P w K r e N c (JY st) f b A a s H E).nox E0 6 (Ki st) g):
 FnOk P w K r e yL (k+1) f m j (zY K<|q9 ⇑N ⇑j g):=by
 rw[F.ok S (λt H Q E=>j4 λF u=>j8 λ_ h n=>?_) λb A a s H t Q E v=>j4 λF u=>j8 λy h n=>(_,p b A a s H E v,?_)]
 .unfold q9 at n
  split at n
  .rw[⇑h,];lia
  .rw[n.elim]
 .unfold q9 at n
  split at n
  .rw[jg (F,H,λ_=>8) F _ (RS.start y h,(Res.need_bind n).mono (λo i=>?_) 004)]
   cases(o)with
   |next l=>rw[i.elim]
   |ret d=>rw[i]
   |brk l=>rw[i.elim]
   |cont l=>rw[i.elim]
  .rw[n.elim]
end
end
noncomputable def qy(p:3×3):D:=.tup [.int p.1,.int p.2]
def j3(r:J0):D:=.tup<|r.map qy
noncomputable def Cu:D->02 (3×3)
 |.tup [.int i,.int j]=>!%[i|j]
 |_=>8
def QP{α:Type}(f:D->02 α):YC->02 (List α)
 |[]=>![]
 |d::a=>(f d).bind λx=>(QP f a).map λb=>x::b
def Wn:D->02 J0
 |.tup a=>QP Cu a
 |_=>8
noncomputable def AI:D->02 3
 |.int i=>!i
 |_=>8
theorem AJ{α β:Type}{f:D->02 α}{g:β->D}{k:β->α}(h:∀x,f (g x)=! k x):∀l:List β,QP f (l.map g)=! l.map k
 |[]=>9
 |x::r=>by rw[Zl,];ext QP;rw[h,AJ h r];rfl
theorem AK  {g:α->D}(h:∀d x,f d=!x->d=g x):∀{a:YC}{l:List α},QP f a=!l->a=l.map g
 |[],l,e=>by cases e;rfl
 |d::a,l,e=>by
  unfold QP at e
  induction b:f d with
  |none=>ext
  |some x=>
   induction h2:QP f a with
   |none=>ext
   |some c=>
    rw[b,h2]at e;obtain rfl:=Zqi e;rw[Zl,<-h d x b,<-AK h h2]
def SL(p):Cu (qy p)=!p:=rfl
def SN  (h:Cu d=!p):d=qy p:=by
 cases d with
 |tup a=>
  cases a with
  |nil=>rw[J7 h]
  |cons x a=>
   cases x with
   |int i=>
    cases a with
    |nil=>rw[J7 h]
    |cons y a=>
     cases y with
     |int j=>
      cases a with
      |nil=>obtain rfl:=Zqi h;rfl
      |cons _ _=>rw[J7 h]
     |_=>rw[J7 h]
   |_=>rw[J7 h]
 |_=>rw[J7 h]
def IC(r):Wn (j3 r)=!r:=by
 show QP Cu (r.map qy)=!r;rw[AJ (k:=id) SL,List.map_id]
def ID  (h:Wn d=!r):d=j3 r:=by
 cases d with
 |tup a=>ext j3;rw[<-AK (λ_ _=>SN) h]
 |_=>rw[J7 h]
def SO  (h:AI d=!i):d=.int i:=by
 cases d with
 |int j=>cases h;rfl
 |_=>rw[J7 h]
def SQ  (h:QP AI a=!l):a=l.map D.int:=AK (λ_ _=>SO) h
def SR(l):QP AI (l.map D.int)=!l:=by
 rw[AJ (f:=AI) (λ_=>9) l,List.map_id']
def E6(l):QP Wn (l.map j3)=!l:=by rw[AJ (k:=id) IC,List.map_id]
def E7  (h:QP Wn a=!l):a=l.map j3:=AK (λ_ _=>ID) h
section
variable {K:f'}
def dN  :jf K H (qy p) v↔Is H (pD p) v:=by
 rfl
theorem kn:∀{r:J0}{a:YB},jc K H (r.map qy) a↔qG H (r.map pD) a
 |[],a=>by rfl
 |p::r,a=>by
  constructor
  .rintro⟨x,w,rfl,b,c⟩;rw[(x,w,9,dN.mp b,kn.mp c)]
  .intro h;let(x w,e,b,c):=h;rw[(x,w,e,dN.mpr b,kn.mpr c)]
def rM  :jf K H (j3 r) v↔Is H (rD r) v:=by
 constructor
 .rintro⟨a,b,e,c,f⟩;rw[(a,b,e,c,kn.mp f)]
 .rintro⟨a,b,e,c,f⟩;rw[(a,b,e,c,kn.mpr f)]
theorem vp:∀{r:J1}{a:YB},jc K H (r.map j3) a↔qG H (r.map rD) a
 |[],a=>by rfl
 |p::r,a=>by
  constructor
  .rintro⟨x,w,rfl,b,c⟩;rw[(x,w,9,rM.mp b,vp.mp c)]
  .intro h;let(x w,e,b,c):=h;rw[(x,w,e,rM.mpr b,vp.mpr c)]
end
section
variable {X:Cx}
noncomputable def gI(f:3->3->D):D->D->YD
 |.int i,.int j=>! f i j
 |_,_=>8
noncomputable def hU(c:3->3->Bool)(f:3->3->D):D->D->YD
 |.int i,.int j=>if c i j then ! f i j else 8
 |_,_=>8
def AL   (o:yu X h (sQ g))(b:∀i j F,jf X.K F (f i j) (g i j)):zt X h (gI f):=yu.weak o λx y H Q c=>by
 let(F d e z,l,id,m,a,q):=c;cases d with
 |int i=>
  cases e with
  |int j=>cases a;rw[(i,j,jd.mp id,jd.mp m,q _ F H (.refl l)<|b i j F)]
  |_=>rw[J7 a]
 |_=>rw[J7 a]
def Cv     (o:yu X h (rI C g))(l:∀i j,c i j=6->C i j)(m:∀i j F,jf X.K F (f i j) (g i j)):zt X h (hU c f):=yu.weak o λx y H Q n=>by
 let(F d e z,p,id,r,a,q):=n;cases d with
 |int i=>
  cases e with
  |int j=>
   let a:(if c i j then ! f i j else 8)=!z:=a
   split at a
   .rename_i b;cases a;rw[(i,j,jd.mp id,jd.mp r,l i j b,q _ F H (.refl p)<|m i j F)]
   ext
  |_=>rw[J7 a]
 |_=>rw[J7 a]
def z9(i)(F):jf X.K F (.int i) (.int i):=jd.mpr 9
def wF(b)(F):jf X.K F (.bl b) (.bl b):=jt.mpr 9
def xW:=gI λi j=>.int<|i-j
def vN:5:=10715086071862673209484250490600018105614048117055336074437503883703510511249361224931983788156958581275946729175531468251871452856923140435984577574698574803934567774824230985421074605062371141877954182153046474983581941267398767559165543946077062914571196477686542167660429831652624386837205668069376
def Xz(i j:3):Bool:=UP i.natAbs 18446744073709551616||UP j.natAbs 18446744073709551616||UP i.natAbs vN&&UP j.natAbs vN
def IE (h:k.natAbs<vN):Builtin.Int.intBits k<=2^20:=by
 let e:vN<=2^1000:=Nat.le_of_ble_eq_true 9;let a:k.natAbs<2^1000:=Zg h e;ext Builtin.Int.intBits
 split
 .rw[Ub _]
 .let l:k.natAbs.log2<1000:=by
   obtain h0|hp:=V6 k.natAbs
   .rw[h0,];decide
   .rw[(Nat.log2_lt<|Va hp).mpr a]
  let e:(2:5)^20=1048576:=008
  lia
def xf:=hU Xz λi j=>.int<|i*j
def Kk:=hU (λ_ j=>UP 0 j.toNat&&UP j.toNat 1073741824) λi j=>.int<|i/j
def jP:=hU (λ_ j=>UP 0 j.toNat) λi j=>.int<|i%j
def yT:=hU (λi j=>UQ (-j).toNat 0&&(UQ j.toNat 1000000&&UP i.natAbs 18446744073709551616)) λi j=>.int<|i^j.toNat
def ki:=gI λi j=>.bl<|decide<|i<j
def tH:=gI λi j=>.bl<|decide<|i<=j
def vw:=gI λi j=>.bl<|decide<|j<i
def nM:=gI λi j=>.bl<|decide<|j<=i
def X0:zt X (binaryOp .Sub) xW:=AL (gK λ_ _ _ _ _ _ _ q=>sub_int q) λ_ _ F=>z9 _ F
def WH:zt X (binaryOp .Mult) xf:=Cv (mX λ_ _ _ _ _ _ _ hc q=>mul_int q<|by
 unfold Xz at hc;rw[UU,UU,Ud,UR,UR,UR,UR]at hc;rcases hc with(hc|hc)|⟨a,h2⟩
 .rw[.of_left<|intBits_le_64 () ()]
 .rw[.of_right<|intBits_le_64 () ()]
 .rw[.of_bits (IE a)<|IE h2]) (λi j h=>h) λ_ _ F=>z9 _ F
def WI:zt X (binaryOp .FloorDiv) Kk:=Cv P4 λi j h=>by simp_all[mI] λ_ _ F=>z9 _ F
def Q4:zt X (binaryOp .Mod) jP:=Cv P5 () λ_ _ F=>z9 _ F
def AM:zt X (binaryOp .Pow) yT:=Cv P6 λi j h=>by simp_all[mH] λ_ _ F=>z9 _ F
def uL:zt X (compareOp .Lt) ki:=AL (vD λ_ _ _ _ _ _ _ q=>lt_int q) λ_ _ F=>wF _ F
def sX:zt X (compareOp .LtE) tH:=AL (vD λ_ _ _ _ _ _ _ q=>le_int q) λ_ _ F=>wF _ F
def wc:zt X (compareOp .Gt) vw:=AL (vD λ_ _ _ _ _ _ _ q=>gt_int q) λ_ _ F=>wF _ F
def gW:zt X (compareOp .GtE) nM:=AL (vD λ_ _ _ _ _ _ _ q=>ge_int q) λ_ _ F=>wF _ F
def qc:D->YD
 |.int i=>!(.int<|-i)
 |_=>8
def Kf:uP X (unaryOp .USub) (cp X.K qc):=uP.weak (unI λ_ _ _ _ _ q=>neg_int q) λx H Q b=>by
 let(F d z,c,id,a,q):=b;cases d with
 |int i=>cases a;rw[(i,jd.mp id,q _ F H (.refl c)<|z9 _ F)]
 |_=>rw[J7 a]
noncomputable def j6:D->D->YD
 |.int i,.int j=>!(.int<|i+j)
 |.str x,.str y=>if ⇑x+⇑y<=00 then !(.str<|x++y)else 8
 |.tup a,.tup b=>if a ≠[]/\b ≠[]/\⇑a+⇑b<=00 then !(.tup<|a++b)else 8
 |.lst a,.lst b=>if ⇑a+⇑b<=00 then !(.lst<|a++b)else 8
 |_,_=>8
def gj(K:f'):R2:=λx y H Q=>∃l b a c,x=.ref l/\y=.ref b/\xO K H l a/\xO K H b c/\⇑a+⇑c<=00/\∀p,H p=8->Q (.ref p) (upd H p<|.lst<|a++c)
def IF:yu X (binaryOp .Add) (gj X.K):=by
 intro Y s Z H x y v u Q I g i h;let(l b z A,rfl,rfl,j,m,B,q):=h;obtain rfl:=g;obtain rfl:=i;let(_,c,n,e,o):=j.ok I.hok;let(_,a,C,f,p):=m.ok I.hok;let r:=⇑e;let t:=⇑f;rw[PySem.P.add_list o p ?_ ()];let w:c.toArray++a.toArray=(c++a).toArray:=by simp
 rw[w,];rw[(.ref _,_,I.lnew (e.append f) (),9,q _ I.fresh)]
def Ql:zt X (binaryOp .Add) j6:=by
 intro Y s Z H x y v u Q I o r w;let(F,d,e,z,f,id,t,c,q):=w;cases d with
 |int i=>
  cases e with
  |int j=>cases c;rw[(gK λ_ _ _ _ _ _ _ q=>add_int q) Y s Z H x y v u Q I o r (i,j,jd.mp id,jd.mp t,q _ F H (.refl f)<|z9 _ F)]
  |_=>rw[J7 c]
 |str a=>
  cases e with
  |str b=>
   let c:(if ⇑a+⇑b<=00 then !(D.str<|a++b)else 8)=!z:=c
   split at c
   .rename_i J;cases c;rw[P7 Y s Z H x y v u Q I o r (a,b,j1.mp id,j1.mp t,J,q _ F H (.refl f)<|j1.mpr 9)]
   ext
  |_=>rw[J7 c]
 |tup a=>
  cases e with
  |tup b=>
   let c:(if a ≠[]/\b ≠[]/\⇑a+⇑b<=00 then !(D.tup<|a++b)else 8)=!z:=c
   split at c
   .obtain rfl:=Zqi c;let(A,g,rfl,B,l):=id;let(C h,rfl,E,m):=t;let L:=⇑l;let M:=⇑m;let N:g ≠[]:=by grind
    let O:h ≠[]:=by grind
    rw[GR Y s Z H _ _ v u Q I o r<|jW A C g h (9,9,(B.same f).sq,(E.same f).sq,N,(),λz=>Zn z O,λ_ p G=>?_)];let n:=Ext.alloc f G<|.tup<|g++h;rw[q _ _ _ n<|js.mpr (p,_,9,.of JO,jc.same n.ff _ _<|l.append m)]
   ext
  |_=>rw[J7 c]
 |lst a=>
  cases e with
  |lst b=>
   let c:(if ⇑a+⇑b<=00 then !(D.lst<|a++b)else 8)=!z:=c
   split at c
   .obtain rfl:=Zqi c;let(A,g,rfl,B,l):=id;let(C h,rfl,E,m):=t;let L:=⇑l;let M:=⇑m;rw[IF Y s Z H _ _ v u Q I o r<|jW A C g h (9,9,B.same f,E.same f,(),λp G=>?_)];let n:=Ext.alloc f G<|.lst<|g++h;rw[q _ _ _ n<|jo.mpr (p,_,9,.of JO,jc.same n.ff _ _<|l.append m)]
   ext
  |_=>rw[J7 c]
 |_=>rw[J7 c]
mutual
def yO:D->PyData
 | .non=>.none
 | .bl b=>.bool b
 | .int i=>.int i
 | .str x=>.str x
 | .tup a=>.tuple (WJ a)
 | .lst a=>.list (WJ a)
 | .ty _=>.none
 | .scr _=>.none
 | .dct _ _=>.none
 | .ins _ _ _=>.none
 | .exc _=>.none
 | .exr _ _=>.none
 | .ucl _=>.none
 | .adr _=>.none
 | .dcf _ _=>.none
 | .pin _ _=>.none
def WJ:YC->List PyData
 | []=>[]
 |d::a=>yO d::WJ a
end
noncomputable def jY:5->D->Bool
 |0,_=>7
 |_+1,.int _=>6
 |_+1,.str x=>PyData.strOk x
 |_+1,.non=>6
 |n+1,.tup a=>a.all (jY n)
 |n+1,.lst a=>a.all (jY n)
 |_+1,_=>7
def ZO:∀n d,jY n d=6->(yO d).canLay0=6/\(yO d).depth<=n:=λn=>by
 cases(n)with
 |zero=>intro _ h;rw[JH h]
 |succ n b=>
  intro d h;let all:∀a:YC,a.all (jY n)=6->PyData.canLayAll0 (WJ a)=6/\PyData.depthAll (WJ a)<=n:=by
   intro a
   cases(a)with
   |nil=>intro _;rw[(9,Ub _)]
   |cons d a c=>
    intro h;rw[UG,Ud]at h;let(e,f):=b d h.1;let(g,j):=c h.2;rw[(Js.mpr (e,g),Nat.max_le.mpr (f,j))]
  cases d with
  |int i=>rw[(9,Ub _)]
  |str i=>rw[(h,Ub _)]
  |non=>rw[(9,Ub _)]
  |tup a=>rw[((all a h).1,VL (all a h).2)]
  |lst a=>rw[((all a h).1,VL (all a h).2)]
  |_=>rw[JH h]
def D.ne{d e:D}(h:(d.ctorIdx==e.ctorIdx)=7):¬d=e:=λq=>by
 ext
def E8:∀n d e,jY n d=6->jY n e=6->(PyData.eqv (yO d) (yO e)=6↔d=e):=λn=>by
 cases(n)with
 |zero=>intro _ _ h;rw[JH h]
 |succ n f=>
  intro d e h c;let all:∀b a:YC,b.all (jY n)=6->a.all (jY n)=6->(PyData.eqvAll (WJ b) (WJ a)=6↔b=a):=by
   intro b
   cases(b)with
   |nil=>
    intro a _ _;cases a with
    |nil=>rw[iff_of_true 9 9]
    |cons e a=>rw[Zs Zj ()]
   |cons d b g=>
    intro a l m
    cases(a)with
    |nil=>rw[Zs Zj ()]
    |cons e a=>
     show(PyData.eqv (yO d) (yO e)&&PyData.eqvAll (WJ b) (WJ a))=6↔_
     ext
  cases d with
  |int i=>
   cases e with
   |int j=>rw[(λq=>Zt D.int<|Yp.mp q,λq=>Yp.mpr<|D.int.inj q)]
   |str _=>rw[Zs Zj<|D.ne 9]
   |non=>rw[Zs Zj<|D.ne 9]
   |tup _=>rw[Zs Zj<|D.ne 9]
   |lst _=>rw[Zs Zj<|D.ne 9]
   |_=>rw[JH c]
  |str i=>
   cases e with
   |str j=>rw[(λq=>Zt D.str<|of_decide_eq_true q,λq=>Zp<|D.str.inj q)]
   |int _=>rw[Zs Zj<|D.ne 9]
   |non=>rw[Zs Zj<|D.ne 9]
   |tup _=>rw[Zs Zj<|D.ne 9]
   |lst _=>rw[Zs Zj<|D.ne 9]
   |_=>rw[JH c]
  |non=>
   cases e with
   |non=>rw[iff_of_true 9 9]
   |int _=>rw[Zs Zj<|D.ne 9]
   |str _=>rw[Zs Zj<|D.ne 9]
   |tup _=>rw[Zs Zj<|D.ne 9]
   |lst _=>rw[Zs Zj<|D.ne 9]
   |_=>rw[JH c]
  |tup b=>
   cases e with
   |tup a=>rw[(all b a h c).trans ()]
   |int _=>rw[Zs Zj<|D.ne 9]
   |str _=>rw[Zs Zj<|D.ne 9]
   |non=>rw[Zs Zj<|D.ne 9]
   |lst _=>rw[Zs Zj<|D.ne 9]
   |_=>rw[JH c]
  |lst b=>
   cases e with
   |lst a=>rw[(all b a h c).trans ()]
   |int _=>rw[Zs Zj<|D.ne 9]
   |str _=>rw[Zs Zj<|D.ne 9]
   |non=>rw[Zs Zj<|D.ne 9]
   |tup _=>rw[Zs Zj<|D.ne 9]
   |_=>rw[JH c]
  |_=>rw[JH h]
theorem Y0  {K:f'}  (ok:xy P w H h):∀n d v u,jY n d=6->jf K H d v->jz v u->∃l,Reads h u (yO d) l
 |0,_,_,_,p,_,_=>JH p
 |n+1,d,v,u,p,q,r=>by
  let all:∀b f s,b.all (jY n)=6->jc K H b f->jv f s->∃l,ReadsAll h s (WJ b) l:=by
   intro b
   cases(b)with
   |nil=>
    intro f s _ y g;subst y;cases g;rw[(_,.nil)]
   |cons d b C=>
    intro f s z y g;rw[UG,Ud]at z;let(x E,rfl,m,F):=y;cases g with
    |cons G I=>
     let(l,A):=Y0 ok n d x _ z.1 m G;let(bs,J):=C E _ z.2 F I;rw[(_,.cons A J)]
  cases d with
  |int i=>
   subst q;let(t,rfl):=r;rw[(_,.int i t)]
  |str x=>
   subst q;let(t,rfl):=r;rw[(_,.str x t)]
  |non=>
   subst q;obtain rfl:=r;rw[(_,.none)]
  |tup b=>
   let(a f,rfl,g,m):=q;obtain rfl:=r;let(_,j,B,o,e,c,L,M):=ok a _ g;let(l,A):=all b f j p m B;rw[(_,.tuple e c M ())]
  |lst b=>
   let(a f,rfl,g,m):=q;obtain rfl:=r;let(_,j,L,B,e):=g.ok ok;let(l,A):=all b f j p m B;rw[(_,.list e 9 9 ())]
  |_=>rw[JH p]
section
open Classical
def jF(d e:D):Bool:=decide<|d=e
def ZP(d):jF d d=6:=Zp 9
theorem mL :jF d e=6↔d=e:=decide_eq_true_iff
def mK :jF d e=7↔d≠e:=decide_eq_false_iff_not
def xI:D->D->YD
 |.bl a,.bl b=>!(.bl<|a==b)
 |d,e=>if jY 12 d&&jY 12 e then !(.bl<|jF d e)else 8
def zr:D->D->YD
 |.bl a,.bl b=>!(.bl<|a !=b)
 |d,e=>if jY 12 d&&jY 12 e then !(.bl<|not<|jF d e)else 8
end
def Cw (a:jY 12 d=6)(b:jY 12 e=6):xI d e=!(.bl<|jF d e):=by
 ext xI
 split
 .rw[JH a]
 ext
def IG (a:jY 12 d=6)(b:jY 12 e=6):zr d e=!(.bl<|not<|jF d e):=by
 ext zr
 split
 .rw[JH a]
 ext
def SS(i j):xI (.int i) (.int j)=!(.bl<|decide<|i=j):=by
 rw[Cw 9 9,];cases h:i=j
 .simp_all[ZP]
 .rw[Zo h,mK.mpr ()]
def SU(i j):zr (.int i) (.int j)=!(.bl<|not<|decide<|i=j):=by
 rw[IG 9 9,];cases h:i=j
 .simp_all[ZP]
 .rw[Zo h,mK.mpr ()]
def xL(r:X.A.units+64<cLine):zt X (compareOp .Eq) xI:=by
 intro Y s Z H x y v u Q I j l h;let(F,d,e,z,g,id,i,f,q):=h;unfold xI at f
 split at f
 .rename_i a b;obtain rfl:=Zqi f;rw[gJ Y s Z H x y v u Q I j l (?_,?_)]
  .rw[jt.mp id,jt.mp i];rfl
  .rw[jt.mp id,jt.mp i];rw[q _ F H (.refl g) ?_]
   cases(a)<;>cases(b)<;>rfl
 .split at f
  .rename_i c;rw[Ud]at c;obtain rfl:=Zqi f;let(t,m):=Y0 I.hok 12 d x v c.1 (jf.same g _ _ id) j;let(bs,n):=Y0 I.hok 12 e y u c.2 (jf.same g _ _ i) l;have(o,w):=ZO 12 d c.1;have(p,A):=ZO 12 e c.2;rw[PySem.SeqAt.compareEq_reads m n o p () ?_];rw[Vo.mpr<|(E8 12 d e c.1 c.2).trans mL.symm,];rw[(.bl _,H,I,9,q _ F H (.refl g)<|wF _ F)]
  ext
def z7(r:X.A.units+64<cLine):zt X (compareOp .NotEq) zr:=by
 intro Y s Z H x y v u Q I j l h;let(F,d,e,z,g,id,i,f,q):=h;unfold zr at f
 split at f
 .rename_i a b;obtain rfl:=Zqi f;rw[gH Y s Z H x y v u Q I j l (?_,?_)]
  .rw[jt.mp id,jt.mp i];rfl
  .rw[jt.mp id,jt.mp i];rw[q _ F H (.refl g) ?_]
   cases(a)<;>cases(b)<;>rfl
 .split at f
  .rename_i c;rw[Ud]at c;obtain rfl:=Zqi f;let(t,m):=Y0 I.hok 12 d x v c.1 (jf.same g _ _ id) j;let(bs,n):=Y0 I.hok 12 e y u c.2 (jf.same g _ _ i) l;have(o,w):=ZO 12 d c.1;have(p,A):=ZO 12 e c.2;rw[PySem.SeqAt.compareNe_reads m n o p () ?_];rw[Vo.mpr<|(E8 12 d e c.1 c.2).trans mL.symm,];rw[(.bl _,H,I,9,q _ F H (.refl g)<|wF _ F)]
  ext
end
def PE.or   (h:PE X e t)(c:PE X e f):PE X e λZ H Q=>t Z H Q\/f Z H Q:=λY s Z H Q I q=>q.elim (h Y s Z H Q I)<|c Y s Z H Q I
def PT.or   (h:PT X e t)(c:PT X e f):PT X e λZ H Q=>t Z H Q\/f Z H Q:=λY s Z H Q I q=>q.elim (h Y s Z H Q I)<|c Y s Z H Q I
noncomputable def Kg:D->02 jT
 |.int i=>! .inl i
 |.str x=>! .inr x
 |_=>8
def Y1{K:f'}    (h:Kg d=!k)(i:jf K H d v):v=kV k:=by
 cases d with
 |int j=>cases h;rw[jd.mp i]
 |str x=>cases h;rw[j1.mp i]
 |_=>rw[J7 h]
noncomputable def jO:List jT->YC->jT->YD
 |k::a,d::b,q=>if k=q then !d else jO a b q
 |_,_,_=>8
def SW(k q:jT)(v)(r):qR (%[k|v]::r) q=if k=q then !v else qR r q:=by
 grind[qR,List.find?_cons]
def E9    :jO (k::a) (d::b) q=if k=q then !d else jO a b q:=rfl
theorem ZQ{K:f'} (q:jT):∀{ks:List jT}{b:YC}{a:YB},⇑ks=⇑a->jc K H b a->
 (∀d,jO ks b q=!d->∃x,qR (ks.zip a) q=!x/\jf K H d x)/\(jO ks b q=8->qR (ks.zip a) q=8)
 |[],b,a,hl,h=>by
  let:a=[]:=Jl.mp hl.symm;subst this;rw[(λd e=>?_,λ_=>9)]
  cases(b)<;>rw[J7 e]
 |k::ks,[],a,hl,h=>by
  rw[jc.nil_iff]at h;subst h;cases hl
 |k::ks,d::b,a,hl,h=>by
  rw[jl]at h;let(x r,rfl,f,g):=h;let i:=ZQ q (ks:=ks) (UN hl) g;rw[VC,SW];rw[E9,];cases c:k=q
  .rw[Zd c,Zd c];rw[(λj e=>by cases e;rw[(x,9,f)],λe=>by cases e)]
  .rw[Ze c,Ze c];rw[i]
noncomputable def wn:List jT->YC->jT->D->YC
 |k::a,d::b,q,v=>(if k=q then v else d)::wn a b q v
 |_,_,_,_=>[]
noncomputable def wm:List jT->YB->jT->V->YB
 |k::a,d::b,q,v=>(if k=q then v else d)::wm a b q v
 |_,_,_,_=>[]
def II    :wn (k::a) (d::b) q v=(if k=q then v else d)::wn a b q v:=rfl
def SX    :wm (k::a) (d::b) q v=(if k=q then v else d)::wm a b q v:=rfl
theorem IJ{K:f'}    (g:jf K H d v):∀{a:List jT}{c:YC}{b:YB},⇑a=⇑b->jc K H c b->jc K H (wn a c q d) (wm a b q v)/\⇑(wm a b q v)=⇑a/\
 (a.zip b).map (λf=>if f.1=q then%[f.1|v]else f)=a.zip (wm a b q v)
 |[],c,b,hl,h=>by
  rw[(?_,9,9)];rfl
 |k::a,[],b,hl,h=>by
  simp_all[jc.nil_iff]
 |k::a,m::c,b,hl,h=>by
  let(x r,rfl,n,i):=h;let(j,l,o):=IJ g (UN hl) i;rw[II,SX];rw[(jc.mk ?_ j,by rw[Zu,l];rfl,?_)]
  .cases e:k=q
   .rwa[Zd e,Zd e]
   .rwa[Ze e,Ze e]
  grind[List.zip_cons_cons,List.map_cons]
noncomputable def zA(q:jT)(a:List jT):Bool:=a.any λk=>decide<|k=q
theorem IK(q):∀{a:List jT}{b:YB},⇑a=⇑b->(a.zip b).any λc=>decide<|c.1=q=zA q a
 |[],b,_=>9
 |k::a,[],h=>by cases h
 |k::a,x::b,h=>by
  rw[VC,List.any_cons,IK q (UN h)];rfl
def WZ(a:List jT)(q:jT):List jT:=if zA q a=6 then a else a++[q]
def X1(a:List jT)(b:YC)(q:jT)(v:D):YC:=if zA q a=6 then wn a b q v else b++[v]
def IL{K:f'}       (c:⇑b=⇑e)(h:jc K H i e)(g:jf K H d v):
 ∃f,qT (b.zip e) q v=(WZ b q).zip f/\⇑(WZ b q)=⇑f/\jc K H (X1 b i q d) f:=by
 ext qT WZ X1;rw[IK q c,];cases a:zA q b=6
 .rw[Zd a,Zd a,Zd a];let(j,l,m):=IJ g c h;rw[(_,m,l.symm,j)]
 .rw[Ze a,Ze a,Ze a];rw[(e++[v],by rw[List.zip_append c,];rfl,by simp[c],h.snoc g)]
def Cy{K:f'}     (h:jc K H a b)(e:qa a k=!d):∃x,qa b k=!x/\jf K H d x:=by
 unfold qa at e ⊢;rw[⇑h,]
 induction hj:yD ⇑a k with
 |none=>ext
 |some j=>
  rw[hj]at e;rw[h.get e]
def ju:D->D->YD
 |.lst ds,.int k=>qa ds k
 |.tup ds,.int k=>qa ds k
 |.scr b,.int k=>(qa b k).map .int
 |.str x,.int k=>if ⇑x<=00 then(qa x.cps.toList k).map λc=>.str ⟨#[c]⟩ else 8
 |.dct a ds,k=>(Kg k).bind λq=>jO a ds q
 |.dcf a ds,k=>(Kg k).bind λq=>jO a ds q
 |_,_=>8
def IM{K:f'}     (j:d=.dct c i\/d=.dcf c i)(h:jf K H d v):∃a b,v=016/\Rd H a (.dK<|c.zip b)/\⇑c=⇑b/\jc K H i b:=by
 obtain rfl|rfl:=j
 .let(a b,e,f,g):=jS.mp h;rw[(a,b,e,.inl f,g)]
 .let(a o b,e,f,g):=qM.mp h;rw[(a,b,e,.inr (o,f),g)]
def EA   (e:jk H b)(h:Rd H a u):Rd b a u:=h.imp (λq=>e _ _ q)<|y9 λo q=>(o,e _ _ q)
def EB    (e:Rd H a (.dK b)):yc H a (kV k) (qR b k):=.inl (b,k,e,9,9)
def IN:zQ X (uH X.K λd e=>match d with
 |.dct _ _=>8
 |.dcf _ _=>8
 |d=>ju d e):=zQ.weak Rf λx y H Q=>vE λF d e z=>vG λb id g a q=>by
 cases d with
 |lst o=>
  cases e with
  |int k=>
   let(p,l,rfl,f,m):=id;let(x,h,n):=Cy m a;rw[.inl<|jW p l k x (9,jd.mp g,(f.same b).sq,h,q _ F H (.refl b) n)]
  |_=>rw[J7 a]
 |tup o=>
  cases e with
  |int k=>
   let(p,l,rfl,f,m):=id;let(x,h,n):=Cy m a;rw[.inr<|.inl<|jW p l k x (9,jd.mp g,(f.same b).sq,h,q _ F H (.refl b) n)]
  |_=>rw[J7 a]
 |scr r=>
  cases e with
  |int k=>
   let(p,rfl,f):=id;let(-j,s,a):=Jj.mp a;subst a;rw[.inl<|jW p _ k (.int j) (9,jd.mp g,jk.seq b f,?_,q _ F H (.refl b)<|z9 _ F)];unfold qa at s ⊢
   induction h:yD ⇑r k with
   |none=>ext
   |some i=>ext
  |_=>rw[J7 a]
 |str t=>
  cases e with
  |int k=>
   let a:(if ⇑t<=00 then(qa t.cps.toList k).map λc=>D.str ⟨#[c]⟩ else 8)=!z:=a
   split at a
   .rename_i u
    induction hc:qa t.cps.toList k with
    |none=>rw[hc]at a;rw[J7 a]
    |some c=>
     rw[hc]at a;obtain rfl:=Zqi a;rw[.inr<|.inr<|jg t k c (j1.mp id,jd.mp g,u,hc,q _ F H (.refl b)<|j1.mpr 9)]
   ext
  |_=>rw[J7 a]
 |_=>rw[J7 a]
def JF(G:X.A.units+1<cLine)(u:QE X E a l)(A:QE X E b I)(J:A1 b)(m:ve b):QE X E (.Subscript a b L) (jh ju l I):=
 PE.weak (PE.or (DV G u A m)<|BO IN u A J) λZ H Q h=>by
  let(B F e,r,n):=h;cases o:∃d g i,l e=.ok d/\(d=.dct g i\/d=.dcf g i)
  .let(d g i,o,C):=o;rw[.inl<|jg B F e (r,(Res.need_bind n).monoE (λx f M v N H1 j O=>?_) 004)];rw[o]at f;cases f;rw[jg B N e (r.step j,(Res.need_bind M).mono (λy P w R S s T=>?_) λ_ _ q=>q.ext j)];let(-z,t,q):=ji P;let(-k,U,t):=Jg.mp (show(Kg y).bind (λq=>jO g i q)=!z by obtain rfl|rfl:=C<;>rw[t]);let(p xs,rfl,Y,h2,h3):=IM C O;let(-x,f,ix):=(ZQ k h2 h3).1 z t;rw[(p,x,9,?_,q x R S (j.trans s)<|jf.same s.ff _ _ ix)];rw[Y1 U T,<-f];rw[EB<|EA s.hh<|EA j.fh Y]
  .rw[.inr<|AF<|jg B F e (r,?_)];unfold jh at n ⊢
   induction f:l e with
   |ok d=>
    ext
   |no=>ext
   |ex c fs=>ext
def yE(b:Bool):D->D->YD
 |k,.dct c a=>(Kg k).map λq=>.bl<|if b then not<|(jO c a q).isSome else(jO c a q).isSome
 |k,.dcf c a=>(Kg k).map λq=>.bl<|if b then not<|(jO c a q).isSome else(jO c a q).isSome
 |d,.lst a=>if jY 12 d&&a.all (jY 12)then !(.bl<|if b then not<|a.any<|λe=>jF e d else a.any λe=>jF e d)else 8
 |d,.tup a=>if jY 12 d&&a.all (jY 12)then !(.bl<|if b then not<|a.any<|λe=>jF e d else a.any λe=>jF e d)else 8
 |_,_=>8
theorem IP{K:f'} :∀n d e v,jY n d=6->jY n e=6->jf K H d v->jf K H e v->d=e
 |0,_,_,_,h,_,_,_=>by rw[JH h]
 |n+1,d,e,v,hd,he,f,b=>by
  let all:∀m c g,m.all (jY n)=6->c.all (jY n)=6->jc K H m g->jc K H c g->m=c:=by
   intro m
   cases(m)with
   |nil=>
    intro c g _ _ f b;rw[jc.nil_iff]at f;subst f;let:=⇑b
    grind
   |cons d m B=>
    intro c g w y f b;rw[UG,Ud]at w;rw[jl]at f;let(x r,rfl,C,E):=f
    cases(c)with
    |nil=>rw[jc.nil_iff]at b;cases b
    |cons e c=>
     rw[UG,Ud]at y;rw[jl]at b;let(J L,t,F,G):=b;cases t;rw[IP n d e x w.1 y.1 C F,B c r w.2 y.2 E G]
  let ne:∀{a:Addr}{g A:YB},yW K H a g->xO K H a A->False:=λ{a g A}p l=>by
   obtain l|⟨o,l⟩:=l
   .rw[p]at l;cases l
   .rw[p]at l;cases l
  cases d with
  |int i=>
   rw[jd]at f;subst f;cases e with
   |int j=>rw[jd]at b;cases b;rfl
   |str j=>rw[j1]at b;cases b
   |non=>rw[jD]at b;cases b
   |tup c=>grind[js]
   |lst c=>grind[jo]
   |_=>rw[JH he]
  |str i=>
   rw[j1]at f;subst f;cases e with
   |int j=>rw[jd]at b;cases b
   |str j=>rw[j1]at b;cases b;rfl
   |non=>rw[jD]at b;cases b
   |tup c=>simp_all[js]
   |lst c=>simp_all[jo]
   |_=>rw[JH he]
  |non=>
   rw[jD]at f;subst f;cases e with
   |int j=>rw[jd]at b;cases b
   |str j=>rw[j1]at b;cases b
   |non=>rfl
   |tup c=>grind[js]
   |lst c=>grind[jo]
   |_=>rw[JH he]
  |tup m=>
   rw[js]at f;let(a,g,rfl,p,l):=f;cases e with
   |int j=>rw[jd]at b;cases b
   |str j=>simp_all[j1]
   |non=>simp_all[jD]
   |tup c=>
    rw[js]at b;let(I,q,t,s,z):=b;cases t;let u:H a=! .tup g:=p;rw[show H a=! .tup q from s]at u;cases u;rw[all m c _ hd he l z,]
   |lst c=>
    grind[jo]
   |_=>rw[JH he]
  |lst m=>
   rw[jo]at f;let(a,g,rfl,p,l):=f;cases e with
   |int j=>rw[jd]at b;cases b
   |str j=>cases b
   |non=>cases b
   |tup c=>
    grind[js]
   |lst c=>
    rw[jo]at b;let(I,q,t,s,z):=b;cases t;let:g=q:=by
     obtain p|⟨_,p⟩:=p<;>obtain s|⟨_,s⟩:=s<;>rw[p]at s<;>cases s<;>rfl
    subst this;rw[all m c _ hd he l z,]
   |_=>rw[JH he]
  |_=>rw[JH hd]
def mt(K:f')(H:Hp)(d:D)(u:Value):4:=∃v,jz v u/\jf K H d v
def yo(K:f')(H:Hp)(d:D)(u:Value):Bool:=@decide (mt K H d u)<|Classical.propDecidable _
def SY{K:f'}    (b:jY 12 d=6)(c:jY 12 e=6)(h:jf K H e v)(r:jz v u):yo K H d u=jF e d:=by
 cases q:e=d
 .rw[q,ZP];rw[@decide_eq_true _ (Classical.propDecidable _) (v,r,q ▸ h)]
 .rw[mK.mpr q,];rw[@decide_eq_false _ (Classical.propDecidable _)<|y9 λg=>j5 λf a=>q ?_];rw[f.inj r]at a;rw[IP 12 e d v c b h a]
def IQ  {K:f'}   (t:A.units+60<cLine)(ok:xy P w H s.heap)   (f:jY 12 d=6)(m:jf K H d x)(n:jz x v):
 ∀{a:YC}{g:YB}{c:Ye},a.all (jY 12)=6->jc K H a g->jv g c->c.map (yo K H d)=a.map (λe=>jF e d)/\∀u∈c,SeqAt.EqAt A s u v (yo K H d u):=by
 intro a
 cases(a)with
 |nil=>
  intro g c _ h i;subst h;cases i;simp
 |cons e a o=>
  intro g c b h i;rw[UG,Ud]at b;let(y z,rfl,j,p):=h;cases i with
  |cons l q=>
   let(B,C):=o b.2 p q;let(E,F):=Y0 ok 12 e y _ b.1 j l;let(G,I):=Y0 ok 12 d x v f m n;let(J,L):=ZO 12 e b.1;let(M,N):=ZO 12 d f;let r:=SY f b.1 j l;rw[((),λu hm=>?_)];obtain hm|hm:=UY.mp hm
   .subst hm;rw[r,<-(Vo.mpr ((E8 12 e d b.1 f).trans mL.symm):PyData.eqv (yO e) (yO d)=jF e d)]
    grind[SeqAt.eqAt_reads]
   ext
def Cz{α:Type}{f:α->Bool}{l:List α}:l.any f=(l.map f).any id:=()
def IR(J:X.A.units+64<cLine)(b:Bool):yu X (compareOp<|if b then .NotIn else .In) (uH X.K λd e=>match e with
 |.dct _ _=>8
 |.dcf _ _=>8
 |e=>yE b d e):=by
 intro Y s Z H x y v u Q I w B i;let(F,d,e,z,c,id,n,f,q):=i;let j:=jf.same c _ _ id;cases e with
 |lst g=>
  let f:(if jY 12 d&&g.all (jY 12)then !(D.bl<|if b then not<|g.any<|λe=>jF e d else g.any λe=>jF e d)else 8)=!z:=f
  split at f
  .rename_i h;rw[Ud]at h;obtain rfl:=Zqi f;rw[jo]at n;let(p,C,rfl,o,r):=n;obtain rfl:u=Value.ref p:=B;let(a,ri,l,E):=I.list (o.same c).sq;let(t,G):=IQ (A:=X.A.in1) (by show X.A.units+1+60<cLine;lia) I.hok h.1 j w h.2 (jc.same c _ _ r) ri;let m:a.toArray.any (yo X.K H d)=g.any λe=>jF e d:=by
    rw[show a.toArray.any (yo X.K H d)=a.any (yo X.K H d)by simp,Cz,t,<-Cz]
   cases b with
   |true=>
    rw[SeqAt.notIn_listAt (yo X.K H d) l.isList () (.bl _,H,I,9,?_)];rw[m,];rw[q _ F H (.refl c)<|wF _ F]
   |false=>
    rw[SeqAt.in_listAt (yo X.K H d) l.isList () (.bl _,H,I,9,?_)];rw[m,];rw[q _ F H (.refl c)<|wF _ F]
  ext
 |tup g=>
  let f:(if jY 12 d&&g.all (jY 12)then !(D.bl<|if b then not<|g.any<|λe=>jF e d else g.any λe=>jF e d)else 8)=!z:=f
  split at f
  .rename_i h;rw[Ud]at h;obtain rfl:=Zqi f;let(p,C,rfl,o,r):=n;obtain rfl:=B;let(a,ri,l,E):=I.tuple (o.same c).sq;let(t,G):=IQ (A:=X.A.in1) (by show X.A.units+1+60<cLine;lia) I.hok h.1 j w h.2 (jc.same c _ _ r) ri;let m:a.toArray.any (yo X.K H d)=g.any λe=>jF e d:=by
    rw[show a.toArray.any (yo X.K H d)=a.any (yo X.K H d)by simp,Cz,t,<-Cz]
   cases b with
   |true=>
    rw[SeqAt.notIn_tupleAt (yo X.K H d) l () (.bl _,H,I,9,?_)];rw[m,];rw[q _ F H (.refl c)<|wF _ F]
   |false=>
    rw[SeqAt.in_tupleAt (yo X.K H d) l () (.bl _,H,I,9,?_)];rw[m,];rw[q _ F H (.refl c)<|wF _ F]
  ext
 |_=>rw[J7 f]
def IS{K:f'}    (h:tD K E (jh (yE f) s l) Z H Q):
 (λZ H Q=>tD K E s Z H λy G=>tD K E l Z G λx m=>∃a o,x=016/\yc m a y o/\Q (.bl<|if f then not o.isSome else o.isSome) m) Z H Q\/kH (uH K λd e=>match e with
 |.dct _ _=>8
 |.dcf _ _=>8
 |e=>yE f d e) (tD K E s) (tD K E l) Z H Q:=by
 let(B F i,r,n):=h;cases t:∃d b g,l i=.ok d/\(d=.dct b g\/d=.dcf b g)
 .let(d b g,t,I):=t;rw[.inl<|jg B F i (r,(Res.need_bind n).mono (λx M v N G u O=>jg B N i (r.step u,(Res.need_bind M).monoE (λy j P w R m J S=>?_) λ_ _ q=>q.ext u)) 004)];rw[t]at j;cases j;let(-z,A,q):=ji P;let(-k,T,A):=Jj.mp (show(Kg x).map (λq=>D.bl<|if f then not<|(jO b g q).isSome else(jO b g q).isSome)=!z by obtain rfl|rfl:=I<;>rw[A]);subst A;let(p L,rfl,U,X,Y):=IM I S;let(g1,g2):=ZQ k X Y;rw[(p,qR (b.zip L) k,9,?_,?_)]
  .rw[Y1 T O,];rw[EB<|EA J.fh U]
  .let es:(qR (b.zip L) k).isSome=(jO b g k).isSome:=by
    induction hv:jO b g k with
    |none=>rw[g2 hv,];rfl
    |some d=>let(-x,C,_):=g1 d hv;rw[C,];rfl
   rw[es,];rw[q _ R m (u.trans J)<|jt.mpr 9]
 .rw[.inr<|AF<|jg B F i (r,?_)];unfold jh at n ⊢
  induction C:s i with
  |ok d=>
   rw[C]at n
   induction j:l i with
   |ok e=>
    ext
   |no=>rwa[j]at n
   |ex c fs=>rwa[j]at n
  |no=>ext
  |ex c fs=>ext
def EC(g:X.A.units+64<cLine)(c:QE X E a i)(e:QE X E b j)(f:behindInMarks .In b=7:=by rfl):QT X E (.Compare a [.In] [b] l) (J9<|jh (yE 7) i j):=
 PT.weak (PT.or (BG (Ru () c e) f)<|DJ (IR g 7) c e f) λZ H Q h=>IS<|Xw h
def AN(g:X.A.units+64<cLine)(c:QE X E a i)(e:QE X E b j)(f:behindInMarks .NotIn b=7:=by rfl):QT X E (.Compare a [.NotIn] [b] l) (J9<|jh (yE 6) i j):=
 PT.weak (PT.or (BG (Rv () c e) f)<|DJ (IR g 6) c e f) λZ H Q h=>IS<|Xw h
section
variable    {a b o i e f tg:Expr}{fa fb fo fi fv:FE}{fr:FA}
theorem QQ{K:f'}   (h:jc K H [d] c):∃v,c=[v]/\jf K H d v:=by
 simp_all[jl,jc.nil_iff]
def AO{K:f'}{H:Hp}{d e:D}{c:YB}(h:jc K H [d,e] c):∃v w,c=[v,w]/\jf K H d v/\jf K H e w:=by
 grind[jl,QQ]
noncomputable def jy:YC->YD
 |[.lst c]=>! .int ⇑c
 |[.tup c]=>! .int ⇑c
 |[.dct g _]=>! .int ⇑g
 |[.scr h]=>! .int ⇑h
 |[.str x]=>if ⇑x<=00 then ! .int ⇑x else 8
 |_=>8
def dI(g:YC)(z:D):4:=(∃c,g=[.lst c]/\z=.int ⇑c)\/(∃c,g=[.tup c]/\z=.int ⇑c)\/(∃h c,g=[.dct h c]/\z=.int ⇑h)\/(∃j,g=[.scr j]/\z=.int ⇑j)\/∃x,⇑x<=00/\g=[.str x]/\z=.int ⇑x
def SZ  (c:jy g=!z):dI g z:=by
 cases g with
 |nil=>rw[J7 c]
 |cons d g=>
  cases g with
  |nil=>
   cases d with
   |lst g=>rw[.inl (_,9,(Zqi c).symm)]
   |tup g=>rw[.inr<|.inl (_,9,(Zqi c).symm)]
   |dct h g=>rw[.inr<|.inr<|.inl (_,_,9,(Zqi c).symm)]
   |scr j=>rw[.inr<|.inr<|.inr<|.inl (_,9,(Zqi c).symm)]
   |str x=>rw[let q:=Ex c;.inr (.inr<|.inr<|.inr (_,q.1,9,q.2.symm))]
   |_=>rw[J7 c]
  |cons e g=>cases d<;>rw[J7 c]
def Qh:ql X (.builtin "len") (wS X.K jy):=ql.weak (ql.or Rh<|ql.or R7 Ri) λs H Q n=>by
 let(F t z,c,id,p,q):=n;obtain⟨m,rfl,rfl⟩|⟨m,rfl,rfl⟩|⟨u,m,rfl,rfl⟩|⟨w,rfl,rfl⟩|⟨x,r,rfl,rfl⟩:=SZ p
 .let(-v,rfl,h):=QQ id;let(a l,rfl,g,j):=h;rw[<-⇑j]at q;rw[.inl (a,l,9,.inl (g.same c).sq,q _ F H (.refl c)<|z9 _ F)]
 .let(v,rfl,h):=QQ id;let(a l,rfl,g,j):=h;rw[<-⇑j]at q;rw[.inl (a,l,9,.inr (g.same c).sq,q _ F H (.refl c)<|z9 _ F)]
 .let(-v,rfl,h):=QQ id;let(a l,rfl,g,j,y):=h;rw[.inr<|.inl (a,_,9,c _ _ g,?_)];rw[List.length_zip,<-j,Nat.min_self];rw[q _ F H (.refl c)<|z9 _ F]
 .let(v,rfl,h):=QQ id;let(-a,rfl,g):=h;rw[.inl (a,_,9,.inl<|jk.seq c g,?_)];rw[Zql,];rw[q _ F H (.refl c)<|z9 _ F]
 .let(-v,rfl,h):=QQ id;subst h;rw[.inr<|.inr (_,9,r,q _ F H (.refl c)<|z9 _ F)]
noncomputable def ZR:YC->YD
 |[.int i,.int j]=>!(.int<|if j>i then j else i)
 |_=>8
noncomputable def Y2:YC->YD
 |[.int i,.int j]=>!(.int<|if j<i then j else i)
 |_=>8
def IT(c:YC):4:=∃i j,c=[.int i,.int j]
def Ta  (g:ZR c=!z):IT c:=by
 cases c with
 |nil=>rw[J7 g]
 |cons d c=>
  cases c with
  |nil=>cases d<;>rw[J7 g]
  |cons e c=>
   cases d with
   |int i=>
    cases e with
    |int j=>
     cases(c)with
     |nil=>rw[jR _ _ 9]
     |cons _ _=>rw[J7 g]
    |_=>rw[J7 g]
   |_=>rw[J7 g]
def Tb  (g:Y2 c=!z):IT c:=by
 cases c with
 |nil=>rw[J7 g]
 |cons d c=>
  cases c with
  |nil=>cases d<;>rw[J7 g]
  |cons e c=>
   cases d with
   |int i=>
    cases e with
    |int j=>
     cases(c)with
     |nil=>rw[jR _ _ 9]
     |cons _ _=>rw[J7 g]
    |_=>rw[J7 g]
   |_=>rw[J7 g]
def IU(g:X.calm=6):ql X (.builtin "max") (wS X.K ZR):=ql.weak (P8 g) λp H Q h=>by
 let(F r z,l,id,c,q):=h;let(i j,rfl):=Ta c;obtain rfl:=Zqi c;let(v w,rfl,m,n):=AO id;rw[(_,_,by rw[jd.mp m,jd.mp n],q _ F H (.refl l)<|z9 _ F)]
def Tc(g:X.calm=6):ql X (.builtin "min") (wS X.K Y2):=ql.weak (P9 g) λp H Q h=>by
 let(F r z,l,id,c,q):=h;let(i j,rfl):=Tb c;obtain rfl:=Zqi c;let(v w,rfl,m,n):=AO id;rw[(_,_,by rw[jd.mp m,jd.mp n],q _ F H (.refl l)<|z9 _ F)]
def C0:D->02 Yf
 |.lst c=>QP AI c
 |_=>8
def IV{K:f'}    (h:C0 d=!g)(i:jf K H d v):∃a,v=016/\xO K H a (g.map V.int):=by
 cases d with
 |lst l=>
  let(a m,rfl,j,c):=i;rw[SQ h]at c;rw[qQ c]at j
  ext
 |_=>rw[J7 h]
def IW(c):C0 (.lst<|c.map D.int)=!c:=SR c
def X2:YC->YD
 |[d]=>(C0 d).bind λc=>if c=[]then 8 else !(.int<|qN c)
 |_=>8
def X3:YC->YD
 |[d]=>(C0 d).bind λc=>if c=[]then 8 else !(.int<|qV c)
 |_=>8
def ED(j:X.calm=6):ql X (.builtin "max") (wS X.K X2):=ql.weak (RK j) λs H Q l=>by
 let(F t z,g,id,c,q):=l;unfold X2 at c
 split at c
 .let(-m,n,c):=Jg.mp c
  split at c
  .rw[J7 c]
  .rename_i p;obtain rfl:=Zqi c;let(-v,rfl,h):=QQ id;let(-a,rfl,r):=IV n h;rw[(a,m,9,(r.same g).sq,p,q _ F H (.refl g)<|z9 _ F)]
 ext
def EE(j:X.calm=6):ql X (.builtin "min") (wS X.K X3):=ql.weak (RL j) λs H Q l=>by
 let(F t z,g,id,c,q):=l;unfold X3 at c
 split at c
 .let(-m,n,c):=Jg.mp c
  split at c
  .rw[J7 c]
  .rename_i p;obtain rfl:=Zqi c;let(-v,rfl,h):=QQ id;let(-a,rfl,r):=IV n h;rw[(a,m,9,(r.same g).sq,p,q _ F H (.refl g)<|z9 _ F)]
 ext
def dW:D->02 String
 |.non=>!"NoneType"
 |.bl _=>!"bool"
 |.int _=>!"int"
 |.str _=>!"str"
 |.lst _=>! 013
 |.tup _=>!"tuple"
 |.dct _ _=>!"dict"
 |_=>8
noncomputable def uC(t n:String):Bool:=t==n||t=="bool"&&n=="int"
noncomputable def C1(t n:String):Bool:=["NoneType","bool","int","str",013,"tuple","dict"].contains t&&["bool","int","str",013,"tuple","dict"].contains n
def Td(K)(t n)(h:C1 t n=6):W.kitOne K (.type t) (.type n)=! uC t n:=by
 unfold C1 at h;rw[Ud,List.contains_iff_mem,List.contains_iff_mem]at h;let(c,g):=h;simp only[UY,Vd,or_false]at c g;obtain rfl|rfl|rfl|rfl|rfl|rfl|rfl:=c<;>obtain rfl|rfl|rfl|rfl|rfl|rfl:=g<;>first|rfl|kernel_rfl
def qd:YC->YD
 |[d,.ty n]=>(dW d).bind λt=>if C1 t n then !(.bl<|uC t n)else 8
 |_=>8
def dL(c:YC)(z:D):4:=∃d n t,c=[d,.ty n]/\dW d=!t/\C1 t n=6/\z=.bl (uC t n)
def Te  (c:qd g=!z):dL g z:=by
 cases g with
 |nil=>rw[J7 c]
 |cons d g=>
  cases g with
  |nil=>rw[J7 c]
  |cons e g=>
   cases g with
   |nil=>
    cases e with
    |ty n=>
     let(-t,h,c):=Jg.mp c;rw[jg d n t (9,h,(Ex c).1,(Ex c).2.symm)]
    |_=>rw[J7 c]
   |cons _ _=>cases e<;>rw[J7 c]
def Wz:ql X (.builtin "isinstance") (wS X.K qd):=ql.weak RM λl H Q p=>by
 let(F h z,m,id,r,q):=p;let(d n t,rfl,g,s,rfl):=Te r;let(v w,rfl,u,y):=AO id;rw[jW v _ _ _ (by rw[xP.mp y,],by
  let i:=jf.same m _ _ u;cases d with
  |non=>cases g;rw[jD.mp i,];rw[.non]
  |bl b=>cases g;rw[jt.mp i,];rw[.bl b]
  |int j=>cases g;rw[jd.mp i,];rw[.int j]
  |str x=>cases g;rw[j1.mp i,];rw[.str x]
  |lst h=>
   obtain rfl:=Zqi g;let(a l,rfl,g,_):=i;obtain g|⟨o,g⟩:=g
   .rw[.lst g]
   .rw[.frz g]
  |tup h=>
   obtain rfl:=Zqi g;let(a l,rfl,g,_):=i;rw[.tup g]
  |dct A h=>
   obtain rfl:=Zqi g;let(a l,rfl,g,_):=i;rw[.dK g]
  |ty n=>rw[J7 g]
  |scr n=>rw[J7 g]
  |ins C fs h=>rw[J7 g]
  |exc c=>rw[J7 g]
  |exr c n=>rw[J7 g]
  |ucl c=>rw[J7 g]
  |adr c=>rw[J7 g]
  |dcf c h=>rw[J7 g]
  |pin c h=>rw[J7 g],Td _ _ _ s,q _ F H (.refl m)<|wF _ F)]
def W0   (c:Gl X x)(g:X.mg x=8)(j:bootBuiltins x=!u)(r:jz (.ty n) u)(l:x ≠"__name__":=by decide)(m:(x==010)=7:=by decide):QE X E (.Name x p) (dC<|.ty n):=
 ZH (λ_ _ _ H _ I h=>Xq I c g j (V.ty n,H,I,r,h) l m) λ_=>xP.mpr 9
noncomputable def Q2:YC->YD
 |[.lst c]=>! .lst c
 |[.tup c]=>! .lst c
 |[.scr g]=>!(.lst<|g.map .int)
 |_=>8
def m6(g:YC)(z:D):4:=(∃c,g=[.lst c]/\z=.lst c)\/(∃c,g=[.tup c]/\z=.lst c)\/∃h,g=[.scr h]/\z=.lst (h.map .int)
def Th  (g:Q2 c=!z):m6 c z:=by
 cases c with
 |nil=>rw[J7 g]
 |cons d c=>
  cases c with
  |nil=>
   cases d with
   |lst c=>rw[.inl (_,9,(Zqi g).symm)]
   |tup c=>rw[.inr<|.inl (_,9,(Zqi g).symm)]
   |scr h=>rw[.inr<|.inr (_,9,(Zqi g).symm)]
   |_=>rw[J7 g]
  |cons e c=>cases d<;>rw[J7 g]
def Kz:ql X (.type 013) (wR X.K Q2):=ql.weak Rj λu H Q s=>by
 let(F w z,j,id,t,q):=s;let g:∀{m:YC}{c:YB},jc X.K F m c->yK X.K F H Q (.lst m)->∀l,H l=8->Q (.ref l) (upd H l<|.lst c):=λ{m c}h q l p=>
  q l F _ (.keep j p _) p (Qe j p) (c,JO,h)
 obtain⟨m,rfl,rfl⟩|⟨m,rfl,rfl⟩|⟨x,rfl,rfl⟩:=Th t
 .let(-v,rfl,h):=QQ id;let(a,c,rfl,n,r):=h;rw[(a,c,9,.inl (n.same j).sq,g r q)]
 .let(v,rfl,h):=QQ id;let(a c,rfl,n,r):=h;rw[(a,c,9,.inr (n.same j).sq,g r q)]
 .let(v,rfl,h):=QQ id;let(a,rfl,n):=h;rw[(a,_,9,.inl<|jk.seq j n,g (qz _) q)]
noncomputable def ZS:YC->YD
 |[.lst c]=>! .tup c
 |[.tup c]=>! .tup c
 |_=>8
def dB(g:YC)(z:D):4:=(∃c,g=[.lst c]/\z=.tup c)\/∃c,g=[.tup c]/\z=.tup c
def Ti  (g:ZS c=!z):dB c z:=by
 cases c with
 |nil=>rw[J7 g]
 |cons d c=>
  cases c with
  |nil=>
   cases d with
   |lst c=>rw[.inl (_,9,(Zqi g).symm)]
   |tup c=>rw[.inr (_,9,(Zqi g).symm)]
   |_=>rw[J7 g]
  |cons e c=>cases d<;>rw[J7 g]
def EF:ql X (.type "tuple") (wS X.K ZS):=ql.weak Rk λw H Q p=>by
 let(F x z,g,id,r,q):=p;obtain⟨s,rfl,rfl⟩|⟨s,rfl,rfl⟩:=Ti r
 .let(v,rfl,h):=QQ id;let(a c,rfl,j,m):=h;rw[(a,c,9,.inl ((j.same g).sq,λl t=>?_))];let n:=Ext.alloc g t<|.tup c;rw[q _ _ _ n<|js.mpr (l,c,9,.of JO,jc.same n.ff _ _ m)]
 .let(v,rfl,h):=QQ id;let u:=h;let(a c,rfl,j,m):=h;rw[(a,c,9,.inr ((j.same g).sq,q _ F H (.refl g) u))]
noncomputable def yF(r:J0):D:=.dct (r.map λp=>.inl p.1)<|r.map λp=>.int p.2
def ZT(r:J0):J0:=r.foldl (λa p=>xr a p.1 p.2) []
def Tj(r):BV r=yj (ZT r):=Iq r []
def Tk (h:j9 r):ZT r=r:=by
 grind[ZT,Ir]
def IX(r):yj r=(r.map λp=>(Uh p.1:jT)).zip (r.map λp=>V.int p.2):=by
 grind[yj,List.map_cons]
def Tl(K)(F)(r:J0):jc K F (r.map λp=>D.int p.2) (r.map λp=>V.int p.2):=by
 let:=qz (K:=K) (H:=F)<|r.map (·.2)
 rwa[Zw,Zw]at this
def Y3:YC->YD
 |[d]=>(Wn d).bind λr=>if ⇑r<=100 then !(yF<|ZT r)else 8
 |_=>8
def EG(l:X.calm=6):ql X (.type "dict") (wR X.K Y3):=ql.weak (RU l) λm H Q n=>by
 let(F u z,g,id,c,q):=n;unfold Y3 at c
 split at c
 .let(-r,s,c):=Jg.mp c
  split at c
  .rename_i t;obtain rfl:=Zqi c;let(-v,rfl,h):=QQ id;rw[ID s,rM]at h;let(a w,e,_):=(show ∃a m,v=016/\_ by unfold rD at h;rwa[zo]at h);subst e;rw[(a,r,9,Is.same g _ _ h,t,λp j=>q p F _ (.keep g j _) j (Qe g j) ((ZT r).map λp=>V.int p.2,?_,(),Tl _ _ _))];rw[JO,Tj,IX]
  .rw[J7 c]
 ext
def IY:FE:=λ_=>.ok<|.dct [] []
def Tn:QN X E (.Dict [] [] g) IY:=PE.weak (λY s Z H Q I h=>
 wpAny_Dict_empty (.ref s⁻¹,_,I.laid (λ_ _ q=>Zq _ q) (Zf _)<|Rx s.heap I.big,9,h _<|I.hok.fresh<|Zf _)) λZ H Q=>qf λB F j=>j5 λr n=>λp c=>n p F _ (.keep r.ext.fh c _) c (Qe r.ext.fh c) ([],JO,9,.nil)
def C4(fo g h:FE):FE:=λc=>(fo c).bind λd=>match d with
 |.dct j l=>(g c).bind λk=>(h c).bind λx=>.ofO<|(Kg k).map λq=>(jO j l q).getD x
 |_=>.no
def Tp(L:X.A.units+1<cLine)(M:QE X E o fo)(N:QE X E e fa)(O:QE X E f fb)(P:M2 X o "get" h e f j):QE X E (.Call (.Attribute o "get" h) [e,f] [] j) (C4 fo fa fb):=PE.weak (R1 L M N O P) λZ H Q R=>by
 let(B F m,r,n):=R;rw[jg B F m (r,(Res.need_bind n).mono (λd A v S H1 c T=>?_) 004)];cases d with
 |dct C U=>
  let(p Y,rfl,h1,h2,h3):=T;let G:=c.fh _ _ h1;rw[(p,9,.inl (_,.inl G),B,S,m,r.step c,(Res.need_bind A).mono (λk n2 w F2 H2 g i2=>jg B F2 m ((r.step c).step g,(Res.need_bind n2).mono (λx n3 u I J l i3=>?_) λ_ _ q=>q.ext<|c.trans g)) λ_ _ q=>q.ext c)];let(-z,s,q):=ji n3;let(t,hk,s):=Jj.mp s;subst s;let(g1,g2):=ZQ t h2 h3;rw[(qR (C.zip Y) t,?_,?_)]
  .rw[Y1 hk i2,];rw[yc.k<|l.hh _ _<|g.hh _ _ G]
  .induction hv:jO C U t with
   |none=>
    rw[hv]at q;rw[g2 hv,];rw[q _ I J ((c.trans g).trans l) i3]
   |some d=>
    rw[hv]at q;let(-y,hy,iy):=g1 d hv;rw[hy,];rw[q _ I J ((c.trans g).trans l)<|jf.same (g.ff.trans l.ff) _ _ iy]
 |_=>rw[A.elim]
def AQ(i:5)(h fv:FE):FS:=λc=>(fv c).bind λv=>match c[i]? with
 |some (some<|.own false<|.dct g j)=>(h c).bind λk=>match Kg k with
  |some q=>if ⇑g<00 then .ok (.next<|c.set i<|!(.own 7<|.dct (WZ g q)<|X1 g j q v))else .no
  |none=>.no
 |_=>.no
def Tq (z:X.A.units+1<cLine)(A:PE X o (yH j))(C:QE X E i fi)(G:QE X E e fv)(I:swapsWith e (! .Subscript o i c) s.line X.env=pure 7:=by rfl):
 QS X E m (.Assign [.Subscript o i c] e s) (AQ j fi fv):=PS.weak (He z A C G I) λT Z H J=>by
 let(B F u,r,n):=J;rw[jg B F u (r,(Res.need_bind n).mono (λd t v L H1 g M=>?_) λ_ _ q=>q.ext r.ext)]
 split at t
 .rename_i ks ds x;let(-l,y,h2,h3,(xs,N,O,P),_):=(r.step g).own x;rw[(.ref l,y,B,L,u,r.step g,(Res.need_bind t).mono (λk h w Q H2 p R=>?_) λ_ _ q=>q.ext (r.step g).ext)]
  split at h
  .rename_i q S
   split at h
   .let(U,Y,y2,y3):=IL O (jc.same p.ff _ _ P) (jf.same p.ff _ _ M);rw[(l,_,9,by rw[Y1 S R,];rw[wy.k (p.hh _ _ N) ()],h Z Q _ (g.ff.trans p.ff)<|((r.step g).step p).chg x y (U,by rw[JO,Y],y2,y3))]
   .rw[h.elim]
  .rw[h.elim]
 .rw[t.elim]
def EH:D->02 YC
 |.lst c=>!c
 |.scr g=>! g.map .int
 |_=>8
def kw:D->02 YC
 |.tup c=>!c
 |_=>8
def iL(f:FE):FA:=λc=>(f c).bind λd=>.ofO<|EH d
def iT(f:FE):FA:=λc=>(f c).bind λd=>.ofO<|kw d
def EI{K:f'}    {S:Hp->4}(h:jc K n u j)(v:∀F H,jk n F->jk F H->S H)(g:∀i H x,S H->j[i]?=!x->J.go i H)(w:∀i H,S H->⇑j<=i->J.stop i H)
 (z:∀i H x p,S H->J.yld i H x p->p=H/\j[i]?=!x):vO K n J u:=λi q c r s=>by
 let l:=v q c r s;rw[(λt=>?_,λt=>w i c l<|by rwa[⇑h,])];let(-x,A,_):=h.get (Zqg t);rw[(g i c x l A,λy B C=>?_)];let(!rfl,m):=z i c y B l C;let(-d,E,id):=h.getV m;rw[(d,q,E,.refl s,jf.same r _ _ id)]
def Tr(h:QE X E e fa):QI X E tg e (iL fa):=PI.weak (G9 h) λZ H R C=>by
 let(B F G,r,n):=C;rw[jg B F G (r,(Res.need_bind n).mono (λd I v y z l A=>?_) 004)];let(-N,p,q):=ji I;cases d with
 |lst O=>
  obtain rfl:=Zqi p;let(a m,rfl,g,J):=A;rw[(a,9,(m,(g.same l.fh).sq),q _ y z l<|EI J (λF H s t=>((g.same s).same t).sq) (λi H x c u=>(m,x,c,u)) (λi H c w=>(m,c,w)) λi H x L c j=>(j.1,j.2 m c))]
 |scr M=>
  obtain rfl:=Zqi p;let(-a,rfl,g):=A;rw[(a,9,(_,jk.seq l.fh g),q _ y z l<|EI (qz M) (λF H s t=>jk.seq t<|jk.seq s g) (λi H x c u=>(_,x,c,u)) (λi H c w=>(_,c,w)) λi H x L c j=>(j.1,j.2 _ c))]
 |_=>rw[J7 p]
def Ts(h:QE X E e fa):QI X E tg e (iT fa):=PI.weak (P0 h) λZ H R s=>by
 let(B F t,r,n):=s;rw[jg B F t (r,(Res.need_bind n).mono (λd u v w y j z=>?_) 004)];let(-L,l,q):=ji u;cases d with
 |tup M=>
  obtain rfl:=Zqi l;let(a g,rfl,m,A):=z;rw[(a,9,(g,(m.same j.fh).sq),q _ w y j<|EI A (λF H C G=>((m.same C).same G).sq) (λi H x c I=>(g,x,c,I)) (λi H c J=>(g,c,J)) λi H x N c p=>(p.1,p.2 g c))]
 |_=>rw[J7 l]
def dD   (h:PI X tg e t)(c:PI X tg e g):PI X tg e λZ H R=>t Z H R\/g Z H R:=λY s Z H R I q=>q.elim (h Y s Z H R I)<|c Y s Z H R I
noncomputable def Xa:D->02 YC
 |.lst c=>!c
 |.scr g=>! g.map .int
 |.tup c=>!c
 |_=>8
def iS(f:FE):FA:=λsd=>(f sd).bind λd=>.ofO<|Xa d
def Qm(h:QE X E e fa):QI X E tg e (iS fa):=PI.weak (dD (Tr h)<|Ts h) λZ H R m=>by
 let(B F g,r,n):=m;cases j:∃l,fa g=.ok (.tup l)
 .let(-l,j):=j;rw[.inr<|jg B F g (r,?_)];unfold iS at n;ext iT
  rwa[j]at n ⊢
 .rw[.inl<|jg B F g (r,?_)];unfold iS at n;ext iL
  induction hx:fa g with
  |ok d=>
   rw[hx]at n;cases d with
   |tup l=>ext
   |_=>rw[n]
  |no=>rwa[hx]at n
  |ex c fs=>rwa[hx]at n
def Qn(lo:3)(n:5):YC:=(List.range n).map λk:5=>.int<|lo+k
def Wo(j:3):Bool:=UQ j.toNat 1000000000&&UQ (-j).toNat 1000000000
def IZ (h:Wo j=6):-2^62<=j/\j<2^62:=by
 unfold Wo at h;rw[Ud,UB,UB]at h;lia
def EJ (c:-1000000000<=j)(g:j<=1000000000):Wo j=6:=by
 ext Wo;rw[Ud,UB,UB];lia
def wX(fr:FA):FA:=λc=>(fr c).bind λg=>match g with
 |[.int j]=>if Wo j then .ok (Qn 0 j.toNat)else .no
 |_=>.no
def Tt{K:f'} (lo)(n):vO K m (dJ lo n) (Qn lo n):=λi g p q h=>by
 let j:⇑(Qn lo n)=n:=by ext Qn;simp
 rw[j,];rw[(λc=>(c,λx r l=>?_),λc=>c)];let(rfl,rfl):=l;rw[(.int<|lo+i,g,?_,.refl h,jd.mpr 9)]
 simp_all[Qn]
def Xb (l:Gl X "range")(m:X.mg "range"=8)(s:QA X E [a] fr)(t:01 [a] X.env=[%[7|eval a X.env]]:=by rfl):QI X E tg (.Call (.Name "range" p) [a] [] u) (wX fr):=PI.weak (P1 l m s t) λZ H R w=>by
 let(B F x,r,n):=w;rw[jg B F x (r,(Res.need_bind n).mono (λG c I y z A C=>?_) 004)]
 split at c
 .split at c
  .rename_i j g;let(-v,rfl,h):=QQ C;rw[jd.mp h,];rw[(j,9,(IZ g).1,(IZ g).2,c _ y z A<|Tt 0 _)]
  .rw[c.elim]
 .rw[c.elim]
end
section
variable    {a b o i e f tg:Expr}{fa fb fo fi fv:FE}
def PG.weak  (h:PG X e t)(w:∀v Z H Q,c v Z H Q->t v Z H Q):PG X e c:=λY s Z H v u Q I r q=>h Y s Z H v u Q I r<|w _ _ _ _ q
def EK:Yh->kj
 |[]=>fQ
 |i::is=>G3 (WP i) (EK is)
theorem La:∀{g:Yh}{c:YB}{Z:St}{H:Hp}{Q:St->Hp->4},⇑c=⇑g->Q (Cs g c Z) H->EK g c Z H Q
 |[],c,Z,H,Q,hl,q=>((),q)
 |i::g,[],Z,H,Q,hl,q=>by cases hl
 |i::g,x::c,Z,H,Q,hl,q=>(x,c,9,La (UN hl) q)
def Qx{i:5} (h:PG X e (WP i)):QG X e (.one i):=h
def KB(is) (h:PG X e (fM X.K ⇑is<|EK is)):QG X e (.tup is):=PG.weak h λv Z H Q=>j4 λa g=>xb λe j c q=>(a,g,e,j,c,La c q)
def W1(tg:Tg)(c:FT)(f:FE)(g:SD):YC->Res YC
 |[]=>.ok []
 |x::h=>(JQ tg x g).bind λs=>(c s).bind λb=>if b then(f s).bind λy=>(W1 tg c f g h).bind λj=>.ok<|y::j else W1 tg c f g h
def X4(cap:List (02 5))(j:FA)(tg:Tg)(c:FT)(f:FE):FE:=λg=>(j g).bind λh=>if WY (qr cap g) tg=6/\⇑h<00 then
 (W1 tg c f (qr cap g) h).bind λl=>.ok<|.lst l else .no
def Lb{K:f'} {fi:FA} {f:FE}    (L:kf K E (X4 cap fi t T f) Z H Q):DY cap (mS K E fi) (gT t K) (mR K E T) (tD K E f) Z H Q:=by
 let(B F M,r,n):=L;rw[jg B F M (r,(Res.need_bind n).mono (λh N J U H1 z wk=>?_) 004)]
 split at N
 .rename_i L;let(hn,hz):=L;rw[(λi k O Z m=>k=⇑h-i/\i<=⇑h/\∃j p,Ext U H1 j m/\RS K B j m (qr cap M) Z/\jc K j p O/\⇑p<=i/\
   (W1 t T f (qr cap M)<|h.drop i).need (λA=>yK K j m Q<|.lst<|p++A) (XW K E j m),(⇑h,9,Ub _,U,[],.refl z.fh,(r.step z).cap cap,.nil,Zf _,?_),?_)]
  .rw[(Res.need_bind N).mono (λA q=>(q).ext z) λ_ _ q=>q.ext z]
  rintro i k O Z2 m ⟨rfl,hi,j,p,C,P,G,X,s⟩;let ly:=⇑G;rw[((),?_)];let(!w1,w2):=wk i j m C.ff C.fh;cases l:i<⇑h
  .let(go,yl):=w1 l;rw[.inr (go,λx H3 y=>?_)];let(d F3,hd,g,i3):=yl x H3 y;rw[Uo l]at s;let R:h[i]=d:=by grind[Zqg,Zqi]
   rw[R]at s;rw[XZ (P.step g) i3 (Res.need_bind s) λu Z' n4 hb I=>?_];have(Y,b2):=E4 hn hb;rw[jg B F3 u (I,(Res.need_bind n4).mono (λb n5 F4 H4 c=>?_) λ_ _ q=>q.ext g)]
   cases(b)with
   |true=>
    rw[jg B F4 u (I.step c,(Res.need_bind n5).mono (λy n6 v F5 H5 w i5=>(⇑h-(i+1),(),9,l,F5,p++[y],((C.trans g).trans c).trans w,((I.step c).step w).forget Y b2,(jc.same ((g.ff.trans c.ff).trans w.ff) _ _ G).snoc i5,by rw[Ua,];rw[VL X],(Res.need_bind n6).mono (λA q=>?_) λ_ _ q=>q.ext<|(g.trans c).trans w)) λ_ _ q=>q.ext<|g.trans c)];rw[Ul,];rw[(q).ext<|(g.trans c).trans w]
   |false=>
    rw[(⇑h-(i+1),(),9,l,F4,p,(C.trans g).trans c,(I.step c).forget Y b2,jc.same (g.ff.trans c.ff) _ _ G,Vr X,(n5).mono (λA q=>q.ext<|g.trans c) λ_ _ q=>q.ext<|g.trans c)]
  .let he:i=⇑h:=()
   subst he;rw[.inl (w2<|Zf _,λD S=>?_)];rw[UX]at s;let q:yK K j m Q (.lst<|p++[]):=s;rw[ZA]at q;rw[q D j _ (.keep P.ext.fh S _) S (Qe P.ext.fh S) (O,JO,G)]
 .rw[N.elim]
def Lc   {fi:FA} {f:FE}(N)(cap)(q:X.calm=6)(n:K9 g X.env N X.N cap=6)(r:QI X E tg j fi)
 (u:∀l C s H m,QG (JS X g N l C s H m) tg t)(v:∀l C s H m,QT (JS X g N l C s H m) E c w)(y:∀l C s H m,QE (JS X g N l C s H m) E p f)(z:∀x,foldedSetIterable j X.env x=pure x:=by intro _;rfl):
 QN X E (.ListComp p [(tg,j,[c],0)] g A) (X4 cap fi t w f):=PE.weak (λY s Z H Q I h=>Ik N cap q n r u v y z I h Hj) λ_ _ _ h=>Lb h
noncomputable def AR:List jT->YC->02 J0
 |.inl k::c,.int v::g=>(AR c g).map λr=>%[k|v]::r
 |[],[]=>![]
 |_,_=>8
def Tu(c:List jT)(g:YC)(r:J0):4:=c=r.map (λp=>.inl p.1)/\g=r.map λp=>.int p.2
def Tv   (h:AR g c=!r):Tu g c r:=by
 induction g generalizing c r with
 |nil=>
  cases(c)with
  |nil=>obtain rfl:=Zqi h;rw[(9,9)]
  |cons _ _=>rw[J7 h]
 |cons k g j=>
  cases(k)with
  |inr _=>rw[J7 h]
  |inl k=>
   cases c with
   |nil=>rw[J7 h]
   |cons d c=>
    cases d with
    |int v=>
     let(-n,l,m):=Jj.mp h;subst m;rw[(Zt (Uh k::·) (j l).1,Zt (D.int v::·) (j l).2)]
    |_=>rw[J7 h]
def Tw(r):AR (r.map λp=>.inl p.1) (r.map λp=>.int p.2)=!r:=by
 cases(r)with
 |nil=>rfl
 |cons p r c=>rw[Zt (Option.map λr=>%[p.1|p.2]::r) c]
def vm  (s:jk F H)(j:∀p∈L,H p.1=8):Ext F H (xc F L) (xc H L):=by
 let c:∀{G:Hp}{b:Addr},H b≠8->xc G L b=G b:=λ{G b}l=>Cg λp r z=>l (by rw[<-z];rw[j p r]);let ne:∀{b:Addr}{o:HO},H b=!o->H b≠8:=λ{b o}e z=>by rw[e]at z;cases z
 rw[(λb o e=>by rw[c (ne<|s _ _ e),];rw[e],λb o e=>?_,λb o e=>by rw[c (ne e),];rw[e],λa e n=>by rw[c n,];rw[e])];obtain h|⟨u,h2⟩:=Im e
 .unfold xc at e ⊢
  split at e
  .rw[e]
  .rw[s _ _ e]
 .rw[Cg u,];rw[s _ _ h2]
def EL:D->YD
 |.dct c g=>(AR c g).bind λr=>if r ≠[]/\⇑r<1000 then !(.lst<|(Qs qo r).map qy)else 8
 |_=>8
def EM(fo:FE):FE:=λc=>(fo c).bind λd=>.ofO<|EL d
def Tx (h:∀{A:TE},PE X o A->PE X e (uE (λs H Q=>∃c d r,s=[.ref c]/\H c=! Xv c d/\H d=!(.dK<|yj r)/\r ≠[]/\⇑r<1000/\∀l L,(∀p∈L,H p.1=8)->(L.map (·.1)).Nodup->(∀G,Is (xc G L) (.list<|(Qs qo r).map pD) (.ref l))->Q (.ref l) (xc H L))
<|DM (kP X.K "dict" (λx N H Q=>∃d t,x=.ref d/\N=[]/\H d=! .dK t/\∀p,H p=8->Q (.ref p) (upd H p<|Xv p d)) A) uD))(O:QE X E o fo):QE X E e (EM fo):=PE.weak (h O) λZ H Q P=>by
 let(B F R,r,n):=P;rw[jg B F R (r,(Res.need_bind n).mono (λd S v m C u T=>?_) 004)];let(-z,I,q):=ji S;cases d with
 |dct ks ds=>
  let(-w,U,y):=Jg.mp I
  split at y
  .rename_i J;obtain rfl:=Zqi y;let(Y,k2):=Tv U;let(d s,rfl,g1,g2,g3):=T;let ex:s=w.map λp=>V.int p.2:=by
    rw[k2]at g3;let:=qQ (by rwa[Zw,]);rw[this,Zw];rfl
   let hd:m d=!(.dK<|yj w):=by rw[g1,Y,ex,<-IX]
   let g:=u.fh _ _ hd;rw[(.inr<|.inr<|.inl (9,.inl (_,g)),d,_,9,9,g,λc j=>jg c d w (9,JO,(Wv j<|Xv c d) _ _ g,J.1,J.2,λl L fr nd hl=>?_))];let M:Ext m C m (upd C c<|Xv c d):=.keep u.fh j _;rw[q _ _ _ (u.trans<|M.trans<|vm M.fh fr) ?_];let(l' ys,e',g4,g5):=yy.mp (hl m);rw[jo.mpr (l',ys,e',.of g4,kn.mpr g5)]
  .rw[J7 y]
 |_=>rw[J7 I]
end
section
variable   {K:f'}
def Ld:FnOk P w K b a yL k f c e (qJ K λ_=>.no):=(λ_ _ _ _=>j4 λ_ _=>j8 λ_ _ n=>n.elim,λ_ _ _ _ _ _ _ _ _ _ _ _ _=>j4 λ_ _=>j8 λ_ _ n=>n.elim)
end
section
variable    {a b o i e f tg:Expr}{fa fb fo fi fv:FE}
def x9(c:Bool):D->YD
 |.non=>!(.bl<|not c)
 |_=>! .bl c
def EN:D->Bool
 |.non=>6
 |_=>7
def Le{K:f'}   (h:jf K H d v):decide (v=.non)=EN d:=by
 cases d with
 |non=>rw[jD.mp h,];rfl
 |bl b=>rw[jt.mp h,];rfl
 |int b=>rw[jd.mp h,];rfl
 |str b=>rw[j1.mp h,];rfl
 |ty b=>rw[xP.mp h,];rfl
 |scr b=>let(a,rfl,_):=qK.mp h;rfl
 |tup b=>let(a _,rfl,_):=js.mp h;rfl
 |lst b=>let(a _,rfl,_):=jo.mp h;rfl
 |dct b c=>let(a _,rfl,_):=jS.mp h;rfl
 |ins b c d=>let(a _ _ _,rfl,_):=jM.mp h;rfl
 |exc b=>let(a _,rfl,_):=xE.mp h;rfl
 |exr b c=>let(a _ _,rfl,_):=xD.mp h;rfl
 |ucl b=>let(a,rfl,_):=xC.mp h;rfl
 |adr b=>rw[jE.mp h,];rfl
 |dcf b c=>let(a _ _,rfl,_):=qM.mp h;rfl
 |pin b c=>rw[(qL.mp h).1,];rfl
def Tz{K:f'}   (h:tD K E (jZ (x9 7) fa) Z H Q):kJ (tD K E fa) Z H Q:=by
 let(B F g,r,n):=h;rw[jg B F g (r,(Res.need_bind n).mono (λx j v l c m p=>?_) 004)];show Q (V.bl<|decide<|v=V.non) c;rw[Le p,];cases x<;>rw[j _ l c m<|jt.mpr 9]
def Lf{K:f'}   (h:tD K E (jZ (x9 6) fa) Z H Q):G1 (tD K E fa) Z H Q:=by
 let(B F g,r,n):=h;rw[jg B F g (r,(Res.need_bind n).mono (λx j v l c m p=>?_) 004)];show Q (V.bl<|not<|decide<|v=V.non) c;rw[Le p,];cases x<;>rw[j _ l c m<|jt.mpr 9]
def T3 (g:QE X E a fa):QE X E (.Compare a [.IsNot] [.Constant .none j c] l) (jZ (x9 6) fa):=PE.weak (Ps<|G2 g) λ_ _ _ h=>Lf h
def C5 (g:QE X E a fa):QT X E (.Compare a [.Is] [.Constant .none j c] l) (J9<|jZ (x9 7) fa):=PT.weak (BG<|Pr g) λ_ _ _ h=>Tz<|Xw h
def Lg (g:QE X E a fa):QT X E (.Compare a [.IsNot] [.Constant .none j c] l) (J9<|jZ (x9 6) fa):=PT.weak (BG<|G2 g) λ_ _ _ h=>Lf<|Xw h
def X5(i:5)(fb:FE):FE:=λc=>match c[i]? with
 |some (some<|.own _ d)=>(fb c).bind λy=>.ofO<|ju d y
 |_=>.no
def Lh{i:5}(R:X.A.units+1<cLine)(M:PE X a (yH i))(N:QE X E b fb)(S:A1 b)(u:ve b):QE X E (.Subscript a b T) (X5 i fb):=
 PE.weak (PE.or (DV R M N u)<|BO rP M N S) λZ H Q U=>by
  let(B F v,r,n):=U;unfold X5 at n
  split at n
  .rename_i p d Y;let(-l,A,h2,h3,C,_):=r.own Y;cases d with
   |lst O=>
    let(-P,G,I):=C;rw[.inr (.ref l,A,B,F,v,r,(Res.need_bind n).mono (λy j w m s g t=>?_) 004)];let(-z,h,q):=ji j;cases y with
    |int k=>
     let(-x,J,L):=Cy I h;rw[jW l P k x (9,jd.mp t,qP.of<|g.hh _ _ G,J,q _ m s g<|jf.same g.ff _ _ L)]
    |_=>rw[J7 h]
   |dct ks O=>
    let(-P,G,I,g3):=C;rw[.inl (.ref l,A,B,F,v,r,(Res.need_bind n).mono (λy j w m s g t=>?_) 004)];let(-z,h,q):=ji j;let(-k,hk,h):=Jg.mp h;let(-x,J,L):=(ZQ k I g3).1 z h;rw[(l,x,9,?_,q x m s g<|jf.same g.ff _ _ L)];rw[Y1 hk t,<-J];rw[yc.k<|g.hh _ _ G]
   |ins c fs O=>
    rw[.inr (.ref l,A,B,F,v,r,(Res.need_bind n).mono (λy j w m s g t=>?_) 004)];let(-z,h,q):=ji j;cases y<;>rw[J7 h]
   |_=>rw[C.elim]
  .rw[n.elim]
end
end L2.DL
namespace L2
section
variable     {wi:TI}
def Li      (a:X.N.Nodup)(c:X.N[z]?=!y)(f:zP X.env.scope y)(g:X.fn y=6\/X.env.scope.names.lookup y=!.local):
 A5 X Y Z (λv A=>B.nx (Z.set z<|!v) A) (! assign (.Name y P) X.env) λ_ E=>SP X Y B .next E:=λC D m h r F G Q sz H I k=>by
 let(R w,x,i,J,L):=k h.heap (9,002);let(j l n,M,q,s):=id F;let N:Inv X (Y++[%[C|j]]) Z w {h with heap:=h.heap}:=x.pins_of λp hp=>by
  obtain hp|hp:=Jb.mp hp
  .rw[x.pin p ()]
  ext
 rw[wpAny_assign_Name<|BF N a c f i (λS t=>(m,jg j l n ((t.pin %[C|j] ()).1,q,s),λT u=>(_,w,(t.pins_of λp hp=>t.pin p ()).turned (λb o O e=>(u.2 b O).trans e) J G (.inr sz) H I,L))) g]
def Lj   (i:swapsWith (.ListComp c [(j,b,[],0)] a l) (! .Name y u) f.line X.env=pure 6)(m:X.N.Nodup)(n:X.N[v]?=!y)(o:zP X.env.scope y)(p:X.fn y=6\/X.env.scope.names.lookup y=!.local)(N)(cap)(w:X.calm=6)(q:K9 a X.env N X.N cap=6)(z:PI X j b wi)(A:∀r C s H t,PG (JS X a N r C s H t) j g)(G:∀r C s H t,PE (JS X a N r C s H t) c B)
 (E:∀x,foldedSetIterable b X.env x=pure x:=by intro _;rfl):PS X (.Assign [.Name y u] (.ListComp c [(j,b,[],0)] a l) f) (wM (YZ cap wi g B)<|WP v):=by
 intro Y s Z H J I h;rw[exec_Assign_Name_used _ _ _ _ i,];rw[Za<|wpAny_standAt<|Za<|Za<|Zc (Hl N cap w q z A () E I h<|Li m n o p) (λ_ L F=>Zb<|Zb F) λ_ _ e=>e]
end
end L2
namespace L2.DL
def Lk{K:f'}   (w:∀Z H Q,kf K E b Z H Q->c Z H Q)   (h:ke K E m (jA i b) T Z H):wM c (WP i) T Z H:=w _ _ _<|by
 let(B F e,r,n):=h;rw[jg B F e (r,(Res.need_bind n).mono (λd f=>zu.new λv g j a l=>f _ g j a.ff<|(r.step a).setVal l) λ_ _ q=>q.ext r.ext)]
def T4{K:f'}   (w:∀Z H Q,kf K E b Z H Q->c Z H Q)   (h:ke K E m (qX i b) T Z H):wM c (WP i) T Z H:=w _ _ _<|by
 let(B F e,r,n):=h;rw[jg B F e (r,(Res.need_bind n).mono (λd f l g s a t u v=>f _ g s a.ff<|(r.step a).setOwn (Qe r.ext.hh t) u v λj p z x A=>?_) λ_ _ q=>q.ext r.ext)];let(-C,G,_,_,y,_):=r.own x;let(o,I):=y.has
 ext
def T5(N:Yi)(cap:List (02 5))(g:X.N.Nodup)(i:X.N[w]?=!y)(j:zP X.env.scope y)(z:X.calm=6)(l:K9 a X.env N X.N cap=6)(A:QI X E n b B)
 (F:∀o C s H p,QG (JS X a N o C s H p) n t)(G:∀o C s H p,QE (JS X a N o C s H p) E c f)(r:swapsWith (.ListComp c [(n,b,[],0)] a u) (! .Name y I) e.line X.env=pure 6:=by rfl)
 (v:X.fn y=6\/X.env.scope.names.lookup y=!.local:=by trivial)(J:∀x,foldedSetIterable b X.env x=pure x:=by intro _;rfl):
 QS X E m (.Assign [.Name y I] (.ListComp c [(n,b,[],0)] a u) e) (qX w<|Q6 cap B t f):=PS.weak (Lj r g i j v N cap z l A F G J) λT Z H h=>T4 (λ_ _ _ q=>E5 q) h
def Ll(N)(cap)(n:X.N.Nodup)(o:X.N[A]?=!y)(p:zP X.env.scope y)(B:X.calm=6)(r:K9 a X.env N X.N cap=6)(F:QI X E u b G)
 (J:∀g C s H i,QG (JS X a N g C s H i) u t)(L:∀g C s H i,QT (JS X a N g C s H i) E c M)(O:∀g C s H i,QE (JS X a N g C s H i) E j f)(v:swapsWith (.ListComp j [(u,b,[c],0)] a w) (! .Name y P) l.line X.env=pure 6:=by rfl)
 (z:X.fn y=6\/X.env.scope.names.lookup y=!.local:=by trivial)(Q:∀x,foldedSetIterable b X.env x=pure x:=by intro _;rfl):
 QS X E m (.Assign [.Name y P] (.ListComp j [(u,b,[c],0)] a w) l) (jA A<|X4 cap G t M f):=PS.weak (by
  intro Y s Z H S I h;rw[exec_Assign_Name_used _ _ _ _ v,];rw[Za<|wpAny_standAt<|Za<|Za<|Zc (Ik N cap B r F J L O Q I h<|Li n o p z) (λ_ U R=>Zb<|Zb R) λ_ _ e=>e]) λT Z H h=>Lk (λ_ _ _ q=>Lb q) h
noncomputable def Lm:02 (02 SV)->Res D
 |some (~~~d)=>.ok d
 |_=>.no
@[simp]def zwz(d):Lm (!~~~d)=.ok d:=rfl
@[simp]def tT(i)(a):ja i a=Lm a[i]?:=rfl
@[simp]def ev_C(d)(a):dC d a=.ok d:=rfl
@[simp]def cK(g)(b c)(a):jh g b c a=(b a).bind λx=>(c a).bind λy=>.ofO<|g x y:=rfl
@[simp]def cI(g)(a)(b):jZ g a b=(a b).bind λx=>.ofO<|g x:=rfl
def cO:D->Res Bool
 |.bl b=>.ok b
 |_=>.no
@[simp]def d8(b):cO (.bl b)=.ok b:=rfl
@[simp]def rz(a)(b):J9 a b=(a b).bind cO:=by
 rfl
@[simp]def rb(f)(a):Kj f a=(f a).bind λb=>.ok<|not b:=rfl
@[simp]def r8(f g)(a):Kr f g a=(f a).bind λb=>if b then g a else .ok 7:=rfl
@[simp]def dg(f g)(a):xN f g a=(f a).bind λb=>if b then .ok 6 else g a:=rfl
@[simp]def r0(c e)(a):ZJ c e a=(J9 c a).bind λb=>if b then e a else .ok (.bl 7):=rfl
@[simp]def nZ(a)(c):Cm a c=(J9 a c).bind λb=>.ok<|.bl<|not b:=rfl
@[simp]def dh(a):jb a=.ok []:=rfl
@[simp]def rp(b)(c)(a):J2 b c a=(b a).bind λx=>(c a).bind λe=>.ok<|x::e:=rfl
@[simp]def di(a)(b):qI a b=(a b).bind λc=>if ⇑c<=1000 then .ok (.lst c)else .no:=rfl
@[simp]def tW(a)(b):xi a b=(a b).bind λc=>if ⇑c<=1000 then .ok (.tup c)else .no:=rfl
@[simp]def rx(a)(b)(c):JB a b c=(b c).bind a:=rfl
@[simp]def du(g)(a)(b):jj g a b=(a b).bind λc=>.ofO<|g c:=rfl
@[simp]def rH (a:α):(Res.ok a).bare=.ok a:=rfl
@[simp]def tY(is)(f)(a):yB is f a=(f<|qp is a).bare.bind λd=>if Um d then .ok d else .no:=rfl
@[simp]def nW(a:Yh)(f:FT)(b:SD):E1 a f b=(f<|qp a b).bare:=rfl
@[simp]def kZ(i):Um (.int i)=6:=rfl
@[simp]def mW(i):Um (.bl i)=6:=rfl
@[simp]def kY(i:Str):Um (.str i)=6:=rfl
@[simp]def hX(a):qp [] a=a:=rfl
noncomputable def frz1(i:5)(a:SD):02 (02 SV)->SD
 |some (some<|.own _ d)=>a.set i (~~~d)
 |_=>a
@[simp]def hY(i)(a)(p)(d):frz1 i a (! ! .own p d)=a.set i (~~~d):=rfl
@[simp]def zxw(i)(is)(a):qp (i::is) a=qp is (frz1 i a a[i]?):=by
 rfl
def ye(g:FS):Out->Res Out
 |.next a=>g a
 |o=>.ok o
@[simp]def zxL(g)(a):ye g (.next a)=g a:=rfl
@[simp]def kU(g)(d):ye g (.ret d)=.ok (.ret d):=rfl
@[simp]def kW(g)(d):ye g (.brk d)=.ok (.brk d):=rfl
@[simp]def T6(a b)(c):jp a b c=(a c).bind (ye b):=by
 rfl
@[simp]def rd(a):Qa a=.ok (.next a):=rfl
@[simp]def dq(a):uF a=.ok (.brk a):=rfl
@[simp]def tZ(i)(f)(a):jA i f a=(f a).bind λd=>.ok<|.next<|a.set i<|~~~d:=rfl
@[simp]def df(i)(f)(a):qX i f a=(f a).bind λd=>.ok<|.next<|a.set i<|! .own 7 d:=rfl
@[simp]def de(f)(a):j0 f a=(f a).bind λd=>.ok<|.ret d:=rfl
noncomputable def uJ:02 (02 SV)->Res D
 |some (some<|.own _ d)=>.ok d
 |_=>.no
@[simp]def gA(p)(d):uJ (! ! .own p d)=.ok d:=rfl
@[simp]def zx9(i)(a):KO i a=(uJ a[i]?).bind λd=>.ok<|.ret d:=by
 ext KO
 cases(a[i]?)with
 |none=>rfl
 |some o=>
  cases(o)with
  |none=>rfl
  |some v=>cases(v)<;>rfl
@[simp]def dj(c)(e f)(a):xx c e f a=(c a).bind λb=>if b then e a else f a:=rfl
noncomputable def wT:02 (02 SV)->Res YC
 |some (some<|.own false<|.lst a)=>.ok a
 |_=>.no
@[simp]def gB(a):wT (! !(.own 7<|.lst a))=.ok a:=rfl
@[simp]def zx3(i)(f)(a):Wy i f a=(wT a[i]?).bind λb=>(f a).bind λd=>if ⇑b<00 then .ok (.next<|a.set i<|!(.own 7<|.lst<|b++[d]))else .no:=by
 ext Wy
 cases(a[i]?)with
 |none=>rfl
 |some o=>
  cases(o)with
  |none=>rfl
  |some v=>
   cases(v)with
   |val d=>rfl
   |own p d=>cases(p)<;>cases d<;>rfl
def Ln:D->Res YC
 |.lst a=>.ok a
 |_=>.no
@[simp]def zxG(a):Ln (.lst a)=.ok a:=rfl
@[simp]def zx7(i)(f)(a):ZM i f a=(wT a[i]?).bind λb=>(f a).bind λd=>(Ln d).bind λe=>if ⇑b+⇑e<=00 then .ok (.next<|a.set i<|!(.own 7<|.lst<|b++e))else .no:=by
 ext ZM
 cases(a[i]?)with
 |none=>rfl
 |some o=>
  cases(o)with
  |none=>rfl
  |some v=>
   cases(v)with
   |val d=>rfl
   |own p d=>
    cases p with
    |true=>cases d<;>rfl
    |false=>
     cases d with
     |lst b=>
      cases(f a)with
      |ok x=>cases x<;>rfl
      |ex c fs=>rfl
      |no=>rfl
     |_=>rfl
noncomputable def gD:02 (02 SV)->Res (List jT×YC)
 |some (some<|.own false<|.dct a b)=>.ok %[a|b]
 |_=>.no
@[simp]def gC(a)(b):gD (! !(.own 7<|.dct a b))=.ok %[a|b]:=rfl
@[simp]def rn(i)(fk b)(a):AQ i fk b a=(b a).bind λv=>(gD a[i]?).bind λo=>(fk a).bind λk=>(Res.ofO<|Kg k).bind λq=>if ⇑o.1<00 then .ok (.next<|a.set i<|!(.own 7<|.dct (WZ o.1 q)<|X1 o.1 o.2 q v))else .no:=by
 ext AQ
 cases(b a)with
 |ok v=>
  cases(a[i]?)with
  |none=>rfl
  |some o=>
   cases(o)with
   |none=>rfl
   |some w=>
    cases(w)with
    |val d=>rfl
    |own p d=>
     cases(p)with
     |true=>cases d<;>rfl
     |false=>
      cases d with
      |dct e f=>
       cases(fk a)with
       |ok k=>show(match Kg k with|some q=>_|none=>_)=(Res.ofO<|Kg k).bind _;cases(Kg k)<;>rfl
       |ex c fs=>rfl
       |no=>rfl
      |_=>rfl
 |ex c fs=>rfl
 |no=>rfl
def yg:Out->Res D
 |.ret d=>.ok d
 |.next _=>.ok .non
 |_=>.no
@[simp]def gF(d):yg (.ret d)=.ok d:=rfl
def EO(n ar)(g)(a)(h:⇑a=ar):jJ n ar g a=(g<|Qt n a).bind yg:=by
 ext jJ;rw[Zd h,];rfl
def zz:Out->Res D
 |.ret d=>.ok d
 |_=>.no
@[simp]def gG(d):zz (.ret d)=.ok d:=rfl
def Lo(n ar)(g)(a)(h:⇑a=ar):q9 n ar g a=(g<|Qt n a).bind zz:=by
 ext q9;rw[Zd h,];rfl
@[simp]def sN(n)(g)(a):jJ n 1 g [a]=(g<|~~~a::List.replicate (n-1) 8).bind yg:=EO n 1 g [a] 9
@[simp]def sM(n)(g)(a b):jJ n 2 g [a,b]=(g<|~~~a::~~~b::List.replicate (n-2) 8).bind yg:=rfl
@[simp]def sL(n)(g)(a b c):jJ n 03 g [a,b,c]=(g<|~~~a::~~~b::~~~c::List.replicate (n-03) 8).bind yg:=rfl
@[simp]def T7(n:5)(g:FS)(a b c d:D):jJ n 04 g [a,b,c,d]=(g<|~~~a::~~~b::~~~c::~~~d::List.replicate (n-04) 8).bind yg:=EO n 04 g [a,b,c,d] 9
@[simp]def sJ(n)(g)(a):q9 n 1 g [a]=(g<|~~~a::List.replicate (n-1) 8).bind zz:=Lo n 1 g [a] 9
@[simp]def sI(n)(g)(a b):q9 n 2 g [a,b]=(g<|~~~a::~~~b::List.replicate (n-2) 8).bind zz:=rfl
@[simp]def sH(n)(g)(a b c):q9 n 03 g [a,b,c]=(g<|~~~a::~~~b::~~~c::List.replicate (n-03) 8).bind zz:=rfl
@[simp]def hW(i j):j6 (.int i) (.int j)=!(.int<|i+j):=rfl
@[simp]def fN(i j):xW (.int i) (.int j)=!(.int<|i-j):=rfl
@[simp]def fR(i):qc (.int i)=!(.int<|-i):=rfl
@[simp]def nu(i j):ki (.int i) (.int j)=!(.bl<|decide<|i<j):=rfl
@[simp]def n0(i j:3):tH (.int i) (.int j)=!(.bl<|decide<|i<=j):=rfl
@[simp]def nK(i j):vw (.int i) (.int j)=!(.bl<|decide<|j<i):=rfl
@[simp]def nL(i j):nM (.int i) (.int j)=!(.bl<|decide<|j<=i):=rfl
@[simp]def hV(i j):xI (.int i) (.int j)=!(.bl<|decide<|i=j):=SS i j
@[simp]def fS(i j):zr (.int i) (.int j)=!(.bl<|not<|decide<|i=j):=SU i j
@[simp]def tG(a b:Bool):zr (.bl a) (.bl b)=!(.bl<|a !=b):=rfl
def X6 (h:Xz i j=6):xf (.int i) (.int j)=!(.int<|i*j):=by
 show(if Xz i j then _ else _)=_
 ext
def C6 (a:-18446744073709551616<j)(b:j<18446744073709551616):Xz i j=6:=by
 ext Xz;rw[UU,UU,UR,UR];lia
def C7 (a:-18446744073709551616<i)(b:i<18446744073709551616):Xz i j=6:=by
 ext Xz;rw[UU,UU,UR,UR];lia
@[simp]def AS (h:0<j):jP (.int i) (.int j)=!(.int<|i%j):=by
 show(if UP 0 j.toNat then _ else _)=_;rw[Zd (by rw[UR,];lia),]
@[simp]def Lp (h:0<j)(a:j<1073741824):Kk (.int i) (.int j)=!(.int<|i/j):=by
 show(if UP 0 j.toNat&&UP j.toNat 1073741824 then _ else _)=_;rw[Zd (by rw[Ud,UR,UR];lia),]
@[simp]def AT(a):jy [.lst a]=! .int ⇑a:=rfl
@[simp]def fU(a:YC):jy [.tup a]=! .int ⇑a:=rfl
@[simp]def fV(a):jy [.scr a]=! .int ⇑a:=rfl
@[simp]theorem T8(i j):ZR [.int i,.int j]=!(.int<|if j>i then j else i):=rfl
@[simp]def T9(i j):Y2 [.int i,.int j]=!(.int<|if j<i then j else i):=rfl
@[simp]def zyx(a):Q2 [.lst a]=! .lst a:=rfl
@[simp]def zwm(a):ZS [.lst a]=! .tup a:=rfl
@[simp]def nH(a)(k):ju (.lst a) (.int k)=qa a k:=rfl
@[simp]def nA(a:YC)(k:3):ju (.tup a) (.int k)=qa a k:=rfl
@[simp]def nE(a)(k):ju (.scr a) (.int k)=(qa a k).map .int:=rfl
@[simp]def nI(a)(b)(k):ju (.dct a b) (.int k)=jO a b (.inl k):=rfl
@[simp]def nJ(a)(b)(c)(k):yE a (.int k) (.dct b c)=!(.bl<|if a then not<|(jO b c<|.inl k).isSome else(jO b c<|.inl k).isSome):=rfl
@[simp]def zxW(k):Kg (.int k)=! .inl k:=rfl
@[simp]def EQ (h:⇑r<=100)(o:j9 r):Y3 [j3 r]=! yF r:=by
 show(Wn<|j3 r).bind _=_;rw[IC,];show(if ⇑r<=100 then !(yF<|ZT r)else 8)=_;rw[Zd h,Tk o]
def ER (h:ns ≠[]):X2 [.lst (ns.map .int)]=!(.int<|qN ns):=by
 simp_all[X2,IW]
def ES (h:ns ≠[]):X3 [.lst (ns.map .int)]=!(.int<|qV ns):=by
 simp_all[X3,IW]
theorem AU:∀{r:J0},j9 r->∀t:3,jO (r.map λp=>.inl p.1) (r.map λp=>.int p.2) (.inl t)=(JA r t).map .int
 |[],_,t=>9
 |p::r,o,t=>by
  let a:j9 r:=by simp_all[j9]
  let n:p.1∉r.map (·.1):=by simp_all[j9]
  rw[Zl,Zl,E9,Ch];cases h:p.1=t
  .induction q:JA r t with
   |none=>ext
   |some w=>rw[Zn (Ja.mpr (%[t|w],Q5 q,h.symm)) n]
  .rw[Ze λz=>h<|by injection z,AU a t]
   grind
def Lq:D->Res (List jT×YC)
 |.dct a b=>.ok %[a|b]
 |_=>.no
@[simp]def zyI(a)(b):Lq (.dct a b)=.ok %[a|b]:=rfl
@[simp]def rj(b fk fx)(a):C4 b fk fx a=(b a).bind λd=>(Lq d).bind λo=>(fk a).bind λk=>(fx a).bind λx=>.ofO<|(Kg k).map λq=>(jO o.1 o.2 q).getD x:=by
 ext C4
 cases(b a)with
 |ok d=>cases d<;>rfl
 |ex c fs=>rfl
 |no=>rfl
def TB(r:J0)(t:3):zA (.inl t) (r.map λp=>.inl p.1)=r.any λp=>decide<|p.1=t:=by
 ext zA;rw[List.any_map,]
 congr 1
 funext p
 rw[Ip]
def TC(r)(t w):D.dct (WZ (r.map λp=>.inl p.1)<|.inl t) (X1 (r.map λp=>.inl p.1) (r.map λp=>.int p.2) (.inl t)<|.int w)=yF (xr r t w):=by
 ext WZ X1 yF xr;rw[TB,];let a:∀r:J0,wn (r.map λp=>.inl p.1) (r.map λp=>.int p.2) (.inl t) (.int w)=(r.map λp=>if p.1=t then%[p.1|w]else p).map λp=>D.int p.2:=by
  intro r
  cases(r)with
  |nil=>rfl
  |cons p r b=>
   rw[Zl,Zl,Zl,Zl,II,b];cases h:p.1=t
   .rw[Zd (by rw[h,]),Zd h]
   .rw[Ze λz=>h<|by injection z,Ze h]
 let c:∀r:J0,(r.map λp=>if p.1=t then%[p.1|w]else p).map (λp=>(Uh p.1:jT))=r.map λp=>.inl p.1:=by
  intro r;rw[Zw,]
  congr 1
  funext p
  show(Uh (if p.1=t then%[p.1|w]else p).1:jT)=_;cases h:p.1=t
  .rw[Zd h,]
  .rw[Ze h,]
 cases q:r.any λp=>decide<|p.1=t=6
 .rw[Zd q,Zd q,Zd q,a,c]
 .rw[Ze q,Ze q,Ze q,Uc,Uc];rfl
@[simp]def zup(a)(b):EM a b=(a b).bind λd=>.ofO<|EL d:=rfl
def TD (h:r ≠[])(a:⇑r<1000):EL (yF r)=!(.lst<|(Qs qo r).map qy):=by
 show(AR _ _).bind _=_;rw[Tw,];rw[Zd (h,a)]
@[simp]def bO(f)(a):iS f a=(f a).bind λd=>.ofO<|Xa d:=rfl
@[simp]def zx1(a):Xa (.lst a)=!a:=rfl
@[simp]def zxh(a):Xa (.tup a)=!a:=rfl
def W2:YC->Res YC
 |[.int j]=>if Wo j then .ok (Qn 0 j.toNat)else .no
 |_=>.no
@[simp]def dk(a)(b):wX a b=(a b).bind W2:=by
 rfl
def X7 (a:-1000000000<=j)(b:j<=1000000000):W2 [.int j]=.ok (Qn 0 j.toNat):=Zd<|EJ a b
def C8{lo:3}{n i:5} (h:(Qn lo n)[i]?=!x):x=.int (lo+i)/\i<n:=by
 unfold Qn at h;rw[Zv]at h;cases a:i<n
 .rw[Vu a]at h;rw[((Zqi h).symm,a)]
 .rw[V7 (by rw[ZB,];lia)]at h;rw[J7 h]
def ZU(lo)(n):⇑(Qn lo n)=n:=by ext Qn;simp
def xg(c:Tg)(b:FS)(e:YC)(a:SD):Res Out:=zj (λx a=>(JQ c x a).bind b) e a
@[simp]def TF(c)(e)(b)(a):qS c e b a=(c a).bind λf=>xg e b f a:=rfl
@[simp]def hZ(c:Tg)(b:FS)(a:SD):xg c b [] a=.ok (.next a):=rfl
@[simp]def zwP(i)(d)(a):JQ (.one i) d a=.ok (a.set i<|~~~d):=rfl
@[simp]def zxU(i j)(a b)(c):JQ (.tup [i,j]) (.tup [a,b]) c=.ok ((c.set i<|~~~a).set j<|~~~b):=rfl
@[simp]def zwq(i j)(p)(a):JQ (.tup [i,j]) (qy p) a=.ok ((a.set i<|~~~.int p.1).set j<|~~~.int p.2):=rfl
def Xc {b:FS}  (P:5->SD->4)(n:P 0 sd)(f:∀i(x:D)sd,ds[i]?=!x->P i sd->∃a,(JQ tg x sd).bind b=.ok (.next a)/\P (i+1) a):∃a,xg tg b ds sd=.ok (.next a)/\P ⇑ds a:=by
 let g:∀k i sd,⇑ds-i=k->i<=⇑ds->P i sd->∃a,xg tg b (ds.drop i) sd=.ok (.next a)/\P ⇑ds a:=by
  intro k
  cases(k)with
  |zero=>
   intro i sd e h p;let:i=⇑ds:=()
   ext
  |succ k j=>
   intro i sd e h p;let c:i<⇑ds:=()
   rw[Uo c,];let(-a,o,l):=f i ds[i] sd () p;have(m,q,r):=j (i+1) a () c l
   simp_all[xg,zj]
 grind
def ZV {b:FS}  (R:Res Out->4)(P:5->SD->4)(n:P 0 c)(o:∀c,P ⇑ds c->R (.ok<|.next c))
 (j:∀i x c,ds[i]?=!x->P i c->(∃a,((JQ tg x c).bind b=.ok (.next a)\/(JQ tg x c).bind b=.ok (.cont a))/\P (i+1) a)\/(∃a,(JQ tg x c).bind b=.ok (.brk a)/\R (.ok<|.next a))\/∃d,(JQ tg x c).bind b=.ok (.ret d)/\R (.ok<|.ret d)):R (xg tg b ds c):=by
 let l:∀k i c,⇑ds-i=k->i<=⇑ds->P i c->R (xg tg b (ds.drop i) c):=by
  intro k
  cases(k)with
  |zero=>
   intro i c e m p;let:i=⇑ds:=()
   ext
  |succ k h=>
   intro i c e m p;let f:i<⇑ds:=()
   rw[Uo f,];ext xg zj;obtain⟨a,h1|h1,g⟩|⟨a,h1,g⟩|⟨d,h1,g⟩:=j i ds[i] c () p
   .rw[h1,];rw[h (i+1) a () f g]
   .rw[h1,];rw[h (i+1) a () f g]
   .rwa[h1,]
   .rwa[h1,]
 grind
def Lr{α β γ:Type}{f:α->Res β}{k:γ->α}{g:γ->β}{a:List γ}(h:∀x∈a,f (k x)=.ok (g x)):yR f (a.map k)=.ok (a.map g):=by
 cases(a)with
 |nil=>rfl
 |cons x a b=>
  simp_all[yR]
def qg(a:Tg)(f:FE)(c:SD)(b:YC):Res YC:=yR (λx=>(JQ a x c).bind f) b
@[simp]def rq(cap)(c)(b)(f)(a):Q6 cap c b f a=(c a).bind λe=>if WY (qr cap a) b=6/\⇑e<00 then(qg b f (qr cap a) e).bind λg=>.ok<|.lst g else .no:=rfl
noncomputable def mi:02 (02 SV)->02 SV
 |some (~~~d)=>~~~d
 |_=>8
@[simp]def mh(d):mi (!~~~d)= ~~~d:=rfl
@[simp]def mj(a):qr [] a=[]:=rfl
@[simp]def d7(cap)(a):qr (8::cap) a=8::qr cap a:=rfl
@[simp]def dz(j)(cap)(a):qr (some j::cap) a=mi a[j]?::qr cap a:=rfl
@[simp]def zwl(a)(i):WY a (.one i)=WX a i:=rfl
@[simp]def zwo(a)(is):WY a (.tup is)=is.all (WX a):=rfl
@[simp]def gY(a:SD):WX (8::a) 0=6:=rfl
@[simp]def gX(o)(a:SD)(i):WX (o::a) (i+1)=WX a i:=rfl
def K0{α:Type} {f:FE} {k:α->D}{g:α->D}{a:List α}(h:∀x∈a,(JQ b (k x) c).bind f=.ok (g x)):qg b f c (a.map k)=.ok (a.map g):=Lr h
def C9 {f:FE} {lo:3}{n:5} (h:∀i,i<n->(JQ a (.int<|lo+i) c).bind f=.ok (g i)):qg a f c (Qn lo n)=.ok ((List.range n).map g):=Lr λi b=>h i<|VR.mp b
@[simp]def zxo(cap)(e)(b)(c)(f)(a):X4 cap e b c f a=(e a).bind λg=>if WY (qr cap a) b=6/\⇑g<00 then(W1 b c f (qr cap a) g).bind λh=>.ok<|.lst h else .no:=rfl
def CA{α:Type}    {k:α->D}{s:α->SD}{p:α->Bool}{g:α->D}{a:List α}(h:∀x∈a,JQ b (k x) e=.ok (s x))(i:∀x∈a,c (s x)=.ok (p x))(j:∀x∈a,p x=6->f (s x)=.ok (g x)):
 W1 b c f e (a.map k)=.ok ((a.filter p).map g):=by
 cases(a)with
 |nil=>rfl
 |cons x a l=>
  grind[W1,List.map_cons,List.filter_cons,Res.bind_ok]
def Qb (h:n<=1000):n<00:=Hh h
@[simp]def ztv(i):qd [.int i,.ty "bool"]=! .bl 7:=rfl
@[simp]def zv4(i):qd [.int i,.ty "int"]=! .bl 6:=rfl
@[simp]def zu1(i:3):qd [.int i,.ty 013]=! .bl 7:=rfl
@[simp]def zru(i:3):qd [.int i,.ty "tuple"]=! .bl 7:=rfl
@[simp]def ztK(x:Str):qd [.str x,.ty "bool"]=! .bl 7:=rfl
@[simp]def ztS(x:Str):qd [.str x,.ty 013]=! .bl 7:=rfl
@[simp]def zrD(x:Str):qd [.str x,.ty "tuple"]=! .bl 7:=rfl
@[simp]def zua(a:YC):qd [.lst a,.ty 013]=! .bl 6:=rfl
@[simp]def zse(a:YC):qd [.lst a,.ty "tuple"]=! .bl 7:=rfl
@[simp]def ztL(a:YC):qd [.tup a,.ty 013]=! .bl 7:=rfl
@[simp]def zr3(a:YC):qd [.tup a,.ty "tuple"]=! .bl 6:=rfl
noncomputable def Q1{α:Type}(a:List α)(lo b c:02 3):List α:=(sliceRange (sliceBounds lo b c ⇑a).1 (sliceBounds lo b c ⇑a).2.1 (sliceBounds lo b c ⇑a).2.2).filterMap (a[·]?)
def Ls(a)(lo b c):slicePick a.toArray lo b c=(Q1 a lo b c).toArray:=by
 simp_all[slicePick,Q1]
def Lu (f:α->β)(a)(lo b c):Q1 (a.map f) lo b c=(Q1 a lo b c).map f:=by
 grind[Q1,Zql,List.filterMap_cons,List.getElem?_map]
theorem Lv (a:List α)(lo b c):⇑(Q1 a lo b c)<=⇑a:=by
 let h:=slicePick_size_le (a.map λ_=>Value.none).toArray lo b c
 simp_all[Ls,Lu]
section
variable  {E:XK}  {a b o i e f tg:Expr}{fa fb fo fi fv fe:FE}   {lo hi st:02 Expr}
abbrev FO:=SD->Res (02 3)
def tDO(K:f')(E:XK)(f:FO):TO:=λZ H Q=>∃B F c,RS K B F H c Z/\(f c).need (λo=>∀h g,Ext F H h g->Q o g) (XW K E F H)
def Kl:FO:=λ_=>.ok 8
def Q8(f:FE):FO:=λc=>(f c).bind λd=>match d with
 |.int i=>.ok !i
 |_=>.no
abbrev QO(X:Cx)(E:XK)(e:02 Expr)(f:FO):4:=PO X e<|tDO X.K E f
def PO.weak{e:02 Expr} (h:PO X e t)(w:∀Z H Q,c Z H Q->t Z H Q):PO X e c:=λY s Z H Q I q=>h Y s Z H Q I<|w _ _ _ q
def Xd:QO X E 8 Kl:=PO.weak (λY s Z H Q I h=>Zb (8,H,I,.none,h)) λZ H Q=>qf λB F c=>j5 λr n=>n F H<|.refl r.ext.fh
def Xe(h:QE X E e fe):QO X E (!e) (Q8 fe):=PO.weak (Re h) λZ H Q g=>by
 let(B F j,r,n):=g;rw[jg B F j (r,(Res.need_bind n).mono (λd c v l m p s=>?_) 004)];cases d with
 |int i=>rw[(i,jd.mp s,c l m p)]
 |_=>rw[c.elim]
def sO(K:f'):V->02 3->02 3->02 3->Hp->VK->4:=λx lo hi st H Q=>∃a c,x=016/\qP K H a c/\st≠!0/\∀p,H p=8->Q (.ref p) (upd H p<|.lst<|Q1 c lo hi st)
def sg(r:V->02 3->02 3->02 3->Hp->VK->4)(g:TE)(h th j:TO):TE:=λZ H Q=>g Z H λx m=>h Z m λl n=>th Z n λu p=>j Z p λc q=>r x l u c q Q
def TH  (F:PE X e G)(J:PO X lo L)(n:PO X hi th)(M:PO X st N):PE X (.Subscript e (.Slice lo hi st p2) O) (sg (sO X.K) G L th N):=by
 intro Y s Z H Q I h;rw[Subscript_<|jL (F Y s Z H _ I h) λv P=>j4 λx R=>j8 λS T U=>wpAny_Slice<|jL (J Y P Z R _ S U) λy s2=>j4 λl H2=>j8 λI2 pl q2=>jL (n Y s2 Z H2 _ I2 q2) λz s3=>j4 λu H3=>j8 λI3 pu q3=>jL (M Y s3 Z H3 _ I3 q3) λA g=>j4 λc H4=>j8 λI4 ps q4=>?_];let(a p,rfl,m,h0,q):=q4;obtain rfl:=T;let t:Inv X Y Z H4 {g with heap:=g.heap.push {cls:=.type "slice",data:=.fields #[y,z,A]}}:=I4.kept λb ob q=>Zq _ q;let(-its,r,w,hz):=t.list m;let B:=⇑r
 suffices j:YE X (getItem 016<|.ref g⁻¹) (EP X Y Z Q) X.xe {g with heap:=g.heap.push {cls:=.type "slice",data:=.fields #[y,z,A]}}by
  cases(st)with
  |none=>rw[tail_any w.isList.typeIs slot_list_getitem.lookup j<|by rfl]
  |some c=>rw[tail_any w.isList.typeIs slot_list_getitem.lookup j<|by rfl]
 rw[wpAny_getItem_list_slice w.isList (Heap.IsSliceOf.new ..) pl pu ps h0 ?_ ()];rw[Ls,];rw[(.ref _,_,t.laid (o:=.lst<|Q1 p l u c) (λb ob q=>Zq _ q) (Zf _) (Zh (Lv p l u c) hz,_,0,by
  ext Q1;rw[⇑r,];generalize sliceRange _ _ _=C
  cases(C)with
  |nil=>rw[.nil]
  |cons i C ih=>
   rw[U4,U4]
   induction m:p[i]? with
   |none=>rwa[r.none_of m,]
   |some x=>
    let(-u,n,ru):=r.get m;rw[n,];rw[.cons ru ih],Zr _ 9),9,q _<|t.hok.fresh<|Zf _)]
def nt:D->02 3->02 3->02 3->YD
 |.lst c,lo,hi,st=>if st=!0 then 8 else !(.lst<|Q1 c lo hi st)
 |.scr g,lo,hi,st=>if st=!0 then 8 else !(.lst<|(Q1 g lo hi st).map .int)
 |_,_,_,_=>8
def zW(fe:FE)(j m fs:FO):FE:=λg=>(fe g).bind λd=>(j g).bind λl=>(m g).bind λh=>(fs g).bind λc=>.ofO<|nt d l h c
def ZW (R:QE X E e fe)(S:QO X E lo T)(C:QO X E hi U)(Y:QO X E st fs):QN X E (.Subscript e (.Slice lo hi st p2) pos) (zW fe T U fs):=PE.weak (TH R S C Y) λZ H Q zh=>by
 let(B F y,r,n):=zh;rw[jg B F y (r,(Res.need_bind n).mono (λd n1 v F1 H1 m L=>jg B F1 y (r.step m,(Res.need_bind n1).mono (λl n2 F2 H2 t=>jg B F2 y ((r.step m).step t,(Res.need_bind n2).mono (λh n3 F3 H3 G=>jg B F3 y (((r.step m).step t).step G,(Res.need_bind n3).mono (λc n4 M H4 w=>?_) λ_ _ q=>q.ext<|(m.trans t).trans G)) λ_ _ q=>q.ext<|m.trans t)) λ_ _ q=>q.ext m)) 004)];let(z,j,q):=ji n4;let g:=(t.trans G).trans w;let A:=m.trans g;cases d with
 |lst N=>
  let j:(if c=!0 then 8 else !(D.lst<|Q1 N l h c))=!z:=j
  split at j
  .rw[J7 j]
  .rename_i I;obtain rfl:=Zqi j;let(a O,rfl,J,h2):=L;rw[(a,O,9,((J.same g.ff).same g.fh).sq,I,λp s=>q p M _ (A.trans<|.keep w.fh s _) (Qe A.hh s) (Qe w.fh s) (_,JO,by
    let r:=jc.same g.ff _ _ h2;ext Q1;rw[⇑r,];generalize sliceRange _ _ _=P
    cases(P)with
    |nil=>rfl
    |cons i P ih=>
     rw[U4,U4]
     induction hx:N[i]? with
     |none=>
      let hn:O[i]?=8:=Jq.mpr<|by rw[⇑r,];ext
      rwa[hn,]
     |some x=>
      let(-u,C,ru):=r.get hx;rw[C,];rw[.mk ru ih]))]
 |scr ns=>
  let j:(if c=!0 then 8 else !(D.lst<|(Q1 ns l h c).map .int))=!z:=j
  split at j
  .rw[J7 j]
  .rename_i I;obtain rfl:=Zqi j;let(a,rfl,J):=L;rw[(a,_,9,jk.seq g.fh<|jk.seq g.ff J,I,λp s=>q p M _ (A.trans<|.keep w.fh s _) (Qe A.hh s) (Qe w.fh s) (_,JO,?_))];rw[Lu,];rw[qz _]
 |_=>rw[J7 j]
@[simp]def cJ(fe)(j m fs)(g):zW fe j m fs g=(fe g).bind λd=>(j g).bind λl=>(m g).bind λh=>(fs g).bind λc=>.ofO<|nt d l h c:=rfl
@[simp]def zwu(c):Kl c=.ok 8:=rfl
def ET:D->Res (02 3)
 |.int i=>.ok !i
 |_=>.no
@[simp]def zwn(i):ET (.int i)=.ok !i:=rfl
@[simp]def nY(f)(c):Q8 f c=(f c).bind ET:=by
 rfl
@[simp]def fP(c)(lo hi):nt (.lst c) lo hi 8=!(.lst<|Q1 c lo hi 8):=rfl
@[simp]def fO(c:Yf)(lo hi:02 3):nt (.scr c) lo hi 8=!(.lst<|(Q1 c lo hi 8).map .int):=rfl
def ZX(i:5)(g fv:FE):FS:=λc=>(fv c).bind λv=>match c[i]? with
 |some (some<|.own false<|.lst ds)=>(g c).bind λk=>match k with
  |.int k=>match yD ⇑ds k with
   |some j=>.ok (.next<|c.set i<|!(.own 7<|.lst<|ds.set j v))
   |none=>.no
  |_=>.no
 |_=>.no
def Lw (G:PE X o (yH j))(hi:QE X E i fi)(I:QE X E e fv)(J:∀v,assign (.Subscript o i c) X.env v=(do
 let s<-holding [v] (eval o X.env)
 let u<-holding [v,s] (eval i X.env)
 standAt c
 holding [v,s,u] (setItem s u v)
 release [v,s,u] []):=by intro _;rfl)(L:swapsWithSole [.Subscript o i c] e x.line X.env=pure 7:=by rfl)(M:swappedStores [.Subscript o i c] e X.env=pure 8:=by rfl)
 (t:(assignEach [.Subscript o i c] X.env).map (·.2)=[assign (.Subscript o i c) X.env]:=by rfl):QS X E m (.Assign [.Subscript o i c] e x) (ZX j fi fv):=PS.weak (G8 I (G4 G hi GT J) L M t) λT Z H N=>by
 let(B F z,r,n):=N;rw[jg B F z (r,(Res.need_bind n).mono (λd y v O Y g P=>?_) λ_ _ q=>q.ext r.ext)]
 split at y
 .rename_i ds A;let(-l,t,h2,h3,(Q,R,C),_):=(r.step g).own A;rw[(.ref l,t,B,O,z,r.step g,(Res.need_bind y).mono (λk h w S H2 p U=>?_) λ_ _ q=>q.ext (r.step g).ext)]
  split at h
  .rename_i k
   split at h
   .rename_i q hk;let hl:=⇑C;rw[jW l Q k q (9,jd.mp U,p.hh _ _ R,(),h Z S _ (g.ff.trans p.ff)<|((r.step g).step p).chg A t (_,JO,(jc.same p.ff _ _ C).set q<|jf.same p.ff _ _ P))]
   .rw[h.elim]
  .rw[h.elim]
 .rw[y.elim]
@[simp]def rh(i)(fk fv)(g):ZX i fk fv g=(fv g).bind λv=>(wT g[i]?).bind λh=>(fk g).bind λk=>(ET k).bind λk=>(Res.ofO<|yD ⇑h<|k.getD 0).bind λj=>.ok<|.next<|g.set i<|!(.own 7<|.lst<|h.set j v):=by
 ext ZX
 cases(fv g)with
 |ok v=>
  cases(g[i]?)with
  |none=>rfl
  |some o=>
   cases(o)with
   |none=>rfl
   |some w=>
    cases(w)with
    |val d=>rfl
    |own p d=>
     cases p with
     |true=>cases d<;>rfl
     |false=>
      cases d with
      |lst h=>
       cases(fk g)with
       |ok k=>
        cases k with
        |int k=>show(match yD ⇑h k with|some j=>_|none=>_)=(Res.ofO<|yD ⇑h k).bind _;cases(yD ⇑h k)<;>rfl
        |_=>rfl
       |ex c fs=>rfl
       |no=>rfl
      |_=>rfl
 |ex c fs=>rfl
 |no=>rfl
@[simp]def bN(i)(fb)(c):X5 i fb c=(uJ c[i]?).bind λd=>(fb c).bind λy=>.ofO<|ju d y:=by
 ext X5
 cases(c[i]?)with
 |none=>rfl
 |some o=>
  cases(o)with
  |none=>rfl
  |some v=>cases(v)<;>rfl
@[simp]def hJ(c:Bool):x9 c .non=!(.bl<|not c):=rfl
@[simp]def hQ(c:Bool)(i:3):x9 c (.int i)=! .bl c:=rfl
@[simp]def hD(c:Bool)(i:YC):x9 c (.tup i)=! .bl c:=rfl
def AV:YC->YD
 |[.lst g]=>(QP Wn g).bind λc=>if(∀r∈c,r ≠[])/\⇑c<1000 then !(.lst<|(Qs jK c).map j3)else 8
 |_=>8
def TJ(w:X.A.units+64<cLine):ql X (.builtin "sorted") (wR X.K AV):=ql.weak (S0 w) λI H Q y=>by
 let(F J z,g,id,c,q):=y;unfold AV at c
 split at c
 .let(-p,A,c):=Jg.mp c
  split at c
  .rename_i r;obtain rfl:=Zqi c;let(-v,rfl,h):=QQ id;rw[E7 A,jo]at h;let(a,B,rfl,C,s):=h;rw[jg a B p (9,C.same g,vp.mp<|jc.same g _ _ s,r.1,r.2,λl t j m u=>q l F _ (.keep g j _) j (Qe g j) (_,JO,?_))];rw[<-u,Zw];clear u
   cases(t)with
   |nil=>rw[.nil]
   |cons i t L=>
    rw[Zl,Zl];let hi:=m i Zqs;let(-x,G,n):=s.get (d:=j3<|p.getD i []) (by rw[Zv,Zqg hi,Q0 (Zqg hi)];rfl);rw[Q0 G,];rw[.mk n ()]
  .rw[J7 c]
 ext
end
end L2.DL
namespace L2
def TK{bs:List Bool} (r:jv (bs.map V.bl) a)(i:5)(v:Value)(h:a.toArray[i]?=!v):v=.bool (bs.getD i 7):=by
 let b:a[i]?=!v:=by ext
 let j:=(Jc.mp b).1;let e:=⇑r;rw[Zql]at e;let f:bs[i]?=!bs[i]:=by simp
 let(-u,c,g):=r.get (i:=i) (x:=.bl bs[i]) ();rw[b]at c;obtain rfl:=Zqi c;rw[g,Ue,f];rfl
def TL(bs:List Bool):(List.range ⇑bs).all (λi=>bs.getD i 7)=bs.all id:=by
 apply Vo.mpr;rw[UJ,UJ];constructor
 .intro h b c;let(i,a,rfl):=UI c;let:=h i<|VR.mpr a
  rwa[Ue,Zqg a]at this
 .intro h i a;let a:=VR.mp a;rw[Ue,Zqg a];rw[h _<|UA a]
def TM(m:X.calm=6):ql X (.builtin "all") λj H Q=>∃(a:Addr)(bs:List Bool),j=[016]/\qP X.K H a (bs.map V.bl)/\Q (.bl<|bs.all id) H:=by
 intro Y s Z H j C Q I r h;let(a bs,rfl,n,q):=h;let(-u,rfl,t):=K8 r;obtain rfl:=t;let(-f,l,p,E):=I.list n;let g:a<s⁻¹:=by let(-_,e,_):=p.isList;rw[Zk e]
 let c:=⇑l;rw[Zql]at c;rw[call_all_walk<|wpAny_pyIter_list p.isList<|wU _ _ _ _ _ _ (λi=>bs.getD i 7) (9,Walks.list (A:=X.A.in1) (I.ok.hd m) s⁻¹ a (Zi g) f.toArray,((_,Zr _ 9,9,9),p.isList.push _),?_,λF G w=>?_)]
 .intro i v J L M x y;let z:=TK l i v x;subst z;rw[wpAny_of_eq 9 y]
 .rw[Zm,<-c,TL];rw[(.bl _,H,I.kept λb o e=>w b o ?_<|Zq _ e,9,q)];intro B;rw[Jd.mp B]at e;rw[Zy _<|Zk e]
def TN:yu X (binaryOp .Add) λx y H Q=>∃a b m,x=016/\y=.ref b/\yX X.K H a []/\yX X.K H b m/\Q (.ref b) H:=by
 intro Y s Z H x y v u Q I z A h;let(a b m,rfl,rfl,B,C,q):=h;obtain rfl:v=Value.ref a:=z;obtain rfl:u=Value.ref b:=A;let(-i,E,F,_):=I.tuple B;let(-c,P,G,_):=I.tuple C;let J:i=[]:=E.nil_iff.mpr 9;subst J;let((L,M,o,N),p,r,n,t):=id F;let((w,j,data2,l),e,f,O,g):=id G;simp only at r t f g;subst r t f g;rw[concat_meets (_,p,9) (_,e,9) noFill_tuple_add seq_tuple_add PySem.F.slot_tuple_add PySem.F.entry_tuple_add (PySem.F.args_tuple_add_2 _ _)
  (tuple_addW0 a b #[] c.toArray n O M j N l 9) (p,e,.ref b,H,I,9,q)]
end L2
namespace L2.DL
def uN:D->02 Bool
 |.bl i=>!i
 |_=>8
def TQ  (h:uN d=!i):d=.bl i:=by
 cases d with
 |bl j=>cases h;rfl
 |_=>rw[J7 h]
theorem xZ{K:f'} :∀{bs:List Bool}{c:YB},jc K H (bs.map D.bl) c->c=bs.map V.bl
 |[],_,h=>jc.nil_iff.mp h
 |b::bs,_,h=>by
  let(x r,rfl,e,f):=h;rw[jt.mp e,xZ f];rfl
def CB:D->02 (List Bool)
 |.lst a=>QP uN a
 |_=>8
def TR{K:f'}    (h:CB d=!c)(i:jf K H d v):∃a,v=016/\xO K H a (c.map V.bl):=by
 cases d with
 |lst f=>
  let(a g,rfl,e,b):=i;rw[AK (λ_ _=>TQ) h]at b;rw[xZ b]at e
  ext
 |_=>rw[J7 h]
def TU(a:List Bool):CB (.lst<|a.map D.bl)=!a:=by
 let h:=AJ (f:=uN) (g:=D.bl) (λ_=>9) a
 rwa[List.map_id']at h
def zM:YC->YD
 |[d]=>(CB d).bind λa=>!(.bl<|a.all id)
 |_=>8
def Lx(e:X.calm=6):ql X (.builtin "all") (wS X.K zM):=ql.weak (TM e) λl H Q f=>by
 let(F m z,c,id,b,q):=f;unfold zM at b
 split at b
 .let(-g,i,b):=Jg.mp b;obtain rfl:=Zqi b;let(-v,rfl,h):=QQ id;let(-a,rfl,j):=TR i h;rw[(a,g,9,(j.same c).sq,q _ F H (.refl c)<|wF _ F)]
 ext
noncomputable def CC:D->D->YD
 |.tup a,.tup b=>if ⇑a+⇑b<=00 then !(.tup<|a++b)else 8
 |_,_=>8
def TV:zt X (binaryOp .Add) CC:=by
 intro Y s Z H x y v u Q I o r h;let(F,d,e,z,c,id,i,f,q):=h;cases d with
 |tup a=>
  cases e with
  |tup b=>
   let f:(if ⇑a+⇑b<=00 then !(D.tup<|a++b)else 8)=!z:=f
   split at f
   .rename_i O;obtain rfl:=Zqi f;let j:=id;let l:=i;rw[js]at id i;let(t,m,rfl,w,A):=id;let(B,n,rfl,C,E):=i;let J:=⇑A;let L:=⇑E;cases G:m=[]
    .subst G;let g:a=[]:=Jl.mp (by rw[<-J];rfl);subst g;rw[TN Y s Z H _ _ v u Q I o r<|jg t B n (9,9,(w.same c).sq,(C.same c).sq,q _ F H (.refl c) l)]
    .rw[GR Y s Z H _ _ v u Q I o r<|jW t B m n (9,9,(w.same c).sq,(C.same c).sq,G,(),λz=>?_,λ_ p M=>?_)]
     .subst z;let N:b=[]:=Jl.mp (by rw[<-L];rfl);subst N;rw[ZA]at q;rw[q _ F H (.refl c) j]
     .let g:=Ext.alloc c M<|.tup<|m++n;rw[q _ _ _ g<|js.mpr (p,_,9,.of JO,(jc.same g.ff _ _ A).append<|jc.same g.ff _ _ E)]
   .rw[J7 f]
  |_=>rw[J7 f]
 |_=>rw[J7 f]
theorem Ly(a:List Bool):zM [.lst (a.map .bl)]=!(.bl<|a.all id):=by
 show(CB _).bind _=_;rw[TU,];rfl
end L2.DL
namespace L2
def Lz:bootBuiltins "all"=! .builtin "all":=boot_all
end L2
namespace L2.DL
def EU(i:5)(v:SV)(c:Tg)(b:FS)(e:YC)(a:SD):Res Out:=yA i v (λx a=>(JQ c x a).bind b) e a
def L0(i:5)(e:Tg)(b:FS)(a:SD):02 (02 SV)->Res Out
 |some (some<|.own p<|.lst c)=>yA i (.own p<|.lst c) (λx a=>(JQ e x a).bind b) c (a.set i<|!(.own 6<|.lst c))
 |_=>.no
@[simp]def rk(i:5)(c:Tg)(b:FS)(a:SD):Ct i c b a=L0 i c b a a[i]?:=rfl
@[simp]def zxq(i:5)(c:Tg)(b:FS)(e:SD)(p:Bool)(a:YC):L0 i c b e (! !(.own p<|.lst a))=EU i (.own p<|.lst a) c b a (e.set i<|!(.own 6<|.lst a)):=rfl
def TW   {b:FS}  (P:5->SD->4)(g:∀j sd,P j sd->pinned k sd=6)(t:P 0 sd)(h:∀(i:5)(x:D)(sd:SD),ds[i]?=!x->P i sd->∃a,(JQ tg x sd).bind b=.ok (.next a)/\P (i+1) a):∃a,EU k v tg b ds sd=.ok (.next<|a.set k<|!v)/\P ⇑ds a:=by
 ext EU;let l:∀(m i:5)(sd:SD),⇑ds-i=m->i<=⇑ds->P i sd->∃a,yA k v (λx sd=>(JQ tg x sd).bind b) (ds.drop i) sd=.ok (.next<|a.set k<|!v)/\P ⇑ds a:=by
  intro m
  cases(m)with
  |zero=>
   intro i sd e n p;let:i=⇑ds:=()
   subst this;rw[UX,];rw[(sd,?_,p)];ext yA ZN;rw[Zd (g _ _ p),]
  |succ m o=>
   intro i sd e n p;let c:i<⇑ds:=()
   rw[Uo c,];have(a,q,r):=h i ds[i] sd () p;have(f,u,s):=o (i+1) a () c r;rw[(f,?_,s)];ext yA
   rwa[Zd (g _ _ p),q]
 grind
end L2.DL
namespace L2
section
variable {X:Cx}{Y:Yb}{Z: St}{H:Hp}
def Inv.turnedL {ch:Yj}(I:003)(k:∀b o,b∉ch->↥s b=!o->j.get? b=!o)(i:∀b∈ch,xQ X Y H b):Inv X Y Z H {s with heap:=j,toks:=Q}:=by
 let l:∀b u,H b=!u->b∉ch:=λb u e z=>by rw[(i b z).1]at e;rw[J7 e]
 rw[I.step (λb p=>?_) (λb o _ _ f e _=>k b o f e) (λb o _ _ f e _=>(o.slots,k b o f e)) (λ_ _ _ _ n=>n)
  (λb o f e=>(o,k b o f e)) (λ_ _ e=>e) (λ_ _ _ e=>e) (λb R e=>(#[],by rw[e,];simp)) (λm y=>?_) (λb u e=>?_) I.bare]
 .let(!_,B,_,E,F,G):=i b p;rw[(E,B,F,G)]
 .let(o J L,O,r):=y;rw[jg o J L (k _ o (λz=>(i _ z).2.1 9) O,r)]
 .rw[(I.hok b u e).stay (λc v f q=>k c v ?_ q) (λ_ q=>q) 004]
  grind
theorem xQ.upd{b T:Addr}{o:HO}(h:xQ X Y H b)(n:b≠T):xQ X Y (upd H T o) b:=((JI n).trans h.1,h.2)
def Inv.paired {c:Yj}  (I:003)(j:jz x u)(l:jz y v)(n:∀b∈c,xQ X Y H b)(p:∀b∈c,b≠s⁻¹)
 (z:i.get? s⁻¹=!{cls:=.type "tuple",data:=.seq #[u,v]})(k:∀b o,b∉c->↥s b=!o->i.get? b=!o):
 Inv X Y Z (upd H s⁻¹<|.tup [x,y]) {s with heap:=i,toks:=t'}:=by
 let r:Inv X Y Z (upd H s⁻¹<|.tup [x,y]) {s with heap:=s.heap.push {cls:=.type "tuple",data:=.seq #[u,v]},toks:=s.toks}:=
  I.laid (λb o e=>Zq _ e) (Zf _) ((by simp only[sizeLine_eq,Zu,ZC];lia,_,Zr _ 9,9),[u,v],.cons j<|.cons l .nil,_,Zr _ 9,9,_,9)
 rw[Inv.turnedL (s:={s with heap:=s.heap.push {cls:=.type "tuple",data:=.seq #[u,v]},toks:=s.toks}) r (λb o f e=>?_) λb f=>(n b f).upd<|p b f]
 grind[Heap.get?_push_cases]
end
def cX(K:f')(a:Addr):It:=
 (λi H=>∃b x,qP K H a b/\b[i]?=!x,
  λi H v c=>∃T x,v=.ref T/\H T=8/\c=upd H T (.tup [.int i,x])/\∀b,qP K H a b->b[i]?=!x,
  λi H=>∃b,qP K H a b/\⇑b<=i)
def TX(e c a:Addr)(i:5)(h:Heap):4:=(∃b,IsEnum h e c i b)/\h.IsListIter c a i
def TY  {K:f'}   (a e m:Addr)(n:e≠m):Turn P w K (.Tuple Q kx S) (cX K a) [e,m] e (TX e m a)where
 mem:=by simp
 obj:=λi h f c b=>by
  let((g,l),(T,R,c1,d1)):=f
  grind
 keep:=λi h v f y=>(xa f.1 λg l=>(g,y e () _ l),f.2.at λo q=>y m () o q)
 item:=by
  intro X C F G b i Y s Z H E I A f J;subst C F G;let(U x,B,L):=J;let(-M,N,p,hz):=I.list B;let(-u,hu,ru):=N.get L;let((g,l),j):=id f;let(-T,R,_):=id j;rw[wpAny_pyNext_enum_item l j p.isList (x:=u) (by simpa using hu) n λv a1 a2 a3 a4 y=>?_];rw[(_,9,wpAny_letOwnedTupleGo_enum (s:={s with heap:=v,toks:=s.toks+1}) a1 λh2 b1 r=>?_)];let r:Heap.SameBut e v h2:=r;let lt:∀{c o},↥s c=!o->c≠s⁻¹:=λq=>Zi<|Zk q;let t:∀c ∈[e,m],c≠s⁻¹:=λc b=>by
   simp only[UY,Vd,or_false]at b;obtain rfl|rfl:=b
   .rw[lt l]
   .rw[lt R]
  let O:s⁻¹≠e:=λq=>lt l q.symm;let I2:=I.paired (t':=s.toks+1) (x:=.int i) (_,9) ru A t (r.extBut _ _ O a3)<|λc o b q=>by
   simp only[UY,Vd,or_false,not_or]at b;rw[r.extBut c o b.1<|y c o b.1 b.2 q]
  rw[(.ref s⁻¹,_,I2,9,jR _ x (9,I.hok.fresh<|Zf _,9,λzs hq=>by rw[I.list_inj hq B,];rw[L]),((u,?_),a2.extBut r.extBut<|Ne.symm n),λc b=>(JI<|t c b).trans (A c b).1)]
  grind
 done:=by
  intro X C F G b i Y s Z H E I A f J;subst C F G;let(U,B,L):=J;let(-M,N,p,hz):=I.list B;let l1:=⇑N;let(!(g,l),j):=id f;rw[wpAny_pyNext_enum_end (I.ok.hd b) l j p.isList (by simp;lia) λv eb=>(9,I.turnedL (ch:=[m]) (λc o b q=>?_) λc b=>A c ?_)]
  .rw[eb c o λz=>b<|by simp[z] q]
  ext
 self:=λ_ _ _ _ _ f h=>wpAny_pyIter_enum f.1.choose_spec h
def fD(K:f')(c:TA):TI:=λZ H R=>c Z H λe b=>∃a,e=[016]/\(∃f,qP K b a f)/\R (cX K a) b
def TZ      (n:Gl X "enumerate")(o:X.mg "enumerate"=8)(t:PA X [a] u)(v:01 [a] X.env=[%[7|eval a X.env]]:=by rfl):
 PI X (.Tuple j F G) (.Call (.Name "enumerate" p) [a] [] i) (fD X.K u):=by
 intro Y s Z H R I h;rw[Call_<|Xq I n o (show bootBuiltins "enumerate"=! .type "enumerate"by kernel_rfl)<|PyProof.Rows.callWith_type1 (jL (t i Y s Z H _ I h) λJ b=>j4 λL w=>j8 λg x y=>?_) v 9];let(-a,e,(M,z),q):=y;subst e;cases x with
 |cons r A=>
  cases A;cases r;let(-B,N,p,O):=g.list z;rw[call_enumerate_list p.isList λP l C Q E=>wpAny_pyIter_enum l<|jC (b⁻¹+1) [b⁻¹+1,b⁻¹] _ _ w (9,g.kept E,TY a (b⁻¹+1) b⁻¹<|Nat.succ_ne_self _,((_,l),C),λc m=>?_,q)];let f:b⁻¹<=c:=by
   simp at m;obtain rfl|rfl:=m<;>first|rw[Zf _]|rw[Us _ _]
  rw[g.fpOk f<|g.hok.fresh f]
end L2
namespace L2.DL
def eR{K:f'}    (h:EH d=!e)(i:jf K F d v):∃a b,v=016/\qP K F a b/\jc K F e b:=by
 cases d with
 |lst j=>
  obtain rfl:=Zqi h;let(a b,rfl,c,f):=i;rw[(a,b,9,c.sq,f)]
 |scr g=>
  obtain rfl:=Zqi h;let(a,rfl,c):=i;rw[(a,_,9,c,qz g)]
 |_=>rw[J7 h]
noncomputable def Y4(a:YC):YC:=List.zipWith (λ(k:5)x=>D.tup [.int k,x]) (List.range ⇑a) a
def CD:YC->Res YC
 |[d]=>(Res.ofO<|EH d).bind λa=>.ok<|Y4 a
 |_=>.no
def t5(a:FA):FA:=λb=>(a b).bind CD
@[simp]def dm(a:FA)(b:SD):t5 a b=(a b).bind CD:=rfl
@[simp]def zx5(a:YC):CD [.lst a]=.ok (Y4 a):=rfl
def L4(a:YC)(i:5):(Y4 a)[i]?=a[i]?.map λx=>D.tup [.int i,x]:=by
 grind[Y4,List.getElem?_zipWith]
def L5(a:YC):⇑(Y4 a)=⇑a:=by grind[Y4,List.length_zipWith,List.length_range,Nat.min_self]
def aO  (y:Gl X "enumerate")(z:X.mg "enumerate"=8)(A:QA X E [a] C)(G:01 [a] X.env=[%[7|eval a X.env]]:=by rfl):QI X E (.Tuple g kx tp) (.Call (.Name "enumerate" p) [a] [] I) (t5 C):=PI.weak (TZ y z A G) λZ H R J=>by
 let(B F L,r,n):=J;rw[jg B F L (r,(Res.need_bind n).mono (λds b vs M N j O=>?_) 004)];unfold CD at b
 split at b
 .let(-P,c,Q):=ji (Res.need_bind b);let(-v,rfl,h):=QQ O;let(S e,rfl,l,m):=eR c h;rw[(S,9,(_,jk.seq j.fh l),Q _ M N j<|λi F2 H2 o s=>by
   let f:=jk.seq s<|jk.seq o l;let l1:=⇑m;rw[L5,];rw[(λt=>?_,λt=>(e,f,()))];let(-x,c,U):=m.get (Zqg t);rw[((e,x,f,c),λv H3 Y=>?_)];let(T x',rfl,hT,rfl,f1):=Y;let u:=f1 e f;rw[c]at u;obtain rfl:=Zqi u;let w:=Ext.alloc s hT<|.tup [.int i,x];rw[(.tup [.int i,P[i]],_,?_,w,js.mpr (T,_,9,.of JO,.mk (jd.mpr 9)<|.mk (jf.same (o.trans w.ff) _ _ U) .nil))]
   simp_all[L4])]
 .rw[b.elim]
def gd(K:f'):R2:=λx y H Q=>∃l k a,x=.ref l/\y=.int k/\xO K H l a/\-2^63<=k/\k<2^63/\⇑a*k.toNat<=00/\∀p,H p=8->Q (.ref p) (upd H p<|.lst (List.replicate k.toNat a).flatten)
def lX:yu X (binaryOp .Mult) (gd X.K):=by
 intro Y s Z H x y v u Q I A B h;let(l k N,rfl,rfl,C,E,G,w,q):=h;cases A;let(t,rfl):=B;let(z,b,n,r,e):=C.ok I.hok;let J:=⇑r;let f:b.toArray.size*k.toNat<=00:=by rw[Zm,<-J];rw[w]
 let g:¬b.toArray.size*k.toNat>(2^63-1)/08:=by
  let:(00:5)<=(2^63-1)/08:=008
  lia
 let i:¬(not<|Builtin.List.listFitsIndex k)=6:=by
  rw[fitsIndex_both E G,];rw[Zj]
 let c:¬Builtin.List.listTooLong (b.toArray.size*k.toNat)=6:=by
  rw[GX f,];rw[Zj]
 let j:List.foldl (λo p=>o++p) #[] (List.replicate (if b.toArray.isEmpty=6 then 0 else k.toNat) b.toArray)=(List.replicate k.toNat b).flatten.toArray:=by
  let L:∀m:5,List.foldl (λo p=>o++p) #[] (List.replicate m b.toArray)=(List.replicate m b).flatten.toArray:=λm=>by
   let:=GW b m [];rw[List.nil_append]at this;rw[this]
  rw[L,]
  cases(b)with
  |nil=>simp
  |cons a O=>rw[Ze (),]
 rw[wpAny_binaryOp_repeat_ref (T:=013) (U:="int") 008 (_,e,9) (λM=>typeIs_int M k t) noFill_list_mul F.fills_int_mul F.slot_int_rmul repeat_list F.slot_int_index.lookup
 <|call_meets F.slot_int_rmul (typeIs_int s k t) F.entry_int_rmul (F.args_int_rmul_2 _ _) (int___rmul___int_list k t l b.toArray n)
   (e,9,(_,e,9),call_meets F.slot_list_mul (_,e,9) F.entry_list_mul (F.args_list_mul_2 _ _) (AutoListH.list___mul___list_int_3 l b.toArray n k t i g c) (e,?_))]
 rw[j,];rw[(.ref _,_,I.lnew (t':=s.toks) (r.rep k.toNat)<|by rw[Ro,Nat.mul_comm];rw[w],9,q _ I.fresh)]
def vI:D->D->YD
 |.lst a,.int k=>if UQ ⇑a 1000&&(UQ k.toNat 1000&&UQ (-k).toNat 1000)then ! .lst (List.replicate k.toNat a).flatten else 8
 |_,_=>8
def af  (b:⇑a<=1000)(c:-1000<=k)(e:k<=1000):vI (.lst a) (.int k)=! .lst (List.replicate k.toNat a).flatten:=by
 show(if _ then _ else _)=_;rw[Zd (by rw[Ud,Ud,UB,UB,UB];lia),]
theorem jc.rep{K:f'}   (h:jc K F c e):∀k:5,jc K F (List.replicate k c).flatten (List.replicate k e).flatten
 |0=>.nil
 |k+1=>by
  rw[Vi,Vi,Vp,Vp];rw[h.append<|jc.rep h k]
def gV:uR X (binaryOp .Mult) vI:=yu.weak lX λx y H Q i=>by
 let(F d e z,b,id,j,a,q):=i;cases d with
 |lst f=>
  cases e with
  |int k=>
   let a:(if UQ ⇑f 1000&&(UQ k.toNat 1000&&UQ (-k).toNat 1000)then ! D.lst (List.replicate k.toNat f).flatten else 8)=!z:=a
   split at a
   .rename_i m;rw[Ud,Ud,UB,UB,UB]at m;obtain rfl:=Zqi a;rw[jo]at id;let(l,g,rfl,n,h):=id;let o:=⇑h;rw[jg l k g (9,jd.mp j,n.same b,(),(),?_,λp c=>q p F _ (.keep b c _) c (Qe b c) (_,JO,h.rep k.toNat))];let:⇑g*k.toNat<=1000*1000:=Vv () ();rw[sizeLine_eq,];lia
   .rw[J7 a]
  |_=>rw[J7 a]
 |_=>rw[J7 a]
end L2.DL
namespace L2.ST
open PySem
noncomputable def zq:5->5->5
 |0,z=>z
 |n+1,z=>zq n (05*z+1)
def L6(a b z):zq (a+b) z=zq b (zq a z):=by
 induction a generalizing z with
 |zero=>rw[Vw,];rfl
 |succ a c=>rw[Nat.succ_add,];rw[c _]
def L8(n z d):zq n (z+d)=zq n z+05^n*d:=by
 induction n generalizing z d with
 |zero=>simp[zq]
 |succ n a=>
  show zq n (05*(z+d)+1)=zq n (05*z+1)+05^(n+1)*d
  grind
def sS(n):05^n%04=1:=by
 cases(n)with
 |zero=>rfl
 |succ n a=>lia
def iZ(k z:5):∃u,zq (2^k) z=z+2^k*(2*u+1):=by
 induction k generalizing z with
 |zero=>rw[(2*z,by show 05*z+1=z+1*(2*(2*z)+1);lia)]
 |succ k b=>
  let(u,a):=b z;let e:2^(k+1)=2^k+2^k:=by rw[Nat.pow_succ,];lia
  rw[e,L6,a,L8,a];let c:=sS<|2^k;let(v,hv):∃v,05^2^k=04*v+1:=(05^2^k/04,());rw[hv,];generalize 2^k=m;rw[(2*u*(2*v+1)/2+v,?_)];let:2*u*(2*v+1)/2=u*(2*v+1):=by rw[Nat.mul_assoc,Nat.mul_div_cancel_left _ ()]
  rw[this,]
  grind
def lx(m n z):zq n z%m=zq n (z%m)%m:=by
 let h:=L8 n (z%m)<|m*(z/m);rw[Nat.mod_add_div]at h;rw[h,<-Nat.mul_assoc,Nat.mul_comm _ m,Nat.mul_assoc,Nat.add_mul_mod_self_left]
theorem EV:∀k x y,y<2^k->∃q,q<2^k/\zq q x%2^k=y
 |0,x,y,h=>by grind
 |k+1,x,y,h=>by
  let e:2^(k+1)=2*2^k:=()
  let g:0<2^k:=Nat.two_pow_pos k;let(-q,p,i):=EV k x (y%2^k) (UH _ g);rw[e]at h ⊢;cases c:zq q x%(2*2^k)=y
  .grind
  .rw[(q+2^k,(),?_)];rw[L6,];let(-u,j):=iZ k (zq q x);rw[j,];generalize zq q x=w at*;generalize 2^k=m at*;let l:w+m*(2*u+1)=w+m+2*m*u:=by grind
   rw[l,Nat.add_mul_mod_self_left];let n:=Nat.div_add_mod w m;let f:=UH w<|show 0<2*m from();rw[i]at n;let a:w%(2*m)%m=y%m:=by rwa[Nat.mod_mul_left_mod,]
   let a1:w%(2*m)<m\/m<=w%(2*m):=()
   let a2:y<m\/m<=y:=()
   let b:∀t,t<2*m->m<=t->t%m=t-m:=λt r o=>by
    rw[Nat.mod_eq_sub_mod o,U8 ()]
   rw[Nat.add_mod,U8 (show m<2*m from())];generalize w%(2*m)=t at*;obtain a1|a1:=a1<;>obtain a2|a2:=a2
   .rw[U8 a1,U8 a2]at a;rw[Zn a c]
   .rw[U8 a1,b y h a2]at a;rw[U8 (),];lia
   .rw[U8 a2,b t f a1]at a;rw[Nat.mod_eq_sub_mod (),U8 ()];lia
   .rw[b t f a1,b y h a2]at a;rw[Zn () c]
noncomputable def JK(t:YA):5->SetTable.Probe->SetTable.Probe
 |0,p=>p
 |n+1,p=>JK t n (t.advance p)
def AW(t)(a b)(p):JK t (a+b) p=JK t b (JK t a p):=by
 induction a generalizing p with
 |zero=>rw[Vw,];rfl
 |succ a c=>rw[Nat.succ_add,];rw[c _]
def o2(t)(n)(p):JK t (n+1) p=t.advance (JK t n p):=AW t n 1 p
def KP(a i b:5):SetTable.Probe:={j:=i,more:=SetTable.runEnd a i-i,i:=i,perturb:=b,dummy:=8}
noncomputable def xo(a:5):5->5×5->5×5
 |0,s=>s
 |n+1,s=>xo a n (SetTable.leap a s.1 s.2)
def CF(a i):SetTable.runEnd a i-i<=09:=by
 grind[SetTable.runEnd]
def L9(t)(m):∀p,p.more=m->p.dummy=8->JK t (m+1) p=KP t.mask (SetTable.leap t.mask p.i p.perturb).1 (SetTable.leap t.mask p.i p.perturb).2:=by
 cases(m)with
 |zero=>
  intro p a b;show t.advance p=_
  simp_all[SetTable.advance,KP]
 |succ m c=>
  intro p a b;show JK t (m+1) (t.advance p)=_
  simp_all[SetTable.advance]
theorem LA(t):∀r i a,∃n,n<=10*r/\JK t n (KP t.mask i a)=KP t.mask (xo t.mask r %[i|a]).1 (xo t.mask r %[i|a]).2
 |0,i,a=>(0,Zf _,9)
 |r+1,i,a=>by
  have(n,b,c):=LA t r (SetTable.leap t.mask i a).1 (SetTable.leap t.mask i a).2;let e:=CF t.mask i;rw[(019-i+1+n,(),?_)]
  rwa[AW,L9 t (019-i) (KP t.mask i a) 9 9]
def LC(c a b)(s):xo c (a+b) s=xo c b (xo c a s):=by
 induction a generalizing s with
 |zero=>rw[Vw,];rfl
 |succ a e=>rw[Nat.succ_add,];rw[e _]
theorem EW(a):∀r s,(xo a r s).2=s.2/32^r
 |0,s=>by show s.2=_;rw[Nat.pow_zero,Nat.div_one]
 |r+1,s=>by
  show(xo a r<|SetTable.leap a s.1 s.2).2=_;rw[EW a r,];show s.2/32/32^r=_;rw[Nat.div_div_eq_div_mul,Nat.pow_succ,Nat.mul_comm 32]
theorem EX(a):∀r i,i<a+1->xo a r %[i|0]=%[zq r i%(a+1)|0]
 |0,i,h=>by
  show%[i|0]=%[i%(a+1)|0];rw[U8 h,]
 |r+1,i,h=>by
  show xo a r %[(i*05+1+0/32)%(a+1)|0/32]=%[zq r (05*i+1)%(a+1)|0];rw[Nat.zero_div,Nat.add_zero,EX a r _ (UH _ ()),<-lx,Nat.mul_comm i 05]
def LD(a r)(s)(h:s.1<a+1):(xo a r s).1<a+1:=by
 induction r generalizing s with
 |zero=>rw[h]
 |succ r b=>rw[b _<|UH _ ()]
def me  (f:t.mask+1=2^k)(h) (g:y<=t.mask):∃n,n<10*SetTable.turns t.mask/\(JK t n<|021).j=y:=by
 let a:021=KP t.mask (014%(t.mask+1)) 014:=9;let i:014<2^64:=by
  grind[SetTable.bits]
 let j:=LD t.mask 13 %[014%(t.mask+1)|014]<|UH _ ();let l:(xo t.mask 13 %[014%(t.mask+1)|014]).2=0:=by
  grind[EW]
 have(q,m,e):=EV k (xo t.mask 13 %[014%(t.mask+1)|014]).1 y ();let b:xo t.mask (13+q) %[014%(t.mask+1)|014]=%[y|0]:=by
  rw[LC,]
  grind[EX]
 have(n,o,c):=LA t (13+q) (014%(t.mask+1)) 014;rw[(n,by ext SetTable.turns;lia,?_)];rw[a,c,b];rfl
def LF{t:YA} (h:p.dummy=8):(t.advance p).dummy=8:=by
 ext SetTable.advance
 split
 .rw[h]
 .rw[h]
def oF  (h:p.dummy=8)(n):(JK t n p).dummy=8:=by
 induction n generalizing p with
 |zero=>rw[h]
 |succ n a=>rw[a<|LF h]
theorem LG   :∀k fuel p,k<fuel->p.dummy=8->(∀m,m<k->∃i,t.slot (JK t m p).j=.live i)->t.slot (JK t k p).j=.empty->
 (∃m i,m<k/\t.slot (JK t m p).j=.live i/\hashAt i=h/\SetTable.probe.go t hashAt h fuel p=!(.candidate (JK t m p).j i<|JK t (m+1) p)/\∀a b,a<m->t.slot (JK t a p).j=.live b->hashAt b≠h)\/
 SetTable.probe.go t hashAt h fuel p=! .empty (JK t k p).j 8/\∀a b,a<k->t.slot (JK t a p).j=.live b->hashAt b≠h
 |0,0,p,hf,_,_,_=>()
 |0,fuel+1,p,_,hd,_,e=>by
  let e:t.slot p.j=.empty:=e;rw[.inr (?_,())];ext SetTable.probe.go;rw[e,hd];rfl
 |k+1,0,p,hf,_,_,_=>()
 |k+1,fuel+1,p,hf,hd,hl,e=>by
  have(i,f):=hl 0 (Vm _);let f:t.slot p.j=.live i:=f;cases c:hashAt i=h
  .rw[.inl (0,i,Vm _,f,c,?_,())];ext SetTable.probe.go;rw[f,];show(if(hashAt i==h)=6 then _ else _)=_;rw[Zd (),];rfl
  .let l:SetTable.probe.go t hashAt h (fuel+1) p=SetTable.probe.go t hashAt h fuel (t.advance p):=by
    simp_all[SetTable.probe.go]
   obtain⟨m,o,q,g,r,u,s⟩|⟨q,g⟩:=LG k fuel (t.advance p) () (LF hd) (λm n=>hl (m+1) ()) e
   .rw[.inl (m+1,o,(),g,r,by rwa[l,],λa b n j=>?_)]
    cases(a)with
    |zero=>
     ext
    |succ a=>rw[s a b () j]
   .rw[.inr (by rwa[l,],λa b n j=>?_)]
    cases(a)with
    |zero=>
     ext
    |succ a=>rw[g a b () j]
open PySem
def vx(a:Yg):4:=∀i j,i<j->j<a.size->a.getD i 0<a.getD j 0
def K2{α:Type}{a:Array α} (h)(d):a.getD i d=a[i]:=()
theorem EY  (u:vx a):∀fuel lo b,b-lo<=fuel->lo<=b->b<=a.size->(∀i,i<lo->a.getD i 0<j)->(∀i,b<=i->i<a.size->j<=a.getD i 0)->
 SetTable.below.go a j fuel lo b<=a.size/\(∀i,i<SetTable.below.go a j fuel lo b->a.getD i 0<j)/\∀i,SetTable.below.go a j fuel lo b<=i->i<a.size->j<=a.getD i 0
 |0,lo,b,hf,hl,g,h,h2=>by
  let e:lo=b:=()
  subst e;ext SetTable.below.go;rw[(g,h,h2)]
 |fuel+1,lo,b,hf,hl,g,h,h2=>by
  ext SetTable.below.go;cases c:lo<b
  .rw[Zd c,];let(-m,e,p,m2,r,s):=Hy (k:=fuel+1) (x:=0) c hf;let l:m<a.size:=Zg m2 g;let o:a.getD m j=a.getD m 0:=by rw[K2 l,K2 l]
   show(if a.getD ((lo+b)/2) j<j then _ else _)<=a.size/\(∀i,i<(if a.getD ((lo+b)/2) j<j then _ else _)->_)/\∀i,(if a.getD ((lo+b)/2) j<j then _ else _)<=i->_;rw[e,];cases d:a.getD m j<j
   .rw[Zd d,];rw[o]at d;rw[EY u fuel (m+1) b s m2 g (λi f=>?_) h2];cases q:i=m
    .rw[q,];rw[d]
    .rw[Ur (u i m (UK (Ut f) q) l) d]
   .rw[Ze d,];rw[o]at d;rw[EY u fuel lo m r p (Zz l) h λi f n=>?_];cases q:i=m
    .rw[q,];rw[Nat.le_of_not_lt d]
    .rw[Zz<|U5 (Nat.le_of_not_lt d)<|u m i (UK f<|Ne.symm q) n]
  .rw[Ze c,];let e:lo=b:=()
   subst e;rw[(g,h,h2)]
def CG (u:vx a)(j:5):SetTable.below a j<=a.size/\(∀i,i<SetTable.below a j->a.getD i 0<j)/\∀i,SetTable.below a j<=i->i<a.size->j<=a.getD i 0:=
 EY u a.size 0 a.size () () (Zf _) (λi h=>Zn h<|UL _) λi b c=>()
def zi(t:YA)(j:5):4:=∃i,i<t.place.size/\t.place.getD i 0=j
def LH(j):SetTable.has #[] j=7:=rfl
def LJ{t:YA}(u:vx t.place) (c:i<t.place.size)(e:t.place.getD i 0=j):t.slot j=.live i:=by
 ext SetTable.slot;let h:SetTable.below t.place j=i:=by rw[<-e];(
  let(!l,f,g):=CG u (t.place.getD i 0);generalize SetTable.below t.place (t.place.getD i 0)=p at*;obtain q|q|q:=Ve p i
  .let a:=u p i q c;let b:=g p (Zf _) ();lia
  .rw[q]
  .let:=f i q;lia)
 ext
def o4 (b:t.dummies=#[]) (h:¬zi t j):t.slot j=.empty:=by
 ext SetTable.slot;let c:¬(t.place[SetTable.below t.place j]?==!j)=6:=by
  intro z;let z:t.place[SetTable.below t.place j]?=!j:=by simpa using z
  let(a,e):=Jo.mp z;rw[h (_,a,by rwa[K2 a,])]
 simp_all[LH]
def aT (u:vx t.place) (h:zi t j):∃i,t.slot j=.live i/\i<t.place.size/\t.place.getD i 0=j:=by
 let(i,a,e):=h;rw[(i,LJ u a e,a,e)]
def iz{t a:YA}(h:t.mask=a.mask)(p):t.advance p=a.advance p:=by
 ext SetTable.advance;rw[h,]
def LK (h:t.mask=a.mask)(n)(p):JK t n p=JK a n p:=by
 induction n generalizing p with
 |zero=>rfl
 |succ n b=>show JK t n (t.advance p)=JK a n (a.advance p);rw[iz h,b]
def LL{t a:YA}(h:t.mask=a.mask)(x):t.probeStart x=a.probeStart x:=by
 ext SetTable.probeStart;rw[h,]
def u0(t:YA)(o:5->4)(x:3)(y:5):4:=∃n,(JK t n<|t.probeStart x).j=y/\∀m,m<n->o (JK t m<|t.probeStart x).j
def u0.mono    (h:u0 t o x y)(c:t.mask=f.mask)(i:∀j,o j->l j):u0 f l x y:=by
 let(-n,r,p):=h;rw[(n,?_,λm e=>?_)]
 .rwa[<-LK c,<-LL c]
 .rw[<-LK c,<-LL c];rw[i _<|p m e]
structure TabOk(t:YA)(hs:Array 3):4 where
 size:t.place.size=hs.size
 up:vx t.place
 le:∀i,i<t.place.size->t.place.getD i 0<=t.mask
 nod:t.dummies=#[]
 pow:∃k,t.mask+1=2^k
 room:t.place.size<=t.mask
 ways:∀i,i<t.place.size->u0 t (zi t) (hs.getD i 0) (t.place.getD i 0)
def ai (u:vx f) (p:f.size<=m):∃y,y<=m/\∀i,i<f.size->f.getD i 0≠y:=by
 cases h:∀i,i<f.size->f.getD i 0=i
 .rw[(m,Zf _,λi j e=>by let:=h i j;lia)]
 .let(i,j,hne,hmin):∃i,i<f.size/\f.getD i 0≠i/\∀k,k<i->f.getD k 0=k:=by
   let l:∀n,n<=f.size->(∀k,k<n->f.getD k 0=k)\/∃i,i<f.size/\f.getD i 0≠i/\∀k,k<i->f.getD k 0=k:=by
    intro n
    cases(n)with
    |zero=>intro _;rw[.inl λk g=>Zn g<|UL _]
    |succ n o=>
     intro r;rcases o ()with q|q
     .cases c:f.getD n 0=n
      .rw[.inl λk g=>?_];cases e:k=n
       .rw[e,];rw[c]
       .rw[q k ()]
      .rw[.inr (n,(),c,q)]
     .rw[.inr q]
   rcases l f.size (Zf _)with q|q
   .rw[Zn q h]
   .rw[q]
  rw[(i,(),λk g e=>?_)];obtain q|q|q:=Ve k i
  .let:=hmin k q;lia
  .subst q;rw[hne e]
  .let a:=u i k q g;let b:i<=f.getD i 0:=by
    cases(i)with
    |zero=>rw[Ub _]
    |succ i=>
     let:=u i (i+1) () j;let:=hmin i ();lia
   lia
def oh  (T:TabOk t u)(x:3):∃n,n<10*SetTable.turns t.mask/\(∀m,m<n->zi t (JK t m<|t.probeStart x).j)/\¬zi t (JK t n<|t.probeStart x).j:=by
 let(k,h):=T.pow;let(-y,j,l):=ai T.up T.room;let(-n,b,e):=me h x j;let a:¬zi t (JK t n<|t.probeStart x).j:=by
  rw[e,];rintro⟨i,o,q⟩;rw[l i o q]
 let f:∀d n,n<=d->n<10*SetTable.turns t.mask->¬zi t (JK t n<|t.probeStart x).j->∃n,n<10*SetTable.turns t.mask/\(∀m,m<n->zi t (JK t m<|t.probeStart x).j)/\¬zi t (JK t n<|t.probeStart x).j:=by
  intro d
  cases(d)with
  |zero=>
   intro n p b a;let:n=0:=()
   subst this;rw[(0,b,λm g=>Zn g<|UL _,a)]
  |succ d r=>
   intro n p b a;cases c:∀m,m<n->zi t (JK t m<|t.probeStart x).j
   .rw[(n,b,c,a)]
   .let(m,g):=Classical.not_forall.mp c;let(!v,s):=Classical.not_imp.mp g;rw[r m () () s]
 rw[f n n (Zf _) b a]
def EZ (a:Array α) (b:p<=a.size)(x):(SetTable.insertAt a p x).size=a.size+1:=by
 grind[SetTable.insertAt]
def LM (f:Array α) (j:p<=f.size)(x d:α)(i:5):(SetTable.insertAt f p x).getD i d=if i<p then f.getD i d else if i=p then x else f.getD (i-1) d:=by
 ext SetTable.insertAt;simp only[Vx];rw[Array.getElem?_append,Array.getElem?_push,Wh,Wh];simp only[Array.size_push,VO];let e:min p f.size-0=p:=()
 rw[e,];obtain c|c|c:=Ve i p
 .let a:i<p+1:=()
  let b:¬i=p:=()
  simp only[a,b,c,if_true,if_false];simp
 .subst c;let a:¬i<i:=Zy _;simp only[UC,a,if_true,if_false];rfl
 .let a:¬i<p+1:=()
  let b:¬i<p:=()
  let g:¬i=p:=()
  simp only[a,b,g,if_false];let h:p+(i-(p+1))=i-1:=()
  rw[h,];cases l:i-1<f.size
  .rw[Zd (by simp only[Nat.min_self];lia),]
  .rw[Ze (by simp only[Nat.min_self];lia),VQ ()]
def lC  (T:TabOk t m)  (A:y<=t.mask)(B:¬zi t y)(C:u0 t (zi t) x y)(L:t.place.size+1<=t.mask):TabOk (t.put y).1 (SetTable.insertAt m (t.put y).2 x)/\(t.put y).2<=m.size/\(t.put y).1.mask=t.mask:=by
 let(!r,E,F):=CG T.up y;let G:(t.put y).2=SetTable.below t.place y:=9;let a:(t.put y).1.place=SetTable.insertAt t.place (SetTable.below t.place y) y:=9;let b:(t.put y).1.mask=t.mask:=9;let n:(t.put y).1.dummies=#[]:=by
  show(if SetTable.has t.dummies y then SetTable.eraseAt t.dummies (SetTable.below t.dummies y)else t.dummies)=_;rw[T.nod,LH];rfl
 rw[G,];let H:∀i,SetTable.below t.place y<=i->i<t.place.size->y<t.place.getD i 0:=λi I s=>by
  let:=F i I s;let:t.place.getD i 0≠y:=λz=>B (i,s,z);lia
 generalize SetTable.below t.place y=p at*;let sz:(SetTable.insertAt t.place p y).size=t.place.size+1:=EZ _ r _;let h:=LM t.place r y 0;let o:∀j,zi t j->zi (t.put y).1 j:=by
  rintro j ⟨i,l,e⟩;cases c:i<p
  .rw[(i,by rw[a,sz];lia,by rw[a,h,Zd c];rw[e])]
  .rw[(i+1,by rw[a,sz];lia,by rw[a,h,Ze (),Ze (),Nat.add_sub_cancel];rw[e])]
 let J:=T.size;rw[((?_,?_,?_,n,by rw[b,];rw[T.pow],(),?_),(),b)]
 .rw[a,sz,EZ _ ()];lia
 .intro i j q u;rw[a]at u ⊢;rw[sz]at u;rw[h,h];cases f:j<p
  .rw[Zd f,Zd ()];rw[T.up i j q ()]
  .rw[Ze f,];cases g:j=p
   .rw[Zd g,Zd ()];rw[E i ()]
   .rw[Ze g,];cases v:i<p
    .rw[Zd v,];rw[T.up i (j-1) () ()]
    .rw[Ze v,];cases w:i=p
     .rw[Zd w,];rw[H (j-1) () ()]
     .rw[Ze w,];rw[T.up (i-1) (j-1) (Nat.sub_lt_sub_right ()<|by assumption) ()]
 .intro i l;rw[a]at l ⊢;rw[sz]at l;rw[h,b]
  split
  .rw[T.le i ()]
  .split
   .rw[A]
   .rw[T.le (i-1) ()]
 .intro i l;rw[a]at l ⊢;rw[sz]at l;rw[h,LM m () x 0];cases f:i<p
  .rw[Zd f,Zd f];rw[(T.ways i ()).mono b.symm o]
  .rw[Ze f,Ze f];cases g:i=p
   .rw[Zd g,Zd g];rw[C.mono b.symm o]
   .rw[Ze g,Ze g];rw[(T.ways (i-1) ()).mono b.symm o]
open PySem
theorem CH(t)(i a):∀k,k<=019-i->JK t k (KP t.mask i a)={j:=i+k,more:=019-i-k,i:=i,perturb:=a,dummy:=8}
 |0,_=>9
 |k+1,h=>by
  rw[o2,CH t i a k ()]
  grind[SetTable.advance]
def Fa (h:i<=a):i<=SetTable.runEnd a i/\SetTable.runEnd a i<=a:=by
 grind[SetTable.runEnd]
def yP(a:Array (02 5))(j:5):4:=∃i,a.getD j 8=!i
theorem LN  (o:a.size=t.mask+1):∀fuel i b y,i<=t.mask->SetTable.layClean.free t.mask a fuel i b=!y->
 y<=t.mask/\a.getD y 8=8/\∃n,(JK t n<|KP t.mask i b).j=y/\∀m,m<n->yP a (JK t m<|KP t.mask i b).j
 |0,i,b,y,_,h=>by unfold SetTable.layClean.free at h;rw[J7 h]
 |fuel+1,i,b,y,A,h=>by
  let p:=Fa A;unfold SetTable.layClean.free at h;let r:∀{k},k<019+1-i->k<=019-i:=λe=>by
   rw[Nat.succ_sub p.1]at e;rw[Ut e]
  let s:∀{k},k<019+1-i->i+k<a.size:=λe=>by
   rw[o,];rw[Nat.lt_succ_of_le<|Zh (Nat.add_le_of_le_sub' p.1<|r e) p.2]
  let g:∀k,k<019+1-i->a.getD (i+k) (!0)=a.getD (i+k) 8:=λk e=>by
   rw[K2 (s e),K2 (s e)]
  let bz:∀k,k<019+1-i->(not<|(a.getD (i+k)<|!0).isNone)=6->yP a (i+k):=λk e u=>by
   rw[g k e]at u;ext yP
   induction q:a.getD (i+k) 8 with
   |none=>rw[q]at u;rw[JH u]
   |some v=>rw[(v,9)]
  split at h
  .rename_i k e;let(!w,f,x):=List.find?_range_eq_some.mp e;let f:=VR.mp f;obtain rfl:=Zqi h;rw[(Ut<|by let:=s f;rwa[o]at this,?_,k,?_,λm j=>?_)]
   .rw[g k f]at w
    induction q:a.getD (i+k) 8 with
    |none=>rfl
    |some v=>rw[q]at w;rw[JH w]
   .rw[CH t i b k (r f),]
   .rw[CH t i b m (r<|Ur j f),];rw[bz m (Ur j f)<|x m j]
  .rename_i e;let x:=Jy.mp e;let B:(SetTable.leap t.mask i b).1<=t.mask:=Jp.mp<|UH _<|Vm _;let(!C,E,(n,F,G)):=LN o fuel _ _ y B h;let l:=L9 t (019-i) (KP t.mask i b) 9 9;let l:JK t (019-i+1) (KP t.mask i b)=KP t.mask (SetTable.leap t.mask i b).1 (SetTable.leap t.mask i b).2:=l;rw[(C,E,019-i+1+n,by rw[AW,l];rw[F],λm j=>?_)];cases c:m<=019-i
   .rw[CH t i b m c,];rw[bz m ()<|x m ()]
   .let(z,rfl):∃z,m=019-i+1+z:=(m-(019-i+1),());rw[AW,l];rw[G z ()]
theorem LO  (g:a.size=b+1):∀(fuel i c:5),i<=b->SetTable.layClean.free b a fuel i c=8->∀r,r<fuel->yP a (xo b r %[i|c]).1
 |0,i,c,_,_,r,hr=>Zn hr (UL _)
 |fuel+1,i,c,j,h,r,hr=>by
  let l:=Fa j;unfold SetTable.layClean.free at h
  split at h
  .cases h
  .rename_i m;let n:=Jy.mp m;let o:(SetTable.leap b i c).1<=b:=Jp.mp<|UH _<|Vm _
   cases(r)with
   |zero=>
    let f:=n 0 ();let e:a.getD (i+0) (!0)=a.getD i 8:=by rw[Nat.add_zero,K2 (),K2 ()]
    rw[e]at f;show yP a i;ext yP
    induction q:a.getD i 8 with
    |none=>rw[q]at f;rw[JH f]
    |some v=>rw[(v,9)]
   |succ r=>rw[LO g fuel _ _ o h r ()]
def iR (b:a+1=2^k)(h) (c:y<=a):∃r,r<SetTable.turns a/\(xo a r %[014%(a+1)|014]).1=y:=by
 let f:014<2^64:=by
  grind[SetTable.bits]
 let g:=LD a 13 %[014%(a+1)|014]<|UH _ ();let i:(xo a 13 %[014%(a+1)|014]).2=0:=by
  grind[EW]
 have(q,j,e):=EV k (xo a 13 %[014%(a+1)|014]).1 y ();rw[(13+q,by ext SetTable.turns;lia,?_)];rw[LC,]
 grind[EX]
structure LayOk(t:YA)(owner:Array (02 5))(hs:Yf):4 where
 size:owner.size=t.mask+1
 lt:∀j i,owner.getD j 8=!i->i<⇑hs
 one:∀j j' i,owner.getD j 8=!i->owner.getD j' 8=!i->j=j'
 all:∀i,i<⇑hs->∃j,j<=t.mask/\owner.getD j 8=!i/\u0 t (yP owner) (hs.getD i 0) j
def zfJ{f:5->5} (h:∀a b,a<n->b<n->f a=f b->a=b):((List.range n).map f).Nodup:=by
 ext List.Nodup;rw[Vf,];rw[List.Pairwise.imp_of_mem (R:=λa b=>a≠b) (λ{a b}c g i e=>i<|h a b (VR.mp c) (VR.mp g) e) ?_];rw[V8]
def eI   (L:LayOk t c l)(u:⇑l<=t.mask):∃y,y<=t.mask/\c.getD y 8=8:=by
 apply V9;intro h;let j:∀y,y<t.mask+1->∃i,c.getD y 8=!i:=λy m=>by
  induction q:c.getD y 8 with
  |none=>rw[Zn (y,(),q) h]
  |some i=>rw[(i,9)]
 let n:((List.range<|t.mask+1).map λy=>(c.getD y 8).getD 0).Nodup:=zfJ λa b o p e=>by
  let(i,f):=j a o;let(r,g):=j b p;rw[f,g]at e;let e:i=r:=e;subst e;rw[L.one a b i f g]
 let sub:((List.range<|t.mask+1).map λy=>(c.getD y 8).getD 0)⊆ List.range ⇑l:=λz s=>by
  let(-y,m,rfl):=Ja.mp s;let(i,f):=j y (VR.mp m);rw[f,];rw[VR.mpr<|L.lt y i f]
 let:=Wl n sub;rw[Zql,ZB,ZB]at this;lia
def aY{owner:Array (02 5)} (a:y<owner.size)(v)(j):(owner.setIfInBounds y v).getD j 8=if j=y then v else owner.getD j 8:=by
 simp
 grind
def eu   (L:LayOk t owner l)(B:⇑l<=t.mask)(C:∃k,t.mask+1=2^k)(h):
 ∃y,SetTable.layClean.free t.mask owner (SetTable.turns t.mask) (014%(t.mask+1)) 014=!y/\LayOk t (owner.setIfInBounds y<|!⇑l) (l++[h]):=by
 let s:014%(t.mask+1)<=t.mask:=Jp.mp<|UH _<|Vm _
 induction q:SetTable.layClean.free t.mask owner (SetTable.turns t.mask) (014%(t.mask+1)) 014 with
 |none=>
  let(k,E):=C;let(-y,F,G):=eI L B;let(r,H,e):=iR E h F;let(i,u):=LO L.size _ _ _ s q r H;rw[e,G]at u;rw[J7 u]
 |some y=>
  let(!I,v,(n,J,M)):=LN L.size _ _ _ y s q;let o:=aY (owner:=owner) (y:=y) (by rw[L.size,];lia)<|!⇑l;let w:∀j,yP owner j->yP (owner.setIfInBounds y<|!⇑l) j:=by
   rintro j ⟨i,f⟩;rw[(i,?_)];rw[o,Ze λz=>by rw[z,v]at f;cases f];rw[f]
  rw[(y,9,(by rw[Array.size_setIfInBounds,];rw[L.size],λj i f=>?_,λj x i f g=>?_,λi p=>?_))]
  .rw[Ua,Ug];rw[o]at f
   split at f
   .ext
   .let:=L.lt j i f;lia
  .rw[o]at f g
   split at f
   .rename_i a;obtain rfl:=Zqi f
    split at g
    .rename_i b;rw[a,b]
    .let:=L.lt x _ g;lia
   .split at g
    .obtain rfl:=Zqi g;let:=L.lt j _ f;lia
    .rw[L.one j x i f g]
  .rw[Ua,Ug]at p;cases c:i<⇑l
   .have(j,N,A,O):=L.all i c;rw[(j,N,?_,?_)]
    .rwa[o,Ze λz=>by rw[z,v]at A;cases A]
    .let e:(l++[h]).getD i 0=l.getD i 0:=by
      rw[Ue,Ue,Uj c]
     rw[e,];rw[O.mono 9 w]
   .let e:i=⇑l:=()
    subst e;rw[(y,I,by rw[o,Zd 9],?_)];let e:(l++[h]).getD ⇑l 0=h:=by
     rw[Ue,Uv (Zf _),VF];rfl
    rw[e,];rw[(n,J,λm P=>w _<|M m P)]
theorem LQ (g:∃k,t.mask+1=2^k):∀rest c a,LayOk t a c->⇑c+⇑rest<=t.mask+1->
 ∃b,rest.foldl (init:=!%[a|⇑c]) (λf h=>do
  let%[a|k]<-f
  let j<-SetTable.layClean.free t.mask a (SetTable.turns t.mask) (014%(t.mask+1)) 014
  pure %[a.setIfInBounds j !k|k+1])=!%[b|⇑c+⇑rest]/\LayOk t b (c++rest)
 |[],c,a,L,_=>by grind
 |h::rest,c,a,L,hl=>by
  rw[Zu]at hl;let(-y,e,i):=eu L () g h;let(-l,m,n):=LQ g rest (c++[h]) _ i ()
  grind
def iV (c:∃k,t.mask+1=2^k)(b:Array 3)(f:b.size<=t.mask+1):∃a,SetTable.layClean t.mask b=!a/\LayOk t a b.toList:=by
 let g:LayOk t (Array.replicate (t.mask+1) 8) []:=by
  let z:∀j i,(Array.replicate (t.mask+1) (8:02 5)).getD j 8≠!i:=λj i h=>by
   simp only[Vx,Array.getElem?_replicate]at h
   split at h<;>rw[J7 h]
  rw[((),λj i h=>Zn h<|z j i,λj l i h=>Zn h<|z j i,λi h=>Zn h<|UL _)]
 let(-o,e,L):=LQ c b.toList [] _ g (by simpa using f);rw[(o,?_,by simpa using L)];ext SetTable.layClean;rw[<-Array.foldl_toList];let e:b.toList.foldl _ (!%[Array.replicate (t.mask+1) 8|0])=!%[o|[].length+⇑b.toList]:=e;rw[e,];rfl
open PySem
def ew{a:Array (02 5)} (h:a.getD j 8=!i):j<a.size:=()
noncomputable def W3(b:5)(a:Array (02 5)):List (5×5):=(List.range<|b+1).filterMap λj=>(a.getD j 8).map<|λz=>%[j|z]
def aS   :p∈W3 mask owner↔p.1<=mask/\owner.getD p.1 8=!p.2:=by
 ext W3;rw[List.mem_filterMap,];constructor
 .rintro⟨j,a,e⟩;let(-i,b,e):=Jj.mp e;subst e;rw[(Jp.mp<|VR.mp a,b)]
 .rintro⟨f,c⟩;rw[(p.1,VR.mpr (),by rw[c,];rfl)]
def a9(e)(c):(W3 e c).Pairwise λa b=>a.1<b.1:=by
 ext W3;rw[List.pairwise_filterMap,];rw[List.pairwise_lt_range.imp λ{a b}f x g y h=>?_];let(-i,_,rfl):=Jj.mp g;let(-j,_,rfl):=Jj.mp h;rw[f]
def Fb{α:Type}(l:List α)(i)(d):l.toArray.getD i d=l.getD i d:=()
def Fc{α β:Type}(l:List α)(f:α->β)(i)(a)(d):(l.map f).getD i d=f l[i]:=()
def aN (w:∃k,mask+1=2^k)(g)(hl:g.size<=mask)(finger moves)(led plain):
 ∃s c,SetTable.laid mask finger moves led plain g=!%[s|c]/\s.mask=mask/\s.moves=moves/\s.led=led/\s.plain=plain/\s.finger=finger/\c.size=g.size/\(∀k,k<c.size->c.getD k 0<g.size)/\(∀k m,k<c.size->m<c.size->c.getD k 0=c.getD m 0->k=m)/\(∀i,i<g.size->∃k,k<c.size/\c.getD k 0=i)/\TabOk s (c.map λi=>g.getD i 0):=by
 rw[let G:YA:={mask:=mask,place:=#[],dummies:=#[],finger:=0,led:=7,moves:=0,plain:=6};?_]
 let(-owner,e,L):=iV (t:=G) w g ();let e:SetTable.layClean mask g=!owner:=e;let H:owner.size=mask+1:=L.size;let mem:=λp=>aS (mask:=mask) (owner:=owner) (p:=p);let F:=a9 mask owner;let B:((W3 mask owner).map (·.2)).Nodup:=by
  ext List.Nodup;rw[Vf,];rw[List.Pairwise.imp_of_mem (λ{a b}I J M o=>?_) F];let n:=((mem a).mp I).2;let x:=((mem b).mp J).2;rw[o]at n;let:=L.one _ _ _ n x;lia
 let y:(W3 mask owner).map (·.2)⊆ List.range g.size:=λz N=>by
  let(-p,w,rfl):=Ja.mp N;let:=L.lt _ _ ((mem p).mp w).2;rw[VR.mpr<|by simpa using this]
 let r:List.range g.size ⊆(W3 mask owner).map (·.2):=λi h=>by
  let(-j,n,x,_):=L.all i (by simpa using VR.mp h);rw[Ja.mpr (%[j|i],(mem %[j|i]).mpr (n,x),9)]
 let len:⇑(W3 mask owner)=g.size:=by
  let a:=Wl B y;let b:=Wl V8 r;rw[Zql,ZB]at a b;lia
 let O:SetTable.laid mask finger moves led plain g=!%[{mask:=mask,place:=((W3 mask owner).map (·.1)).toArray,dummies:=#[],finger:=finger,led:=led,moves:=moves,plain:=plain}|((W3 mask owner).map (·.2)).toArray]:=by
  ext SetTable.laid;rw[e,];rfl
 generalize P:W3 mask owner=lv at*;let A:∀i h,((lv.map (·.1)).toArray).getD i 0=lv[i].1:=λi h=>by rw[Fb,Fc _ _ _ h]
 let go:∀i h,((lv.map (·.2)).toArray).getD i 0=lv[i].2:=λi h=>by rw[Fb,Fc _ _ _ h]
 let u:=Jk.mp F;rw[jR _ _ (O,9,9,9,9,9,by simpa using len,λk f=>?_,λk m f l o=>?_,λi h=>?_,?_)]
 .let f:k<⇑lv:=by simpa using f
  rw[go k f,];let:=L.lt _ _ ((mem lv[k]).mp<|UA f).2;simpa using this
 .let f:k<⇑lv:=by simpa using f
  let l:m<⇑lv:=by simpa using l
  rw[go k f,go m l]at o;let n:=((mem lv[k]).mp<|UA f).2;let x:=((mem lv[m]).mp<|UA l).2;rw[o]at n;let e3:=L.one _ _ _ n x;obtain q|q|q:=Ve k m
  .let:=u k m f l q;lia
  .rw[q]
  .let:=u m k l f q;lia
 .let(-p,w,o):=Ja.mp (r<|VR.mpr h);let(k,f,rfl):=UI w;rw[(k,by simpa using f,by rw[go k f,];rw[o])]
 .let Q:∀j,yP owner j->zi {mask:=mask,place:=(lv.map (·.1)).toArray,dummies:=#[],finger:=finger,led:=led,moves:=moves,plain:=plain} j:=by
   rintro j ⟨i,v⟩;let R:=ew v;let S:%[j|i]∈lv:=(mem %[j|i]).mpr (by show j<=mask;lia,v);let(k,f,o):=UI S;rw[(k,by simpa using f,by show((lv.map (·.1)).toArray).getD k 0=j;rw[A k f,o])]
  rw[((),λi j C v=>?_,λi h=>?_,9,w,by show((lv.map (·.1)).toArray).size<=mask;simp;lia,λk f=>?_)]
  .let v:j<⇑lv:=by simpa using v
   show((lv.map (·.1)).toArray).getD i 0<((lv.map (·.1)).toArray).getD j 0;rw[A i (),A j v];rw[u i j () v C]
  .let h:i<⇑lv:=by simpa using h
   show((lv.map (·.1)).toArray).getD i 0<=mask;rw[A i h,];rw[((mem lv[i]).mp<|UA h).1]
  .let f:k<⇑lv:=by simpa using f
   let n:=((mem lv[k]).mp<|UA f).2;let E:=L.lt _ _ n;let(-j,g1,T,U):=L.all lv[k].2 E;let X:=L.one _ _ _ T n;subst X;let Y:(((lv.map (·.2)).toArray).map λi=>g.getD i 0).getD k 0=g.toList.getD lv[k].2 0:=by
    let Z:((lv.map (·.2)).toArray).map (λi=>g.getD i 0)=((lv.map (·.2)).map λi=>g.getD i 0).toArray:=by simp
    rw[Z,Fb,Zw,Fc _ _ _ f];show g.getD lv[k].2 0=_;rw[Vx,Ue,Vs]
   rw[Y,];show u0 _ _ _ (((lv.map (·.1)).toArray).getD k 0);rw[A k f,];rw[U.mono 9 Q]
theorem LR:∀(fuel a n:5),(∃k,a=2^k)->n<a*2^fuel->(∃k,SetTable.sizeAbove.go n fuel a=2^k)/\n<SetTable.sizeAbove.go n fuel a
 |0,a,n,b,h=>by
  ext SetTable.sizeAbove.go;rw[(b,by simpa using h)]
 |fuel+1,a,n,(k,hk),h=>by
  ext SetTable.sizeAbove.go
  split
  .rw[LR fuel (a*2) n (k+1,by rw[Nat.pow_succ,hk])<|by rw[Nat.mul_assoc,<-Nat.pow_succ'];rw[h]]
  .rw[((k,hk),())]
def LS (h:n<1000000000):(∃k,SetTable.sizeAbove n=2^k)/\n<SetTable.sizeAbove n:=
 LR 64 08 n (03,9)<|Zg h<|008
theorem LU:∀fuel a n,a<=2*n+08->SetTable.sizeAbove.go n fuel a<=2*n+08
 |0,a,n,h=>h
 |fuel+1,a,n,h=>by
  ext SetTable.sizeAbove.go
  split
  .rw[LU fuel (a*2) n ()]
  lia
def zin(n):SetTable.sizeAbove n<=2*n+08:=LU 64 08 n ()
def iH{t:YA}  (s:hs.size<=wanted)(g:wanted<1000000000):
 ∃b a,t.relaid hs wanted=!%[b|a]/\b.led=t.led/\b.plain=t.plain/\b.mask+1=SetTable.sizeAbove wanted/\a.size=hs.size/\(∀k,k<a.size->a.getD k 0<hs.size)/\(∀k c,k<a.size->c<a.size->a.getD k 0=a.getD c 0->k=c)/\(∀i,i<hs.size->∃k,k<a.size/\a.getD k 0=i)/\TabOk b (a.map λi=>hs.getD i 0):=by
 let((k,u),h):=LS g;let j:SetTable.sizeAbove wanted-1+1=SetTable.sizeAbove wanted:=()
 let(b,a,e,l,_,m,n,_,o,p,q,r,f):=aN (k,by rwa[j,]) hs () t.finger (t.movedTo<|SetTable.sizeAbove wanted-1) t.led t.plain;rw[(b,a,e,m,n,by rwa[l,],o,p,q,r,f)]
open PySem
theorem TabOk.fits {c:Array (3×Value)}(T:TabOk t (c.map (·.1))):t.fits c.size=6:=by
 let e:=T.size;rw[Uu]at e;ext SetTable.fits SetTable.fill;rw[T.nod,];simp[e,show c.size<=t.mask by let:=T.room;lia]
def LV{a:Array (3×Value)} (b):(a.map (·.1)).getD i 0=a[i].1:=()
def Fd{a:Array (3×Value)}{i:5}(b):(a[i]?.map (·.1)).getD 0=a[i].1:=()
def ZY(t:YA)(p:SetTable.Probe):4:=p.j+p.more<=t.mask
def LW(t) (h:i<=t.mask):ZY t (KP t.mask i pert):=by
 let:=Fa h;show i+(019-i)<=t.mask;lia
def om  (h:ZY t p)(n):ZY t (JK t n p):=by
 induction n generalizing p with
 |zero=>rw[h]
 |succ n a=>rw[a<|(by
  unfold ZY at h;ext SetTable.advance
  split
  .show p.j+1+(p.more-1)<=t.mask;lia
  .let b:(SetTable.leap t.mask p.i p.perturb).1<=t.mask:=Jp.mp<|UH _<|Vm _;rw[LW t (pert:=(SetTable.leap t.mask p.i p.perturb).2) b])]
def e8(t)(h):ZY t 021:=LW t<|Jp.mp<|UH _<|Vm _
theorem LX       {same:Value->Bool}
 (X:↥s a=!o)(Y:o.data=.set f ep t)(T:TabOk t (f.map (·.1)))(B:t.mask%2=1)
 (hq:∀i(r:i<f.size),f[i].1=h->∀Q:Bool->Yz,Q (same f[i].2) s->YF p w A (eqBool f[i].2 x) Q E s)
 (hr:∀i(r:i<f.size),∃b,f[i].2=.ref b)
 (hsn:t.led=6\/∀Q:Bool->Yz,Q 7 s->YF p w A (searchCouldBeSeen x<|(f.filter (·.1==h)).toList.map (·.2)) Q E s)
 (he:e<10*SetTable.turns t.mask)(M:∀m,m<e->zi t (JK t m<|021).j)(v:¬zi t (JK t e<|021).j)
 (N:∀i(r:i<f.size),f[i].1=h->same f[i].2=6->Q (.there 8) s)
 (C:(∀i(r:i<f.size),f[i].1=h->same f[i].2=7)->Q (.free (JK t e<|021).j 7) s):
 ∀(fuel c:5)(H:02 SetTable.Probe),c<=e->e-c<fuel->H.getD 021=JK t c 021->
  (∀m i(r:i<f.size),m<c->t.slot (JK t m<|021).j=.live i->f[i].1=h->same f[i].2=7)->
  YF p w A (setSearchFrom a x h 6 fuel H) Q E s
 |0,c,H,hc,hf,_,_=>Zn hf (UL _)
 |fuel+1,c,H,hc,hf,hst,hno=>by
  let hsz:t.place.size=f.size:=by let:=T.size;rwa[Uu]at this
  show wpAny _ _ (_>>=_) _ _ _;rw[Za<|wpAny_setState_of X Y T.fits ?_];dsimp only;let hg:t.gaveWay=7:=by ext SetTable.gaveWay;rw[B,];rfl
  rw[hg,];simp only[UO,if_false];let live:∀m,m<e->∃i,t.slot (JK t m<|021).j=.live i/\i<f.size/\t.place.getD i 0=(JK t m<|021).j:=λm hm=>by
   let(-i,Z,h2,h3):=aT T.up (M m hm);rw[(i,Z,(),h3)]
  let step:∀m,JK t m (JK t c<|021)=JK t (c+m) 021:=λm=>(AW t c m _).symm;let I:∀g:5->3,(∀i,g i=(f[i]?.map (·.1)).getD 0)->(∃m i,c<=m/\m<e/\t.slot (JK t m<|021).j=.live i/\g i=h/\t.probe g h (H.getD<|021)=!(.candidate (JK t m<|021).j i<|JK t (m+1)<|021)/\∀j l,c<=j->j<m->t.slot (JK t j<|021).j=.live l->g l≠h)\/
   t.probe g h (H.getD<|021)=! .empty (JK t e<|021).j 8/\∀j l,c<=j->j<e->t.slot (JK t j<|021).j=.live l->g l≠h:=λg _=>by
   rw[hst,];let sd:(JK t c<|021).dummy=8:=oF 9 c;let ek:c+(e-c)=e:=()
   rcases LG (t:=t) (hashAt:=g) (h:=h) (e-c) (10*SetTable.turns t.mask) (JK t c<|021) () sd (λm hm=>by
    rw[step,];let(-i,Z,_):=live (c+m) ();rw[(i,Z)]) (by rw[step,ek];rw[o4 T.nod v])with ⟨m,i,g1,S,g3,g4,g5⟩|⟨g1,S⟩
   .rw[step]at S g4;rw[step]at g4;rw[.inl (c+m,i,(),(),S,g3,g4,λj l a1 a2 a3=>g5 (j-c) l ()<|by rw[step,show c+(j-c)=j by lia];rw[a3])]
   .rw[step,ek]at g1;rw[.inr (g1,λj l a1 a2 a3=>S (j-c) l ()<|by rw[step,show c+(j-c)=j by lia];rw[a3])]
  generalize F:t.probe _ h (H.getD<|021)=met;let O:∀i(r:i<f.size),f[i].1=h->∃m,m<e/\t.slot (JK t m<|021).j=.live i:=λi r G=>by
   let(-n,n1,n2):=T.ways i ();rw[LV r,G]at n1 n2;rw[(n,?_,by rw[n1,];rw[LJ T.up () 9])];obtain q|q|q:=Ve n e
   .rw[q]
   .subst q;rw[Zn (i,(),n1.symm) v]
   .rw[Zn (n2 e q) v]
  obtain⟨m,i,c1,c2,c3,c4,c5,c6⟩|⟨c1,c2⟩:=I _ λi=>9
  .let em:=F.symm.trans c5;subst em;let(-i2,k1,L,k3):=live m c2;rw[c3]at k1;cases k1;let G:f[i].1=h:=by rw[<-Fd L];rw[c4]
   dsimp only;let rest:YF p w A (do
    let !%[_|y]:=f[i]?|unsupported "internal:set-entry"
    let u<-holding [y] (eqBool y x)
    let%[es',_|t']<-setState a
    if 6&&u then return SetFound.there 8
    let !same:=t'.sameMemory t.moves t.mask|unsupported "set.changed-during-lookup:is-the-new-block-at-the-old-address"
    let J<-match if same then t'.slot (JK t m<|021).j else .empty with
     |.live l=>match es'[l]? with
      |some %[_|y']=>do pure (if<-isSame y' y then !l else 8)
      |none=>pure 8
     |_=>pure 8
    match J with
    |none=>rule "set.search.anew";setSearchFrom a x h 6 fuel 8
    |some l=>if u then return .there !l else setSearchFrom a x h 6 fuel !(JK t (m+1)<|021)) Q E s:=by
    rw[UF L,];dsimp only;rw[Za<|wpAny_holding<|hq i L G _ ?_];rw[Za<|wpAny_setState_of X Y T.fits ?_];dsimp only
    induction hs:same f[i].2 with
    |true=>
     simp only[Bool.and_self,if_true];rw[Zb<|N i L G hs]
    |false=>
     simp only[Bool.and_false,UO,if_false];let hsm:t.sameMemory t.moves t.mask=!6:=by ext SetTable.sameMemory;rw[Zd (beq_self_eq_true _),]
     rw[hsm,];dsimp only;simp only[if_true];rw[c3,];dsimp only;rw[UF L,];dsimp only;let(b,hb):=hr i L;let his:∀{Q':Bool->Yz},Q' 6 s->YF p w A (isSame f[i].2 f[i].2) Q' E s:=λ{Q'}hq'=>by
      rw[hb,];ext isSame;dsimp only;rw[Zd (beq_self_eq_true _),];rw[Zb hq']
     rw[Za<|his ?_];simp only[if_true];rw[Za<|Zb ?_];dsimp only;rw[LX X Y T B hq hr hsn he M v N C fuel (m+1) _ () () 9 λj l P hm' U R=>?_];cases d1:j<c
     .rw[hno j l P d1 U R]
     .cases d2:j=m
      .subst d2;rw[c3]at U;cases U;rw[hs]
      .rw[Zn (by rw[Fd P,];rw[R])<|c6 j l () () U]
   induction hld:t.led with
   |true=>
    rw[Ze (),];rw[rest]
   |false=>
    rw[Zd (),];obtain z|hsn:=hsn
    .rw[z]at hld;cases hld
    .rw[Za<|hsn _ ?_];rw[Ze (),];rw[rest]
  .let em:=F.symm.trans c1;subst em;dsimp only;rw[Zb<|C λi r G=>?_];let(-m,m1,m2):=O i r G;cases d1:m<c
   .rw[hno m i r d1 m2 G]
   .rw[Zn (by rw[Fd r,];rw[G])<|c2 m i () m1 m2]
def i6       {same:Value->Bool}
 (r:↥s a=!o)(u:o.data=.set c F t)(T:TabOk t (c.map (·.1)))(g:t.mask%2=1)(G:t.mask<=9000)
 (v:∀i(n:i<c.size),c[i].1=h->∀Q:Bool->Yz,Q (same c[i].2) s->YF f w A (eqBool c[i].2 x) Q E s)
 (B:∀i(n:i<c.size),∃b,c[i].2=.ref b)
 (p:t.led=6\/∀Q:Bool->Yz,Q 7 s->YF f w A (searchCouldBeSeen x<|(c.filter (·.1==h)).toList.map (·.2)) Q E s)
 (q:∀i(n:i<c.size),c[i].1=h->same c[i].2=6->Q (.there 8) s)
 (j:(∀i(n:i<c.size),c[i].1=h->same c[i].2=7)->∀y,y<=t.mask->¬zi t y->u0 t (zi t) h y->Q (.free y 7) s):
 YF f w A (setSearch a x h 6) Q E s:=xa (oh T h) λe=>j8 λC l m=>LX r u T g v B p C l m q (λz=>j z _ (by
  let:=om (e8 t h) e
  grind[ZY]) m (e,9,l)) 100000 0 8 (Ub _) (by grind[SetTable.turns]) 9 ()
open PySem
theorem LY:∀fuel a n,a<=SetTable.sizeAbove.go n fuel a
 |0,a,n=>by simp_all[SetTable.sizeAbove.go]
 |fuel+1,a,n=>by
  ext SetTable.sizeAbove.go
  split
  .rw[Zh ()<|LY fuel (a*2) n]
  .rw[Zf _]
def zhY(n):08<=SetTable.sizeAbove n:=LY 64 08 n
def p4 (h:m+1=2^k)(a:07<=m):m%2=1:=by
 cases(k)with
 |zero=>lia
 |succ k=>lia
def oG{b:Yg} (o:∀k,k<b.size->b.getD k 0<n)(p:∀k m,k<b.size->m<b.size->b.getD k 0=b.getD m 0->k=m)(q:∀i,i<n->∃k,k<b.size/\b.getD k 0=i):b.toList.Perm (List.range n):=by
 let r:b.toList.Nodup:=by
  ext List.Nodup;rw[List.pairwise_iff_getElem,];intro i j s t u e;let c:i<b.size:=by simpa using s
  let f:j<b.size:=by simpa using t
  let:=p i j c f (by rw[K2 c,K2 f];simpa using e);lia
 rw[List.perm_iff_count.mpr λa=>?_];rw[r.count,List.nodup_range.count];let:a∈b.toList↔a∈List.range n:=by
  rw[VR,];constructor
  .intro h;let(k,l,e):=UI h;let g:k<b.size:=by simpa using l
   let:=o k g;rw[K2 g]at this;let e:b[k]=a:=by simpa using e
   lia
  .intro h;let(-k,l,e):=q a h;rw[K2 l]at e;rw[<-e,Wa];rw[Wb l]
 simp only[this]
def eJ{α:Type}{es:Array α}{a:Yg}(d)(c:∀k,k<a.size->a.getD k 0<es.size):a.filterMap (es[·]?)=a.map λi=>es.getD i d:=by
 apply Array.toList_inj.mp;rw[Array.toList_filterMap,Array.toList_map];let:∀l:Yh,(∀i∈l,i<es.size)->l.filterMap (es[·]?)=l.map λi=>es.getD i d:=by
  intro l
  cases(l)with
  |nil=>intro _;rfl
  |cons i l g=>
   ext
 rw[this _ λi f=>?_];let(k,h,e):=UI f;let b:k<a.size:=()
 let:=c k b
 ext
structure SetIs(hp:Heap)(a:Addr)(es:Array (3×Value))(t:YA):4 where
 at_:∃ep,hp.get? a=!{cls:=.type "set",dict:=8,data:=.set es ep t,slots:=#[]}
 tab:TabOk t (es.map (·.1))
 seven:07<=t.mask
 most:t.mask<=08*es.size+07
 room:es.size*05<t.mask*03
 refs:∀i(hi:i<es.size),∃b,es[i].2=.ref b
def SetIs.odd    (S:SetIs e a f t):t.mask%2=1:=by
 let(k,c):=S.tab.pow;rw[p4 c S.seven]
def LZ{b:Heap}    (c:b.get? a=!{cls:=.type "set",dict:=8,data:=.set f e t,slots:=#[]}):
 (b.update a<|Obj.putSet es' t').get? a=!{cls:=.type "set",dict:=8,data:=.set es' (e+1) t',slots:=#[]}:=by
 let:=Heap.get?_update_self (Obj.putSet es' t') c<|by rfl
 rwa[putSet_of es' t' 9]at this
def eQ
 (p:↥s a=!{cls:=.type "set",dict:=8,data:=.set es H t,slots:=#[]})(T:TabOk t (es.map (·.1)))(hn:1<=es.size)(hl:es.size<=1000)(I:∀i(l:i<es.size),∃b,es[i].2=.ref b)
 (h:∀f g,f.toList.Perm es.toList->g.led=t.led->g.plain=t.plain->SetIs (s.heap.update a<|Obj.putSet f g) a f g->Q Yq {s with heap:=s.heap.update a (Obj.putSet f g)}):
 YF v w A (setRelay a<|SetTable.grown es.size) Q E s:=by
 let J:SetTable.grown es.size=es.size*04:=by ext SetTable.grown;rw[Ze (),]
 let L:=zin<|es.size*04;let(_,M):=LS (n:=es.size*04) ();let N:=zhY<|es.size*04;let(g,c,e,O,P,e3,x,o,R,y,S):=iH (t:=t) (hs:=es.map (·.1)) (wanted:=es.size*04) (by rw[Uu,];lia) ();rw[Uu]at x o y;rw[J,];ext setRelay;rw[Za<|wpAny_setState_of p 9 T.fits ?_];dsimp only;rw[Ze (by rw[sizeLine_eq,];lia),];rw[e,];let z:=eJ (es:=es) %[0|Value.none] o;let m:(c.filterMap (es[·]?)).size=es.size:=by rw[z,Uu];rw[x]
 let q:(c.filterMap (es[·]?)).toList.Perm es.toList:=by
  rw[Array.toList_filterMap,];rw[((oG o R y).filterMap _).trans<|by rw[filterMap_getElem?_range,]]
 let B:(c.filterMap (es[·]?)).map (·.1)=c.map λi=>(es.map (·.1)).getD i 0:=by
  rw[z,Array.map_map];apply Array.map_congr_left;intro i l;let(k,C,U):=Array.getElem_of_mem l;let:=o k C;rw[K2 C,U]at this;show(es.getD i %[0|Value.none]).1=_;rw[K2 this,LV this]
 let F:TabOk g ((c.filterMap (es[·]?)).map (·.1)):=by rw[B,];rw[S]
 let G:∀i(l:i<(c.filterMap (es[·]?)).size),∃b,(c.filterMap (es[·]?))[i].2=.ref b:=λi l=>by
  let X:(c.filterMap (es[·]?))[i]∈es.toList:=q.mem_iff.mp (by rw[Wa,];rw[Wb l]);let(j,Y,Z):=UI X;let r:j<es.size:=by simpa using Y
  let(b,hb):=I j r;rw[(b,?_)];rw[<-Z];simpa using hb
 let u:¬((c.filterMap (es[·]?)).size !=es.size)=6:=by rw[m,];simp
 rw[Za<|wpAny_of_eq (a:=%[c.filterMap (es[·]?)|g]) ?_ ?_]
 .show(if((c.filterMap (es[·]?)).size !=es.size)=6 then _ else _)=_;rw[Ze u,]
 .dsimp only;generalize c.filterMap (es[·]?)=f at m q F G B;rw[wpAny_storeSet_of p 9 (h f g q O P ((H+1,LZ p),F,(),(),(),G))<|by rw[sizeLine_eq,];lia]
def iP{c a:Array (3×Value)}(g:∀i(e:i<c.size),∃b,c[i].2=.ref b)   (l:x=.ref b)(m:a.toList.Perm (c.toList++[%[h|x]])):∀i(e:i<a.size),∃b,a[i].2=.ref b:=λi e=>by
 rcases Jb.mp (m.mem_iff.mp<|by rw[Wa,];rw[Wb e])with z|z
 .let(j,n,o):=UI z;let f:j<c.size:=by simpa using n
  let(b,p):=g j f;rw[(b,?_)];rw[<-o];simpa using p
 .rw[Jd.mp z,];rw[(b,l)]
def lE      {same:Value->Bool}
 (S:SetIs s.heap a e t)(U:x=.ref b)(hl:e.size+1<=1000)
 (Z:∀i(G:i<e.size),e[i].1=h->∀Q:Bool->Yz,Q (same e[i].2) s->YF f w A (eqBool e[i].2 x) Q E s)
 (J:t.led=6\/∀Q:Bool->Yz,Q 7 s->YF f w A (searchCouldBeSeen x<|(e.filter (·.1==h)).toList.map (·.2)) Q E s)
 (hbv:∀Q:Bool->Yz,Q 6 s->YF f w A (hashByValue 08 x) Q E s)
 (L:∀i(G:i<e.size),e[i].1=h->same e[i].2=6->Q 7 s)
 (n:(∀i(G:i<e.size),e[i].1=h->same e[i].2=7)->∀M es' t',Heap.SameBut a s.heap M->SetIs M a es' t'->es'.toList.Perm (e.toList++[%[h|x]])->t'.led=t.led->t'.plain=t.plain->Q 6 {s with heap:=M}):
 YF f w A (setAddHashed a x h) Q E s:=by
 let(ep,r):=S.at_;let N:t.mask<=9000:=by let:=S.most;lia
 ext setAddHashed setAddHashedIn;rw[wpAny_holding<|Za<|wpAny_setState_of r 9 S.tab.fits ?_];dsimp only;let hb:byScan x e=7:=by subst U;rfl
 rw[hb,];simp only[UO,if_false];rw[Za<|i6 r 9 S.tab S.odd N Z S.refs J (λi G h1 h2=>Zb<|L i G h1 h2) λu y hy hf hw=>?_];dsimp only;rw[Za<|wpAny_setState_of r 9 S.tab.fits ?_];dsimp only;let hsz:t.place.size=e.size:=by let:=S.tab.size;rwa[Uu]at this
 let O:=S.room;let H:=S.seven;let(!o,j,v):=lC S.tab hy hf hw ();rw[Uu]at j;let l:(t.put y).1.led=t.led:=9;let m:(t.put y).1.plain=t.plain:=9;generalize X:t.put y=tp at o j v l m;let(g,p):=tp;dsimp only at o j v l m ⊢;let em:(SetTable.insertAt e p %[h|x]).map (·.1)=SetTable.insertAt (e.map (·.1)) p h:=by
  ext SetTable.insertAt;simp
 rw[<-em]at o;let I:(SetTable.insertAt e p %[h|x]).toList.Perm (e.toList++[%[h|x]]):=by
  let:=SetTable.insertAt_perm e p %[h|x]
  rwa[Array.toList_push]at this
 let B:(SetTable.insertAt e p %[h|x]).size=e.size+1:=EZ e j _;let q:=iP S.refs U I;generalize SetTable.insertAt e p %[h|x]=es1 at o I B q;let Y:YF f w A (do
  storeSet a es1 g
  if not 7&&g.tooFull then setRelay a (SetTable.grown<|e.size+1)
  return 6) Q E s:=by
  rw[Za (wpAny_storeSet_of r 9 ?_<|by rw[sizeLine_eq,];lia)];let C:=LZ (es':=es1) (t':=g) r;let F:=Heap.SameBut.update s.heap a<|Obj.putSet es1 g;cases c:g.tooFull=6
  .rw[Zd (by rw[c,];rfl),];rw[<-B];rw[Za<|eQ C o () () q λP t2 R l2 p2 S2=>Zb<|n u _ P t2 (F.trans<|Heap.SameBut.update _ a _) S2 (R.trans I) (l2.trans l)<|p2.trans m]
  .rw[Ze (by simpa using c),];let T:¬ g.fill*05 ≥ g.mask*03:=by
    intro z;rw[c<|Zp z]
   let hfl:g.fill=es1.size:=by
    ext SetTable.fill;let:=o.size;rw[Uu]at this;rw[this,o.nod];rfl
   let S1:SetIs (s.heap.update a<|Obj.putSet es1 g) a es1 g:=((ep+1,C),o,(),by let:=S.most;lia,(),q);rw[Zb<|n u _ es1 g F S1 I l m]
 grind[wpAny_bind,wpAny_pure]
open PySem
inductive HashAll(prog:Program)(w:World)(A:Around)(E:Ya)(s:Shared):Ye->List Int->Prop
 |nil:HashAll prog w A E s [] []
 |cons{v:Value}{vs:Ye}{h:Int}{hs:Yf}:(∀(tk:Nat)(Q:Int->Yz),(∀tk',tk<=tk'->Q h {s with toks:=tk'})->YF prog w A (pyHash v) Q E {s with toks:=tk})->HashAll prog w A E s vs hs->HashAll prog w A E s (v::vs) (h::hs)
noncomputable def Fe(a:Yf):3:=reduceHash<|Builtin.Tuple.tupleHashOf a
def Ma       (u:↥s a=!o)(v:o.cls=.type "tuple")(y:o.data=.seq g n)(z:A.units<cLine)
 (H:HashAll e w A.in1 E s g.toList m)(h:∀f,c<=f->Q (Fe m) {s with toks:=f}):YF e w A (pyHash<|016) Q E {s with toks:=c}:=by
 let B:Shared.TypeIs {s with toks:=c} 016 "tuple":=(o,u,v);ext pyHash;rw[W.pyHash_slot (T:="tuple") B F.slot_tuple_hash F.entry_tuple_hash (F.args_tuple_hash_1 _) (beq_builtin_none _) (.inr z) ?_];show wpAny _ _ (Builtin.Tuple.tupleItemsOf 016>>=_) _ _ _;rw[Za<|wpAny_tupleItemsOf u y ?_];rw[Za ?_];rw[<-Vy];rw[wpAny_forIn_list _ (λrest(b:Array 3)p=>∃left f,HashAll e w A.in1 E s rest left/\b.toList++left=m/\p={s with toks:=f}/\c<=f) _ ?_ ?_ _ _ (m,c,H,9,9,Zf _)]
 .rintro x rest b p ⟨left,f,q,l,rfl,i⟩;cases q with
  |cons C r=>
   rw[Za<|C f _ λt j=>?_];rw[Zb (_,t,r,by simp[<-l],9,Zh i j)]
 .rintro b p ⟨left,f,q,l,rfl,i⟩;cases q;rw[ZA]at l;show wpAny _ _ (retInt<|Builtin.Tuple.tupleHashOf b.toList) _ _ _;rw[l,];rw[Za<|wpAny_mkInt<|Zb (_,_,9,h _<|Vr i)]
theorem Mb :∀{a:Ye}{b:Yf},PyProof.Rows.IntsAre a b->HashAll c w A E s a (b.map hashInt)
 |_,_,.nil=>.nil
 |_,_,.cons n t r=>.cons (λe Q h=>wpAny_pyHash_int<|h _<|Nat.le_succ e) (Mb r)
inductive PlainV(hp:Heap):Nat->Value->Prop
 |int(n:Nat)(i:Int)(t:Tok):PlainV hp n (.int i t)
 |tup{n:Nat}{a:Addr}{o:Obj}{items:Yk}{k:Nat}:hp.get? a=!o->o.cls=.type "tuple"->o.data=.seq items k->(∀v∈items.toList,PlainV hp n v)->PlainV hp (n+1) 016
def zh3  (p:PlainV s.heap n v):∀d Q,n<=d->Q 6 s->YF a w A (hashByValue d v) Q E s:=by
 cases(p)with
 |int n i t=>
  intro d Q _ h
  cases(d)<;>rw[Zb h]
 |tup b c e _ l=>
  intro d Q m h
  cases(d)with
  |zero=>lia
  |succ d=>
   let f:Shared.TypeIs s (.ref _) "tuple":=(_,b,c);rw[Za<|wpAny_specialOf f F.slot_tuple_hash.lookup<|Za<|wpAny_seqItems b e<|Za ?_];rw[Option.getD_some,<-Vy];rw[wpAny_forIn_list _ (λrest r g=>r.1=8/\g=s/\∀v∈rest,v∈_) _ ?_ ?_ _ _ (9,9,λv j=>j)]
   .grind[wpAny_bind,wpAny_pure]
   grind[wpAny_pure]
def Mc  (p:PlainV s.heap n v):∀d Q,n<=d->Q 6 s->YF a w A (eqIsQuiet d v) Q E s:=by
 cases(p)with
 |int n i t=>
  intro d Q _ h;rw[wpAny_of_eq (eqIsQuiet_byValue d 9) h]
 |tup b e f _ l=>
  intro d Q m h
  cases(d)with
  |zero=>lia
  |succ d=>
   let c:Shared.TypeIs s (.ref _) "tuple":=(_,b,e);ext eqIsQuiet;rw[Za<|wpAny_specialOf c F.slot_tuple_eq.lookup<|Za<|wpAny_isInstance c isSubtype_tuple_tuple<|Za<|wpAny_seqItems b f<|Za ?_];rw[Option.getD_some,<-Vy];rw[wpAny_forIn_list _ (λrest r g=>r.1=8/\g=s/\∀v∈rest,v∈_) _ ?_ ?_ _ _ (9,9,λv j=>j)]
   .grind[wpAny_bind,wpAny_pure]
   grind[wpAny_pure]
def Md  (p:PlainV s.heap n v):∀d Q,n<=d->Q 7 s->YF a w A (ofAClassStatement d v) Q E s:=by
 cases(p)with
 |int n i t=>
  intro d Q _ h
  cases(d)<;>rw[Zb h]
 |tup b c e _ l=>
  intro d Q m h
  cases(d)with
  |zero=>lia
  |succ d=>
   let f:Shared.TypeIs s (.ref _) "tuple":=(_,b,c);ext ofAClassStatement;rw[Za<|wpAny_typeOf f ?_];simp;rw[Za<|wpAny_seqItems b e<|Za ?_];rw[<-Vy];rw[wpAny_forIn_list _ (λrest r g=>r.1=8/\g=s/\∀v∈rest,v∈_) _ ?_ ?_ _ _ (9,9,λv j=>j)]
   .grind[wpAny_bind,wpAny_pure]
   grind[wpAny_pure]
def oX    (a:n<=08)(c:PlainV s.heap n x)(j:∀y∈b,PlainV s.heap n y)(h:Q 7 s):YF e w A (searchCouldBeSeen x b) Q E s:=by
 rw[Za<|wpAny_forIn_list _ (λrest r f=>r.1=8/\f=s/\∀v∈rest,v∈b) _ ?_ ?_ _ _ ()]
 .rintro y rest r f ⟨m,rfl,l⟩;let g:=j y<|l y Zqs;let i:∀v∈rest,v∈b:=by grind
  dsimp only
  split
  all_goals
   split
   .rw[Zb (9,9,i)]
   .rw[Za<|Mc c 08 _ a<|Za<|Mc g 08 _ a<|Za<|Md c 08 _ a<|Za<|Md g 08 _ a<|Zb (9,9,i)]
 grind[wpAny_pure]
structure KeyFam(prog:Program)(w:World)(hp:Heap)(PV:Value->4)(hsh:Value->3)(same:Value->Value->Bool):4 where
 ref:∀v,PV v->∃b,v=.ref b
 plain:∀v,PV v->PlainV hp 08 v
 hash:∀v,PV v->∀(A:Around)(E:Ya)(s:Shared)(Q:3->Yz),(∀b o,hp.get? b=!o->↥s b=!o)->A.units+08<cLine->(∀tk,s.toks<=tk->Q (hsh v) {s with toks:=tk})->YF prog w A (pyHash v) Q E s
 eq:∀v u,PV v->PV u->∀(A:Around)(E:Ya)(s:Shared)(Q:Bool->Yz),(∀b o,hp.get? b=!o->↥s b=!o)->A.units+08<cLine->Q (same v u) s->YF prog w A (eqBool v u) Q E s
 coh:∀v u,PV v->PV u->same v u=6->hsh v=hsh u
def PlainV.keep (k:∀b o,c.get? b=!o->hp'.get? b=!o)  (p:PlainV c n v):PlainV hp' n v:=by
 cases(p)with
 |int n i t=>rw[.int n i t]
 |tup e f j _ l=>rw[.tup (k _ _ e) f j l]
noncomputable def X8(same:Value->Value->Bool)(D:Ye)(v:Value):Ye:=if D.any (same · v)then D else D++[v]
def yU(same:Value->Value->Bool)(val:5->Value)(i:5):Ye:=((List.range i).map val).foldl (X8 same) []
theorem CI(same:Value->Value->Bool)(val:5->Value)(i:5):yU same val (i+1)=X8 same (yU same val i) (val i):=by
 ext yU;rw[List.range_succ,Uc,Vz];rfl
theorem Me(same)(val):∀i,⇑(yU same val i)<=i
 |0=>Zf _
 |i+1=>by
  let:=Me same val i
  grind[X8,CI,List.length_append,List.length_singleton]
theorem Ff(same)(val):∀i v,v∈yU same val i->∃j,j<i/\v=val j
 |0,v,h=>by cases h
 |i+1,v,h=>by
  rw[CI]at h;unfold X8 at h
  split at h
  .have(j,a,e):=Ff same val i v h;rw[(j,(),e)]
  .rcases Jb.mp h with z|z
   .have(j,a,e):=Ff same val i v z;rw[(j,(),e)]
   grind
def Holds(a:Value->3)(c:Heap)(S:Addr)(ld:Bool)(D:Ye):4:=∃b t,SetIs c S b t/\b.toList.Perm (D.map λv=>%[a v|v])/\t.led=ld/\t.plain=6
def i9   {same:Value->Value->Bool}(K:KeyFam l w Y N c same) {ld:Bool}
 (F:∀b o,Y.get? b=!o->↥s b=!o)(Z:A.units+08<cLine)(H:Holds c s.heap S ld D)(G:∀v∈D,N v)(B:N x)(hl:⇑D<=999)
 (h:∀m b,Heap.SameBut S s.heap m->Holds c m S ld (X8 same D x)->Q b {s with heap:=m}):YF l w A (setAddHashed S x<|c x) Q E s:=by
 let(f t,O,n,p,q):=H;let(b,hb):=K.ref x B;let P:f.size=⇑D:=by
  let:=n.length_eq
  ext
 let g:∀i(a:i<f.size),f[i].2∈D/\f[i].1=c f[i].2:=λi a=>by
  let I:=n.mem_iff.mp (by rw[Wa,];rw[Wb a]);let(-v,j,e):=Ja.mp I;rw[<-e];rw[(j,9)]
 let r:∀v∈D,∃i,∃a:i<f.size,f[i]=%[c v|v]:=λv j=>by
  let I:=n.mem_iff.mpr<|Ja.mpr (v,j,9);let(i,a,e):=UI I;rw[(i,by simpa using a,by simpa using e)]
 let R:=(K.plain x B).keep F;rw[lE (same:=λy=>same y x) O hb () (λi a _ C u=>K.eq _ _ (G _ (g i a).1) B A E s C F Z u) (.inr λC u=>?_) (λC u=>zh3 R 08 C (Zf _) u) (λi a h1 h2=>?_) λJ m L t' sb S' M l' p'=>?_]
 .rw[oX (Zf 08) R (λy hy=>?_) u];let(-e,T,rfl):=Ja.mp hy;let T:e∈f:=by
   ext
  let(i,a,rfl):=Array.getElem_of_mem T;rw[(K.plain _<|G _ (g i a).1).keep F]
 .let e:X8 same D x=D:=Zd<|V5.mpr (_,(g i a).1,h2);let:=h s.heap 7 (Heap.SameBut.refl S s.heap) (f,t,O,by rw[e,];rw[n],p,q);rw[this]
 .let e:X8 same D x=D++[x]:=Ze λz=>by
   let(-v,j,U):=V5.mp z;let(i,a,X):=r v j;let:=J i a (by rw[X,];rw[K.coh v x (G v j) B U]);rw[X]at this;rw[U]at this;cases this
  rw[h m 6 sb (L,t',S',?_,l'.trans p,p'.trans q)];rw[e,Uc];rw[M.trans<|n.append_right _]
section
variable          {St:Nat->Yz}
def Holds.keep   {ld:Bool} (H:Holds e f S ld D)(k:∀o,f.get? S=!o->hp'.get? S=!o):Holds e hp' S ld D:=by
 let(i t,c,r):=H;let(j,l):=c.at_;rw[(i,t,((j,k _ l),c.tab,c.seven,c.most,c.room,c.refs),r)]
def aV(W:WalksS f w A.in1 I fp q G n P St)(S)(J:S∉fp) (r:∀b o,hp.get? b=!o->b∉q/\b≠S)
 {same:Value->Value->Bool}(K:KeyFam f w hp T t same)(val)(x:∀i v,P i v->v=val i)(L:∀i,i<n->T (val i))(hn:n<=999)(U:A.in1.units+08<cLine)(ld):
 ∀k i s,n-i=k->i<=n->St i s->(∀b o,hp.get? b=!o->↥s b=!o)->Holds t s.heap S ld (yU same val i)->
  (∀a,Moved (S::q) G s a->Holds t a.heap S ld (yU same val n)->R (.ok<|.ret .none) a)->
  codeAny (model f w) A (.builtin "set.update.loop" ([.ref S,.ref I],[])) R s:=by
 let y:S∉q:=λh=>J<|W.sub _ h;let g:∀b∈q,b∈S::q:=by grind
 intro k
 cases(k)with
 |zero=>
  intro i s X hi j z H M;let N:i=n:=()
  subst N;rw[codeAny_builtin F.entry_set_update_loop ?_];rw[Around.under_plainId F.plain_set_update_loop _,];show wpAny _ A.in1 (pyNext (.ref I)>>=_) _ _ s;rw[Za<|W.done s _ _ j λa p=>?_];show wpAny _ A.in1 (ret Value.none) _ _ a;rw[Zb<|M a (p.mono g)<|H.keep λo e=>p.heap S _ y e]
 |succ k ih=>
  intro i s X hi j z H M;let l:i<n:=()
  rw[codeAny_builtin F.entry_set_update_loop ?_];rw[Around.under_plainId F.plain_set_update_loop _,];show wpAny _ A.in1 (pyNext (.ref I)>>=_) _ _ s;rw[Za<|W.item i s _ _ l j λv a hP B p=>?_];let Y:=x i v hP;let H':=H.keep (hp':=a.heap) λo e=>p.heap S _ y e;let c:∀b o,hp.get? b=!o->↥a b=!o:=λb o e=>p.heap b o (r b o e).1<|z b o e;let Z:T v:=by rw[Y,];rw[L i l]
  show wpAny _ A.in1 (holding [v] (setAdd S v)>>=_) _ _ a;rw[Za<|wpAny_holding ?_];ext setAdd;rw[wpAny_holding ?_];rw[Za<|K.hash v Z _ _ _ _ c U λtk C=>?_];let hl:=Me same val i;rw[i9 K c U H' (λu hu'=>?_) Z () λh' b m H2=>?_]
  .grind[Ff]
  .rw[Y,<-CI]at H2;rw[Zb (plainId_quiet F.plain_set_update_loop _,ih (i+1) _ (by rw[Nat.sub_succ,X];rfl) l (W.frame _ a _ _ B ?_ λb hb o e=>?_) (λb o e=>?_) H2 λO E Q=>?_)]
   .rw[C]
   .rw[m.2 b (),];rw[e]
   .rw[m.2 b (r b o e).2,];rw[c b o e]
   .rw[M O (Moved.trans W.gtrans ((p.mono g).then_heap ?_ λb o hb e=>?_) E) Q]
    .rw[C]
    .rw[m.2 b (),];rw[e]
end
def oS    (b:c.get? S=!{cls:=.type "set",dict:=8,data:=.set #[] 0 (.fresh 0 0 a)}):Holds e c S a []:=
 (#[],.fresh 0 0 a,((0,b),by rw[(by rw[Uu,];rfl,λi j _ h=>Zn h<|UL _,λi h=>Zn h<|UL _,9,(03,9),Ub _,λi h=>Zn h<|UL _)],Zf _,Zf _,show 0*05<07*03 by decide,λi h=>Zn h<|UL _),VM _,9,9)
section
variable  {w:World}
noncomputable def zJ(w:World):Bool:=not<|w.params.followText "set-order"
def zj7(a:Value)
 (h:Q₁ (.ref s⁻¹) {s with heap:=s.heap.push {cls:=.type "set",dict:=8,data:=.set #[] 0 (.fresh 0 0<|zJ w)}}):
 codeAny (model prog w) A (.call (.builtin "set.__new__") ([.type "set",a],[])) (wants Q₁ E) s:=by
 rw[codeAny_of_tree ?_];show wpAny _ A.in1 (do checkBuiltinCall "set.__new__" ([.type "set",a],[]);again (.builtin "set.__new__" ([.type "set",a],[]))) _ _ s;rw[Za<|wpAny_of_eq (F.newCall_set_1 a)<|Zb (plainId_quiet F.plain_set_new _,codeAny_builtin F.entry_set_new ?_)];rw[Around.under_plainId F.plain_set_new _,];ext Builtin.«set.__new__» Builtin.Frozenset.newClass;let b:=sub_set_self;let(c,g,d,e,os):=s;dsimp only
 wp_walk
 rw[wpAny_askSetting<|Zb ?_];dsimp only;simp only[newObj];rw[Za<|wpAny_alloc<|Zb ?_];rw[Zb h]
set_option maxRecDepth 100000 in
set_option maxHeartbeats 3200000 in
def zjL{l:Addr}{a:Yk}{PV:Value->4}{p:Value->3}{same:Value->Value->Bool}{Q:Ya}(hh:A.handled=8)(hl:s.heap.IsList l a)(K:KeyFam prog w s.heap PV p same)
 (M:∀(i:5)(v:Value),a[i]?=!v->PV v)(hn:a.size<=999)(hu:A.in1.in1.in1.units+08<cLine)
 (h:∀(g:Heap)(J:5),Holds p g s⁻¹ (zJ w) (yU same (λi=>a.getD i .none) a.size)->(∀b o,b<s⁻¹->↥s b=!o->g.get? b=!o)->Q (.ref s⁻¹) {s with heap:=g,toks:=J}):
 YF prog w A (call (.type "set") [.ref l]) Q E s:=by
 let cn:=λA:Around=>zj7 (prog:=prog) (w:=w) (A:=A) (E:=E) (s:=s) (.ref l) (Q₁:=λu s₁=>u=.ref s⁻¹/\s₁={s with heap:=s.heap.push {cls:=.type "set",dict:=8,data:=.set #[] 0 (.fresh 0 0<|zJ w)}}) (9,9);generalize zJ w=j at h cn;let(c,tl,hmro):=F.called_set.mro;let N:=F.called_set.made;let hsub:=F.called_set.sub;rw[wpAny_call<|codeAny_of_tree ?_];show wpAny _ _ (callAny (.type "set") _) _ _ _;rw[Zb (Code.quiet_builtin _<|by decide+kernel,codeAny_builtin F.entry_type_call ?_)];rw[Around.under_plain (weight_type_call_type "set" [.ref l] []) 9,];let h1:=F.called_set.notType;let h2:=F.called_set.canCreate;let hct:=F.typeCall_set_1<|.ref l
 repeat(any_goals(first|assumption|wp_step))
 rw[codeAny_mono (cn _) λr s₁ q=>?_];cases r with
 |error e=>rw[q]
 |ok O=>
  cases O with
  |ret u=>
   let(rfl,rfl):=q;generalize f:({cls:=.type "set",dict:=8,data:=.set #[] 0 (.fresh 0 0 j)}:Obj)=no at*;let hS:(s.heap.push no).get? s⁻¹=!no:=Zr _ (by rw[<-f];rfl);let hT:Shared.TypeIs {s with heap:=s.heap.push no} (.ref s⁻¹) "set":=(_,hS,by rw[<-f]);let hli:=F.called_set.init.lookup;let hbi:=F.called_set.init.bind<|.ref s⁻¹
   repeat(any_goals(first|assumption|wp_step))
   rw[codeAny_mono (codeAny_call_builtin (R:=wants (λr s₂=>r=.none/\∃g J,s₂={s with heap:=g,toks:=J}/\Holds p g s⁻¹ j (yU same (λi=>a.getD i .none) a.size)/\
    ∀b o,b<s⁻¹->↥s b=!o->g.get? b=!o) E) F.called_set.init.plain F.entry_set_init<|check_set_init_1 hT ?_) λr₂ s₂ hr₂=>?_]
   .let(ol,x,y,nl,z):=hl;let(ocls,t,P,m):=ol;simp only at y z;subst y;subst z;let B:(s.heap.push no).get? l=!{cls:=.type 013,dict:=t,data:=.seq a nl,slots:=m}:=Zq _ x;let hsls:=F.sub_list_set;let hslf:=F.sub_list_frozenset;let hne:(Value.type 013==Value.type "dict")=7:=008
    let C:(s.heap.push no).IsList l a:=(_,B,9,nl,9);subst f;ext Builtin.«set.__init__» noKeywords Builtin.Frozenset.updateFrom;generalize S:pyIter=PI
    wp_walk
    subst S;rw[wpAny_pyIter_list C ?_];rw[Za<|wpAny_runValue ?_];let G:l<s⁻¹:=Zk x;let T:A.in1.in1.in1.handled=8:=by simp[hh]
    generalize f:({cls:=.type "set",dict:=8,data:=.set #[] 0 (.fresh 0 0 j)}:Obj)=no at*;let n:(s.heap.push no).objs.size=s⁻¹+1:=Heap.size_push ..;let H:l≠(s.heap.push no).objs.size:=by rw[n,];rw[Zi<|UD G]
    let U:s⁻¹ ∉[(s.heap.push no).objs.size,l]:=by
     simp only[UY,Vd,or_false,not_or];rw[(by rw[n,];rw[Zi<|UC _],Va G)]
    let hw:∀(i:5)(v:Value),a[i]?=!v->v=(λi=>a.getD i .none) i:=λi v hv=>by
     show v=a.getD i .none;rw[Vx,hv];rfl
    rw[aV (Walks.list T _ l H a).toS s⁻¹ U (hp:=s.heap) (λb o e=>?_) K (λi=>a.getD i .none) hw (λi hi=>?_) hn (by rw[hu]) j (a.size-0) 0 _ () (Ub _)
     ((_,Zr _ 9,9,9),C.push _) (λb o e=>Zq _<|Zq _ e) (oS<|by rw[f,];rw[Zq _ hS]) λs' L H'=>?_]
    .let I:=Zk e;rw[(?_,Zi I)];simp only[UY,Vd,or_false];rw[n,];rw[Zi<|UD I]
    .rw[M i _<|by show a[i]?=! a.getD i .none;rw[K2 hi,UF hi]]
    .let(g,g',d',X,Y):=s';let eg:g'=s.gens:=L.gens;let ed:d'=s.drawn:=L.drawn;let eo:Y=s.os:=L.os;subst eg;subst ed;subst eo;show wpAny _ _ _ _ _ _;rw[Zb ?_];show wpAny _ _ (ret Value.none) _ _ _;rw[Zb (9,g,X,9,H',λb o I e=>?_)];rw[L.heap b o (by simp only[UY,Vd,or_false,not_or];rw[(Zi I,by rw[n,];rw[Zi<|UD I])])<|Zq _<|Zq _ e]
   .cases r₂ with
    |error e=>rw[hr₂]
    |ok fl₂=>
     cases fl₂ with
     |ret r=>
      let(rfl,g,J,rfl,Z,hk'):=hr₂
      repeat(any_goals(first|assumption|wp_step))
      rw[h _ _ Z hk']
     |_=>rw[hr₂.elim]
  |_=>rw[q.elim]
end
noncomputable def W4(p:3×3):PyData:=.tuple [.int p.1,.int p.2]
def zI(r:J0):PyData:=.tuple<|r.map W4
def Mf(p:3×3):3:=Fe<|[p.1,p.2].map hashInt
def lR(r:J0):3:=Fe<|r.map Mf
def vz(c:Heap)(v:Value)(p:3×3):4:=∃a o b n t u,v=016/\c.get? a=!o/\o.cls=.type "tuple"/\o.data=.seq b n/\b.toList=[.int p.1 t,.int p.2 u]
inductive IsPairs(hp:Heap):Ye->J0->Prop
 |nil:IsPairs hp [] []
 |cons{v vs p r}:vz hp v p->IsPairs hp vs r->IsPairs hp (v::vs) (p::r)
def w5(b:Heap)(v:Value)(r:J0):4:=∃a o c n,v=016/\b.get? a=!o/\o.cls=.type "tuple"/\o.data=.seq c n/\IsPairs b c.toList r
def oa   (h:vz b v p):Reads b v (W4 p) []:=by
 let(a o i n t u,rfl,c,e,f,g):=h;rw[.tuple c e f ?_];rw[g,];rw[.cons (.int _ _)<|.cons (.int _ _) .nil]
def oY :∀{a:Ye}{r:J0},IsPairs b a r->ReadsAll b a (r.map W4) []:=λh=>by
 cases(h)with
 |nil=>rw[.nil]
 |cons c _ e=>rw[.cons (oa c) e]
def Mg   (h:w5 b v r):Reads b v (zI r) []:=by
 let(a o i n,rfl,c,e,f,g):=h;rw[.tuple c e f<|oY g]
def vz.keep (k:∀b o,c.get? b=!o->hp'.get? b=!o)  (h:vz c v p):vz hp' v p:=by
 let(a o f n t u,e,i,r):=h;rw[wV a o f n t u (e,k _ _ i,r)]
theorem IsPairs.keep (k:∀b o,c.get? b=!o->hp'.get? b=!o)  (h:IsPairs c e r):IsPairs hp' e r:=by
 cases(h)with
 |nil=>rw[.nil]
 |cons f _ i=>rw[.cons (f.keep k) i]
theorem w5.keep (k:∀b o,c.get? b=!o->hp'.get? b=!o)  (h:w5 c v r):w5 hp' v r:=by
 let(a o f n,e,i,j,l,p):=h;rw[jW a o f n (e,k _ _ i,j,l,p.keep k)]
theorem oq   (h:vz c v p)(n):PlainV c (n+1) v:=by
 let(a o l k t u,rfl,f,g,i,j):=h;rw[.tup f g i λx b=>?_];rw[j]at b;obtain e|e:=UY.mp b
 .rw[e,];rw[.int _ _ _]
 .rw[Jd.mp e,];rw[.int _ _ _]
def oj(e:A.units<cLine):∀{b:Ye}{r:J0},IsPairs s.heap b r->HashAll c w A E s b (r.map Mf):=λh=>by
 cases(h)with
 |nil=>rw[.nil]
 |cons f _ g=>
  rw[.cons (λp Q h=>?_) g];let(a o b n t u,rfl,i,j,l,m):=f;rw[Ma i j l e ?_ h];rw[m,];rw[Mb<|.cons _ _<|.cons _ _ .nil]
def eh(p q):PyData.eqv (W4 p) (W4 q)=decide (p=q):=by
 grind[W4,PyData.eqv,PyData.eqvAll]
theorem Mh:∀r q:J0,PyData.eqvAll (r.map W4) (q.map W4)=decide (r=q)
 |[],[]=>by rfl
 |[],_::_=>by rfl
 |_::_,[]=>by rfl
 |p::r,q::s=>by
  rw[Zl,Zl];ext PyData.eqvAll;rw[eh,Mh r s,Vo];simp
def ag(r q):PyData.eqv (zI r) (zI q)=decide (r=q):=Mh r q
theorem Mi:∀r:J0,PyData.canLayAll0 (r.map W4)=6
 |[]=>9
 |p::r=>by
  rw[Zl,];ext PyData.canLayAll0;rw[Mi r,];rfl
def Mj(r):(zI r).canLay0=6:=Mi r
theorem Ml:∀r:J0,PyData.depthAll (r.map W4)<=1
 |[]=>Ub _
 |p::r=>by
  rw[Zl,];ext PyData.depthAll;let a:(W4 p).depth=1:=9;let b:=Ml r;rw[a,];lia
def iE(r):(zI r).depth<=2:=VL<|Ml r
def vz.inj   (h:vz c v p)(f:vz c v q):p=q:=by
 let(a o j n t u,rfl,l,r,s,y):=h;let(z B i E F G,e,H,I,J,L):=f
 grind
theorem IsPairs.inj :∀{c:Ye}{r q:J0},IsPairs e c r->IsPairs e c q->r=q:=λ{c r q}g h=>by
 induction g generalizing q with
 |nil=>cases h;rfl
 |cons f _ i=>
  cases h with
  |cons j l=>rw[f.inj j,i l]
theorem w5.inj   (h:w5 i v r)(j:w5 i v q):r=q:=by
 let(a o z n,rfl,l,B,p,s):=h;let(E F u G,e,c,H,f,y):=j;cases e;rw[l]at c;obtain rfl:=Zqi c;rw[p]at f;cases f;rw[s.inj y]
open Classical in
def ze(a:Heap)(v:Value):J0:=if h:∃r,w5 a v r then h.choose else[]
def AX   (h:w5 a v r):ze a v=r:=by
 ext ze;let e:∃r,w5 a v r:=(r,h);rw[dif_pos e,];rw[e.choose_spec.inj h]
def eH(b)(w)(c):KeyFam b w c (λv=>∃r,w5 c v r) (λv=>lR<|ze c v) λv u=>decide<|ze c v=ze c u where
 ref:=by
  rintro v ⟨r,a,o,f,n,e,_⟩;rw[(a,e)]
 plain:=by
  rintro v ⟨r,h⟩;let(a,o,f,k,rfl,m,p,t,g):=h;rw[.tup m p t ?_];generalize f.toList=l at g
  cases(g)with
  |nil=>simp
  |cons i _ B=>
   grind[oq]
 hash:=by
  rintro v ⟨r,h⟩ A E s Q hk hu hq;rw[AX h]at hq;let(a o f n,rfl,i,x,y,z):=h.keep hk;rw[Ma i x y () (oj (show A.units+1<cLine from()) z) hq]
 eq:=by
  rintro v u ⟨r,h⟩ ⟨q,j⟩ A E s Q hk hu hq;rw[AX h,AX j,<-ag]at hq;let C:=iE r;rw[SeqAt.eqBoolOverData b w A E s v u (zI r) (zI q) [] [] Q (Mg<|h.keep hk) (Mg<|j.keep hk) (Mj r) (Mj q) () hq]
 coh:=()
def kb:Slot "set_iterator" "__next__" "set_iterator.__next__":=
 .of (owner:="set_iterator") (n:="__next__") (by kernel_rfl) (by rfl) (by rfl) (by rfl)
  (by first|rw[.inl<|by decide+kernel]|rw[.inr<|by decide+kernel])<|by kernel_rfl
def Mm:entryFor table "set_iterator.__next__"=!Builtin.«set_iterator.__next__»:=entryFor_of_tree<|by rfl
def Mn:Manifest.owners.lookup (String.ofList ['r','o','t','a','r','e','t','i','_','t','e','s'].reverse)=!Manifest.sig_set_iterator:=by kernel_rfl
def Mp(a):argsOk "set_iterator.__next__" ([a],[]):=by
 ext argsOk;rw[signature?_of (n:=['_','_','t','x','e','n','_','_']) (by kernel_rfl) Mn,];rfl
def zgM:entryFor table "set.__iter__"=!Builtin.«frozenset.__iter__»:=entryFor_alias (id':="frozenset.__iter__") (by kernel_rfl) 9 (by decide+kernel)<|by kernel_rfl
def Mq:Slot "set_iterator" "__iter__" "set_iterator.__iter__":=
 .of (owner:="set_iterator") (n:="__iter__") (by rw[typeLookup_type,builtinLookup_eq_fast];kernel_rfl) (by decide+kernel) (by rfl) (by rfl)
  (by first|rw[.inl<|by decide+kernel]|rw[.inr<|by decide+kernel])<|by rw[isSubtype_type,];kernel_rfl
def zgB:entryFor table "set_iterator.__iter__"=!Builtin.«dict_keyiterator.__iter__»:=
 entryFor_alias (id':="dict_keyiterator.__iter__") (by kernel_rfl) (by rfl) (by decide+kernel)<|by kernel_rfl
abbrev Mr(h:Heap)(it S:Addr)(slot i n ep:5):4:=h.get? it=!{cls:=.type "set_iterator",dict:=8,data:=.fields #[.int slot 0,.int i 0,.ref S,.int n 0,.int ep 0],slots:=#[]}
noncomputable abbrev Y5(es:Array (3×Value))(ep:5)(t:YA):Obj:={cls:=.type "set",dict:=8,data:=.set es ep t,slots:=#[]}
noncomputable def KQ(w:World)(S b:5)(a:Array (3×Value)):Array (3×Value):=if w.params.followText "set-order"then pickOrder (w.params.setOrder S b) a else a
theorem Ms (next):∀fuel k(left:List α)a,⇑left<=fuel->(pickOrder.go next fuel k left a).toList.Perm (a.toList++left)
 |0,k,left,a,h=>by
  simp_all[pickOrder.go]
 |fuel+1,k,left,a,h=>by
  ext pickOrder.go
  induction q:left[next k%⇑left]? with
  |none=>
   let b:⇑left=0:=by
    grind[Nat.eq_zero_or_pos,Nat.mod_lt,Zqg]
   ext
  |some x=>
   let b:=List.length_eraseIdx_of_lt<|(Jc.mp q).1;rw[(Ms next fuel (k+1) _ _ ()).trans ?_];rw[Array.toList_push,Ul];rw[List.Perm.append_left _ ?_];let c:left=left.take (next k%⇑left)++x::left.drop (next k%⇑left+1):=by
    grind[List.take_append_drop,List.drop_eq_getElem_cons]
   rw[List.eraseIdx_eq_take_drop_succ,];rw[VI (List.perm_middle (l₁:=left.take<|next k%⇑left)).symm<|List.Perm.of_eq c.symm]
theorem iF (next:5->5)(a:Array α):(pickOrder next a).toList.Perm a.toList:=by
 ext pickOrder;let:=Ms next a.size 0 a.toList #[] ();simpa using this
def Mt(w)(S b)(a):(KQ w S b a).toList.Perm a.toList:=by
 grind[KQ,iF,List.Perm.refl]
def Fg(w)(S b)(a):(KQ w S b a).size=a.size:=by
 let:=(Mt w S b a).length_eq;omega
def o5 (u:vx c) (f):SetTable.below c (c[i]+1)=i+1:=by
 let(!h,g,j):=CG u (c[i]+1);let e:=K2 f 0;rcases Ve (SetTable.below c<|c[i]+1) (i+1)with q|q|q
 .grind
 .rw[q]
 .let a:=g (i+1) q;let b:=u i (i+1) () ();lia
def o3(a)(u:vx a):SetTable.below a 0=0:=by
 let(!c,b,e):=CG u 0;rcases V6 (SetTable.below a 0)with q|q
 .rw[q]
 .let:=b 0 q;lia
def eB{S m:5}   (f:↥s S=! Y5 n m t)(h:t.fits n.size=6)(r:t.plain=6)
 (u:Q (.ref s⁻¹) {s with heap:=s.heap.push {cls:=.type "set_iterator",data:=.fields #[.int 0 0,.int 0 0,.ref S,.int n.size 0,.int m 0]}}):YF a w A (pyIter<|.ref S) Q E s:=by
 let o:s.TypeIs (.ref S) "set":=(_,f,9);rw[wpAny_pyIter_slot o F.slot_set_iter<|wpAny_call_entry F.slot_set_iter o zgM ?_<|F.args_set_iter_1 _];ext Builtin.«frozenset.__iter__» Builtin.Frozenset.slot0 slotArgs;simp only[bind_assoc];rw[Za<|Zb<|Za<|Zb<|Za<|Za<|wpAny_setEntries_of f 9 h<|Zb ?_];let v:wpAny (model a w) A.in1 (setDrawn S) (λb p=>b=7/\p=s) E s:=by
  rw[Za<|wpAny_setState_of f 9 h<|Za<|Za<|wpAny_askSetting<|Zb<|Zb (?_,9)];let(q,i,c,g,x,j,l):=t;cases r;rw[Bool.and_false _]
 rw[Za<|Zc v (λb p z=>?_) λ_ _ e=>e];let(rfl,rfl):=z;rw[Za<|Zb<|Za<|Za<|wpAny_setState_of f 9 h<|Zb<|Za<|wpAny_newObj_type (Zb (_,9,"set_iterator",_,(_,Zr _ 9,9),kb.lookup,u))<|by simp_all[sizeOk,sizeLine_eq]]
def Mu     (r:↥s S=! Y5 g l t)(u:t.fits g.size=6)(B:t.plain=6)(m:t.led=zJ w)(C:vx t.place)(F:t.place.size=g.size)
 (G:w.params.followText "set-order"=7->SetTable.below t.place f=i)
 (n:∀b,(w.params.followText "set-order"=7->i<g.size->SetTable.below t.place b=i+1)->Q (((KQ w S l g)[i]?).map λe=>%[e.2|b]) s):YF a w A (setNext S f i l) Q E s:=by
 rw[Za<|wpAny_setState_of r 9 u ?_];rw[Za<|Za<|wpAny_askSetting<|Zb ?_]
 induction q:w.params.followText "set-order"with
 |true=>
  let e:({program:=(model a w).prog,params:=(model a w).w.params}:Setting).params.followText "set-order"=6:=q;rw[Zd e,];rw[Ze (),];rw[Za<|Za<|wpAny_setState_of r 9 u ?_];rw[Za<|Za<|wpAny_askSetting<|Zb ?_];rw[Zd e,];rw[Za<|wpAny_askSetting<|Zb<|Zb ?_];let:=n f λz=>by rw[q]at z;cases z
  unfold KQ at this
  rwa[Zd q]at this
 |false=>
  let e:¬({program:=(model a w).prog,params:=(model a w).w.params}:Setting).params.followText "set-order"=6:=by
   show ¬w.params.followText "set-order"=6;rw[q,];simp
  rw[Ze e,];let H:KQ w S l g=g:=by ext KQ;rw[q,];rfl
  rw[H]at n;rw[G q,];let m:t.led=6:=by rw[m,];ext zJ;rw[q,];rfl
  let(v,c,h,j,I,o,p):=t;cases B;cases m
  split
  .rename_i z;rw[Zn z Zj]
  .rw[Za<|Zb<|Zb ?_];cases x:i<g.size
   .let y:i<c.size:=by rwa[F,]
    let:=n (c[i]+1) λ_ _=>o5 C y;rw[UF x]at this
    rwa[UF x,UF y]
   grind[Array.getElem?_eq_none]
abbrev Fh(w:World)(it S:Addr)(es:Array (3×Value))(ep:5)(t:YA)(i:5)(h:Heap):4:=(∃slot,Mr h it S slot i es.size ep/\(w.params.followText "set-order"=7->i<=es.size->SetTable.below t.place slot=i))/\h.get? S=! Y5 es ep t
structure SetGood(w:World)(es:Array (3×Value))(t:YA):4 where
 fits:t.fits es.size=6
 plain:t.plain=6
 led:t.led=zJ w
 up:vx t.place
 size:t.place.size=es.size
def eS     (G:SetGood w f t)(v:Fh w g S f l t i s.heap)(y:i<f.size)
 (B:∀m x,(∃k,(KQ w S l f)[i]?=!%[k|x])->Fh w g S f l t (i+1) m->Heap.SameBut g s.heap m->Q (!x) {s with heap:=m}):YF q w A (pyNext<|.ref g) Q E s:=by
 let((r,c,n),o):=v;let u:s.TypeIs (.ref g) "set_iterator":=(_,c,9);let j:S≠g:=by grind
 ext pyNext;rw[Za<|wpAny_attempt<|wpAny_callSpecial?_slot u kb
 <|wpAny_call_entry kb u Mm ?_<|Mp _]
 ext Builtin.«set_iterator.__next__» slotArgs;simp only[UO,bind_assoc];rw[Za<|Zb ?_];rw[Za<|wpAny_fieldsOf c 9<|Za<|wpAny_setEntries_of o 9 G.fits ?_];simp;rw[Za<|Mu o G.fits G.plain G.led G.up G.size () λe a=>?_];let C:i<(KQ w S l f).size:=by rwa[Fg,]
 rw[UF C,];rw[Za<|wpAny_setField_rec c () λh₁ he₁ hs₁=>Za<|wpAny_setField_rec he₁ () λh₂ he₂ hs₂=>?_];rw[Zb (_,9,Zb<|B h₂ _ () ((e,?_,λz _=>a z y),hs₂.extBut _ _ j<|hs₁.extBut _ _ j o) (hs₂.1.trans hs₁.1,λb n=>(hs₂.2 b n).trans<|hs₁.2 b n))];ext Mr;simpa[rawInt]using he₂
def ae:typeLookup (.type "set") "__len__"=pure ! .builtin "set.__len__":=by rw[typeLookup_type,builtinLookup_eq_fast];kernel_rfl
def e4 (a:s.TypeIs (.ref r) "set") (h:Q 7 s):YF f w A (Builtin.List.listLengthHint<|.ref r) Q E s:=by
 rw[Za<|wpAny_specialOf a ae ?_];generalize c:("set.__len__":String)=id0;subst c;rw[Za<|wpAny_isInstance (b:=6) a (by rw[isSubtype_type,];kernel_rfl)<|wpAny_ite_split (λe=>Zn e<|008)<|λ_=>Za<|wpAny_typeOf a<|Zb h]
def oW{S y:5}   (hh:A.handled=8)(q:↥s S=! Y5 g y t)(G:SetGood w g t)(hn:g.size<=1000)
 (h:∀(f:Heap)(m:5)(vs:Ye),(∀b o,↥s b=!o->f.get? b=!o)->vs.Perm (g.toList.map (·.2))->s⁻¹<f.objs.size->R vs {s with heap:=f,toks:=m}):YF r w A (collect<|.ref S) R E s:=by
 let hS:S<s⁻¹:=Zk q;let z:s.TypeIs (.ref S) "set":=(_,q,9);ext collect;rw[Za<|wpAny_runValue<|codeAny_builtin F.entry_proto_collect ?_];rw[Around.under_plainId F.plain_proto_collect _,];show wpAny _ A.in1 (newList []>>=λl=>again<|.builtin "list.__iadd__" ([l,.ref S],[])) _ _ s;rw[Za<|wpAny_newObj_type ?_];rw[Zb (plainId_quiet F.plain_list_iadd _,codeAny_builtin F.entry_list_iadd ?_)];rw[Around.under_plainId F.plain_list_iadd _,];generalize L:({cls:=.type 013,data:=.seq ([]:Ye).toArray}:Obj)=no;let hL₁:(s.heap.push no).get? s⁻¹=!no:=Zr _ (by rw[<-L];rfl);let ho₁:(s.heap.push no).get? S=! Y5 g y t:=Zq _ q;let hT₁:Shared.TypeIs {s with heap:=s.heap.push no} (.ref S) "set":=(_,ho₁,9);let H:S≠s⁻¹:=Zi hS;show wpAny _ A.in1 (Builtin.List.listExtendWith (.ref s⁻¹) (.ref S)<|.ref s⁻¹) _ _ _;ext Builtin.List.listExtendWith;rw[Za<|wpAny_typeOf hT₁ ?_];let h1:Builtin.List.listSameRef (.ref s⁻¹) (.ref S)=7:=by simp[Builtin.List.listSameRef,Ne.symm H]
 let h2:(Value.type "set"==Value.type 013)=7:=008
 let h3:(Value.type "set"==Value.type "tuple")=7:=008
 simp only[h1,h2,h3,Bool.or_false,UO,if_false];rw[Za<|eB (s:={s with heap:=s.heap.push no}) ho₁ G.fits G.plain ?_];let szp:(s.heap.push no).objs.size=s⁻¹+1:=Heap.size_push ..;generalize hI:(s.heap.push no).objs.size=I at*;generalize M:({cls:=.type "set_iterator",data:=.fields #[.int 0 0,.int 0 0,.ref S,.int g.size 0,.int y 0]}:Obj)=ni;let hS₂:=Zq ni ho₁;let hL₂:=Zq ni hL₁;let hI₂:((s.heap.push no).push ni).get? I=!ni:=by rw[<-hI];rw[Zr _<|by rw[<-M];rfl]
 rw[Za<|wpAny_holding<|e4 (_,hS₂,9) ?_];let N:I≠s⁻¹:=()
 let O:∀(R':Result->Yz),(∀(f:Heap)(m c:5)(a:Yk),(∀b o,↥s b=!o->f.get? b=!o)->f.get? s⁻¹=!{cls:=.type 013,dict:=8,data:=.seq a c,slots:=#[]}->a.toList.Perm (g.toList.map (·.2))->R' (.ok<|.ret<|.ref s⁻¹) {s with heap:=f,toks:=m})->
  ∀(h:Heap)(c₁ m:5),(∀b o,b≠s⁻¹->((s.heap.push no).push ni).get? b=!o->h.get? b=!o)->h.get? s⁻¹=!{cls:=.type 013,dict:=8,data:=.seq #[] c₁,slots:=#[]}->
  codeAny (model r w) A (.builtin "list.extend.loop" ([.ref s⁻¹,.ref I,.ref s⁻¹],[])) R' {s with heap:=h,toks:=m}:=by
  intro R' hR h₀ c₁ m P p;let hSf:s⁻¹ ∉[I,S]:=by
   simp only[UY,Vd,or_false,not_or];rw[(Ne.symm N,Ne.symm H)]
  let T:h₀.get? I=!ni:=P I _ N hI₂;rw[<-M]at T;rw[codeAny_extend_loopS (show Walks r w A.in1 I [I,S] [I] g.size (λi v=>∃k,(KQ w S y g)[i]?=!%[k|v]) λi h=>Fh w I S g y t i h from{
   sub:=by simp
   frame:=by grind
   item:=λi s Q E hi U X=>eS G U hi λf x hx st' sb=>X x f s.toks hx st' λb o B e=>sb.extBut b o () e
   done:=λs Q E U X=>by
    let((Y,u,B),q):=U;let z:s.TypeIs (.ref I) "set_iterator":=(_,u,9);ext pyNext;rw[Za<|wpAny_attempt<|wpAny_callSpecial?_slot (name:=Str.ofString "__next__") z kb
    <|wpAny_call_entry kb z Mm ?_<|Mp _]
    ext Builtin.«set_iterator.__next__» slotArgs;simp only[List.isEmpty_nil,Bool.not_true,UO,↓reduceIte,ZC];rw[Za<|Zb ?_];rw[Za<|wpAny_fieldsOf u 9 ?_];dsimp only;rw[Za<|wpAny_setEntries_of q 9 G.fits ?_];simp[Uy];rw[Za<|Mu q G.fits G.plain G.led G.up G.size () λslot' hs=>?_];rw[VQ (by rw[Fg,];lia),];rw[Za<|wpAny_setField u 9 ()<|Za ?_];rw[Za (wpAny_newObj_type (Za<|wpAny_of_eq (by first|rfl|(simp only)) ?_)<|by size_fits)];rw[wpAny_newObj_type (Za<|wpAny_handled ?_) (by size_fits)];rw[hh,];rw[Za<|Zb<|wpAny_throw ?_];rw[Za<|wpAny_isInstance (_,Zr _ 9,9) isSubtype_stop<|Zb<|(λf eb=>X f s.toks λb o B e=>eb b o () e) _<|((Heap.SameBut.update ..).extBut.push _).push _]
   self:=λi s Q E U X=>have((Y,u,B),q):=U;have z:=(_,u,9);wpAny_pyIter_slot z Mq (wpAny_call_entry Mq z zgB (Zb (_,9,"set_iterator",_,z,kb.lookup,X))<|by ext argsOk;rw[signature?_of (n:=['_','_','r','e','t','i','_','_']) (by kernel_rfl) Mn,];rfl)}).toS (Zh hn<|by rw[sizeLine_eq,];lia) s⁻¹ hSf _ g.size 0 {s with heap:=h₀,toks:=m} #[] c₁ 9 (Ub _)
   ((0,T,λ_ _=>o3 _ G.up),P S _ H hS₂) p (ItemsOf.nil _) λs' a c hm hL' C=>?_]
  let(f,g',d',tk',os'):=s';let eg:g'=s.gens:=hm.gens;let ed:d'=s.drawn:=hm.drawn;let eo:os'=s.os:=hm.os;subst eg;subst ed;subst eo;rw[hR f tk' c a (λb o e=>?_) hL' ?_]
  .let B:=Zk e;let Z:b≠s⁻¹:=Zi B;let hbI:b≠I:=Zi (Zg B<|by rw[szp,];rw[Nat.le_succ _]);rw[hm.heap b o (by simp only[UY,Vd,or_false,not_or];rw[(Z,hbI)])<|P b o Z<|Zq _<|Zq _ e]
  .let el:a.toList=(KQ w S y g).toList.map (·.2):=by
    apply Wc;intro j;rw[Zv,];cases hj:j<a.size
    .let(k,P):=C.2 j a[j] (UF hj);let:(KQ w S y g).toList[j]?=!%[k|a[j]]:=by simpa using P
     rw[this,];simp[hj]
    .let hw:(KQ w S y g).toList[j]?=8:=V7 (by rw[Uw,Fg,<-C.1];lia);rw[hw,];rw[V7<|by rw[Uw,];lia]
   rw[el,];rw[(Mt w S y g).map _]
 let fin:∀(f:Heap)(m c:5)(a:Yk),(∀b o,↥s b=!o->f.get? b=!o)->f.get? s⁻¹=!{cls:=.type 013,dict:=8,data:=.seq a c,slots:=#[]}->a.toList.Perm (g.toList.map (·.2))->
  YF r w A (do
   let o<-load s⁻¹
   match o.data with
    |.seq xs _=>pure xs.toList
    |_=>unsupported "internal:collect") R E {s with heap:=f,toks:=m}:=λf m c a kk J hp=>by
  rw[Za<|wpAny_load J ?_];rw[Zb<|h f m a.toList kk hp<|Zk J]
 let hL₂':((s.heap.push no).push ni).get? s⁻¹=!{cls:=.type 013,dict:=8,data:=.seq #[] 0,slots:=#[]}:=by rw[hL₂,<-L]
 rw[wpAny_ite_split (λ_=>?_)<|λ_=>Zb (plainId_quiet F.plain_extend_loop _,O _ (λf m c a kk J hp=>fin f m c a kk J hp) _ 0 _ (λb o _ e=>e) hL₂')];rw[Za<|wpAny_rule ?_];rw[Za ?_];show wpAny _ _ (updateSeq s⁻¹ (·.push .none)>>=λ_=>updateSeq s⁻¹ (·.pop)) _ _ _;rw[Za<|wpAny_updateSeq hL₂' 9 ?_];let hL₃:=Heap.get?_update_self (Obj.mapSeq (·.push Value.none)) hL₂' 9;rw[wpAny_updateSeq (hz:=by seq_fits) hL₃ 9 ?_];let hL₄:=Heap.get?_update_self (Obj.mapSeq (·.pop)) hL₃ 9;rw[Zb (plainId_quiet F.plain_extend_loop _,O _ (λf m c a kk J hp=>fin f m c a kk J hp) _ _ _ (λb o B e=>?_) hL₄)];rw[(Heap.get?_update_other _ _<|Ne.symm B).trans<|(Heap.get?_update_other _ _<|Ne.symm B).trans e]
theorem Mv :∀{a:Ye}{r:J0},XX h a r->IsPairs h a r
 |[],[],_=>.nil
 |[],_::_,p=>by let:=p.1;simp at this
 |_::_,[],p=>by let:=p.1;simp at this
 |u::a,q::r,p=>by
  let(b c nb t v,e,f,g,j):=p.2 0 q 9;obtain rfl:=Zqi e;rw[.cons (wV b c _ nb t v (9,f,g,j,9))<|Mv (by let:=p.1;simpa using this,λi x l=>p.2 (i+1) x l)]
noncomputable def qi(a:J1):5->List 5
 |0=>[]
 |n+1=>if(qi a n).any λi=>decide<|a.getD i []=a.getD n []then qi a n else qi a n++[n]
def io(a)(n):qi a (n+1)=if(qi a n).any λi=>decide<|a.getD i []=a.getD n []then qi a n else qi a n++[n]:=rfl
def xM(a:J1):J1:=(qi a ⇑a).map λi=>a.getD i []
theorem ZZ(a):∀n i,i∈qi a n->i<n
 |0,i,h=>by cases h
 |n+1,i,h=>by
  unfold qi at h
  split at h
  .let:=ZZ a n i h;lia
  .rcases Jb.mp h with q|q
   .let:=ZZ a n i q;lia
   ext
theorem Fi(a):∀n,⇑(qi a n)<=n
 |0=>Zf _
 |n+1=>by
  let:=Fi a n
  grind[qi,List.length_append,List.length_singleton]
theorem Mw(a):∀n,((qi a n).map λi=>a.getD i []).Nodup
 |0=>Vt
 |n+1=>by
  let b:=Mw a n;ext qi
  grind
theorem Mx(a):∀n r,r∈((qi a n).map λi=>a.getD i [])↔∃i,i<n/\a.getD i []=r
 |0,r=>by
  constructor
  .intro h;cases h
  lia
 |n+1,r=>by
  let b:=Mx a n;ext qi
  grind
def Mz(a):(xM a).Nodup:=Mw a _
def M0(a):⇑(xM a)<=⇑a:=by ext xM;rw[Zql,];rw[Fi a _]
theorem rQ  :r∈xM a↔r∈a:=by
 ext xM;rw[Mx,];constructor
 .grind
 .intro h;let(i,b,z):=UI h;rw[(i,b,())]
theorem M3{same:Value->Value->Bool}   (h:∀i j,i<n->j<n->same (val i) (val j)=decide (a.getD i []=a.getD j [])):∀k,k<=n->yU same val k=(qi a k).map val
 |0,_=>9
 |k+1,hk=>by
  rw[CI,M3 h k (),io];ext X8;let e:((qi a k).map val).any (same ·<|val k)=(qi a k).any λi=>decide<|a.getD i []=a.getD k []:=by
   rw[List.any_map,Vo,V5,V5];constructor
   .rintro⟨i,b,z⟩;rw[(i,b,by rwa[<-h i k (by let:=ZZ a k i b;lia) ()])]
   .rintro⟨i,b,z⟩;rw[(i,b,by show same (val i) (val k)=6;rwa[h i k (by let:=ZZ a k i b;lia) (),])]
  grind
theorem CJ {b:J1} (h:qG G (b.map rD) c):∀a:Yh,(∀i∈a,i<⇑b)->qG G ((a.map λi=>b.getD i []).map rD) (a.map λi=>c.getD i .non)
 |[],_=>by rfl
 |i::a,g=>by
  have(x,e,f):=h.get (i:=i) (d:=rD<|b.getD i []) ();rw[Zl,Zl,Zl];rw[(x,_,?_,f,CJ h a ())];rw[Q0 e,]
def wo(w:World)(S:Addr)(c:YB):HO:=.ext λh=>∃a e t b,h.get? S=! Y5 a e t/\SetGood w a t/\a.size<=1000/\(a.toList.map (·.2)).Perm b/\jv c b
def M4(w:World):YB->Hp->VK->4:=λe H Q=>∃a c b,e=[016]/\Rd H a (.lst c)/\qG H (b.map rD) c/\⇑b<=999/\∀S,H S=8->Q (.ref S) (upd H S<|wo w S<|(qi b ⇑b).map λi=>c.getD i .non)
def M5(w:World):YB->Hp->VK->4:=λe H Q=>∃S b a,e=[.ref S]/\H S=! wo w S b/\qG H (a.map rD) b/\(∀r∈a,r ≠[])/\⇑a<1000/\
 ∀l c,H l=8->(∀G,qG G (a.map rD) b->qG G ((Qs jK a).map rD) c)->Q (.ref l) (upd H l<|.lst c)
def il (p:B.Perm C):∀{g:YB}{a:J1},jv g B->⇑g=⇑a->∃(b:YB)(c:J1),jv b C/\c.Perm a/\⇑b=⇑c/\∀G,qG G (a.map rD) g->qG G (c.map rD) b:=by
 cases(p)with
 |nil=>rw[λ{g a}h f=>(g,a,h,.refl _,f,λ_ h=>h)]
 |cons x _ E=>
  intro g a h f;cases h with
  |cons r h=>
   cases a with
   |nil=>simp at f
   |cons q a=>
    let(b c,m,n,o,s):=E h (by simpa using f);rw[(_::b,q::c,.cons r m,n.cons q,by simp[o],λG i=>?_)];let(y w,e,j,t):=i;cases e;rw[(_,_,9,j,s G t)]
 |swap x y l=>
  intro g a h f;cases h with
  |cons r h=>
   cases h with
   |cons F h=>
    cases a with
    |nil=>simp at f
    |cons q a=>
     cases(a)with
     |nil=>simp at f
     |cons H a=>
      rw[(_,H::q::a,.cons F<|.cons r h,.swap _ _ _,by simpa using f,λG i=>?_)];let(y w,e,j,t):=i;cases e;let(y w,e,I,J):=t;cases e;rw[(_,_,9,I,(_,_,9,j,J))]
 |trans _ _ u v=>
  intro g a h f;let(b c,m,n,o,s):=u h f;let(z A,j,L,M,N):=v m o;rw[(z,A,j,L.trans n,M,λG i=>N G<|s G i)]
def call_setRows(U:X.calm=6)(hu:X.A.units+64<cLine):ql X (.type "set") (M4 X.w):=by
 intro Y s Z H xs O Q I rv h;let(a A f,rfl,ha,P,hl,q):=h;let(-u,rfl,ru):=K8 rv;obtain rfl:u=Value.ref a:=ru;let(-c,ri,pl,hz):=I.list (.inl ha);let l1:=⇑P;let l2:=⇑ri;rw[Zql]at l1;let sz:c.toArray.size=⇑c:=Zm;let B:∀i,c.toArray.getD i .none=c.getD i .none:=λi=>by
  rw[Vx,Ue];simp
 let g:∀i,i<⇑c->w5 s.heap (c.getD i .none) (f.getD i []):=λi m=>by
  let S:i<⇑f:=()
  let(-x,C,hI):=P.get (i:=i) (d:=rD<|f.getD i []) (by rw[Zv,Zqg S,Q0 (Zqg S)];rfl);let(-v,p,F):=ri.get C;let(b o ws n,R):=Eu I.hok hI F;rw[Q0 p,];rw[jW b o ws.toArray n (R.isv,R.get,R.cls,R.dat,Mv R.prs)]
 rw[zjL (I.ok.hd U) pl.isList (eH X.prog X.w s.heap) (λi v p=>?_) (by rw[sz,];lia) (by show X.A.units+1+1+1+08<cLine;lia) λh' tk H' kk=>?_]
 .let m:i<⇑c:=by
   let:=(Jo.mp p).1;lia
  let e:v=c.getD i .none:=by
   rw[<-B,Vx,p];rfl
  rw[e,];rw[(_,g i m)]
 .let same:∀i j,i<c.toArray.size->j<c.toArray.size->(λv u=>decide<|ze s.heap v=ze s.heap u) ((λi=>c.toArray.getD i .none) i) ((λi=>c.toArray.getD i .none) j)=decide (f.getD i []=f.getD j []):=λi j m hj=>by
   show decide (ze s.heap (c.toArray.getD i .none)=ze s.heap (c.toArray.getD j .none))=_;rw[B,B,AX (g i ()),AX (g j ())]
  let(w t,E,G,J,l):=H';rw[M3 same _ (Zf _)]at G;let(L,T):=E.at_;let en:c.toArray.size=⇑f:=()
  rw[en]at G;let y:(w.toList.map (·.2)).Perm ((qi f ⇑f).map λi=>c.getD i .none):=by
   let:=G.map (·.2);rw[Zw,Zw]at this;rw[this.trans<|List.Perm.of_eq<|UV λi _=>?_];rw[B i]
  let vl:jv ((qi f ⇑f).map λi=>A.getD i .non) ((qi f ⇑f).map λi=>c.getD i .none):=ZG λi m=>by
   let m:=ZZ f _ i m;let(x,C):∃x,A[i]?=!x:=(A[i]'(),Zqg ());let(-v,p,F):=ri.get C;rw[Q0 C,Q0 p];rw[F]
  let M:w.size<=1000:=by
   let:=y.length_eq;rw[Zql,Zql,Uw]at this;let:=Fi f ⇑f;lia
  let N:t.place.size=w.size:=by
   let:=E.tab.size;rw[Uu]at this;rw[this]
  rw[(.ref s⁻¹,upd H s⁻¹<|wo X.w s⁻¹<|(qi f ⇑f).map λi=>A.getD i .non,I.laid (t':=tk) (λb o e=>kk b o (Zk e) e) (Zf _) ?_,9,q _<|I.hok.fresh<|Zf _)];rw[(jW w L t _ (T,(E.tab.fits,l,J,E.tab.up,N),M,y,vl),(_,T),λh1 h2 z kp=>?_)];let(w L t O,e,r):=z;rw[jW w L t O (kp _ e,r)]
def aI {Z:St}  (I:003)  (h:H S=! wo X.w S c):∃a e t b,↥s S=! Y5 a e t/\SetGood X.w a t/\a.size<=1000/\(a.toList.map (·.2)).Perm b/\jv c b:=(I.hok S _ h).1
def oD
 (m:wpAny (model f w) A.in1 (collect x) (λa c=>∃lt,Wk lt/\⇑a<1000/\(∀g,(∀b o,↥c b=!o->g.get? b=!o)->2<=⇑a->vg f w A.in1.in1 {c with heap:=g} a lt)/\
  ∀h g l,Pl ⇑a h ⇑a->Up lt h ⇑a->(∀b o,↥c b=!o->g.get? b=!o)->c⁻¹<=l->(∃e,g.get? l=! seqObj 013 (h.map<|jI a) e)->Q (.ref l) {c with heap:=g}) E s):
 YF f w A (call (.builtin "sorted") [x]) Q E s:=by
 rw[Calls.call_function_entry kind_sorted plain_sorted entry_sorted (args_sorted1 _)<|Za<|Zb<|Za<|Zc m (λa c z=>?_) λ_ _ e=>e];let(lt,W,i,n,q):=z;let j:(c.heap.push<|seqObj 013 a.toArray 0).get? c⁻¹=! seqObj 013 a.toArray 0:=Zr _ 9;let r:∀b o,↥c b=!o->b≠c⁻¹:=λb o e=>Zi<|Zk e;rw[Za<|wpAny_newList<|Za<|wpAny_holding<|wpAny_call_entry slot_list_sort (_,j,9) entry_list_sort (HZ W j i (λg t=>n g λb o e=>t b o (r b o e)<|Zq _ e) λh p u=>(_,9,Zb (_,9,q h _ _ p u (λb o e=>?_) (Zf _)<|sortedHeap_at j)))<|args_list_sort _]
 grind[size_push',sortedHeap_old,Nat.lt_succ_of_lt,Heap.lt_size,Heap.get?_push_of_some]
def call_sortedSet(hc:X.calm=6)(hu:X.A.units+64<cLine):ql X (.builtin "sorted") (M5 X.w):=by
 intro Y s Z H xs us Q I rv h;let(S ys F,rfl,hS,hA,J,h64,q):=h;let(-u,rfl,ru):=K8 rv;obtain rfl:u=Value.ref S:=ru;let(es ep t ws,ho,G,L,pm,vl):=aI I hS;let l1:=⇑hA;rw[Zql]at l1;let M:∀m:Ye,m.Perm (es.toList.map (·.2))->⇑m=⇑F:=λm n=>by
  let a:=n.length_eq;let b:=pm.length_eq;let c:=⇑vl;lia
 rw[oD<|oW (A:=X.A.in1) (E:=X.xe) (I.ok.hd hc) ho G L λh1 tk m kk n hsz1=>?_];let(g f,w,N,l2,g2):=il (pm.symm.trans n.symm) vl ();let lv:=M m n;let lr:=N.length_eq;let A2:=g2 H hA;let O:∀r∈f,r ≠[]:=λr hr=>J r<|N.mem_iff.mp hr;rw[(λi j=>jK (f.getD i [])<|f.getD j [],yJ.wk λi=>f.getD i [],(),λh' P h2=>Ij (by show X.A.units+1+1+04<cLine;lia) (I.hok.kept λb o e=>P b o<|kk b o e) A2 w O h2,λy h' l p u P hl R=>?_)];have(e,R):=R;let T:⇑m=⇑f:=()
 rw[T]at p u;let z:s⁻¹<=l:=by
  let hl:h1.objs.size<=l:=hl;lia
 let at_:∀i∈y.toList,∃x v,g[i]?=!x/\m[i]?=!v/\jz x v:=λi B=>by
  let hn:=p.mem B;have(x,C):∃x,g[i]?=!x:=(g[i]'(),());have(v,n,rr):=w.get C;rw[(x,v,C,n,rr)]
 let sp:=Et yJ p u;let se:=Cf yJ (((QM f).trans N).trans (QM F).symm) (XV yJ f)<|XV yJ F;let U:=q l (y.toList.map λi=>g.getD i .non) (I.hok.fresh z) λG hG=>by
  let:=CJ (g2 G hG) y.toList λi B=>p.mem B
  rwa[sp,se]at this
 rw[(.ref l,upd H l<|.lst<|y.toList.map λi=>g.getD i .non,I.laid (λb o e=>P b o<|kk b o e) z (?_,y.toList.map<|jI m,e,?_,?_),9,U)]
 .rw[Zql,p.len];rw[small ()]
 .rw[ZG λi B=>?_];have(x,v,C,n,rr):=at_ i B;ext jI
  rwa[Q0 C,Q0 n]
 .rw[R,]
  congr 03
  apply Vq;simp
end L2.ST
namespace L2.DL
open PySem PySem.Spec PyProof.Rows L2.ST
def CK:YC->YD
 |[.lst b]=>(QP Wn b).bind λa=>if(∀r∈a,r ≠[])/\⇑(xM a)<1000/\⇑a<=999 then !(.lst<|(Qs jK<|xM a).map j3)else 8
 |_=>8
def ig(h:∀{w:TA},PA X I w->PE X e (uE (M5 X.w)<|DM (uE (M4 X.w) w) uD))(J:QA X E I L):QN X E e (jj CK L):=PE.weak (h J) λZ H Q M=>by
 let(B F N,r,n):=M;rw[jg B F N (r,(Res.need_bind n).mono (λds O vs g o f P=>?_) 004)];let(z,c,q):=ji O;unfold CK at c
 split at c
 .let(-b,R,c):=Jg.mp c
  split at c
  .rename_i p;obtain rfl:=Zqi c;let(-v,rfl,h):=QQ P;rw[E7 R,jo]at h;let(a,j,rfl,T,s):=h;rw[jg a j b (9,T.same f.fh,vp.mp<|jc.same f.fh _ _ s,p.2.2,λS x=>?_)];let y:∀G,qG G (b.map rD) j->qG G ((xM b).map rD) ((qi b ⇑b).map λi=>j.getD i .non):=λG t=>CJ t _ λi U=>ZZ b _ i U;rw[jg S _ (xM b) (9,JO,y _<|qG.same (Wv x<|wo X.w S<|(qi b ⇑b).map λi=>j.getD i .non) _ _<|vp.mp<|jc.same f.fh _ _ s,λr Y=>p.1 r<|rQ.mp Y,p.2.1,λl zs A t=>?_)];let u:l≠S:=λz=>by simp_all[JO]
   let m:o l=8:=by rwa[JI u]at A
   let C:Ext g o g (upd o S<|wo X.w S<|(qi b ⇑b).map λi=>j.getD i .non):=.keep f.fh x _;rw[(q.ext f) l g _ (C.trans<|.keep C.fh A _) m (Qe f.fh m) (zs,JO,vp.mpr<|t g<|y g<|vp.mp s)]
  .rw[J7 c]
 ext
def bt_set:bootBuiltins "set"=! .type "set":=by kernel_rfl
end L2.DL
namespace L2.ST
def wD(a b:J0):Bool:=decide (⇑a<⇑b)||decide (⇑a=⇑b)&&jK a b
theorem Aa :wD a b=6↔⇑a<⇑b\/⇑a=⇑b/\jK a b=6:=by
 simp_all[wD]
def Fj :wD a b=7↔⇑b<⇑a\/⇑a=⇑b/\jK a b=7:=by
 grind[Aa]
def uZ:Tot wD where
 asy:=λa b h=>by
  rw[Aa]at h;rw[Fj,];obtain h|⟨f,e⟩:=h
  .rw[.inl h]
  .rw[.inr (f.symm,yJ.asy _ _ e)]
 neg:=λa b c h=>by
  rw[Aa]at h;rw[Aa,Aa];obtain h|⟨f,e⟩:=h
  .omega
  .rcases Ve ⇑a ⇑b with z|z|z
   .rw[.inl<|.inl z]
   .rcases yJ.neg a b c e with y|y
    .rw[by grind]
    ext
   lia
 tot:=λa b f e=>by
  rw[Fj]at f e;obtain f|⟨f,h3⟩:=f<;>obtain e|⟨e,h4⟩:=e
  .omega
  .omega
  .omega
  .rw[yJ.tot _ _ h3 h4]
def ox  (h:l.Pairwise λa b=>jK a b=6)(p:Pl ⇑l c ⇑l)(u:Up (λi j=>decide<|(⇑(l.getD i []):3)<(⇑(l.getD j []):3)) c ⇑l):c.toList.map (λi=>l.getD i [])=Qs wD l:=by
 rw[Cf uZ ?_ ?_<|XV uZ l]
 .rw[VI ?_ (QM l).symm];let q:c.toList.Perm (List.range ⇑l):=by
   let:=Jt.mp p.perm;simpa using this
  rw[(q.map _).trans<|List.Perm.of_eq ?_];apply List.ext_getElem
  .simp
  .intro i v m;simp[m]
 .rw[Jk.mpr λa b n o r=>?_];rw[V4,V4];let sz:⇑c.toList=⇑l:=by rw[Uw,p.size]
  rw[Zql]at n o;let s:c.toList[a]=gx c a:=by
   simp_all[gx]
  let t:c.toList[b]=gx c b:=by
   simp_all[gx]
  rw[s,t];let f:=p.lt (Zf _)<|show a<⇑l from();let g:=p.lt (Zf _)<|show b<⇑l from();let e:=u a b r ();generalize gx c a=i at e f;generalize gx c b=j at e g;rw[Fj,];obtain e|⟨e,ij⟩:=e
  .ext
  .let:=of_decide_eq_false e;obtain z|z:=US ⇑(l.getD i []) ⇑(l.getD j [])
   .rw[.inl z]
   .rw[.inr ((),yJ.asy _ _ ?_)];let:=Jk.mp h i j f g ij
    ext
def ou  (l:IntsAre a b)(m:⇑b=⇑c):zb e w A s oneType' (λi=>%[jI a i|jI c i]) (λi j=>decide<|b.getD i 0<b.getD j 0) ⇑c:=by
 let at_:∀{a:Ye}{b:Yf},IntsAre a b->∀i,i<⇑b->∃t,jI a i=.int (b.getD i 0) t:=by
  intro a b h
  cases(h)with
  |nil=>simp
  |cons n t _ f=>
   intro i g
   cases(i)with
   |zero=>rw[(t,9)]
   |succ i=>rw[f i ()]
 intro i j g o E Q p
 grind[W.kat_lt_int]
def iY      (z:IntsAre f.toList r)(R:⇑r=⇑g)(B:⇑g<1000)(C:n≠a)
 (M:↥s n=! seqObj 013 f e)(S:↥s a=! seqObj 013 #[] F)
 (h:∀l G,Pl ⇑g l ⇑g->Up (λi j=>decide<|r.getD i 0<r.getD j 0) l ⇑g->(∀b o,b≠n->b≠a->↥s b=!o->G.get? b=!o)->(∃c,G.get? a=! seqObj 013 (l.map<|jI g) c)->P (.done<|.ret .none) {s with heap:=G}):
 YF x w A (ksk_end a 7 g.toArray F (.ref n) f) P E s:=by
 let t:f.size=⇑g:=by
  let T:=⇑z;rw[Uw]at T;lia
 let kl:f=f.toList.toArray:=Array.toArray_toList.symm;let N:f.zip g.toArray=(Array.range ⇑g).map λi=>%[jI f.toList i|jI g i]:=by
  apply Array.ext_getElem?;intro k;rw[U6,];cases p:k<⇑g
  .rw[V2,Zd p];let e:jI g k=g[k]:=by ext jI;rw[Ue,Zqg p];rfl
   let U:jI f.toList k=f[k]'():=by ext jI;rw[Ue,Zqg (by rw[Uw,];lia)];simp
   simp[Array.getElem?_zip_eq_some,p,t,e,U]
  .rw[V2,Ze p,VQ (by simp;lia)];rfl
 let q:∀(st:SortSt)(l:Yg),arrOf st=l.map (λi=>%[jI f.toList i|jI g i])->failedOf st=8->Pl ⇑g l ⇑g->Up (λi j=>decide<|r.getD i 0<r.getD j 0) l ⇑g->YF x w A (ksk_tail a 7 F (.ref n) st) P E s:=by
  intro st l H I y J;let X:(arrOf st).map (·.2)=l.map (jI g):=by rw[H,Array.map_map];rfl
  ext ksk_tail;dsimp only;rw[X,I];let(O,g1):∃O,(s.heap.update n<|Obj.mapSeq λ_=>#[]).get? n=! seqObj 013 #[] O:=(_,get?_update_seq M<|λ_=>#[]);let u:(s.heap.update n<|Obj.mapSeq λ_=>#[]).get? a=! seqObj 013 #[] F:=by rw[Heap.get?_update_ne _ _ _ _ (Ne.symm C),];rw[S]
  rw[Za<|listUpdate_at M 9 ?_ (by rw[t,sizeLine_eq];lia)<|Ub _];rw[Za<|wpAny_letGo ?_];rw[Za (seqEpoch_at (s:={s with heap:=s.heap.update n (Obj.mapSeq λ_=>#[])}) u 9<|Za<|listUpdate_at (s:={s with heap:=s.heap.update n (Obj.mapSeq λ_=>#[])}) u 9 ?_ (Ub _)<|by rw[Ze Zj,Uu,y.size,sizeLine_eq];lia)];simp only[bne_self_eq_false,UO,if_false];rw[Zb<|h l _ y J (λb o Y L Z=>?_) ?_]
  .show((s.heap.update n<|Obj.mapSeq λ_=>#[]).update a<|Obj.mapSeq λ_=>l.map<|jI g).get? b=!o;rw[Heap.get?_update_ne _ _ _ _ L,Heap.get?_update_ne _ _ _ _ Y];rw[Z]
  .rw[(_,get?_update_seq u<|λ_=>l.map<|jI g)]
 ext ksk_end;dsimp only;simp only[UO,if_false];cases v:g.toArray.size<2
 .rw[Zd v,Zd v];rw[Za<|Zb ?_];rw[StateT.run_pure,];rw[Za<|Zb ?_];rw[q _ (Array.range ⇑g) N 9 (Ce _ _<|Zf _) λi j ij jn=>?_];rw[Zm]at v;lia
 .rw[Ze v,Ze v];rw[Zm]at v;rw[ksk_kind z (by rw[t,];lia),];rw[Za<|Zb ?_];rw[Za<|Zc (HX (λi j h=>(),()) (ou z R) (ix:=Array.range ⇑g) (st:=SortSt.mk' oneType' (f.zip g.toArray) #[] 07 8) (Q:=λ_ m=>∃l,arrOf m=l.map (λi=>%[jI f.toList i|jI g i])/\failedOf m=8/\Pl ⇑g l ⇑g/\Up (λi j=>decide<|r.getD i 0<r.getD j 0) l ⇑g)
   (N,9,9,9) (Ce _ _ ()) () B λl m a1 a2 a3 a4=>(l,a1,a2,a3,a4)) ?_ λ_ _ e=>e]
  rintro⟨⟨⟩,m⟩ s' ⟨rfl,l,H,I,y,J⟩;rw[q m l H I y J]
def o0   {m:Yf}  (hl:⇑m=⇑n)(R:⇑n<1000)(I:kS≠a)
 (hK:↥s kS=! seqObj 013 #[] 0)(hA:↥s a=! seqObj 013 #[] e1)
 (J:∀(i:5)(v:Value)(k:3),n[i]?=!v->m[i]?=!k->∀(h:Heap)(q:5),(∀b o,b≠kS->b≠a->↥s b=!o->h.get? b=!o)->
  YF L w A (call f [v]) (λr M=>∃t S,r=.int k t/\M={s with heap:=h,toks:=S}) (λ_ _=>False) {s with heap:=h,toks:=q})
 (h:∀N l q,Pl ⇑n N ⇑n->Up (λi j=>decide<|m.getD i 0<m.getD j 0) N ⇑n->(∀b o,b≠kS->b≠a->↥s b=!o->l.get? b=!o)->(∃c,l.get? a=! seqObj 013 (N.map<|jI n) c)->P (.done<|.ret .none) {s with heap:=l,toks:=q}):
 YF L w A (ksk_rest a f 7 n.toArray e1<|.ref kS) P E s:=by
 ext ksk_rest;rw[Za<|wpAny_rule ?_]
 first
  |rw[List.forIn_toArray,]
  |(rw[<-Vy];simp only[List.toList_toArray])
  |rw[<-Vy]
 rw[Za<|ksk_fold (λi M=>∃l q z e,M={s with heap:=l,toks:=q}/\(∀b o,b≠kS->↥s b=!o->l.get? b=!o)/\l.get? kS=! seqObj 013 z e/\IntsAre z.toList (m.take i)) n 0 s
  (jW s.heap s.toks #[] 0 (9,λ_ _ _ e=>e,hK,by simpa using IntsAre.nil)) ?step ?done]
 case step=>
  intro j x M Z;rw[vE λl q z e=>xb λB O y H=>?_];subst B;simp only[Vw]at H ⊢;let hj:j<⇑n:=(Jc.mp Z).1;let(k,hkj):∃k,m[j]?=!k:=(_,Zqg ());let hz:z.size<=⇑n:=by
   let h1:=⇑H;rw[Uw,Uq]at h1;lia
  rw[Za<|wpAny_attempt<|Zc (J j x k Z hkj l q λb o F _ Q=>O b o F Q) (λv s'' he=>?_) λ_ _ hF=>hF.elim];let(G T,rfl,rfl):=he
  try dsimp only
  let(U,hc2):∃U,(l.update kS<|Obj.mapSeq (·.push<|.int k G)).get? kS=! seqObj 013 (z.push<|.int k G) U:=(_,get?_update_seq y (·.push<|.int k G));let ek:m.take (j+1)=m.take j++[k]:=by rw[List.take_add_one,hkj];simp
  let ea:(z.push<|Value.int k G).toList=z.toList++[Value.int k G]:=by simp
  rw[Za (listUpdate_at (s:={s with heap:=l,toks:=T}) y 9 ?_ (by rw[sizeLine_eq,];lia)<|Zh (Yu<|Array.size_push ..)<|by rw[sizeLine_eq,];lia)];rw[Zb (9,_,_,z.push<|.int k G,U,9,λb o F Q=>?_,hc2,by rw[ea,ek];rw[ksk_snoc H])];show(l.update kS<|Obj.mapSeq (·.push<|.int k G)).get? b=!o;rw[Heap.get?_update_ne _ _ _ _ F,];rw[O b o F Q]
 case done=>
  intro M;rw[vE λl q z e=>xb λC O y H=>?_];subst C;let X:IntsAre z.toList m:=by
   let e3:m.take (0+⇑n)=m:=Uz ();rw[e3]at H;rw[H]
  try dsimp only
  rw[Za<|listItems_at (s:={s with heap:=l,toks:=q}) y 9 ?_];rw[iY (s:={s with heap:=l,toks:=q}) X hl R I y (O a _ (Ne.symm I) hA) λN h2 p u k2 g=>h N h2 q p u (λb o F Y Q=>k2 b o F Y<|O b o F Q) g]
def oi   {kz:Yf}  (G:↥s a=! seqObj 013 l.toArray n)(M:⇑kz=⇑l)(H:⇑l<1000)
 (z:∀(i:5)(v:Value)(k:3),l[i]?=!v->kz[i]?=!k->∀(h:Heap)(m:5),(∀b o,b≠a->↥s b=!o->h.get? b=!o)->
  YF B w A (call f [v]) (λr N=>∃t I,r=.int k t/\N={s with heap:=h,toks:=I}) (λ_ _=>False) {s with heap:=h,toks:=m})
 (h:∀C q m,Pl ⇑l C ⇑l->Up (λi j=>decide<|kz.getD i 0<kz.getD j 0) C ⇑l->(∀b o,b≠a->↥s b=!o->q.get? b=!o)->(∃c,q.get? a=! seqObj 013 (C.map<|jI l) c)->P (.done<|.ret .none) {s with heap:=q,toks:=m}):
 YF B w A (ksk_tree a f 7) P E s:=by
 let O:a<s⁻¹:=Zk G;let(L,ho1):∃L,(s.heap.update a<|Obj.mapSeq λ_=>(#[]:Yk)).get? a=! seqObj 013 #[] L:=(_,get?_update_seq G λ_=>#[]);let x:((s.heap.update a<|Obj.mapSeq λ_=>(#[]:Yk)).push<|seqObj "tuple" l.toArray 0).objs.size=s⁻¹+1:=by rw[size_push',Heap.size_update]
 ext ksk_tree;rw[Za<|listItems_at G 9 ?_];rw[Za<|listUpdate_at G 9 ?_ (by rw[Zm,sizeLine_eq];lia)<|Ub _];rw[Za<|seqEpoch_at ho1 9 ?_];rw[Za (wpAny_newTuple ?_<|by show ⇑l<=_;rw[sizeLine_eq,];lia)];rw[Za<|wpAny_newList ?_<|Ub _];rw[wpAny_holding ?_];let F:∀{b o},↥s b=!o->b≠s⁻¹/\b≠s⁻¹+1:=λe=>(Zi<|Zk e,Zi<|UD<|Zk e);let keep:∀b o,b≠a->↥s b=!o->(((s.heap.update a<|Obj.mapSeq λ_=>(#[]:Yk)).push<|seqObj "tuple" l.toArray 0).push<|seqObj 013 #[] 0).get? b=!o:=λb o y e=>by
  rw[Zq _<|Zq _ ?_];rw[Heap.get?_update_ne _ _ _ _ y,];rw[e]
 rw[o0 (s:={s with heap:=((s.heap.update a<|Obj.mapSeq λ_=>(#[]:Yk)).push<|seqObj "tuple" l.toArray 0).push (seqObj 013 #[] 0)}) (kS:=((s.heap.update a<|Obj.mapSeq λ_=>(#[]:Yk)).push<|seqObj "tuple" l.toArray 0).objs.size)
  M H (by rw[x,];rw[Va<|UD O]) (Zr _ 9) (Zq _<|Zq _ ho1)
  (λi v k Q R q m J=>z i v k Q R q m λb o y e=>J b o (by rw[x,];rw[(F e).2]) y<|keep b o y e)
 <|λC q m p u J g=>h C q m p u (λb o y e=>J b o (by rw[x,];rw[(F e).2]) y<|keep b o y e) g]
def M6:YB->Hp->VK->4:=λg H Q=>∃a e c,g=[016]/\Rd H a (.lst e)/\qG H (c.map rD) e/\c.Pairwise (λa b=>jK a b=6)/\⇑c<1000/\(∀r∈c,⇑r<=1000)/\
 ∀l f,H l=8->(∀G,qG G (c.map rD) e->qG G ((Qs wD c).map rD) f)->Q (.ref l) (upd H l<|.lst f)
def iu {Z:St}      (I:003)(ha:Rd H a (.lst t))(hA:qG H (h.map rD) t)(hs:h.Pairwise λa b=>jK a b=6)(h64:⇑h<1000)(N:∀r∈h,⇑r<=1000)
 (q:∀l zs,H l=8->(∀G,qG G (h.map rD) t->qG G ((Qs wD h).map rD) zs)->Q (.ref l) (upd H l<|.lst zs)):
 YE X (call (.builtin "sorted") [016] [%[Str.ofString "key"|.builtin "len"]]) (EP X Y Z Q) X.xe s:=by
 let(-f,ri,pl,hz):=I.list (.inl ha);let l1:=⇑hA;let l2:=⇑ri;rw[Zql]at l1;let O:⇑f=⇑h:=()
 let hl:=pl.isList;let keep:∀b o,↥s b=!o->(((s.heap.push<|seqObj 013 #[] 0).update s⁻¹<|Obj.mapSeq (·++f.toArray)).push<|seqObj 013 f.toArray 0).get? b=!o:=λb o q=>by
  let B:b<s⁻¹:=Zk q;rw[Zq _ ?_];rw[Heap.get?_update_ne _ _ _ _ (Zi B),Heap.get?_push_ne _ _ _ (Zi B)];rw[q]
 let C:((s.heap.push<|seqObj 013 #[] 0).update s⁻¹<|Obj.mapSeq (·++f.toArray)).objs.size=s⁻¹+1:=by
  simp
 let w:(((s.heap.push<|seqObj 013 #[] 0).update s⁻¹<|Obj.mapSeq (·++f.toArray)).push<|seqObj 013 f.toArray 0).get? (s⁻¹+1)=! seqObj 013 f.toArray 0:=by
  rw[<-C];rw[Zr _ 9]
 rw[call_function_entry_kw kind_sorted plain_sorted entry_sorted (ksk_s1 _ _) ?_];ext Builtin.«sorted»;rw[Za (m:=checkCount "sorted" 1 1 _)<|Zb ?_];rw[Za (collect_list hl ?_<|by rw[O,sizeLine_eq];lia)];rw[Za (wpAny_newList ?_<|by rw[O,sizeLine_eq];lia)];show wpAny _ _ _ _ _ {s with heap:=((s.heap.push<|seqObj 013 #[] 0).update s⁻¹<|Obj.mapSeq (·++f.toArray)).push (seqObj 013 f.toArray 0)};rw[C,];generalize hH:((s.heap.push<|seqObj 013 #[] 0).update s⁻¹<|Obj.mapSeq (·++f.toArray)).push (seqObj 013 f.toArray 0)=hp at keep w;rw[Za<|wpAny_holding<|wpAny_call_entry_kw slot_list_sort (_,w,9) entry_list_sort ?body<|ksk_l1 _ _]
 case body=>
  show wpAny 009 X.A.in1.in1 (Builtin.«list.sort» ([.ref (s⁻¹+1)],[%[Str.ofString "key"|.builtin "len"]])) _ _ _;rw[ksk_t4,];rw[oi (s:={s with heap:=hp}) (kz:=h.map λr=>(⇑r:3)) w () () (λi v k E hk M y P=>?_) λz M y p u P g=>(_,9,Zb (_,9,?_))]
  .let n:i<⇑h:=by
    let:=(Jc.mp hk).1
    rwa[Zql]at this
   let(-x,A,hI):=hA.get (i:=i) (d:=rD<|h.getD i []) (by rw[Zv,Zqg n,Q0 (Zqg n)];rfl);let(v',F,J):=ri.get A;rw[E]at F;obtain rfl:=Zqi F;let(b o S m,R):=Eu I.hok hI J;obtain rfl:v=Value.ref b:=R.isv;let hb:b≠s⁻¹+1:=Zi<|UD<|Zk R.get;let ht:IsTup M b S.toArray:=(o,P b o hb<|keep b o R.get,R.cls,m,R.dat);let T:⇑S=⇑(h.getD i []):=R.prs.1;let ek:k=(⇑(h.getD i []):3):=by
    ext
   let lrow:⇑(h.getD i [])<=1000:=by
    rw[Q0 (Zqg n),];rw[N _<|UA n]
   let ev:Value.int ((S.toArray.size:5):3) (y+1)=Value.int k (y+1):=by ext
   rw[len_tuple (s:={s with heap:=M,toks:=y}) ht (by rw[Zm,T];lia) (y+1,y+1+1,ev,9)]
  .let(c,g):=g;let U:∀b o,↥s b=!o->M.get? b=!o:=λb o e=>P b o (Zi<|UD<|Zk e)<|keep b o e;rw[O]at p u;let ud:λi j=>decide<|(h.map λr=>(⇑r:3)).getD i 0<(h.map λr=>(⇑r:3)).getD j 0=λi j=>decide<|(⇑(h.getD i []):3)<(⇑(h.getD j []):3):=by
    let e:∀i,(h.map λr=>(⇑r:3)).getD i 0=(⇑(h.getD i []):3):=λi=>by
     rw[Ue,Zv,Ue]
     cases(h[i]?)<;>rfl
    funext i j
    rw[e,e]
   rw[ud]at u;let sp:=ox hs p u;let L:s⁻¹<=s⁻¹+1:=Nat.le_succ _;let at_:∀i∈z.toList,∃x v,t[i]?=!x/\f[i]?=!v/\jz x v:=λi n=>by
    let hn:=p.mem n;let(x,A):∃x,t[i]?=!x:=(t[i]'(),());let(v,E,J):=ri.get A;rw[(x,v,A,E,J)]
   let fin:=q (s⁻¹+1) (z.toList.map λi=>t.getD i .non) (I.hok.fresh L) λG hG=>by
    let:=CJ hG z.toList λi n=>p.mem n;rw[sp]at this;rw[this]
   rw[(.ref<|s⁻¹+1,upd H (s⁻¹+1)<|.lst<|z.toList.map λi=>t.getD i .non,I.laid (a:=s⁻¹+1) (o:=.lst<|z.toList.map λi=>t.getD i .non) (t':=y) U L (?_,z.toList.map<|jI f,c,?_,?_),9,fin)]
   .rw[Zql,p.len];rw[small ()]
   .rw[ZG λi n=>?_];let(x v,A,E,J):=at_ i n;ext jI;rw[Q0 A,Q0 E];rw[J]
   .rw[g,]
    congr 03
    apply Vq;simp
def pe_sortLen   (j:Gl X "sorted")(l:X.mg "sorted"=8)(c:Gl X "len")(f:X.mg "len"=8)(m:PA X [e] t)
 (n:backTo b (01 [e] X.env)=%[7|011]::backTo b (01 [] X.env):=by rfl)(g:(backTo b<|01 [e] X.env).any (·.1)=7:=by rfl):PE X (.Call (.Name "sorted" p) [e] [(!"key",.Name "len" B,C)] b) (uE M6 t):=by
 intro Y s Z H Q I h;rw[wpAny_Call_Name_kw (Xq I j l (show bootBuiltins "sorted"=! .builtin "sorted"by kernel_rfl) ?_ 008<|008)];rw[callWith_kw (jL (m b Y s Z H _ I h) λE F=>j4 λG J=>j8 λi o r=>kws_cons<|Xq i c f boot_len (kws_nil ?_) 008<|008) n g];let(a L M,rfl,v,w,x,y,z,q):=r;let(-u,rfl,A):=K8 o;obtain rfl:=A;rw[iu i v w x y z q]
end L2.ST
namespace L2.DL
open PySem PySem.Spec PyProof.Rows L2.ST
def CL:YC->YD
 |[.lst e]=>(QP Wn e).bind λc=>if c.Pairwise (λa b=>jK a b=6)/\⇑c<1000/\∀r∈c,⇑r<=1000 then !(.lst<|(Qs wD c).map j3)else 8
 |_=>8
def iG(h:∀{i:TA},PA X o i->PE X e (uE M6 i))(p:QA X E o s):QN X E e (jj CL s):=PE.weak (h p) λZ H Q t=>by
 let(B F u,r,n):=t;rw[jg B F u (r,(Res.need_bind n).mono (λL w M j N c x=>?_) 004)];let(z,b,q):=ji w;unfold CL at b
 split at b
 .let(-y,A,b):=Jg.mp b
  split at b
  .rename_i f;obtain rfl:=Zqi b;let(-v,rfl,h):=QQ x;rw[E7 A,jo]at h;let(a,C,rfl,G,m):=h;rw[jg a C y (9,G.same c.fh,vp.mp<|jc.same c.fh _ _ m,f.1,f.2.1,f.2.2,λl I g J=>(q.ext c) l j _ (.keep c.fh g _) g (Qe c.fh g) (I,JO,vp.mpr<|J j<|vp.mp m))]
  .rw[J7 b]
 ext
end L2.DL
namespace L2
def yC.has      (x:yC P w H h a o):∃u,h.get? a=!u:=by
 cases(o)with
 |lst i=>let(_,_,_,_,e):=x;rw[(_,e)]
 |tup i=>let(_,_,_,o,e,_):=x;rw[(_,e)]
 |dK c=>let(!_,_,(_,_,o,_,_,e,_)):=x;rw[(_,e)]
 |dT c=>let(!_,_,(_,_,o,_,_,e,_)):=x;rw[(_,e)]
 |set S n=>let(o _ _ _,e,_):=x;rw[(_,e)]
 |ins C j fs=>rw[(_,x.2.2.2.1)]
 |own y=>rw[x]
 |xd fs=>let(-_,(_,_,_,e,_),_):=x;rw[(_,e)]
 |rng lo l=>let(_ _ _,e):=x;rw[(_,e)]
 |frz p u=>rw[(_,x.1)]
 |tbl r=>rw[(_,x)]
 |met f y=>rw[(_,x)]
 |ext φ=>rw[x.2.1]
def RJv(M:Model)(Γ:PySem.Ctx)(p:Pos)(s:Shared)(e:End)(b:Shared):List Frame->Sem PySem.Fin->4
 |[],.pure (.done f)=>e=.ret (.ok f)/\b=s
 |[],.pure (.again c)=>Runs M (Γ.goto c) p (M.den c) [] s e b
 |[],.raise x=>e=.ret (.error x)/\b=s
 |[],.rule _ k=>Runs M Γ p (k Yq) [] s e b
 |[],.at q k=>Runs M Γ q (k Yq) [] s e b
 |[],.load a _ k=>∃o,↥s a=!o/\Runs M Γ p (k o) [] s e b
 |[],.update a _ f k=>Runs M Γ p (k Yq) [] {s with heap:=s.heap.update a f} e b
 |[],.loadIfAlive a k=>Runs M Γ p (k<|↥s a) [] s e b
 |[],.point _ k=>Runs M Γ p (k Yq) [] s e b
 |[],.alloc o k=>Runs M Γ p (k s⁻¹) [] {s with heap:=s.heap.push o} e b
 |[],.fresh k=>Runs M Γ p (k s.toks) [] {s with toks:=s.toks+1} e b
 |[],.ask k=>Runs M Γ p (k (M.prog,M.w.params)) [] s e b
 |[],.choose i n k=>Runs M Γ p (k<|M.w.draws i (s.drawn.get i)%n) [] {s with drawn:=s.drawn.bump i} e b
 |[],.os q _ k=>Runs M Γ p (k (Os.step s.os q).2) [] {s with os:=(Os.step s.os q).1} e b
 |[],.handled own k=>Runs M Γ p (k<|if own then Γ.own else Γ.handled) [] s e b
 |[],.genState g k=>∃m,s.gens[g]?=!m/\Runs M Γ p (k m.seen) [] s e b
 |[],.stack k=>Runs M Γ p (k<|%[Γ.code|p]::Γ.below) [] s e b
 |[],.thread k=>Runs M Γ p (k 0) [] s e b
 |[],.newGen c k=>Runs M Γ p (k s.gens.size) [] {s with gens:=s.gens.push (.fresh c)} e b
 |[],.call c h g l k=>∃e₁ s₁,Runs M (Γ.enter c h p) p (M.den c) [] s e₁ s₁/\match e₁ with
  |.ret r=>Runs M Γ p (k r) [] s₁ e b
  |.susp v g₀ l₀ k₀ c₀ p₀ fs=>e=.susp v g₀ l₀ k₀ c₀ p₀ (fs++[.ret k h g l Γ.code p []])/\b=s₁
 |[],.yield v g l k=>e=.susp v g l k Γ.code p []/\b=s
 |[],.resume g r _ k=>∃j s₁,Wakes M Γ p g r s j s₁/\Runs M Γ p (k j) [] s₁ e b
 |[],_=>True
 |F::fs,t=>∃e₁ s₁,Runs M (Γ.over<|F::fs) p t [] s e₁ s₁/\match e₁ with
  |.ret r=>match F with
   |.ret k _ _ _ c₁ p₁ _=>Runs M (Γ.goto c₁) p₁ (k r) fs s₁ e b
   |.gen g k _ c₁ p₁=>Runs M (Γ.goto c₁) p₁ (k (End.ret r).result) fs (s₁.setGen g .finished) e b
  |.susp v g₀ l₀ k₀ c₀ p₀ fs₀=>match splitAtGen (F::fs)with
   |none=>e=.susp v g₀ l₀ k₀ c₀ p₀ (fs₀++F::fs)/\b=s₁
   |some %[pre,%[g,k,c₁|p₁]|rest]=>Runs M (Γ.goto c₁) p₁ (k<|.yielded v) rest (s₁.setGen g (End.susp v g₀ l₀ k₀ c₀ p₀<|fs₀++pre).genState) e b
def M7        (q:s.gens[g]?=! .fresh c)(n:v ≠ .none):Wakes M Γ p g (.send v) s a b↔a=.justStarted/\b=s:=by
 ext Wakes;rw[q,]
 cases(v)<;>first|rw[Zn 9 n]|rw[Iff.rfl]
def ri       (h:Runs M Γ p t fs s e f):RJv M Γ p s e f fs t:=by
 cases(h)with
 |done|raise|yield=>rw[(9,9)]
 |again _ h|rule h|«at» h|update _ h|loadIfAlive h|point h|alloc h|fresh h|ask h|choose _ h|os h|handled h|stack h|thread h|newGen h=>rw[h]
 |load q h|genState q h=>rw[(_,q,h)]
 |call a b=>rw[jR _ _ (a,b)]
 |callSusp a=>rw[jR _ _ (a,9,9)]
 |resumeFresh q a c b=>rw[(_,_,by ext Wakes;rw[q,];rw[(_,_,a,c,9,9)],b)]
 |resumeSuspended q a c b=>rw[(_,_,by ext Wakes;rw[q,];rw[(_,_,a,c,9,9)],b)]
 |resumeJustStarted q n b=>rw[(_,_,(M7 q n).mpr (9,9),b)]
 |resumeThrowFresh q b|resumeRunning q b|resumeFinished q b=>rw[jR _ _ (by ext Wakes;rw[q,];rw[(9,9)],b)]
 |segRet a b|segGen a b=>rw[jR _ _ (a,b)]
 |segSuspOut q a=>
  rw[jR _ _ (a,?_)];show match splitAtGen _ with|none=>_|some %[pre,%[g,k,c₁|p₁]|rest]=>_
  rw[q,];rw[(9,9)]
 |segSuspGen q a _ b=>
  rw[jR _ _ (a,?_)];show match splitAtGen _ with|none=>_|some %[pre,%[g,k,c₁|p₁]|rest]=>_
  rw[q,];rw[b]
theorem M8       (h:Runs M Γ p t fs s e r):∀{f i},Runs M Γ p t fs s f i->e=f/\r=i:=by
 cases(h)with
 |done|raise|yield=>intro f i k;rw[((ri k).1.symm,(ri k).2.symm)]
 |again _ _ d|rule _ d|«at» _ d|update _ _ d|loadIfAlive _ d|point _ d|alloc _ d|fresh _ d|ask _ d|choose _ _ d|os _ d|handled _ d|stack _ d|thread _ d|newGen _ d=>intro f i k;rw[d<|ri k]
 |load q _ d|genState q _ d=>intro f i k;let(-o,m,k):=ri k;rw[q]at m;cases m;rw[d k]
 |call _ _ j l=>intro f i k;let(_ _,a,b):=ri k;let(rfl,rfl):=j a;rw[l b]
 |callSusp _ j=>intro f i k;let(_ _,a,b):=ri k;let(rfl,rfl):=j a;rw[(b.1.symm,b.2.symm)]
 |resumeFresh q _ _ _ j l|resumeSuspended q _ _ _ j l=>intro f i k;let(_ _,w,b):=ri k;unfold Wakes at w;rw[q]at w;let(_,_,a,_,rfl,rfl):=w;let(rfl,rfl):=j a;rw[l b]
 |resumeJustStarted q n _ d=>intro f i k;let(_ _,w,b):=ri k;let(rfl,rfl):=(M7 q n).mp w;rw[d b]
 |resumeThrowFresh q _ d|resumeRunning q _ d|resumeFinished q _ d=>intro f i k;let(_ _,w,b):=ri k;unfold Wakes at w;rw[q]at w;let(rfl,rfl):=w;rw[d b]
 |segRet _ _ j l|segGen _ _ j l=>intro f i k;let(_ _,a,b):=ri k;let(rfl,rfl):=j a;rw[l b]
 |segSuspOut q _ j=>
  intro f i k;let(_ _,a,b):=ri k;let(rfl,rfl):=j a;let b:match splitAtGen _ with|none=>_|some %[pre,%[g,k,c₁|p₁]|rest]=>_:=b
  rw[q]at b;rw[(b.1.symm,b.2.symm)]
 |segSuspGen q _ _ _ j l=>
  intro f i k;let(_ _,a,b):=ri k;let(rfl,rfl):=j a;let b:match splitAtGen _ with|none=>_|some %[pre,%[g,k,c₁|p₁]|rest]=>_:=b
  rw[q]at b;rw[l b]
def iw       (h:Wakes M Γ p g r s a f)(k:Wakes M Γ p g r s b i):a=b/\f=i:=by
 unfold Wakes at h k;let two{Γ:PySem.Ctx}{p:Pos}{t:Sem PySem.Fin}{fs:List Frame}{z:Shared}(h:∃e₁ s₁,Runs M Γ p t fs z e₁ s₁/\e₁.quiet=6/\a=e₁.result/\f=s₁.setGen g e₁.genState)(k:∃e₁ s₁,Runs M Γ p t fs z e₁ s₁/\e₁.quiet=6/\b=e₁.result/\i=s₁.setGen g e₁.genState):a=b/\f=i:=by
  grind[M8]
 let one{x:GenResult}{z:Shared}(h:a=x/\f=z)(k:b=x/\i=z):a=b/\f=i:=by grind
 induction hg:s.gens[g]? with
 |none=>ext
 |some j=>
  rw[hg]at h k
  cases(j)with
  |fresh c=>
   cases(r)with
   |send v=>cases(v)<;>first|rw[two h k]|rw[one h k]
   |throw x=>rw[one h k]
  |suspended=>rw[two h k]
  |running=>rw[one h k]
  |finished=>rw[one h k]
def lF     (t:Sem α):∀p s,Sem.wp M Γ t Q E p s->Sem.wp M Γ t m n p s->Sem.wp M Γ t (λa p s=>Q a p s/\m a p s) (λa p s=>E a p s/\n a p s) p s:=by
 cases(t)with
 |pure x=>rw[λ_ _ a b=>(a,b)]
 |raise v=>rw[λ_ _ a b=>(a,b)]
 |unsupported|finish|yield|fork|await|register=>rw[λ_ _ a _=>a]
 |rule _ k e|«at» _ k e|alloc _ k e|loadIfAlive _ k e|point _ k e|fresh k e|ask k e|os _ _ k e|handled _ k e|newGen _ k e|stack k e|thread k e=>rw[λ_ _ a b=>e _ _ _ a b]
 |load a _ k e|genState a k e=>rw[λ_ _=>y9 λo=>j5 λq h=>y9 λB=>j5 λu j=> (o,q,e _ _ _ h ())]
 |update a _ f k e|choose _ _ k e=>rw[λ_ _=>j5 λw h=>j5 λ_ j=> (w,e _ _ _ h j)]
 |call c h g l k e=>
  intro p s(r,i,x,y)(z,s1',x',y');let(!A,rfl):=M8 x x';cases A;rw[(r,i,x,e _ _ _ y y')]
 |resume g r l k e=>
  intro p s(r,i,x,y)(z,s1',x',y');let(rfl,rfl):=iw x x';rw[(r,i,x,e _ _ _ y y')]
def AY       (h:wpAny M A t Q E s)(k:wpAny M A t b c s):wpAny M A t (λa s=>Q a s/\b a s) (λa s=>E a s/\c a s) s:=
 λΓ p i=>lF t p s (h Γ p i)<|k Γ p i
def DT(h:Heap)(e:Addr)(d:02 Addr):4:=∃a b T c f,h.get? e=!a/\a.dict=d/\a.data=.fields b/\b[1]?=! .ref T/\T≠e/\h.get? T=!c/\c.data=.fields f/\03<f.size
def Fk (h:DT s.heap e d):wpAny M A (setFlight (.ref e) f) (λ_ m=>DT m.heap e d) E s:=by
 let(n o T q r,c,p,g,i,b,j,a,l):=h;rw[Za<|wpAny_field c g i<|wpAny_setField j a l<|jC n o T _ _ ((Heap.get?_update_other _ _ b).trans c,p,g,i,b,Heap.get?_update_self _ j<|Obj.isFreed_of_fields<|Obj.data_mapFields a _,Obj.data_mapFields a _,by simpa using l)]
def M9    (n:A.frames=! f::c)(r:s.heap.FunFrames t (f::c))(v:f.frame=!L)(g:↥s e=!u)(p:u.data=.fields w)(i:1<w.size):
 wpAny M A (do let a<-frameOf f;let m<-entryPlaceOf L b;let b<-EntryCells.newEntry j a .none (rawInt L) .none m;setField (.ref e) 1 b) (λ_ x=>DT x.heap e u.dict) E s:=by
 let l:e∉(f::c).filterMap (·.frame):=λy=>by
  let(_,o,C,z):=r.mem y
  ext
 rw[Za<|wpAny_frameOf_fun n r v λh₁ hs₁=>Za<|wpAny_entryPlaceOf λm q=>Za<|wpAny_newObj_type ?_<|q.sizeOk5 _ _ _ _ _];let he₁:=(hs₁.2.1 e l).trans g;let he₂:=Zq {cls:=.type "traceback",dict:=8,data:=.fields ([j,.ref L,.none,rawInt L,.none]++if m.isEmpty then List.replicate 06 Value.none else m).toArray} he₁;let ne:=Va<|Zk he₁;rw[wpAny_setField he₂ p i<|jC _ _ h₁.objs.size _ _ (Heap.get?_update_self _ he₂<|Obj.isFreed_of_fields<|Obj.data_mapFields p _,?_,Obj.data_mapFields p _,by simp[i],ne,(Heap.get?_update_other _ _<|Ne.symm ne).trans<|Zr h₁ 9,9,())];ext Obj.mapFields
 split<;>rfl
def MA(i:A.frames=! c::f)(w:s.heap.FunFrames m (c::f))(n:c.frame=!L)(h:DT s.heap e d):
 wpAny M A (noteFrame (.ref e) c) (λ_ x=>DT x.heap e d) E s:=by
 let y:=h;let(C F T G H,p,z,r,t,j,u,g,v):=h;ext noteFrame;simp only[n];rw[Za<|wpAny_field p r t ?_];rw[Za<|wpAny_field u g (UF v) ?_]
 split
 .rw[Zb y]
 rw[Za<|wpAny_setField u g v ?_];let a:∀b,b≠T->(s.heap.update T<|Obj.mapFields (·.setIfInBounds 03 Value.none)).get? b=↥s b:=λb l=>Heap.get?_update_other _ _<|Ne.symm l;subst z;rw[M9 i (w.of_keeps λb o l B=>(o,(a b λq=>()).trans l,9)) n ((a e<|Ne.symm j).trans p) r (Jo.mp t).1]
def zgF  (c:A.frames=! a::b)(m:s.heap.FunFrames f (a::b))(g:a.frame=!L)(h:↥s e=!i)(j:i.data=.fields n)(l:n[1]?=!.none):
 wpAny M A (leaving a<|.ref e) (λ_ o=>DT o.heap e i.dict) E s:=Za<|Zc (by
  ext noteFrame;simp only[g];rw[Za<|wpAny_field h j l<|M9 c m g h j (Jo.mp l).1]) (λ_ _ q=>Fk q) λ_ _ z=>z
def MB(c:A.frames=! a::b)(g:s.heap.FunFrames f (a::b))(i:a.frame=!L)(h:DT s.heap e d):
 wpAny M A (leaving a<|.ref e) (λ_ j=>DT j.heap e d) E s:=Za<|Zc (MA c g i h) (λ_ _ q=>Fk q) λ_ _ z=>z
def iU(i:A.frames=! f::c)(m:f.frame=!L)(j:Heap.FlyingW h (f::c) e l n s.heap)(o:DT s.heap e d)
 (q:∀g,Heap.HeldW h (f::c) e l n L g->s.heap.UpToSlots g->DT g e d->Q Yq {s with heap:=g}):wpAny M A (noteFrame (.ref e) f) Q E s:=
 Zc (AY (wpAny_looks_onW (Q:=λ_ p=>∃g,Heap.HeldW h (f::c) e l n L g/\s.heap.UpToSlots g/\p={s with heap:=g}) i m j λg a b=>(g,a,b,9))<|MA (E:=E) i j.2.2.1 m o) () λ_ _ z=>z.1
def o6(j:A.frames=! i::f)(n:i.frame=!L)(l:Heap.FlyingW h (i::f) e m o s.heap)(p:DT s.heap e d)
 (r:∀g,Heap.FlyingW h f e m o g->s.heap.UpToSlots g->DT g e d->Q Yq {s with heap:=g}):wpAny M A (leaving i<|.ref e) Q E s:=
 Zc (AY (wpAny_leaves_onW (Q:=λ_ t=>∃g,Heap.FlyingW h f e m o g/\s.heap.UpToSlots g/\t={s with heap:=g}) j n l λg a b=>(g,a,b,9))<|MB (E:=E) j l.2.2.1 n p) (λ_ _((g,a,b,c),q)=>by subst c;rw[r g a b q]) λ_ _ z=>z.1
structure FlyAt(l:List Env)(h₀:Heap)(H:Hp)(x C:Addr)(B h:Heap):4 where
 fly:∃t,Heap.FlyingW B l x (.ref C) (.ref t) h
 trk:∀b o,h.get? b=!o->H b≠8\/(∃u,h₀.get? b=!u)/\b∉frs l->B.get? b=!o
def yw(P:Program)(w:World):uX:=λa H s E e b=>∃c x C B,e=.ref x/\b.os=s.os/\AllBare b.gens/\Un (frs a) [] H c s.heap b.heap/\xy P w c b.heap/\FlyAt a s.heap c x C B b.heap/\∃d,DT b.heap x d/\E (.ref C) d c
structure Thrown(X:Cx)(E:XK):4 where
 on:∀(Y:Yb)(Z:St)(H:Hp)(s:Shared)(h₀:Heap)(x C:Addr)(B:Heap)(d:02 Addr),003->(∀b u,X.s₀.heap.get? b=!u->b∉X.ex->∃u',h₀.get? b=!u')->FlyAt X.stack h₀ H x C B s.heap->DT s.heap x d->E (.ref C) d H->X.xe (.ref x) s
structure Raises(X:Cx)(E:XK):4 where
 new:∀(Y:Yb)(Z:St)(H:Hp)(s:Shared)(h':Heap)(x C:Addr)(args:Ye),003->Heap.MadeExcOf s.heap h' x (.ref C) args->E (.ref C) 8 H->X.xe (.ref x) {s with heap:=h'}
def Thrown.passes  (T:Thrown X E):A0 (yw X.prog X.w) X E:=by
 intro Y Z H s e i I c;let(j,x,C,B,l,os,bare,un,f,n,d,o,p):=c;subst l;rw[T.on Y Z j i s.heap x C B d (I.call' os un f bare<|λb z=>Zn z ()) (λb u e r=>I.base.there b u e r) n o p]
section
variable   {K:f'}
def Fl {Z:St}  {h₀ j B:Heap}  (I:Inv (qj (yw P w) P w K U F N l i f M A a s H E) Y Z G J)
 (X:∀b u,↥s b=!u->∃u',h₀.get? b=!u')(L:Heap.FlyingW B a x (.ref C) (.ref t) j)(up:J.heap.UpToSlots j)
 (trk:∀b o,↥J b=!o->G b≠8\/(∃u,h₀.get? b=!u)/\b∉frs (envOfC l i s⁻¹ f M::a)->B.get? b=!o)(dt:DT j x T)(hE:E (.ref C) T G):
 yw P w a H s E (.ref x) {J with heap:=j}:=by
 let O:∀b u,↥s b=!u->b∉frs a->b∉frs (envOfC l i s⁻¹ f M::a):=λb u e g z=>by
  unfold frs at z g;rw[U4]at z;let z:b∈s⁻¹::a.filterMap (·.frame):=z;obtain q|q:=UY.mp z
  .rw[Zn (Zk e)<|by rw[q,];rw[Zy _]]
  .rw[g q]
 let m:∀b:Addr,b∉(qj (yw P w) P w K U F N l i f M A a s H E).ex:=λb z=>Zn (show b∈([]:Yj)from z) ();let keep:∀b o,↥J b=!o->G b≠8\/(∃u,↥s b=!u)/\b∉frs a->B.get? b=!o:=λb o e c=>by
  rw[trk b o e ?_];obtain c|⟨⟨u,hu⟩,g⟩:=c
  .rw[.inl c]
  .rw[.inr (X b u hu,O b u hu g)]
 let y:∀b o,↥s b=!o->b∈frs a->∃Q,j.get? b=!{o with slots:=Q}:=λb o e g=>by
  let(Q,e1):=I.base.slot b o e (I.ok.frf b g) g (m b);let(_,p,r,hd):=I.ok.funs.mem g;let r:↥s b=!p:=r;rw[e]at r;obtain rfl:=Zqi r;let(R,e2):=up b _ e1 hd;rw[(R,e2)]
 rw[jW G x C B (9,I.os,I.bare,(λb o e n g _=>?_,λb o e n g _=>y b o e g,λb o e n _=>I.base.free b o e n<|m b,λb o e _=>?_,I.base.tups,I.base.frzs,I.base.tbls),λb u e=>?_,((t,L),λb o e c=>?_),T,dt,hE)]
 .rw[L.1 b o<|keep b o (I.base.keep b o e n g<|m b)<|.inr ((o,e),g)]
 .cases g:b∈frs a
  .let(Q,q):=y b o e g;rw[(_,q)]
  .let(p,S):=I.base.there b o e (m b);rw[(p,L.1 b p<|keep b p S<|.inr ((o,e),g))]
 .rw[(I.hok b u e).stay (λc v hc q=>L.1 c v<|keep c v q<|.inl ?_) (λ_ q=>q) 004];obtain z|z:=hc
  .rw[z,e];simp
  .rw[z,];simp
 .let ex:∃p,↥J b=!p:=by
   obtain c|⟨⟨u,hu⟩,_⟩:=c
   .induction q:G b with
    |none=>rw[Zn q c]
    |some u=>rw[(I.hok b u q).has]
   .rw[I.base.there b u hu<|m b]
  let(p,S):=ex;let k:=keep b p S c;let:=L.1 b p k;let e:j.get? b=!o:=e;rw[e]at this;obtain rfl:=Zqi this;rw[k]
def KR:Thrown (qj (yw P w) P w K o g N i a f p A c s H E) E:=by
 rw[⟨λY Z F G h₀ x C B J I q j r v=>?_⟩];let((t,l),trk):=j;let m:∀b:Addr,b∉(qj (yw P w) P w K o g N i a f p A c s H E).ex:=λb z=>Zn (show b∈([]:Yj)from z) ();rw[o6 I.ok.frames 9 l r λL j y n=>Fl I (λb u e=>q b u e<|m b) j y trk n v]
def oy:Raises (qj (yw P w) P w K U B N j h f p A g s H E) E:=by
 rw[⟨λY Z X F J x C G I n L=>?_⟩];let q:∀l∈ envOfC j h s⁻¹ f p::g,∀a,l.frame=!a->a∈frs (envOfC j h s⁻¹ f p::g):=λl M a O=>Jv.mpr (l,M,O);let(-tt,r,_,_):=n.there;let m:=W.funFrames_hide I.stack q;rw[Zc (AY (wpAny_leaves_madeW (Q:=λ_ R=>∃i t,Heap.FlyingW (W.hideAll F.heap<|frs<|envOfC j h s⁻¹ f p::g) g x (.ref C) (.ref t) i/\J.UpToSlots i/\R={F with heap:=i}) I.ok.frames 9 (λb o e=>W.of_hideAll _ e) m n λi t v S tn y=>(i,t,v,y,9))
 <|zgF (E:=λ_ _=>True) I.ok.frames (m.of_keeps λb o T _=>(o,n.keeps b o T,9)) 9 r 9 9) ?_ λ_ _ z=>z.1]
 rintro _ _ ⟨⟨i,t,v,y,rfl⟩,dt⟩;rw[Fl I λb u e=>I.base.there b u e<|by show b∉([]:Yj);simp v ((Heap.UpToSlots.of_keeps n.keeps).trans y) (λb o e c=>W.hideAll_get _ e λz=>?_) dt L];obtain c|c:=c
 .rw[c<|I.stkFree b z]
 .rw[c.2 z]
end
def zv(P:Program)(w:World)(K:f')(c:Yd)(a:Heap)(b:Str)(k:5)(e:Yi)(h:Sp):4:=
 ∃f g,FnOk P w K c a (yw P w) k f g e h/\vn K g e []/\W.keepIn K (.ref f)=6/\c b=! .ref f
theorem zv.mono  {K:f'}      (c:zv P w K l e i j n o)(h:j<=k):zv P w K l e i k n o:=by
 let(f p,F,r):=c;rw[(f,p,F.mono h,r)]
def AZ(c:zv X.prog X.w X.K X.mg X.base a k u l)(T:Thrown X E)(m:Room k X.A)(n:Gl X a)(o:PA X (e::g) t)
 (h:(a==010)=7:=by decide)(q:01 (e::g) X.env=%[7|011]::01 g X.env:=by rfl)(i:(backTo j<|01 g X.env).any (·.1)=7:=by rfl):
 PE X (.Call (.Name a p) (e::g) [] j) (DN l [] E t):=by
 let(f v,F,b,r,s):=c;rw[GJ F m n s r b .nil T.passes o h q i]
def Fun.okX  {K:f'}   {n:Stmt}     (F:Fun K x i n f y)(S:FnScope N u (JY n))(len:∀j H Q E,v j H Q E->⇑j=⇑u)
 (l:∀e A c s H j Q E,Room k (A.deeper<|envOfC i (JY n) s⁻¹ f e)->v j H Q E->
  ∃t,xm (qj (yw P w) P w K z o N i (JY n) f e A c s H E) (Ki n) t/\t {nx:=λ_ B=>Q .non B,rt:=Q} (start N j) H):FnOk P w K z o (yw P w) (k+1) f y u v:=by
 let(O,R,kV,G,T,U,e,X,I,rfl,J,p):=F.ex;rw[GP J p S len λA c s H j Q E L r=>l e A c s H j Q E L r]
end L2
namespace L2.DL
def yt(K:f')(b:YC->Res D):Sp:=λc H Q E=>∃F a,jk F H/\jc K F a c/\(b a).need (zu K F H Q) (XW K E F H)
def yY(K:f')(b:YC->Res D):Sp:=λc H Q E=>∃F a,jk F H/\jc K F a c/\(b a).need (yK K F H Q) (XW K E F H)
noncomputable def Res.strict{α:Type}:Res α->Res α
 |.ok a=>.ok a
 |_=>.no
@[simp]def vy (a:α):(Res.ok a).strict=.ok a:=rfl
def jG {r:Res α}  (h:r.strict.need p q):r.need p e:=by
 cases r with
 |ok a=>rw[h]
 |ex c fs=>rw[h.elim]
 |no=>rw[h]
def KC(a:YC->Res D)(b:FA):FE:=λc=>(b c).bind λe=>(a e).strict
@[simp]def bQ(a)(b)(c):KC a b c=(b c).bind λe=>(a e).strict:=rfl
def CM(c:zv X.prog X.w X.K X.mg X.base a k G (yt X.K i))(T:Thrown X E)(l:Room k X.A)(m:Gl X a)(o:QA X E (e::b) s)
 (f:(a==010)=7:=by decide)(t:01 (e::b) X.env=%[7|011]::01 b X.env:=by rfl)(g:(backTo h<|01 b X.env).any (·.1)=7:=by rfl):
 QE X E (.Call (.Name a p) (e::b) [] h) (JB i s):=PE.weak (AZ c T l m o f t g) λZ H Q u=>by
 let(B F v,r,n):=u;rw[jg B F v (r,(Res.need_bind n).mono (λw x y z A j C=>?_) 004)];show yt X.K i (y++[]) A Q E;rw[ZA,];rw[(z,w,j.fh,C,Ck x j)]
def Ab(c:zv X.prog X.w X.K X.mg X.base a k G (yY X.K i))(T:Thrown X E)(l:Room k X.A)(m:Gl X a)(o:QA X E (e::b) s)
 (f:(a==010)=7:=by decide)(t:01 (e::b) X.env=%[7|011]::01 b X.env:=by rfl)(g:(backTo h<|01 b X.env).any (·.1)=7:=by rfl):
 QN X E (.Call (.Name a p) (e::b) [] h) (JB i s):=PE.weak (AZ c T l m o f t g) λZ H Q u=>by
 let(B F v,r,n):=u;rw[jg B F v (r,(Res.need_bind n).mono (λw x y z A j C=>?_) 004)];show yY X.K i (y++[]) A Q E;rw[ZA,];rw[(z,w,j.fh,C,Ey x j)]
def gr(c:wI X.prog X.w X.K X.mg X.base a k G (qJ X.K i))(l:Room k X.A)(m:Gl X a)(o:QA X E (e::b) s)
 (f:(a==010)=7:=by decide)(t:01 (e::b) X.env=%[7|011]::01 b X.env:=by rfl)(g:(backTo h<|01 b X.env).any (·.1)=7:=by rfl):
 QE X E (.Call (.Name a p) (e::b) [] h) (KC i s):=PE.weak (A6 c l m o f t g) λZ H Q u=>by
 let(B F v,r,n):=u;rw[jg B F v (r,(Res.need_bind n).mono (λw x y z A j C=>?_) 004)];show qJ X.K i (y++[]) A Q E0;rw[ZA,];rw[(z,w,j.fh,C,jG<|Ck x j)]
def Ba(c:wI X.prog X.w X.K X.mg X.base a k G (zY X.K i))(l:Room k X.A)(m:Gl X a)(o:QA X E (e::b) s)
 (f:(a==010)=7:=by decide)(t:01 (e::b) X.env=%[7|011]::01 b X.env:=by rfl)(g:(backTo h<|01 b X.env).any (·.1)=7:=by rfl):
 QN X E (.Call (.Name a p) (e::b) [] h) (KC i s):=PE.weak (A6 c l m o f t g) λZ H Q u=>by
 let(B F v,r,n):=u;rw[jg B F v (r,(Res.need_bind n).mono (λw x y z A j C=>?_) 004)];show zY X.K i (y++[]) A Q E0;rw[ZA,];rw[(z,w,j.fh,C,jG<|Ey x j)]
section
variable   {K:f'}        {st:Stmt}
def CN (F:Fun K x c st f m)(S:FnScope N j (JY st))
 (p:∀b A a s H E,Room k (A.deeper<|envOfC c (JY st) s⁻¹ f b)->zZ (qj (yw P w) P w K t e N c (JY st) f b A a s H E) E 7 (Ki st) g):
 FnOk P w K t e (yw P w) (k+1) f m j (yt K<|jJ ⇑N ⇑j g):=by
 rw[F.okX S (λu H Q E=>j4 λF v=>j8 λ_ h n=>?_) λb A a s H u Q E y=>j4 λF v=>j8 λz h n=>(_,p b A a s H E y,?_)]
 .unfold jJ at n
  split at n
  .rw[⇑h,];lia
  .rw[n.elim]
 .unfold jJ at n
  split at n
  .rw[jg (F,H,λ_=>8) F _ (RS.start z h,(Res.need_bind n).mono (λo i=>?_) 004)]
   cases(o)with
   |next l=>rw[λZ B C _ r=>i .non B C r.ext<|jD.mpr 9]
   |ret d=>rw[i]
   |brk l=>rw[i.elim]
   |cont l=>rw[i.elim]
  .rw[n.elim]
def Fn (F:Fun K x c st f m)(S:FnScope N j (JY st))
 (p:∀b A a s H E,Room k (A.deeper<|envOfC c (JY st) s⁻¹ f b)->zZ (qj (yw P w) P w K r e N c (JY st) f b A a s H E) E 6 (Ki st) g):
 FnOk P w K r e (yw P w) (k+1) f m j (yY K<|q9 ⇑N ⇑j g):=by
 rw[F.okX S (λt H Q E=>j4 λF u=>j8 λ_ h n=>?_) λb A a s H t Q E v=>j4 λF u=>j8 λy h n=>(_,p b A a s H E v,?_)]
 .unfold q9 at n
  split at n
  .rw[⇑h,];lia
  .rw[n.elim]
 .unfold q9 at n
  split at n
  .rw[jg (F,H,λ_=>8) F _ (RS.start y h,(Res.need_bind n).mono (λo i=>?_) 004)]
   cases(o)with
   |next l=>rw[i.elim]
   |ret d=>rw[i]
   |brk l=>rw[i.elim]
   |cont l=>rw[i.elim]
  .rw[n.elim]
end
end L2.DL
namespace L2
def oB (h:n<1000000):n.log2<20:=by
 cases z:n=0
 .ext
 .rw[(Nat.log2_lt z).mpr<|Zg h<|008]
section
variable  {x:Str}  {tv:TE}{t:TA}  {k}
def ss(x:Str)(tv:TE):TE:=λZ H Q=>tv Z H λy b=>∃a:3,y=.int a/\a.natAbs<1000000/\Q (.str<|Str.empty++x++Str.ofString (toString a)) b
def pi(A:⇑x<=1000)(f:PE X v tv):PE X (.JoinedStr [.Constant (.str x) k B,.FormattedValue v (-1) 8 C] g) (ss x tv):=by
 intro Y s Z H Q I h;rw[wpAny_JoinedStr ?_];let E:⇑(Str.empty:Str)=0:=9;rw[jL (Gz Y s Z H (λy b=>y=.str x/\b=H) I (9,9)) λu i(y,b,j,l,c,m)=>?_];subst c m;let(n,rfl):=l;rw[jR x n (9,by grind[strLen_append,sizeLine_eq],wpAny_FormattedValue_plain<|jL (f Y i Z b _ j h) λu F(y,o,p,r,a,c,w,q)=>?_)];subst c;let(G,rfl):=r;let z:=oB w;let J:=int_text_length_le 008 z;let e:⇑(Str.empty++x++Str.ofString (toString a))<=00:=by grind[strLen_append,PySem.ofString_length,sizeLine_eq]
 rw[wpAny_formatField_int ()<|jR _ _ (9,e,e,(.str<|Str.empty++x++Str.ofString (toString a),o,p.tok _,(_,9),q))]
structure Exc(K:f')(mg:Yd)(c:Str)(C:Addr):4 where
 ns:W.nsIn K 000 c=! ! .ref C
 mgc:mg c=! .ref C
 exc:W.excIn K C [.type "ValueError",.type "Exception",.type "BaseException",.type "object"] "ValueError.__new__"=6
def dM(m:Ye)(l:List (02 Value))(g:Addr->List Value->02 Value->02 Value->02 Value->02 Value->String->02 Value->Bool):4:=
 ∃C a b c e f n h,m=.ref C::a/\l=[b,c,e,f,! .builtin n,h]/\g C a b c e f n h=6
def iC
 (q:W.excIn.match_1 (λ_ _=>Bool) m l g (λ_ _=>7)=6):dM m l g:=by
 cases m with
 |nil=>rw[JH q]
 |cons v b=>
  cases(v)with
  |ref C=>
   cases l with
   |nil=>rw[JH q]
   |cons c l=>
    cases l with
    |nil=>rw[JH q]
    |cons e l=>
     cases l with
     |nil=>rw[JH q]
     |cons f l=>
      cases l with
      |nil=>rw[JH q]
      |cons h l=>
       cases l with
       |nil=>rw[JH q]
       |cons a l=>
        cases(a)with
        |none=>rw[JH q]
        |some u=>
         cases(u)with
         |builtin n=>
          cases l with
          |nil=>rw[JH q]
          |cons i l=>
           cases l with
           |nil=>rw[wU _ _ _ _ _ _ _ (_,9,9,q)]
           |cons _ _=>rw[JH q]
         |_=>rw[JH q]
  |_=>rw[JH q]
def MC{K:f'}    {P:4}(i:K.In h)(q:W.excIn K C u b=6)
 (k:∀j N v w bs f y sub z c A m o p r s E,h.get? C=! excClassObj v w C N bs j f y sub z c A m o p r s b->h.Ns N E->E "__init__"=8->OwnTail h u j->P):P:=by
 unfold W.excIn at q
 split at q
 .rename_i A I F J;let(X,j,m,o,p,r,n,s,G,L,q):=iC q;simp only[Ud,Yp,Bool.not_eq_true']at q;let(((((M,O),a),Q),e),g):=q;subst M O;let H:=i _ _ J;let(v,bs,R,S,w,T,y,sub,z,c,U):=I;dsimp only at G a e g H;subst G a;let B:F=#[m,o,p,r,! .builtin n,s]:=by
   obtain⟨l⟩:=F;rw[Zt Array.mk L]
  subst B;rw[k j S v w bs T y sub z c A m o p r s _ H (.of_isNs<|W.isNs_of_in i e) (W.nsMap_none_of_in i e g)<|W.tail_of_in i Q]
 .rw[JH q]
def lc(C:Addr)(E:XK)(t:TA):TS:=λ_ Z H=>t Z H λa b=>⇑a<=1000/\E (.ref C) 8 b
def eZ   (R:Raises X E)(g:Exc X.K X.mg c C)(l:X.calm=6)(m:Gl X c)(n:PA X [e] t)(o:(c==010)=7:=by decide)
 (i:01 [e] X.env=%[7|011]::01 [] X.env:=by rfl):PS X (.Raise (! .Call (.Name c G) [e] [] a) 8 p) (lc C E t):=by
 intro Y s Z H D I h;rw[MC I.mod.kin g.exc λJ N nm q bs hdct sn sub ab col dd k0 k1 k2 k3 k5 L r u f T=>wpAny_Raise_call_subU (nm:=nm) (q:=q) (N:=N) (bs:=bs) (hdct:=hdct) (sn:=sn) (sub:=sub) (ab:=ab) (col:=col) (dd:=dd) (k0:=k0) (k1:=k1) (k2:=k2) (k3:=k3) (k5:=k5)
  PySem.F.excBase_ValueError (by rfl) PySem.F.excBase_ValueError (T.hasType PySem.F.excBase_ValueError.hasBase) (I.ok.hd l) (by rw[i,];rfl) f<|YT I m g.mgc (9,?_) o]
 let j:=n a Y s Z H _ I h;rw[i]at j ⊢;rw[Calls.evalArgs_plain<|Zc j (λM v=>j4 λO w=>xb λb z P A=>?_) λ_ _ y=>y];let Q:=⇑z;rw[(9,small (),b.bk _ _ r,u.keeps b.bk,T.keeps b.bk,λB x F=>R.new Y Z w v B x C _ b F A)]
end
end L2
namespace L2.DL
def vK(x:Str):D->YD
 |.int a=>if UQ a.natAbs 999999=6 then !(.str<|Str.empty++x++Str.ofString (toString a))else 8
 |_=>8
def aR  (b:-999999<=a)(c:a<=999999):∃z,vK x (.int a)=! .str z:=(_,Zd<|UB.mpr ())
def CO(c:Str)(f:FE):FS:=λa=>(f a).bind λ_=>.ex c []
@[simp]def bM(c)(f)(a):CO c f a=(f a).bind λ_=>.ex c []:=rfl
section
variable        {k}
def gu(c:⇑x<=1000)(e:QE X E v f):QE X E (.JoinedStr [.Constant (.str x) k t,.FormattedValue v (-1) 8 u] g) (jZ (vK x) f):=
 PE.weak (pi c e) λZ H Q h=>by
  let(B F i,r,n):=h;rw[jg B F i (r,(Res.need_bind n).mono (λd j y l m o p=>?_) 004)];let(z,b,q):=ji j;unfold vK at b
  split at b
  .rename_i a
   split at b
   .rename_i s;obtain rfl:=Zqi b;rw[(a,jd.mp p,by let:=UB.mp s;lia,q _ l m o<|j1.mpr 9)]
   .rw[J7 b]
  ext
def aZ  (R:Raises X E)(ex:Exc X.K X.mg c C)(i:X.calm=6)(j:Gl X c)(l:QE X E e b)(o:(c==010)=7:=by decide)
 (a:01 [e] X.env=%[7|011]::01 [] X.env:=by rfl):QS X E m (.Raise (! .Call (.Name c A) [e] [] g) 8 p) (CO c b):=
 PS.weak (eZ R ex i j (J3 l J5 a) o a) λT Z H s=>by
  let(B F f,r,n):=s;let t:(J2 b jb f).need (λh=>⇑h=1/\XW X.K E B.F0 B.H0 c []) (XW X.K E F H):=by
   unfold CO at n;ext J2 jb
   induction hf:b f with
   |ok d=>rw[hf]at n;rw[(9,n)]
   |ex u fs=>rw[hf]at n;rw[XW.ext (n:XW X.K E B.F0 B.H0 u fs) r.ext]
   |no=>rwa[hf]at n
  rw[jg B F f (r,t.mono (λh v G w x y z=>?_) 004)];let:=⇑z;rw[((),v.2 (.ref C) 8 w x (r.ext.trans y) (C,9,ex.ns,006))]
end
end L2.DL
namespace L2
def lH(X:Cx)(Y:Yb)(Z:St)(E:XK)(e:Value)(a:Shared):4:=
 ∃c h₀ x C B,e=.ref x/\Inv X Y Z c a/\(∀b u,X.s₀.heap.get? b=!u->b∉X.ex->∃f,h₀.get? b=!f)/\(∀p∈X.pn++Y,∃u,h₀.get? p.1=!u)/\FlyAt X.stack h₀ c x C B a.heap/\∃d,DT a.heap x d/\E (.ref C) d c
section
variable   {Z: St}
def oI        (F:FnOk X.prog X.w X.K X.mg X.base (yw X.prog X.w) k f n l o)(q:Room k X.A)(t:vn X.K n l [])
 (I:003)(r:jv m a)(h:o m H Q E):YE X (call (.ref f) a) (EP X Y Z Q) (lH X Y Z E) s:=by
 let v:⇑(a++[])=⇑l:=by rw[ZA,<-⇑r];rw[F.len _ _ _ _ h]
 let c:=t s a I.kIn v;rw[ZA]at c;rw[wpAny_call<|codeAny_mono (F.run X.A X.stack s H (a,[]) a m Q E q I.env0 c r h) λr L g=>?_]
 cases(r)with
 |error e=>
  let(w x C B,y,os,bare,un,i,j,A):=g;subst y;rw[jC w s.heap x C B (9,I.call' os un i bare<|λb z=>Zn z (),λb u e G=>I.base.there b u e G,λp J=>(_,(I.pin p J).1),j,A)]
 |ok j=>
  cases(j)with
  |ret u=>rw[I.after g]
  |next=>rw[False.elim g]
  |brk=>rw[False.elim g]
  |cont=>rw[False.elim g]
def Inv.flown{h₀ G B:Heap} (I:003)(h0:∀b u,X.s₀.heap.get? b=!u->b∉X.ex->∃u',h₀.get? b=!u')(hp:∀p∈X.pn++Y,∃u,h₀.get? p.1=!u)
 (trk:∀b o,↥s b=!o->H b≠8\/(∃u,h₀.get? b=!u)/\b∉frs X.stack->B.get? b=!o)(Q:Heap.FlyingW B X.stack x (.ref C) (.ref t) G)(T:s.heap.UpToSlots G):Inv X Y Z H {s with heap:=G}:=by
 let J:∀b u,X.s₀.heap.get? b=!u->b∉X.fs->b∉frs X.stack:=λb u e f z=>by
  rcases UY.mp (I.stkSub b z)with q|q
  .rw[Zn (Zk e)<|by rw[q,];rw[Nat.not_lt.mpr I.ok.above]]
  .rw[f q]
 let E:∀b o,X.s₀.heap.get? b=!o->b∈X.fs->b∉X.ex->∃R,G.get? b=!{o with slots:=R}:=λb o e f j=>by
  let(R,e1):=I.base.slot b o e (I.ok.frf b f) f j;let(_,S,L,U):=I.ok.funs.mem f;rw[e]at L;obtain rfl:=Zqi L;let(sl',e2):=T b _ e1 U;rw[(sl',e2)]
 let F:∀c v,s.heap.IsCell c v->G.IsCell c v:=λc v zh=>by
  let(o,ho,U):=zh;let(R,e):=T c o ho λvs q=>by ext
  rw[(_,e,U)]
 let(-m,hn,hl):=id I.loc;rw[(I.ok,I.os,I.bare,(λb o e n f j=>?_,λb o e n f j=>E b o e f j,λb o e n j=>I.base.free b o e n j,λb o e j=>?_,I.base.tups,I.base.frzs,I.base.tbls),(m,T.ns hn,λi y v h1 h2 h3=>?_),λy c e=>?_,I.free,I.freeC,λp O=>?_,λb u e=>?_,I.len)]
 .rw[Q.1 b o<|trk b o (I.base.keep b o e n f j)<|.inr (h0 b o e j,J b o e f)]
 .cases f:b∈X.fs
  .let(R,q):=E b o e f j;rw[(_,q)]
  .let(S,e'):=I.base.there b o e j;rw[(S,Q.1 b S<|trk b S e'<|.inr (h0 b o e j,J b o e f))]
 .let(-u,r,l):=hl i y v h1 h2 h3;rw[(u,r,?_)];obtain l|⟨k,c,e,z⟩:=l
  .rw[.inl l]
  .rw[.inr (k,c,e,F c _ z)]
 .let(v,q):=I.cell y c e;rw[(v,F c v q)]
 .let(!q1,q2,q3,q4,q5):=I.pin p O;rw[(Q.1 _ _<|trk _ _ q1<|.inr (hp p O,λz=>?_),q2,q3,q4,q5)];rcases UY.mp (I.stkSub _ z)with q|q
  .rw[q3 q]
  .rw[q4 q]
 .rw[(I.hok b u e).stay (λc v hc q=>Q.1 c v<|trk c v q<|.inl ?_) (λ_ q=>q) 004]
  grind
noncomputable abbrev Cx.inSuite(X:Cx)(x:Addr):Cx:={X with A:=X.A.mark ! .ref x,calm:=7,xe:=λ_ _=>False}
def Inv.suite(I:003)(x:Addr):Inv (X.inSuite x) Y Z H s:=
 ((I.ok.mod,I.ok.kind,I.ok.glob,I.ok.blt,I.ok.above,I.ok.inj,I.ok.has,I.ok.cab,(),I.ok.frames,I.ok.stk,I.ok.exf,I.ok.bs,I.ok.bsz,I.ok.noex,I.ok.exfs,I.ok.funs,I.ok.frf),I.os,I.bare,I.base,I.loc,I.cell,I.free,I.freeC,I.pin,I.hok,I.len)
def Inv.unsuite (I:Inv (X.inSuite x) Y Z H s)(ok:X.Ok):003:=(ok,I.os,I.bare,I.base,I.loc,I.cell,I.free,I.freeC,I.pin,I.hok,I.len)
theorem SP.unsuite    (h:SP (X.inSuite x) Y D f i)(ok:X.Ok):SP X Y D f i:=by
 cases(f)with
 |next=>let(c,e,I,q):=h;rw[(c,e,I.unsuite ok,q)]
 |brk=>let(c,e,I,q):=h;rw[(c,e,I.unsuite ok,q)]
 |cont=>let(c,e,I,q):=h;rw[(c,e,I.unsuite ok,q)]
 |ret u=>let(v c e,I,r,q):=h;rw[jg v c e (I.unsuite ok,r,q)]
def kE(i:5)(C:Addr)(b:Sp)(t:TA)(c:TS):TS:=λD Z H=>t Z H λe f=>b e f (λv a=>D.nx (Z.set i<|!v) a)<|λg _ a=>g=.ref C/\c D Z a
def pW             (j:X.stack=X.env::X.outer)(L:X.env.frame=!X.env.locals)
 (hN:X.N.Nodup)(hi:X.N[i]?=!y)(hx:zP X.env.scope y)(cc:zv X.prog X.w X.K X.mg X.base a k ps sp)(hr:Room k X.A)(hg:Gl X a)(ha:PA X.nox (e::n) t)(ex:Exc X.K X.mg c C)(M:Gl X c)(hs:∀x,xm (X.inSuite x) (b₀::suite) ts)
 (O:(a==010)=7:=by decide)(he:01 (e::n) X.env=%[7|011]::01 n X.env:=by rfl)(P:(backTo g<|01 n X.env).any (·.1)=7:=by rfl)(hd:(c==010)=7:=by decide)
 (Q:swapsWith (.Call (.Name a p) (e::n) [] g) (! .Name y py) o.line X.env=pure 7:=by rfl)(hf:X.fn y=6\/X.env.scope.names.lookup y=!.local:=by trivial):
 PS X (.Try [.Assign [.Name y py] (.Call (.Name a p) (e::n) [] g) o] [.ExceptHandler (! .Name c np) 8 (b₀::suite) hpos] [] [] pos) (kE i C sp t ts):=by
 intro Y s Z H D I h;rw[Za<|wpAny_standAt<|wpAny_tryStmt_except<|wpAny_execs_cons<|wpAny_Assign_Name (Zc (by
  let(f fd,F,b,hk,hm):=cc;rw[wpAny_Call_Name_kw<|YT I hg hm (W.callWith_K I.ok.mod.kin hk (Zc (ha g Y s Z H _ (I.wish _) h) (λus s1=>j4 λvs H1=>j8 λJ r q=>(J.kIn,oI F hr b J.unwish r q)) λ_ _ z=>z.elim) he P) O]) (λv s1 q=>?_) λe s1 l=>by
  let(H' h₀ x C' B,rfl,I,h0,hp,((t,R),trk),(_,_,S,U)):=l;cases S;let m:=R;rw[j]at m;rw[wpAny_looks_onW (I.ok.frames.trans<|by rw[j,]) L m λh₄ held₄ up₄=>wpAny_landsW held₄ λh₅ fl₅ up₅=>?_];let A:=fl₅;rw[<-j]at A;let E:=up₄.trans up₅;let I5:=I.flown h0 hp trk A E;rw[wpAny_handleBy_cons (codeAny_handlers_test<|YT (I5.suite x) M ex.mgc (MC I5.kIn ex.exc λtl N nm q bs hdct sn sub ab col dd k0 k1 k2 k3 k5 mN hC hN hni T=>?_) hd) (by intro q;cases q)];let(ob,hob,G):=fl₅.there;rw[wpAny_excMatches_sub_self hC hob G (T.hasType PySem.F.excBase_ValueError.hasBase)<|codeAny_handlers_suite<|lands_againW fl₅ λh₆ fl₆ up₆=>?_];rw[<-j]at fl₆;rw[Zc (hs x Y _ Z H' D ((I.flown h0 hp trk fl₆<|E.trans up₆).suite x) U) (λf s2 q=>q.unsuite I.ok) λ_ _ z=>z.elim]) Q]
 let(z H1,J,r1,q1):=q;rw[BF J hN hi hx r1 (λs2 I2=>wpAny_execs_nil<|wpAny_execs_nil (_,H1,I2,q1)) hf]
end
end L2
namespace L2.DL
def wL(i:5)(c:Str)(b:FS)(a:SD):Res D->Res Out
 |.ok d=>.ok (.next<|a.set i<|~~~d)
 |.ex c' []=>@ite _ (c'=c) (Classical.propDecidable _) (b a).strict .no
 |_=>.no
@[simp]def mP(i)(c)(b)(a)(d):wL i c b a (.ok d)=.ok (.next<|a.set i<|~~~d):=rfl
@[simp]def aK(i)(c)(a)(b):wL i c a b (.ex c [])=(a b).strict:=@if_pos _ (Classical.propDecidable _) 9 _ _ _
def wN(i:5)(c:Str)(b:YC->Res D)(e:FA)(f:FS):FS:=λa=>(e a).strict.bind λg=>wL i c f a<|b g
@[simp]def tX(i)(c)(b)(e)(f)(a):wN i c b e f a=(e a).strict.bind λg=>wL i c f a<|b g:=rfl
section
variable {X:Cx}
def pU      (ex:Exc X.K X.mg c C)   (h:ke X.K E m (wN i c j u l) T Z H):
 kE i C (yt X.K j) (cb X.K E0 u) (ke X.K E0 m l) T Z H:=by
 let(B F b,r,n):=h;rw[jg B F b (r,?_)];unfold wN at n
 induction hf:u b with
 |ex p fs=>rw[hf]at n;rw[n.elim]
 |no=>rwa[hf]at n
 |ok s=>
  rw[hf]at n;let n:(wL i c l b<|j s).need (zE X.K m B F T) (XW X.K E B.F0 B.H0):=n;intro J z L e A;rw[jR z s (e.fh,A,?_)]
  induction hq:j s with
  |ok d=>
   rw[hq]at n;rw[λv t w f G=>n _ t w (e.ff.trans f.ff)<|((r.step e).step f).setVal G]
  |no=>rwa[hq]at n
  |ex p fs=>
   rw[hq]at n
   cases(fs)with
   |cons d r=>rw[n.elim]
   |nil=>
    cases x:p=c
    .subst x;rw[aK]at n;intro M a t w f g;let(N,I,y,_):=g;rw[ex.ns]at y;cases y;rw[(I,B,t,b,(r.step e).step f,(jG n).mono (λo(q:zE X.K m B F T o)=>q.mono<|e.ff.trans f.ff) 004)]
    .let n:(@ite _ (p=c) (Classical.propDecidable _) (l b).strict Res.no).need (zE X.K m B F T) (XW X.K E B.F0 B.H0):=n;rw[@if_neg _ (Classical.propDecidable _) x]at n;rw[n.elim]
def yY.d{K:f'}     (h:yt K c e H Q E):yY K c e H Q E:=by
 let(F f,i,j,n):=h;rw[(F,f,i,j,n.mono (λ_ q=>q.new) 004)]
theorem zv.d  {K:f'}      (c:zv P w K j e i k l (yY K n)):zv P w K j e i k l (yt K n):=by
 let(f o,F,r):=c;rw[jR f o (F.imp λ_ _ _ _ h=>yY.d h,r)]
def pA             (l:X.stack=X.env::X.outer)(n:X.env.frame=!X.env.locals)
 (v:X.N.Nodup)(w:X.N[i]?=!y)(z:zP X.env.scope y)(A:zv X.prog X.w X.K X.mg X.base a k S (yt X.K B))(F:Room k X.A)(G:Gl X a)(I:QA X.nox E0 (e::g) J)(t:Exc X.K X.mg c C)(o:Gl X c)(L:∀x,zZ (X.inSuite x) E0 m (b₀::suite) M)
 (q:(a==010)=7:=by decide)(N:01 (e::g) X.env=%[7|011]::01 g X.env:=by rfl)(r:(backTo f<|01 g X.env).any (·.1)=7:=by rfl)(O:(c==010)=7:=by decide)
 (s:swapsWith (.Call (.Name a p) (e::g) [] f) (! .Name y P) j.line X.env=pure 7:=by rfl)(Q:X.fn y=6\/X.env.scope.names.lookup y=!.local:=by trivial):
 QS X E m (.Try [.Assign [.Name y P] (.Call (.Name a p) (e::g) [] f) j] [.ExceptHandler (! .Name c U) 8 (b₀::suite) u] [] [] R) (wN i c B J M):=
 PS.weak (pW l n v w z A F G I t o L q N r O s Q) λT Z H h=>pU t h
end
end L2.DL
namespace L2
def Fo  {K:f'}            :
 PassesOwn (model (qj (yw P w) P w K h c N g b f i A a s H E).prog (qj (yw P w) P w K h c N g b f i A a s H E).w) (qj (yw P w) P w K h c N g b f i A a s H E).A (qj (yw P w) P w K h c N g b f i A a s H E).env (qj (yw P w) P w K h c N g b f i A a s H E).xe:=
 PassesOwn.leaving (Q₁:=λe j=>yw P w a H s E e j)
end L2
namespace L2.DL
def zm(H:Hp)(l:Addr):Hp:=λa=>if a=l then 8 else H a
def lI  (h:a≠l):zm H l a=H a:=by simp_all[zm]
def ME {b:FS}  (R:Res Out->4)(P:5->SD->4)(t:P 0 a)(u:∀a,P ⇑g a->R (.ok<|.next a))
 (o:∀(i:5)(x:D)(a:SD),g[i]?=!x->P i a->(∃f,(JQ j x a).bind b=.ok (.next f)/\P (i+1) f)\/∃c l,(JQ j x a).bind b=.ex c l/\R (.ex c l)):R (xg j b g a):=by
 let q:∀(k i:5)(a:SD),⇑g-i=k->i<=⇑g->P i a->R (xg j b (g.drop i) a):=by
  intro k
  cases(k)with
  |zero=>
   intro i a e r p;let:i=⇑g:=()
   ext
  |succ k s=>
   intro i a e r p;let h:i<⇑g:=()
   rw[Uo h,];ext xg zj;obtain⟨f,m,n⟩|⟨c,l,m,n⟩:=o i g[i] a () p
   .rw[m,];rw[s (i+1) f () h n]
   .rwa[m,]
 grind
noncomputable def Fp:D->D->YD
 |.lst a,.lst b=>if ⇑a+⇑b<=00 then !(.lst<|a++b)else 8
 |_,_=>8
def lj:uR X (binaryOp .Add) Fp:=yu.weak IF λx y H Q j=>by
 let(F d e z,f,id,m,c,q):=j;cases d with
 |lst a=>
  cases e with
  |lst b=>
   let c:(if ⇑a+⇑b<=00 then !(D.lst<|a++b)else 8)=!z:=c
   split at c
   .obtain rfl:=Zqi c;let(l n,rfl,o,h):=id;let(r s,rfl,t,i):=m;let u:=⇑h;let v:=⇑i;rw[jW l r n s (9,9,o.same f,t.same f,(),λp g=>q p F _ (.keep f g _) g (Qe f g) (_,JO,h.append i))]
   ext
  |_=>rw[J7 c]
 |_=>rw[J7 c]
@[simp]def zx0(a b:YC):Fp (.lst a) (.lst b)=if ⇑a+⇑b<=00 then !(.lst<|a++b)else 8:=rfl
end L2.DL
namespace L2
def uu(K:f')(x:Str)(a:Stmt):4:=∃f b,W.nsIn K 000 x=! ! .ref f/\Fun K x x a f b
def uu.callee  {K:f'}   {c:Stmt}   (X:K.In h)(G:h.Ns 000 p)(d:uu K x c)
 (ok:∀{f:Addr}{i:FuncData},Fun K x x c f i->FnOk P w K p e yL k f i j r)
 (s:∀(kV l u:Value)(v:02 Addr)(n y:Value)(o:Ye),⇑o=⇑j->bindArgs (W.fnOf x x (XS c) (Ki c) (JY c) .none kV l u v n y) (o,[])=pure (j.zip o)):wI P w K p e x k j r:=by
 let(f i,a,F):=d;rw[(f,i,ok F,F.binds s,F.kp,W.mg_of X G a)]
def uu.calleeX  {K:f'}   {c:Stmt}   (X:K.In h)(G:h.Ns 000 p)(d:uu K x c)
 (ok:∀{f:Addr}{i:FuncData},Fun K x x c f i->FnOk P w K p e (yw P w) k f i j r)
 (s:∀(kV l u:Value)(v:02 Addr)(n y:Value)(o:Ye),⇑o=⇑j->bindArgs (W.fnOf x x (XS c) (Ki c) (JY c) .none kV l u v n y) (o,[])=pure (j.zip o)):zv P w K p e x k j r:=by
 let(f i,a,F):=d;rw[jR f i (ok F,F.binds s,F.kp,W.mg_of X G a)]
end L2
namespace L2.DL
def MF   (b:W.nsIn X.K 000 c=! ! .ref C)(a:X.mg c=! .ref C)(e:Gl X c)(f:(c==010)=7:=by decide):QE X E (.Name c g) (dC<|.ucl c):=
 ZH (v:=.ref C) (λY s Z H Q I h=>YT I e a (.ref C,H,I,9,h) f) λF=>xC.mpr (C,9,b)
structure ClsD(K:f')(mg:Yd)(c:Str)(C:Addr)(fs:Yi):4 where
 ns:W.nsIn K 000 c=! ! .ref C
 mgc:mg c=! .ref C
 cls:Cls K C
 no:∀f∈fs,uv K C f
noncomputable def wZ(f:Str):Yi->YC->YD
 |g::a,d::b=>if g=f then !d else wZ f a b
 |_,_=>8
theorem MG{K:f'}  :∀{fs:Yi}{b:YC}{a:YB}{d:D},jc K H b a->⇑fs=⇑a->wZ f fs b=!d->∃x,(fs.zip a).lookup f=!x/\jf K H d x
 |[],b,a,d,_,_,h=>J7 h
 |g::c,[],a,d,i,l,h=>by
  simp_all[jc.nil_iff]
 |g::c,e::b,a,d,i,l,h=>by
  let(x r,rfl,m,j):=jl.mp i;unfold wZ at h;rw[VC,];cases q:g=f
  .ext
  .rw[Ze q]at h;let(-y,n,o):=MG j (by simpa using l) h
   grind
def qw(c f:Str):D->YD
 |.ins c' fs ds=>if c'=c then wZ f fs ds else 8
 |_=>8
def W5   (k:ClsD X.K X.mg c C fs)(m:f∈fs)(o:QE X E e p)(s:attributeBase e f X.env 011=011:=by rfl):QE X E (.Attribute e f t) (jZ (qw c f) p):=PE.weak (PJ o s) λZ H Q u=>by
 let(B F w,r,n):=u;rw[jg B F w (r,(Res.need_bind n).mono (λd y v A G b I=>?_) 004)];let(-z,g,q):=ji y;cases d with
 |ins h J L=>
  let i:(if h=c then wZ f J L else 8)=!z:=g;cases j:h=c
  .rw[Zd j]at i;subst j;let(a T M U,rfl,l,N,O,P):=jM.mp I;rw[k.ns]at l;cases l;let(-x,R,S):=MG P O i;rw[jC a C M _ x (9,b.fh _ _ N,k.cls,k.no f m,R,q _ A G b S)]
  ext
 |_=>rw[J7 g]
theorem MI(f)(v):∀fs:List (Str×V),f∉fs.map (·.1)->x8 f v fs=fs++[%[f|v]]
 |[],_=>9
 |%[g|x]::r,h=>by
  rw[Zl,UY,not_or]at h;show(if g=f then%[g|v]::r else%[g|x]::x8 f v r)=_;rw[Ze λz=>h.1 z.symm,MI f v r h.2];rfl
def tI(K:f')(c:Str)(names:Yi)(g:FA):TS:=λT Z H=>∃B F e x C l fs f b,RS K B F H e Z/\(∀(i:5)(p:Bool)(d:D),e[i]? ≠ ! ! SV.own p d)/\Z[0]?=! ! .ref x/\B.H0 x=8/\F x=8/\W.nsIn K 000 c=! ! .ref C/\H x=!(.ins C l<|fs.zip f)/\⇑fs=⇑f/\(fs++names).Nodup/\⇑(fs++names)<900/\jc K F b f/\
 (g e).need (λm=>∀h j a,Ext B.F0 B.H0 h j->h x=8->j x=!(.ins C l<|(fs++names).zip a)->⇑(fs++names)=⇑a->jc K h (b++m) a->T.nx Z j) (XW K E0 B.F0 B.H0)
def MJ:xm X [] (tI X.K c [] jb):=xm.weak Aw λT Z H g=>by
 let(B,F,p,x,C,h,fs,i,b,r,no,q,s,j,t,l,m,u,v,o,n):=g;let n:∀e f a,Ext B.F0 B.H0 e f->e x=8->f x=!(.ins C h<|(fs++[]).zip a)->⇑(fs++[])=⇑a->jc X.K e (b++[]) a->T.nx Z f:=n;simp at n;rw[n F H i r.ext j l m o]
def CP(k:ClsD X.K X.mg c C fs)(M:f∈fs)(N:PE X o (yH 0))(O:QE X E0 e P)(Q:xm X R (tI X.K c names g))(S:swapsWith e (! .Attribute o f i) p.line X.env=pure 7:=by rfl):
 xm X (.Assign [.Attribute o f i] e p::R) (tI X.K c (f::names)<|J2 P g):=xm.weak (YU (PK N O S) Q) λT Z H U=>by
 let(B,F,z,x,s,A,b,j,t,r,no,E,G,Y,u,I,J,hn,hm,hi,n):=U;rw[jg B F z (r,(Res.need_bind n).mono (λd n1 v L H1 m i1=>?_) λ_ _ q=>q.ext r.ext)];let c1:s=C:=by
  rw[k.ns]at u;cases u;rfl
 subst c1;let w:=m.hh _ _ I;let l:L x=8:=m.new x Y (by rw[I,];simp);let lz:(b.zip j).map (·.1)=b:=by rw[List.map_fst_zip (),]
 let hfn:f∉b:=by grind
 let ll:⇑(b.zip j)<1000:=by
  grind
 rw[(.ref x,E,x,s,A,_,9,w,k.cls,k.no f M,ll,?_)];rw[MI f v _ (by rwa[lz,]),];let ez:b.zip j++[%[f|v]]=(b++[f]).zip (j++[v]):=by rw[List.zip_append J,];rfl
 rw[ez,];let h:=r.step m;rw[wU B L z x s A (b++[f]) (j++[v],t++[d],((h.ext.ff,λa o e=>?_,λa o e=>?_,h.ext.new),h.len,h.val,(),()),no,E,G,l,u,JO,by simp[J],by simpa using hn,by simpa using hm,jc.snoc (jc.same m.ff _ _ hi) i1,(Res.need_bind n1).mono (λds n2 F2 H2 y e2 f2 q1 q2 q3=>?_) 004)]
 .rw[JI (K5 e l),];rw[h.ext.fh _ _ e]
 .rw[JI (K5 e G),];rw[h.ext.hh _ _ e]
 .rw[n2 F2 H2 y e2 f2 (by simpa using q1) (by simpa using q2)<|by simpa using q3]
def cP(K:f')(c:Str)(names:Yi)(i:YC->Res YC):Sp:=λj H Q _=>∃F f x C g h,jk F H/\j=.ref x::h/\jc K F f h/\F x=8/\W.nsIn K 000 c=! ! .ref C/\H x=! .ins C g []/\
 (i f).need (λl=>∀a b e,Ext F (zm H x) a b->a x=8->b x=!(.ins C g<|names.zip e)->⇑names=⇑e->jc K a l e->Q .non b) (XW K E0 F<|zm H x)
def zH(n ar:5)(g:FA)(a:YC):Res YC:=if ⇑a+1=ar then g (8::Qt (n-1) a)else .no
def wq{K:f'}     (s:jk F H)(h:jc K F c j):
 RS K (F,zm H x,λ_=>8) F H (8::Qt ⇑N c) (some (.ref x)::L2.start N j)/\∀(i:5)p d,(8::Qt ⇑N c:SD)[i]? ≠ ! ! SV.own p d:=by
 let f:=RS.start (N:=N) s h;let no:∀(i:5)p d,(8::Qt ⇑N c:SD)[i]? ≠ ! ! SV.own p d:=λi p d q=>by
  cases(i)with
  |zero=>cases q
  |succ i=>
   let(-l,_,r,_,n,_):=f.own q;let(o,u):=n.has
   ext
 rw[(((.refl _,s,λa o e=>by
  simp_all[zm],λ_ e _=>e),by simp[f.len],λ{i d}q=>?_,λq=>Zn q<|no _ _ _,λ_ q _ _=>Zn q<|no _ _ _),no)]
 cases(i)with
 |zero=>cases q
 |succ i=>rw[f.val q]
section
variable   {K:f'}    {st:Stmt}
def bd   (F:Fun K x j st f q)(S:FnScope (y::N) o (JY st))(t:names.Nodup)(u:⇑names<900)
 (v:∀b A a s H E,Room k (A.deeper<|envOfC j (JY st) s⁻¹ f b)->xm (qj yL P w K z l (y::N) j (JY st) f b A a s H E).nox (Ki st) (tI K c names g)):
 FnOk P w K z l yL (k+1) f q o (cP K c names<|zH ⇑(y::N) ⇑o g):=by
 rw[F.ok S (λB H Q E=>uK λF G x C p m=>vF λ_ e i _ _ _ n=>?_) λb A a s H B Q E I=>uK λF G x C p m=>vF λJ e i L M O n=>(_,v b A a s H E I,?_)]
 .unfold zH at n
  split at n
  .rename_i h;rw[e,<-h,Zu,⇑i]
  .rw[n.elim]
 .subst e;unfold zH at n
  split at n
  .let R:L2.start (y::N) (.ref x::m)=some (.ref x)::L2.start N m:=by
    ext L2.start;simp
   rw[R,];let(r,no):=wq J i;rw[wU _ F _ x C p [] ([],[],r,no,9,by simp_all[zm],L,M,O,9,t,u,.nil,n)]
  .rw[n.elim]
end
def dG(P:Program)(w:World)(K:f')(b:Yd)(a:Heap)(c:Str)(names:Yi)(k:5)(e:Yi)(h:YC->Res YC):4:=
 ∃C f g,ClsD K b c C names/\Mk K C f/\FnOk P w K b a yL k f g e (cP K c names h)/\vn K g e []
def Bb(c:Str)(names:Yi)(a:YC->Res YC)(b:FA):FE:=λe=>(b e).bind λf=>(a f).bind λg=>.ok<|.ins c names g
def MK         (M:dG X.prog X.w X.K X.mg X.base c names k ps P)(R:Room (k+1) X.A)(S:Gl X c)(T:QA X E0 (e::m) U)
 (w:(c==010)=7:=by decide)(he:01 (e::m) X.env=%[7|011]::01 m X.env:=by rfl)(y:(backTo t<|01 m X.env).any (·.1)=7:=by rfl):
 QN X E0 (.Call (.Name c p) (e::m) [] t) (Bb c names P U):=by
 let(C f fd,z,mk,F,b):=M;rw[PE.weak (λY s Z H Q I h=>wpAny_Call_Name_kw<|YT I S z.mgc (W.callWith_K I.ok.mod.kin mk.kp (jL (T t Y s Z H _ I h) λus A=>j4 λL u=>j8 λN r q=>(N.kIn,PU mk F R b .nil Hg N r q)) he y) w) λZ H Q=>qf λB F sd=>j5 λr n=>jg B F sd (r,(Res.need_bind n).mono (λds n1 L v u i i1 x g j j7 ne=>?_) 004)];let E:v x=8:=by
  induction q:v x with
  |none=>rfl
  |some o=>rw[i.fh _ _ q]at j;cases j
 let J:H x=8:=by
  induction q:H x with
  |none=>rfl
  |some o=>rw[i.hh _ _ q]at j;cases j
 let A:∀{G:Hp},jk G u->jk G (zm (upd (upd u g<|.own x) x<|.ins C g []) x):=λ{G}s a o q=>by
  let l:=s _ _ q
  rwa[lI (K5 l j),JI (K5 l j),JI (K5 l j7)]
 let s2:jk v (upd (upd u g<|.own x) x<|.ins C g []):=λa o q=>by
  let l:=i.fh _ _ q
  rwa[JI (K5 l j),JI (K5 l j7)]
 let O:Ext F H v (zm (upd (upd u g<|.own x) x<|.ins C g []) x):=(i.ff,A i.fh,A i.hh,i.new);rw[ZA,];rw[wV v ds x C g L (s2,9,i1,E,z.ns,JO,(Res.need_bind n1).mono (λm n3 F2 H2 xs e2 f2 h2 l2 i2=>(9,n3 x F2 H2 (O.trans e2) J f2<|jg C g xs (z.ns,h2,l2,i2))) λ_ _ q=>q.ext O)]
def ML(K:f')(c a:Str)(fs:Yi)(g:Stmt):4:=∃C e b,W.nsIn K 000 c=! ! .ref C/\Cls K C/\(∀f∈fs,uv K C f)/\Mk K C e/\Fun K "__init__" a g e b
def bj:D->Bool
 |.tup a=>a.all Um
 |d=>Um d
def MM:D->Bool
 |.lst a=>a.all bj
 |_=>7
def bY(a:Yh)(f:FE):FE:=λb=>(f<|qp a b).bare.bind λd=>if MM d then .ok d else .no
end L2.DL
namespace L2
open PySem
def JP  (a:h.kind=.function:=by rfl)(b:h.isCoroutine=7:=by rfl)(c:h.isGenerator=7:=by rfl)(d:N.Nodup:=by decide+kernel)(e:N.take ⇑P=P:=by rfl)
 (f:∀x∈P,h.names.lookup x=!.local\/h.names.lookup x=!.cell:=by decide+kernel)(g:∀y∈h.names,y.2 ≠ .free:=by decide+kernel):FnScope N P h:=(a,b,c,d,e,f,g)
def xV   (i:5)(a:X.N.Nodup)(b:X.N[i]?=!x:=by rfl)(c:zP X.env.scope x:=by trivial)(e:X.fn x=6\/X.env.scope.names.lookup x=!.local:=by trivial):PG X (.Name x f) (WP i):=Qk a b c e
section
variable {p:Ye->Prop}
def dU(h:∀a,p [a]):∀b:Ye,⇑b=1->p b:=λb e=>by
 let(a,rfl):=List.length_eq_one_iff.mp e;rw[h a]
def rW(h:∀a b,p [a,b]):∀c:Ye,⇑c=2->p c:=λc e=>by
 cases c with
 |nil=>ext
 |cons a c=>rw[dU (p:=λc=>p<|a::c) (λb=>h a b) c<|UN e]
def dS(h:∀a b c,p [a,b,c]):∀f:Ye,⇑f=03->p f:=λf e=>by
 cases f with
 |nil=>ext
 |cons a f=>rw[rW (p:=λf=>p<|a::f) (λb c=>h a b c) f<|UN e]
def rV(h:∀a b c d,p [a,b,c,d]):∀f:Ye,⇑f=04->p f:=λf e=>by
 cases(f)with
 |nil=>ext
 |cons a f=>rw[dS (p:=λf=>p<|a::f) () f<|UN e]
def dR(h:∀a b c d e,p [a,b,c,d,e]):∀f:Ye,⇑f=05->p f:=λf e=>by
 cases(f)with
 |nil=>ext
 |cons a f=>rw[rV (p:=λf=>p<|a::f) () f<|UN e]
def us6(h:∀a b c d e f,p [a,b,c,d,e,f]):∀g:Ye,⇑g=06->p g:=λg e=>by
 cases g with
 |nil=>rw[Zn e<|008]
 |cons a g=>rw[dR (p:=λg=>p<|a::g) (λb c d e f=>h a b c d e f) g<|UN e]
end
end L2
namespace L2.DL
end L2.DL
namespace L2
def oU   (B:c.StaysIn s.heap)(C:s.heap.FunFrames c l)(F:s.heap.TracedAtW c e p G S)
 (h:∀g T,c.get? T=8->(∀b,b≠T->g.get? b=↥s b)->(∃o r,↥s T=!o/\o.data=.fields r)->c.StaysIn g->g.FunFrames c l->(∃t,g.TracedAtW c e p G t)->Q Yq {s with heap:=g}):wpAny M A (setFlight (.ref e) f) Q E s:=by
 let(H,r,T,I,J,v,L,w,x,u,y,j,i,N):=F;let O:=(Jo.mp N).1;let m:∀b,b≠T->(s.heap.update T<|Obj.mapFields (·.setIfInBounds 03<|f.elim Value.none λa=>rawInt a)).get? b=↥s b:=λb n=>Heap.get?_update_other _ _ n.symm;let P:∀b o,↥s b=!o->(∀R,o.data ≠ .fields R)->b≠T:=λb o q n z=>by
  subst z;rw[j]at q;cases q;rw[n _ i]
 ext setFlight;rw[Za<|wpAny_field v w x ?_];rw[Zd (),];rw[wpAny_setField j i O<|h _ T u m (I,J,j,i) (λb o q=>(m b λz=>by rw[z,u]at q;cases q).trans<|B b o q) (C.of_keeps λb o q n=>(o,(m b<|P b o q n).trans q,9))<|wV (f.elim Value.none λa=>rawInt a) H r T _ _ ((m e y.symm).trans v,L,w,x,u,y,Heap.get?_update_self _ j<|Obj.isFreed_of_fields<|Obj.data_mapFields i _,Obj.data_mapFields i _,?_)]
 ext
def o7    (i:A.frames=! g::f)(j:g.frame=!L)(r:a.StaysIn s.heap)(l:a.get? e=8)(t:s.heap.FunFrames a (g::f))(m:s.heap.TracedAtW a e p C F)
 (u:∀h,Heap.FlyingW a f e p C h->s.heap.UpToSlots h->Q Yq {s with heap:=h}):wpAny M A (leaving g<|.ref e) Q E s:=by
 cases c:F=rawInt L
 .subst c;rw[Za<|wpAny_noteFrame_againW j m<|wpAny_setFlight_noneW r t m λh G H I J=>u h (G,l,H.2.2,I) λb o q n=>(o.slots,J b o q n)]
 .let(oe,vs,T,oT,ts,N,(O,P),v,R,g5,g6,w,x,y):=m;subst O;let S:=(Jo.mp y).1;let B:∀b,b≠T->(s.heap.update T<|Obj.mapFields (·.setIfInBounds 03 Value.none)).get? b=↥s b:=λb n=>Heap.get?_update_other _ _ n.symm;let U:∀b o,↥s b=!o->(∀X,o.data ≠ .fields X)->b≠T:=by grind
  ext leaving noteFrame;simp only[j];rw[Za<|Za<|wpAny_field N v R<|Za<|wpAny_field w x y ?_];rw[Ze λz=>c<|Yp.mp z,];rw[Za<|wpAny_setField w x S<|wpAny_newEntryW i (t.of_keeps ()) j () (λb o q=>(B b λz=>()).trans<|r b o q) l v () P λh=>xb λY Z x3 x4=>u h (Y,l,Z.2.2,x3) λb o q n=>x4 b o ((B b<|U b o q n).trans q) n]
structure FlyAny(l:List Env)(h₀:Heap)(H:Hp)(x C:Addr)(B h:Heap):4 where
 st:B.StaysIn h
 no:B.get? x=8
 fr:h.FunFrames B l
 tr:∃t fl,h.TracedAtW B x (.ref C) (.ref t) fl
 trk:∀b o,h.get? b=!o->H b≠8\/(∃u,h₀.get? b=!u)/\b∉frs l->B.get? b=!o
structure ThrownA(X:Cx)(E:XK):4 where
 on:∀(Y:Yb)(Z:St)(H:Hp)(s:Shared)(x C:Addr)(B:Heap)(d:02 Addr),003->FlyAny X.stack X.s₀.heap H x C B s.heap->DT s.heap x d->E (.ref C) d H->X.xe (.ref x) s
def oZ  {K:f'}            :ThrownA (qj (yw P w) P w K y l N n i f F A a s H E) E:=by
 rw[⟨λY Z G o x C B d I g p q=>?_⟩];let(t m,r):=g.tr;rw[Zc (AY (o7 (Q:=λ_ v=>∃h,Heap.FlyingW B a x (.ref C) (.ref t) h/\o.heap.UpToSlots h/\v={o with heap:=h}) I.ok.frames 9 g.st g.no g.fr r λh c j=>(h,c,j,9))<|MB (E:=λ_ _=>True) I.ok.frames g.fr 9 p) ?_ λ_ _ z=>z.1];rintro _ _ ⟨⟨h,c,j,rfl⟩,dt'⟩;rw[Fl I (λb u e=>(u,e)) c j g.trk dt' q]
theorem MN{h a B c:Heap}(e:∀b,B.get? b=8->c.get? b=8):∀{l:List Env},(∀b∈frs l,a.get? b=h.get? b)->h.FunFrames B l->a.FunFrames c l
 |[],_,_=>trivial
 |env::rest,k,(g,(L,o,f,g3,g4,g5),r)=>by
  let i:L∈frs (env::rest):=by
   ext frs;rw[U4,f];rw[Zqs]
  rw[(g,(L,o,f,e L g3,(k L i).trans g4,g5),MN e (λb j=>k b ?_) r)]
  simp_all[frs]
def oP         (J:X.stack=X.env::X.outer)(hfr:X.env.frame=!X.env.locals)(hex:X.ex=[])(T:ThrownA X E)(at_:XT X C s H ex):Thrown (JS X p N cl C s H ex) E:=by
 let(L Z0,I0,f0,hC):=at_;rw[⟨λY Z H' s' h₀ x D B d I h0 fl dt hE=>?_⟩];let((t,fly),trk):=fl;let fly':Heap.FlyingW B (X.env::X.outer) x (.ref D) (.ref t) s'.heap:=by rw[<-J];rw[fly]
 let note:noteFrame (.ref x) (compEnvC p cl C X.env)=noteFrame (.ref x) X.env:=9;show YE X (noteFrame (.ref x)<|compEnvC p cl C X.env) (λ_ s''=>A4 X C (.ref x) s'') (A4 X C) s';rw[note,];rw[iU (I0.ok.frames.trans<|by rw[J,]) hfr fly' dt λh1 held up1 dt1=>?_];let(-m,hm,_):=id I.loc;let hm1:h1.Ns C m:=up1.ns hm;rw[(m,hm1,λr f cenv _=>?_)];let(!hc1,hc2,hc3,hc4):=held;let(oC es ep,hoC,hdC,_):=id hm1;let nC:∀b o ws,h1.get? b=!o->o.data=.fields ws->b≠C:=by grind
 let i:∀b o,↥s b=!o->b≠C:=λb o q=>Zi<|Zg (Zk q) hC;let frC:∀b∈frs X.stack,b≠C:=λb a=>by
  let(_,M,j,_):=I.ok.funs.mem a;rw[i b M j]
 let(g,hB'):∃g,W.hideAll B [C]=g:=(_,9);let inB:∀b o,g.get? b=!o->B.get? b=!o:=λb o q=>by rw[<-hB']at q;rw[W.of_hideAll _ q]
 let toB:∀b o,B.get? b=!o->b≠C->g.get? b=!o:=λb o q n=>by rw[<-hB'];rw[W.hideAll_get _ q<|by simpa using n]
 let O:∀b,B.get? b=8->g.get? b=8:=λb q=>by
  induction z:g.get? b with
  |none=>rfl
  |some o=>rw[inB b o z]at q;cases q
 let nBC:∀b o,g.get? b=!o->b≠C:=λb o q z=>by
  let P:g.get? C=8:=by rw[<-hB'];rw[W.hideAll_none [C] ()]
  rw[z,P]at q;cases q
 let st2:g.StaysIn r:=λb o q=>(f.2 b<|nBC b o q).trans<|hc1 b o<|inB b o q;let fr2:r.FunFrames g X.stack:=MN O (λb a=>f.2 b<|frC b a) (by rw[J,];rw[hc3]);let(oe,vs,T0,oT,ts,g1,g2,g3,g4,g5,g6,g7,g8,g9):=hc4;let tr2:r.TracedAtW g x (.ref D) (.ref t) (rawInt X.env.locals):=jC oe vs T0 oT ts ((f.2 x<|nC _ _ _ g1 g3).trans g1,g2,g3,g4,O T0 g5,g6,(f.2 T0<|nC _ _ _ g7 g8).trans g7,g8,g9);ext PySem.passOn;rw[Za<|wpAny_field (s:={s' with heap:=r}) ((f.2 x<|nC _ _ _ g1 g3).trans g1) g3 g4 ?_];rw[Ze (),];let dt2:DT r x d:=by
  let(oe vs T oT ts,a1,a2,a3,a4,a5,a6,a7,a8):=dt1;rw[jC oe vs T oT ts ((f.2 x<|nC _ _ _ a1 a3).trans a1,a2,a3,a4,a5,(f.2 T<|nC _ _ _ a6 a7).trans a6,a7,a8)]
 rw[Za<|Zc (AY (oU (s:={s' with heap:=r}) (Q:=λ_ s2=>∃w T',g.get? T'=8/\(∀b,b≠T'->w.get? b=r.get? b)/\(∃o vs,r.get? T'=!o/\o.data=.fields vs)/\g.StaysIn w/\w.FunFrames g X.stack/\(∃R,w.TracedAtW g x (.ref D) (.ref t) R)/\s2={s' with heap:=w}) st2 fr2 tr2 λw T' t1 t2 t3 A S U=>jR w T' (t1,t2,t3,A,S,U,9))<|Fk (E:=λ_ _=>True) (s:={s' with heap:=r}) dt2) ?_ λ_ _ z=>z.1];rintro _ _ ⟨⟨w,T',t1,t2,t3,A,S,U,rfl⟩,dt3⟩;rw[wpAny_throw ?_];let K1:∀b o,B.get? b=!o->b≠C->w.get? b=!o:=λb o q n=>A b o<|toB b o q n;let nex:∀b u,X.s₀.heap.get? b=!u->b∉ex:=λb u q a=>by
  rcases(f0 b a).2.2.2.1 with z|z
  .rw[hex]at z;cases z
  .rw[Zn (Zk q)<|Nat.not_lt.mpr z]
 let G:∀b o,↥s b=!o->b∈frs X.stack->b∉ex->∃sl,w.get? b=!{o with slots:=sl}:=λb o q a l=>by
  let(_,M,j,hd):=I.ok.funs.mem a;let j:↥s b=!M:=j;rw[q]at j;obtain rfl:=Zqi j;let(sl,e1):=I.base.slot b o q (I.ok.frf b a) a l;let(sl',e2):=up1 b _ e1 hd;let e3:r.get? b=!{o with slots:=sl'}:=(f.2 b<|frC b a).trans e2;rw[(sl',(t2 b λz=>?_).trans e3)];let(oz wz,P,z2):=t3;rw[<-z]at P;let P:r.get? b=!oz:=P;rw[e3]at P;cases P;rw[hd _ z2]
 rw[T.on L Z0 H' _ x D g d (I0.call' (s':={s' with heap:=w}) (ch:=ex) I.os (λb o e n a l=>?_,λb o e n a l=>G b o e a l,λb o e n l=>I.base.free b o e n l,λb o e l=>?_,I.base.tups,I.base.frzs,I.base.tbls) (λb u e=>?_) I.bare λb a=>((f0 b a).2.2.2.1,(f0 b a).2.1,(f0 b a).2.2.2.2.1,(f0 b a).2.2.2.2.2)) (A,O x hc2,S,?_,λb o e c=>?_) dt3 hE]
 .rw[K1 b o (trk b o (I.base.keep b o e n a l)<|.inr (h0 b o e l,a))<|i b o e]
 .cases a:b∈frs X.stack
  .let(sl,q):=G b o e a l;rw[(_,q)]
  .let(M,e'):=I.base.there b o e l;rw[(M,K1 b M (trk b M e'<|.inr (h0 b o e l,a))<|i b o e)]
 .rw[(I.hok b u e).stay (λc v hc q=>K1 c v (trk c v q<|.inl ?_) ?_) (λ_ q=>q) 004]
  .rcases hc with z|z
   .rw[z,e];simp
   .rw[z,];simp
  .intro z;let fC:H' C=8:=I.free;obtain y|y:=hc
   .rw[<-y,z,fC]at e;rw[J7 e]
   .rw[z,fC]at y;rw[J7 y]
 .let(R,q):=U;rw[jR t R q]
 .let key:∃F,B.get? b=!F/\b≠C:=by
   obtain c|⟨⟨u,hu⟩,a⟩:=c
   .induction q:H' b with
    |none=>rw[Zn q c]
    |some u=>
     let(F,h2'):=(I.hok b u q).has;rw[(F,trk b F h2'<|.inl c,λz=>by rw[z]at q;rw[show H' C=8 from I.free]at q;rw[J7 q])]
   .let(o1,e1):=I0.base.there b u hu (by rw[hex,];simp);let(F,e2):=I.base.there b o1 e1 (nex b u hu);rw[(F,trk b F e2<|.inr (h0 b o1 e1<|nex b u hu,a),i b o1 e1)]
  let(-F,k1,k2):=key;let:=K1 b F k1 k2;let e:=e;rw[e]at this;cases this;rw[toB b o k1 k2]
end L2
namespace L2.DL
def aG        (N)(cap)(l:X.calm=6)(e:K9 a X.env N X.N cap=6)(m:QI X E j b n)
 (o:∀g C s H c,QG (JS X a N g C s H c) j t)(p:∀g C s H c,XT X C s H c->QE (JS X a N g C s H c) E i f)(q:∀x,foldedSetIterable b X.env x=pure x:=by intro _;rfl):
 QN X E (.ListComp i [(j,b,[],0)] a r) (Q6 cap n t f):=PE.weak (Hm N cap l e m o p q) λ_ _ _ h=>E5 h
abbrev HP:=List<|Addr×D
noncomputable def je:HP->Addr->YD
 |[],_=>8
 |p::r,a=>if a=p.1 then !p.2 else je r a
noncomputable def Qo:HP->Addr->D->HP
 |[],_,_=>[]
 |p::r,a,d=>if a=p.1 then%[p.1|d]::r else p::Qo r a d
def e9(a):je [] a=8:=rfl
theorem Qj(p)(r:HP)(a):je (p::r) a=if a=p.1 then !p.2 else je r a:=rfl
theorem Ac:∀{c:HP}{a:Addr}{d:D}b,je c a≠8->je (Qo c a d) b=if b=a then !d else je c b
 |[],a,d,b,h=>Zn 9 h
 |p::r,a,d,b,h=>by
  ext Qo;cases z:a=p.1
  .simp_all[Qj]
  .rw[Ze z,Qj,Qj];rw[Qj,Ze z]at h;rw[Ac b h,]
   grind
structure RT(K:f')(B B':Bs)(F H:Hp)(sd:SD)(hp:HP)(Z:St):4 where
 rs:RS K B' F H sd Z
 f0:B'.F0=B.F0
 pa:B'.pa=B.pa
 out:∀a,je hp a=8->B'.H0 a=B.H0 a
 obj:∀a d,je hp a=!d->B.F0 a=8/\B.H0 a=8/\zc K F B'.H0 a d
section
variable {K:f'}  {F F' H H':Hp}  {hp:HP}
def RT.sub(t:RT K B c F H f hp Z):jk B.H0 c.H0:=λa o e=>by
 induction q:je hp a with
 |none=>rwa[t.out a q,]
 |some d=>rw[(t.obj a d q).2.1]at e;rw[J7 e]
def RT.ext0(t:RT K B c F H l hp Z) (e:Ext c.F0 c.H0 f i):Ext B.F0 B.H0 f i:=
 (by rw[<-t.f0];rw[e.ff],e.fh,t.sub.trans e.hh,λa n j=>e.new a (by rwa[t.f0,]) λz=>j<|Qe t.sub z)
def RT.go(t:RT K B e F H l hp Z)(s:jk F F')(r:RS K e F' H' c Z'):RT K B e F' H' c hp Z':=
 (r,t.f0,t.pa,t.out,λa d h=>gU (t.obj a d h) λf i j=>(f,i,j.ext s λ_ q=>q))
def RT.free(t:RT K B e F H f hp Z)(h:je hp a=!d):F a=8:=gU (t.obj a d h) λi j c=>xa c.has λo l=>t.rs.ext.new a (by rwa[t.f0,]) ()
def RT.lies(t:RT K B c F H e hp Z)(h:je hp a=!d):zc K F H a d:=(t.obj a d h).2.2.ext (.refl _) λo q=>t.rs.ext.hh _ _ q
def RT.no_own(t:RT K B c F H e hp Z)(h:je hp a=!d) (f:c.H0 l=8):l≠a:=λz=>by
 have(o,i):=(t.obj a d h).2.2.has
 ext
def RT.start(r:RS K B F H c Z):RT K B B F H c [] Z:=(r,9,9,002,λa d h=>by cases h)
def RT.ret  (t:RT K B c F H u hp Z)(h:Cq K m B Q d):Cq K m c Q d:=by
 let p:zu K B.F0 B.H0 Q d->zu K c.F0 c.H0 Q d:=λh v f j e i=>h v f j (t.ext0 e) i;let r:yK K B.F0 B.H0 Q d->yK K c.F0 c.H0 Q d:=λh l f j e n s o=>h l f j (t.ext0 e) (Qe t.sub n) s o
 cases(m)with
 |none=>
  let h:rK K B.F0 B.H0 Q d:=h;show rK K c.F0 c.H0 Q d
  grind[rK]
 |some b=>
  cases(b)with
  |true=>rw[r h]
  |false=>rw[p h]
def RT.xw   (t:RT K B f F H n hp Z)(h:XW K E B.F0 B.H0 c fs):XW K E f.F0 f.H0 c fs:=λi a j l e q=>h i a j l (t.ext0 e) q
def RT.chg(t:RT K B f F H s hp Z)  (j:je hp a=!d)(h:zc K F (upd H a o) a v):RT K B (f.F0,upd f.H0 a o,f.pa) F (upd H a o) s (Qo hp a v) Z:=by
 let E:=t.free j;have(G,I,b3):=t.obj a d j;let n:je hp a≠8:=by ext
 rw[(((t.rs.ext.ff,BS o t.rs.ext.fh E,λb u e=>?_,λb J L=>?_),t.rs.len,t.rs.val,λ{i p e}q=>?_,t.rs.apart),t.f0,t.pa,λb c=>?_,λb e c=>?_)]
 .let e:upd f.H0 a o b=!u:=e;cases z:b=a
  .simp_all[JO]
  .rw[JI z]at e ⊢;rw[t.rs.ext.hh _ _ e]
 .cases z:b=a
  .rwa[z,]
  .rw[t.rs.ext.new b J λy=>L<|by show upd f.H0 a o b=8;rwa[JI z,]]
 .let(-l,O,r,Q,R,S):=t.rs.own q;let ne:=t.no_own j r;rw[(l,O,(JI ne).trans r,Q,R.ext (.refl _)<|λu T=>by rwa[JI ne,],λz=>(S z).mono λu T=>by rwa[JI ne,])]
 .rw[Ac b n]at c;cases z:b=a
  .ext
  .rw[Ze z]at c;show upd f.H0 a o b=B.H0 b;rw[JI z,];rw[t.out b c]
 .rw[Ac b n]at c;cases z:b=a
  .rw[Zd z]at c;obtain rfl:=Zqi c;subst z;rw[(G,I,h.ext (.refl _) λu q=>by simp_all[JO])]
  .rw[Ze z]at c;have(U,X,Y):=t.obj b e c;rw[(U,X,Y.ext (.refl _) λu q=>by show upd f.H0 a o b=!u;rwa[JI z,])]
def xj(F b:Hp)(hp:HP):Hp:=λa=>match je hp a with
 |some _=>b a
 |none=>F a
theorem RT.frz(t:RT K B f F H L hp Z):∃s,jk F s/\RS K B s H L Z/\∀a d,je hp a=!d->jf K s d 016:=by
 let E:∀b d,je hp b=!d->xj F f.H0 hp b=f.H0 b:=λb d e=>by ext xj;rw[e,]
 let n:∀b,je hp b=8->xj F f.H0 hp b=F b:=λb e=>by ext xj;rw[e,]
 let j:jk F (xj F f.H0 hp):=λb u e=>by
  induction q:je hp b with
  |none=>rw[n b q,];rw[e]
  |some d=>rw[t.free q]at e;rw[J7 e]
 rw[(xj F f.H0 hp,j,((?_,λb u e=>?_,t.sub.trans t.rs.ext.hh,λb O r=>?_),t.rs.len,λq=>xa (t.rs.val q) λv=>j5 λr Q=>(v,r,jf.same j _ _ Q),λ{i p e}q=>?_,t.rs.apart),λb e y=>?_)]
 .rw[<-t.f0];rw[t.rs.ext.ff.trans j]
 .cases q:je hp b with
  |none=>rw[n b q]at e;rw[t.rs.ext.fh _ _ e]
  |some d=>rw[E b d q]at e;rw[t.rs.ext.hh _ _ e]
 .induction q:je hp b with
  |none=>rw[n b q,];rw[t.rs.ext.new b (by rw[t.f0,];rw[O])<|by rw[t.out b q,];rw[r]]
  |some d=>rw[Zn (t.obj b d q).2.1 r]
 .let(-l,R,G,S,T,U):=t.rs.own q;let X:je hp l=8:=by
   induction z:je hp l with
   |none=>rfl
   |some Y=>rw[Zn 9<|t.no_own z G]
  rw[(l,R,Qe t.sub G,by rw[n l X,];rw[S],T.ext j λ_ q=>q,λz=>by rw[<-t.pa];rw[U z])]
 .let(!c1,c2,I):=t.obj b e y;let(o,J):=I.has;rw[jf.same (λc u q=>?_) _ _<|I.frz J<|t.free y];cases z:c=b
  .subst z;rw[JO]at q;rw[E c e y,J];rw[q]
  .rw[JI z]at q;rw[j _ _ q]
end
mutual
def der (g:HP):D->D
 | .adr a=>match je g a with
  |some d=>d
  |none=>.adr a
 | .lst e=>.lst (zl g e)
 | .non=>.non
 | .bl b=>.bl b
 | .int i=>.int i
 | .str x=>.str x
 | .ty n=>.ty n
 | .scr h=>.scr h
 | .tup e=>.tup e
 | .dct f e=>.dct f e
 | .ins c fs e=>.ins c fs e
 | .exc c=>.exc c
 | .exr c n=>.exr c n
 | .ucl c=>.ucl c
 | .dcf f e=>.dcf f e
 | .pin a d=>.pin a d
def zl (a:HP):YC->YC
 | []=>[]
 |d::b=>der a d::zl a b
end
theorem lW(b)(a):der b (.adr a)=match je b a with
 |some d=>d
 |none=>.adr a:=by rw[der,]
def rF(a)(b):der a (.lst b)=.lst (zl a b):=by rw[der,]
def eF(a):zl a []=[]:=by rw[zl,]
def zyd(a)(d)(b):zl a (d::b)=der a d::zl a b:=by rw[zl,]
section
variable {K:f'}{B:Bs}{F H:Hp}{sd:SD}{hp:HP}{Z: St}
mutual
theorem jf.der (f:∀a d,je hp a=some d->jf K F d (.ref a)):∀(d:D) (v:V),jf K F d v->jf K F (der hp d) v
 | .adr a,v,h=>by
  obtain rfl:=jE.mp h
  grind[lW]
 | .lst i,v,h=>by
  obtain⟨a,e,j,l,n⟩:=jo.mp h;exact jo.mpr ⟨a,e,j,l,jc.der f i e n⟩
 | .non,v,h=>by rwa [L2.DL.der]
 | .bl b,v,h=>by rwa [L2.DL.der]
 | .int b,v,h=>by rwa [L2.DL.der]
 | .str b,v,h=>by rwa [L2.DL.der]
 | .ty b,v,h=>by rwa [L2.DL.der]
 | .scr b,v,h=>by rwa [L2.DL.der]
 | .tup b,v,h=>by rwa [L2.DL.der]
 | .dct b c,v,h=>by rwa [L2.DL.der]
 | .ins b c d,v,h=>by rwa [L2.DL.der]
 | .exc b,v,h=>by rwa [L2.DL.der]
 | .exr b c,v,h=>by rwa [L2.DL.der]
 | .ucl b,v,h=>by rwa [L2.DL.der]
 | .dcf b c,v,h=>by rwa [L2.DL.der]
 | .pin b c,v,h=>by rwa [L2.DL.der]
theorem jc.der (f:∀a d,je hp a=some d->jf K F d (.ref a)):∀c e,jc K F c e->jc K F (zl hp c) e
 | [],e,h=>by rwa [eF]
 |d::c,e,h=>have ⟨x,r,i,j,l⟩:=jl.mp h;jl.mpr ⟨x,r,i,jf.der f d x j,jc.der f c r l⟩
end
noncomputable def derI(hp:HP):Yh->SD->SD
 |[],sd=>sd
 |i::is,sd=>derI hp is (match sd[i]? with
  |some (~~~d)=>sd.set i (~~~der hp d)
  |_=>sd)
def MO{α:Type}{l:List α} {a:α}(h:l[i]?=!a):l.set i a=l:=by
 apply Wc;intro j;cases z:i=j
 .subst z;rw[UT (Jc.mp h).1,h]
 .rw[Zx z,]
def RS.reval  (r:RS K B F H sd Z)(c:sd[i]?=!~~~d)(h:∀v,jf K F d v->jf K F e v):RS K B F H (sd.set i<|~~~e) Z:=by
 let(v,f,j):=r.val c;let:=r.setVal (i:=i)<|h v j
 rwa[MO f]at this
theorem RS.derI(e:∀a d,je hp a=!d->jf K F d 016):∀c{sd:SD},RS K B F H sd Z->RS K B F H (derI hp c sd) Z
 |[],sd,r=>r
 |i::c,sd,r=>by
  ext L2.DL.derI
  split
  .rename_i d h;rw[RS.derI e c<|r.reval h λv q=>jf.der e d v q]
  .rw[RS.derI e c r]
end
inductive Out2 where
 |next(sd:SD)(hp:HP)|ret(d:D)|brk(sd:SD)(hp:HP)|cont(sd:SD)(hp:HP)
def uA(K:f')(m:02 Bool)(B:Bs)(F:Hp)(T:Ends):Out2->4
 |.next c e=>∀Z f a b,jk F a->RT K B f a b c e Z->T.nx Z b
 |.brk c e=>∀Z f a b,jk F a->RT K B f a b c e Z->T.bk Z b
 |.cont c e=>∀Z f a b,jk F a->RT K B f a b c e Z->T.ct Z b
 |.ret d=>Cq K m B T.rt d
abbrev ya:=SD->HP->Res Out2
def kN(K:f')(E:XK)(m:02 Bool)(g:ya):TS:=λT Z H=>∃B c F a b,RT K B c F H a b Z/\(g a b).need (uA K m B F T) (XW K E B.F0 B.H0)
abbrev u5(X:Cx)(E:XK)(m:02 Bool)(st:Stmt)(g:ya):4:=PS X st<|kN X.K E m g
abbrev zO(X:Cx)(E:XK)(m:02 Bool)(st:List Stmt)(g:ya):4:=xm X st<|kN X.K E m g
noncomputable def mO(b:HP):Out->Out2
 |.next a=>.next a b
 |.ret d=>.ret d
 |.brk a=>.brk a b
 |.cont a=>.cont a b
section
variable {K:f'}
def uA.mono (h:uA K m B F T o)(e:jk F n):uA K m B n T o:=by
 cases(o)with
 |next j l=>rw[λZ c f i s r=>h Z c f i (e.trans s) r]
 |brk j l=>rw[λZ c f i s r=>h Z c f i (e.trans s) r]
 |cont j l=>rw[λZ c f i s r=>h Z c f i (e.trans s) r]
 |ret d=>rw[h]
def RT.lift(t:RT K B j F H n l Z) (h:uA K m B F T (mO l o)):zE K m j F T o:=by
 cases(o)with
 |next c=>rw[λe f i s r=>h e j f i s<|t.go s r]
 |brk c=>rw[λe f i s r=>h e j f i s<|t.go s r]
 |cont c=>rw[λe f i s r=>h e j f i s<|t.go s r]
 |ret d=>rw[t.ret h]
end
section
variable  {E:XK}  {st:Stmt}  {g:FS}{g1 g2:ya}
def uG(g:FS):ya:=λa b=>(g a).bind λo=>.ok<|mO b o
def Fq(h:QS X E m st g):u5 X E m st (uG g):=PS.weak h λT Z H=>qZ λB a F b e=>j5 λt n=>jg a F b (t.rs,(Res.need_bind n).mono (λo c=>t.lift c) λ_ _ q=>t.xw q)
def MP:ya:=λa b=>.ok<|.next a b
def Bc(g1 g2:ya):ya:=λc e=>(g1 c e).bind λo=>match o with
 |.next a b=>g2 a b
 |o=>.ok o
def pC:zO X E m [] MP:=xm.weak Aw λT Z H=>qZ λB a F b c=>j5 λt n=>n Z a F H (.refl _) t
def MQ(h:u5 X E m st g1):zO X E m [st] g1:=BH h
def av(f:u5 X E m st g1)(h:zO X E m e g2):zO X E m (st::e) (Bc g1 g2):=xm.weak (YU f h) λT Z H i=>by
 let(B j F l p,t,n):=i;rw[jC B j F l p (t,(Res.need_bind n).mono (λo c=>?_) 004)]
 cases(o)with
 |next a b=>rw[λw r u x s v=>jC B r u a b (v,c.mono (λo q=>q.mono s) 004)]
 |ret d=>rw[c]
 |brk a b=>rw[c]
 |cont a b=>rw[c]
abbrev mD:=SD->HP->Res Bool
def s0(K:f')(E:XK)(f:mD):TT:=λZ H Q=>∃B c F a b,RT K B c F H a b Z/\(f a b).need (uT F H Q) (XW K E F H)
abbrev cR(X:Cx)(E:XK)(e:Expr)(f:mD):4:=PT X e<|s0 X.K E f
def wP(c:mD)(g1 g2:ya):ya:=λa e=>(c a e).bind λb=>if b then g1 a e else g2 a e
def gw   (o:cR X E c p)(r:zO X E m a g1)(s:zO X E m b g2):u5 X E m (.If c a b u) (wP p g1 g2):=PS.weak (BI o r s) λT Z H v=>by
 let(B f F h i,t,n):=v;rw[jC B f F h i (t,(Res.need_bind n).mono (λb j l w e=>?_) λ_ _ q=>q.ext<|t.ext0 t.rs.ext)]
 cases(b)with
 |true=>rw[jC B f l h i (t.go e.ff<|t.rs.step e,j.mono (λ_ q=>q.mono e.ff) 004)]
 |false=>rw[jC B f l h i (t.go e.ff<|t.rs.step e,j.mono (λ_ q=>q.mono e.ff) 004)]
def yk(b:D->ya):YC->ya
 |[],e,f=>.ok (.next e f)
 |x::h,e,f=>(b x e f).bind λo=>match o with
  |.next a c=>yk b h a c
  |.cont a c=>yk b h a c
  |.brk a c=>.ok (.next a c)
  |.ret d=>.ok (.ret d)
def Xf(a:Tg)(b:ya)(x:D):ya:=λc e=>(JQ a x c).bind λs=>b s e
def CQ(c:FA)(e:Tg)(b:ya):ya:=λa f=>(c a).bind λh=>yk (Xf e b) h a f
def pt    (u:PassesOwn 009 X.A X.env X.xe)(hc:X.calm=6)(hi:QI X E tg h it)(hg:QG X tg t)(hb:zO X E m w g1)
 (O:∀x,foldedSetIterable h X.env x=pure x:=by intro _;rfl):u5 X E m (.For tg h w [] pos) (CQ it t g1):=PS.weak (BL u hc hi hg hb O) λT Z H=>qZ λB B' F z u=>j5 λr n=>jg B' F z (r.rs,(Res.need_bind n).mono (λa n1 J P H1 Q wk=>by
  rw[(λi k Z H=>k=⇑a-i/\i<=⇑a/\∃L v z u,jk P v/\RT X.K B L v H z u Z/\(yk (Xf t g1) (a.drop i) z u).need (uA X.K m B v T) (XW X.K E B.F0 B.H0),
   (⇑a,9,Ub _,B',P,z,u,.refl _,r.go Q.ff<|r.rs.step Q,n1.mono (λ_ q=>q.mono Q.ff) 004),?_)]
  rintro i k Z2 H2 ⟨rfl,hi,L,v,sd2,R,S,M,A⟩;let(!w1,w2):=wk i v H2 S M.rs.ext.fh;cases j:i<⇑a
  .have(go,yl):=w1 j;rw[.inr (go,λU H'=>∃Y l b c,jk P l/\RT X.K B Y l H' b c U/\(yk (Xf t g1) (a.drop<|i+1) b c).need (uA X.K m B l T) (XW X.K E B.F0 B.H0),
    λU H'(Y,l,b,c,q1,q2,q3)=>(⇑a-(i+1),(),9,j,Y,l,b,c,q1,q2,q3),λx H3 y=>?_)]
   let(d l,hd,p,i3):=yl x H3 y;rw[Uo j]at A;let hd':a[i]=d:=by ext
   rw[hd']at A;let r3:=M.go p.ff<|M.rs.step p;rw[XZ r3.rs i3 (Res.need_bind<|Res.need_bind A) λsd' U n4 _ r4=>jC B L l sd' R (r3.go (.refl _) r4,n4.mono (λo N=>?_) 004)]
   cases(o)with
   |next e f=>rw[λZ5 C G H5 s I=>(C,G,e,f,(S.trans p.ff).trans s,I,N.mono (λ_ q=>q.mono<|p.ff.trans s) 004)]
   |cont e f=>rw[λZ5 C G H5 s I=>(C,G,e,f,(S.trans p.ff).trans s,I,N.mono (λ_ q=>q.mono<|p.ff.trans s) 004)]
   |brk e f=>rw[λZ5 C G H5 s I=>N Z5 C G H5 (p.ff.trans s) I]
   |ret d=>rw[N]
  .let he:i=⇑a:=()
   rw[.inl (w2 (),?_)];subst he;rw[UX]at A;rw[A Z2 L v H2 (.refl _) M]) λ_ _ q=>q.ext<|r.ext0 r.rs.ext)
end
@[simp]def kC(a:HP)(b:SD):mO a (.next b)=.next b a:=rfl
@[simp]def db(g:FS)(a:SD)(b:HP):uG g a b=(g a).bind λo=>.ok<|mO b o:=rfl
def kX(g:ya):Out2->Res Out2
 |.next a b=>g a b
 |o=>.ok o
@[simp]def zx8(g:ya)(a:SD)(b:HP):kX g (.next a b)=g a b:=rfl
@[simp]def bL(a b:ya)(c:SD)(e:HP):Bc a b c e=(a c e).bind (kX b):=by
 rfl
@[simp]def MS(c:mD)(f g:ya)(a:SD)(e:HP):wP c f g a e=(c a e).bind λb=>if b then f a e else g a e:=rfl
@[simp]def MT(c:FA)(e:Tg)(b:ya)(a:SD)(f:HP):CQ c e b a f=(c a).bind λg=>yk (Xf e b) g a f:=rfl
@[simp]def bR(a:Tg)(b:ya)(x:D)(c:SD)(e:HP):Xf a b x c e=(JQ a x c).bind λs=>b s e:=rfl
@[simp]def re(a:SD):IY a=.ok (.dct [] []):=rfl
def wr(K:f')(F H:Hp)(b:HP):4:=∀a d,je b a=!d->F a=8/\zc K F H a d
def RT.lent{K:f'}     (t:RT K B e F H f c Z):wr K F H c:=λ_ _ h=>(t.free h,t.lies h)
abbrev xF:=SD->HP->Res (D×HP)
abbrev zp:=SD->HP->Res (YC×HP)
abbrev wx:=SD->HP->Res (Bool×HP)
def sv(K:f')(E:XK)(f:xF):TE:=λZ H Q=>∃B g F a c,RT K B g F H a c Z/\(f a c).need (λp=>∀v h b e,jk F b->RT K B h b e a p.2 Z->jf K b p.1 v->Q v e) (XW K E B.F0 B.H0)
abbrev vd(X:Cx)(E:XK)(e:Expr)(f:xF):4:=PE X e<|sv X.K E f
def kM(K:f')(E:XK)(f:zp):TA:=λZ H Q=>∃B h F a c,RT K B h F H a c Z/\(f a c).need (λp=>∀e i b g,jk F b->RT K B i b g a p.2 Z->jc K b p.1 e->Q e g) (XW K E B.F0 B.H0)
abbrev vT(X:Cx)(E:XK)(es:List Expr)(f:zp):4:=PA X es<|kM X.K E f
def kL(K:f')(E:XK)(f:wx):TT:=λZ H Q=>∃B g F a b,RT K B g F H a b Z/\(f a b).need (λp=>∀h c e,jk F c->RT K B h c e a p.2 Z->Q p.1 e) (XW K E B.F0 B.H0)
abbrev my(X:Cx)(E:XK)(e:Expr)(f:wx):4:=PT X e<|kL X.K E f
section
variable    {a b e o i:Expr}  {fa fb fe fo fi:FE}  {fr:zp}
def wA(fe:FE):xF:=λc f=>(fe c).bind λd=>.ok %[d|f]
def Ad(h:QE X E e fe):vd X E e (wA fe):=PE.weak h λZ H Q=>qZ λB f F g r=>j5 λt n=>jg f F g (t.rs,(Res.need_bind n).mono (λd j v l m c p=>j v f l m c.ff (t.go c.ff<|t.rs.step c) p) λ_ _ q=>q.ext<|t.ext0 t.rs.ext)
def v4(g:D->D->YD)(fa fb:xF):xF:=λc f=>(fa c f).bind λp=>(fb c p.2).bind λq=>(Res.ofO<|g p.1 q.1).bind λz=>.ok %[z|q.2]
def lY (m:zQ X (uH X.K g))(r:vd X E a s)(x:vd X E b y)(A:A1 b):vd X E (.Subscript a b C) (v4 g s y):=PE.weak (BO m r x A) λ_ _ _ h=>by
 let(B G F j H,t,n):=h;rw[jC B G F j H (t,(Res.need_bind n).mono (λp I v J L H1 M N O=>jC B J L j p.2 (N,(Res.need_bind I).mono (λq P w Q R H2 l c S=>?_) 004)) 004)];let(-z,T,k):=ji (Res.need_bind P);rw[jW R p.1 q.1 z (c.rs.ext.fh,jf.same l _ _ O,S,T,λu U Y f Z=>k u Q U Y ((M.trans l).trans f.ff) (c.go f.ff<|c.rs.step f) Z)]
def lh(fa:xF):wx:=λc f=>(fa c f).bind λp=>match p.1 with
 |.bl b=>.ok %[b|p.2]
 |_=>.no
def CS:zp:=λ_ c=>.ok %[[]|c]
def X9(f:xF)(g:zp):zp:=λc h=>(f c h).bind λp=>(g c p.2).bind λq=>.ok %[p.1::q.1|q.2]
def ei:vT X E [] CS:=PA.weak WQ λZ H Q=>qZ λB c F f g=>j5 λt n=>n [] c F H (.refl _) t .nil
def Fs(h:vd X E e j)(l:vT X E c fr)(m:01 (e::c) X.env=%[7|011]::01 c X.env:=by rfl):vT X E (e::c) (X9 j fr):=PA.weak (WF h l m) λZ H Q=>qZ λB r F f s=>j5 λt n=>jC B r F f s (t,(Res.need_bind n).mono (λp u v w x O y z A=>jC B w x f p.2 (z,(Res.need_bind u).mono (λq C G I J L g M N=>C (v::G) I J L (y.trans g) M<|.mk (jf.same g _ _ A) N) 004)) 004)
def kr(fr:zp):xF:=λc f=>(fr c f).bind λp=>if ⇑p.1<=1000 then .ok %[.tup p.1|p.2]else .no
def lm(i:5)(f:xF):ya:=λc g=>(f c g).bind λp=>.ok<|.next (c.set i<|~~~p.1) p.2
def XA(i:5)(f:xF):ya:=λc h=>match c[i]? with
 |some (some<|.own false<|.lst g)=>(f c h).bind λp=>if ⇑g<00 then .ok (.next (c.set i<|!(.own 7<|.lst<|g++[p.1])) p.2)else .no
 |_=>.no
def ah{i:5} (C:PE X o (yH i))(G:vd X E e I)
 (g:∀{x:TE}{t:TA},PE X o x->PA X [e] t->PE X (.Call (.Attribute o "append" c) [e] [] f) (kQ X.K 013 BP x t))
 (J:swapsWith (.Call (.Attribute o "append" c) [e] [] f) 8 h.line X.env=pure 7:=by rfl)
 (j:01 [e] X.env=%[7|011]::01 [] X.env:=by rfl):u5 X E m (.Expr (.Call (.Attribute o "append" c) [e] [] f) h) (XA i I):=
 PS.weak (YV (g C<|WF G WQ j) J) λT Z H L=>by
  let(B M F N g,t,n):=L;unfold XA at n
  split at n
  .rename_i ds r;let(-l,s,h2,h3,(O,P,h5),_):=t.rs.own r;rw[(.ref l,s,.inl (9,O,qP.of P),B,M,F,N,g,t,(Res.need_bind n).mono (λp u v Q R H1 S w U=>?_) 004)]
   split at u
   .let(-l',y,g2,g3,(z,Y,A),_):=w.rs.own r;rw[s]at y;cases y;let hl:=⇑A;rw[jg l z v (9,9,Y,(),u Z Q R _ S<|w.go (.refl _)<|w.rs.chg r s (z++[v],JO,A.snoc U))]
   .rw[u.elim]
  .rw[n.elim]
end
def MU(K:f')(E:XK)(g:xF):TS:=λT Z H=>∃B h F c e,RT K B h F H c e Z/\(g c e).need (λp=>∀v i a j b f,jk F b->RT K B j b f a p.2 i->jf K b p.1 v->T.rt v f) (XW K E B.F0 B.H0)
abbrev zD(X:Cx)(E:XK)(sts:List Stmt)(g:xF):4:=xm X sts<|MU X.K E g
section
variable     {f2 g2 ga:xF}{g1:ya}{fc:wx}  {st:Stmt}
def CT(h:vd X E e f2):zD X E [.Return (!e) b] f2:=xm.weak (BH<|Ax h) λT Z H=>qZ λB c F a f=>j5 λt n=>jC B c F a f (t,n.mono (λp g v i j l m o r=>g v Z a i j l m o r) 004)
def zC(g1:ya)(g2:xF):xF:=λc e=>(g1 c e).bind λo=>match o with
 |.next a b=>g2 a b
 |_=>.no
def CU(g:u5 X E m st g1)(h:zD X E e g2):zD X E (st::e) (zC g1 g2):=xm.weak (YU g h) λT Z H i=>by
 let(B j F l r,t,n):=i;rw[jC B j F l r (t,(Res.need_bind n).mono (λo c=>?_) 004)]
 cases(o)with
 |next a b=>rw[λL u w M s x=>jC B u w a b (x,c.mono (λp q v y f z A C G I J=>q v y f z A C (s.trans G) I J) 004)]
 |ret d=>rw[c.elim]
 |brk a b=>rw[c.elim]
 |cont a b=>rw[c.elim]
def rB(fc:wx)(ga g2:xF):xF:=λa b=>(fc a b).bind λp=>if p.1 then ga a p.2 else g2 a p.2
def MV(z:my X E c fc)(A:zD X E a ga)(C:zD X E f g2):zD X E (.If c a [] G::f) (rB fc ga g2):=xm.weak (YU (BI z A Aw) C) λT Z H I=>by
 let(B J F g L,t,n):=I;rw[jC B J F g L (t,(Res.need_bind n).mono (λp s u w M x y=>?_) 004)];let(k,e):=p
 cases(k)with
 |true=>rw[jC B u w g e (y,s.mono (λp q v h b i j l m o r=>q v h b i j l (x.trans m) o r) 004)]
 |false=>rw[jC B u w g e (y,s.mono (λp q v h b i j l m o r=>q v h b i j l (x.trans m) o r) 004)]
end
structure ExtW(K:f')(F H:Hp)(hp:HP)(F' H':Hp)(hp':HP):4 where
 ff:jk F F'
 fh:jk F' H'
 hh:∀a o,je hp a=8->H a=!o->H' a=!o
 new:∀a,F a=8->H a≠8->F' a=8
 len:wr K F' H' hp'
 dom:∀a,je hp' a=8↔je hp a=8
theorem Bd:∀{b:HP}{a:Addr},je b a=8↔a∉b.map (·.1)
 |[],a=>by simp[e9]
 |p::r,a=>by
  rw[Qj,Zl,UY,not_or];cases z:a=p.1
  .ext
  .rw[Ze z,Bd]
   ext
def qO(H:Hp)(b:HP):Hp:=λa=>match je b a with
 |none=>H a
 |some _=>8
def Km   (h:je b a=8):qO H b a=H a:=by ext qO;rw[h,]
def Be    (h:je b a=!d):qO H b a=8:=by ext qO;rw[h,]
def KD(n ar:5)(g:xF)(a:YC)(b:HP):Res (D×HP):=if ⇑a=ar then(g (Qt n a) b).bind λp=>if p.2.map (·.1)=b.map (·.1)then .ok p else .no else .no
section
variable {K:f'}
def RT.call(t:RT K B n F H I c Z)(w:ExtW K F H c J r s):∃L,RT K B L J r I s Z:=by
 let O:=λa o h e=>w.hh a o h<|t.rs.ext.hh _ _ e;rw[((n.F0,λa=>match je c a with
  |none=>n.H0 a
  |some _=>r a,n.pa),((t.rs.ext.ff.trans w.ff,w.fh,λa o e=>?_,λa Q j=>?_),t.rs.len,λq=>xa (t.rs.val q) λv=>j5 λj R=>(v,j,jf.same w.ff _ _ R),λ{i p d}q=>?_,t.rs.apart),t.f0,t.pa,λa f=>?_,λa d f=>?_)]
 .grind
 .induction z:je c a with
  |none=>
   let j:(match je c a with
    |none=>n.H0 a
    |some _=>r a)≠8:=j
   rw[z]at j;rw[w.new a (t.rs.ext.new a Q j) λy=>j<|Qe t.rs.ext.hh y]
  |some d=>
   let(o,S):=(t.lies z).has;rw[w.new a (t.free z) ()]
 .let(-l,T,U,X,E,Y):=t.rs.own q;let G:je c l=8:=by
   induction z:je c l with
   |none=>rfl
   |some d'=>rw[Zn 9<|t.no_own z U]
  let(o,S):=E.has;rw[(l,T,?_,w.new l X (),E.ext w.ff λu q=>w.hh _ _ G q,λz=>(Y z).mono λu q=>w.hh _ _ G q)]
  ext
 .let f:=(w.dom a).mp f;show(match je c a with
   |none=>n.H0 a
   |some _=>r a)=B.H0 a
  rw[f,];rw[t.out a f]
 .induction z:je c a with
  |none=>rw[(w.dom a).mpr z]at f;cases f
  |some d0=>
   let(!c1,c2,_):=t.obj a d0 z;rw[(c1,c2,(w.len a d f).2.ext (.refl _) λo q=>?_)]
   ext
def RT.hidden(t:RT K B f F H i c Z):Ext B.F0 B.H0 F (qO H c):=by
 let e:=t.ext0 t.rs.ext;rw[(e.ff,λa o q=>?_,λa o q=>?_,e.new)]
 .cases z:je c a with
  |none=>rw[Km z,];rw[e.fh _ _ q]
  |some d=>rw[t.free z]at q;rw[J7 q]
 .cases z:je c a with
  |none=>rw[Km z,];rw[e.hh _ _ q]
  |some d=>rw[(t.obj a d z).2.1]at q;rw[J7 q]
end
def XB(a:YC->HP->Res (D×HP))(b:FA):xF:=λc e=>(b c).bind λf=>a f e
def cm:FS:=λ_=>.no
def gk   {a:Stmt}:QS X E m a cm:=λY s Z H T I=>qf λB F b=>j5 λr n=>n.elim
section
variable    {g:xF}
def vM(i:5)(g:xF):xF:=λa b=>g (qp [i] a) b
def p7 (h:zD X E a g):zD X E a (vM i g):=xm.weak h λT Z H=>qZ λB c F y e=>j5 λt n=>xa (t.rs.frz [i]) λf=>j5 λs r=>jC B c f _ e (t.go s r,(n).mono (λp q v j b l m o u w x=>q v j b l m o (s.trans u) w x) 004)
def vJ:D->D->YD:=λd e=>match d with
 |.dct _ _=>8
 |.dcf _ _=>8
 |d=>ju d e
def f5:zQ X (uH X.K vJ):=IN
def rS(b:Yh)(f:FE):xF:=λc a=>(f<|derI a b c).strict.bind λd=>if Um d then .ok %[d|a]else .no
end
def cz(z:D)(q:D×HP):Res (D×HP):=match z with
 |.adr a=>match je q.2 a with
  |some (.lst b)=>(Res.ofO<|ju (.lst b) q.1).bind λz=>.ok %[z|q.2]
  |_=>.no
 |_=>.no
def kt(b c:xF):xF:=λa e=>(b a e).bind λp=>(c a p.2).bind<|cz p.1
def l3(a:YC->HP->Res (D×HP))(b:zp):xF:=λc e=>(b c e).bind λp=>a p.1 p.2
open Classical in
def yV(n:5)(g:Yj->Res Out):Res Out:=if h:∃o,∀a,⇑a=n->g a=.ok o then .ok (Classical.choose h)else .no
def MW   (h:∀a,⇑a=n->g a=.ok o):yV n g=.ok o:=by
 let b:∃o,∀a,⇑a=n->g a=.ok o:=(o,h);ext yV;let c:⇑(List.replicate n (0:Addr))=n:=List.length_replicate
 grind
def capO(cap:List (02 5))(k:5)(a:SD):SD:=match(cap[k]?).join with
 |some j=>match a[j]? with
  |some (some<|.own false d)=>(qr cap a).set k ! .own 7 d
  |_=>qr cap a
 |none=>qr cap a
def eY  {i:5} (q:(qr cap a)[i]?=! !x):∃d,x=.val d:=by
 unfold qr at q;rw[Zv]at q
 induction hc:cap[i]? with
 |none=>ext
 |some o=>
  rw[hc]at q
  cases(o)with
  |none=>cases q
  |some j=>
   grind
theorem RS.capO{K:f'}{B:Bs}{F H:Hp}{f:SD}{Z:St}(cap)(k)(r:RS K B F H f Z):RS K B F H (capO cap k f) (WG cap Z):=by
 ext L2.DL.capO
 split
 .rename_i j c
  split
  .rename_i d s;let(-l,u,v,y,E,_):=r.own s;let G:(WG cap Z)[k]?=! ! .ref l:=by
    ext WG;rw[Zv,]
    induction hc:cap[k]? with
    |none=>rw[hc]at c;rw[J7 c]
    |some o=>
     rw[hc]at c;let c:o=!j:=c;subst c;show some (Option.bind (!j) λj=>(Z[j]?).join)=_;rw[Option.bind_some,u];rfl
   let n:=(r.cap cap).setOwn (i:=k) (d:=d) (l:=l) v y E λi p e q=>by
    let(I,z):=eY q;cases z
   rw[MO G]at n;rw[n]
  .rw[r.cap cap]
 .rw[r.cap cap]
def Bf(cap:List (02 5))(k:5)(e:FA)(b:Tg)(f:FE):FE:=λa=>(e a).bind λc=>if WY (capO cap k a) b=6/\⇑c<00 then(yR (λx=>(JQ b x<|capO cap k a).bind f) c).bind λg=>.ok<|.lst g else .no
def iD{K:f'}         (o:kf K E (Bf cap c O t f) Z H Q):YZ cap (mS K E O) (gT t K) (tD K E f) Z H Q:=by
 let(B F p,r,n):=o;rw[jg B F p (r,(Res.need_bind n).mono (λb s J M P m wk=>?_) 004)]
 split at s
 .rename_i o;let(R,hz):=o;rw[(λi k u Z e=>k=⇑b-i/\i<=⇑b/\∃a g,Ext M P a e/\RS K B a e (capO cap c p) Z/\jc K a g u/\⇑g=i/\
   (yR (λx=>(JQ t x<|capO cap c p).bind f)<|b.drop i).need (λw=>yK K a e Q<|.lst<|g++w) (XW K E a e),(⇑b,9,Ub _,M,[],.refl m.fh,(r.step m).capO cap c,.nil,9,?_),?_)]
  .rw[(Res.need_bind s).mono (λw q=>(q).ext m) λ_ _ q=>q.ext m]
  rintro i k u Z2 e ⟨rfl,hi,a,g,z,A,C,hl,G⟩;let ly:=⇑C;rw[((),?_)];let(!S,T):=wk i a e z.ff z.fh;cases j:i<⇑b
  .let(go,U):=S j;rw[.inr (go,λx X y=>?_)];let(d Y,hd,h,i3):=U x X y;let n3:=IB hd G;rw[XZ (A.step h) i3 (Res.need_bind n3) λI Z' n4 hb N=>?_];let(b1,b2):=E4 R hb;rw[jg B Y I (N,n4.mono (λy n5 v F4 H4 l i4=>(⇑b-(i+1),(),9,j,F4,g++[y],(z.trans h).trans l,(N.step l).forget b1 b2,(jc.same (h.ff.trans l.ff) _ _ C).snoc i4,(),n5.mono (λw q=>?_) λ_ _ q=>q.ext<|h.trans l)) λ_ _ q=>q.ext h)];rw[Ul,];rw[q.ext<|h.trans l]
  .let he:i=⇑b:=()
   subst he;rw[.inl (T<|Zf _,λD L=>?_)];rw[UX]at G;let q:yK K a e Q (.lst<|g++[]):=G;rw[ZA]at q;rw[q D a _ (.keep A.ext.fh L _) L (Qe A.ext.fh L) (u,JO,C)]
 .rw[s.elim]
def oN(N)(cap)(c)(i:X.N.Nodup)(j:X.N[z]?=!y)(l:zP X.env.scope y)(A:X.calm=6)(n:K9 a X.env N X.N cap=6)(B:QI X E o b F)
 (G:∀p C s H r,QG (JS X a N p C s H r) o t)(I:∀p C s H r,QE (JS X a N p C s H r) E e f)(u:swapsWith (.ListComp e [(o,b,[],0)] a v) (! .Name y J) g.line X.env=pure 6:=by rfl)
 (w:X.fn y=6\/X.env.scope.names.lookup y=!.local:=by trivial)(L:∀x,foldedSetIterable b X.env x=pure x:=by intro _;rfl):
 QS X E m (.Assign [.Name y J] (.ListComp e [(o,b,[],0)] a v) g) (jA z<|Bf cap c F t f):=
 PS.weak (Lj u i j l w N cap A n B G I L) λT Z H h=>Lk (λ_ _ _ q=>iD q) h
@[simp]def bP(cap)(k)(c)(b)(f)(a):Bf cap k c b f a=(c a).bind λe=>if WY (capO cap k a) b=6/\⇑e<00 then(qg b f (capO cap k a) e).bind λg=>.ok<|.lst g else .no:=rfl
def KS(K:f')(f:YC->HP->Res (D×HP)):Sp:=λg H Q E=>∃F b a,jk F H/\jc K F b g/\wr K F H a/\(f b a).need (λp=>∀v c e,ExtW K F H a c e p.2->jf K c p.1 v->Q v e) (XW K E F<|qO H a)
section
variable   {K:f'}    {st:Stmt}
def MX (F:Fun K x h st f L)(S:FnScope N C (JY st))
 (M:∀c A b s H E,Room k (A.deeper<|envOfC h (JY st) s⁻¹ f c)->xm (qj (yw P w) P w K O m N h (JY st) f c A b s H E) (Ki st) (MU K E g)):
 FnOk P w K O m (yw P w) (k+1) f L C (KS K<|KD ⇑N ⇑C g):=by
 rw[F.okX S (λG H Q E=>qf λF I l=>xb λ_ i _ n=>?_) λc A b s H G Q E R=>qf λF I l=>xb λT i J n=>(_,M c A b s H E R,?_)]
 .unfold KD at n
  split at n
  .rw[⇑i,];lia
  .rw[n.elim]
 .unfold KD at n
  split at n
  .let t:RT K (F,qO H l,λ_=>8) (F,H,λ_=>8) F H (Qt ⇑N I) l (L2.start N G):=(RS.start T i,9,9,λa j=>(Km j).symm,λa d j=>((J a d j).1,Be j,(J a d j).2));rw[jC _ _ F _ l (t,(Res.need_bind n).mono (λp u v Z' U B2 X Y Z r i1=>?_) 004)]
   split at u
   .rename_i hd;let B:∀a,je p.2 a=8↔je l a=8:=λa=>by rw[Bd,Bd,hd]
    let e:=r.ext0 r.rs.ext;rw[u v X Y (Z,r.rs.ext.fh,λa o j q=>e.hh a o<|(Km j).trans q,λa h0 h1=>?_,r.lent,B) i1]
    induction z:je l a with
    |none=>rw[e.new a h0 λy=>h1<|(Km z).symm.trans y]
    |some d=>
     induction y:je p.2 a with
     |none=>ext
     |some d'=>rw[r.free y]
   .rw[u.elim]
  .rw[n.elim]
end
section
variable      {fe fo fi:FE}{fr:FA}    {pos pos' p:Pos}
def MY (c:zv X.prog X.w X.K X.mg X.base a k S (KS X.K l))(T:Thrown X E)(m:Room k X.A)(o:Gl X a)(r:QA X E (e::b) fr)
 (g:(a==010)=7:=by decide)(s:01 (e::b) X.env=%[7|011]::01 b X.env:=by rfl)(h:(backTo pos<|01 b X.env).any (·.1)=7:=by rfl):
 vd X E (.Call (.Name a p) (e::b) [] pos) (XB l fr):=PE.weak (AZ c T m o r g s h) λZ H Q u=>by
 let(B x F y z,t,n):=u;rw[jg x F y (t.rs,(Res.need_bind n).mono (λA C G I J f L=>?_) λ_ _ q=>q.ext<|t.ext0 t.rs.ext)];let j:=t.go f.ff<|t.rs.step f;show KS X.K l (G++[]) J Q E;rw[ZA,];rw[jg I A z (f.fh,L,j.lent,C.mono (λp M v N O w i=>?_) λ_ _ q=>q.ext j.hidden)];let(P,R):=j.call w;rw[M v P N O (f.ff.trans w.ff) R i]
def CV(a:YC->Res D)(fr:zp):xF:=λb c=>(fr b c).bind λp=>(a p.1).bind λd=>.ok %[d|p.2]
def am (c:zv X.prog X.w X.K X.mg X.base a k R (yt X.K l))(T:Thrown X E)(m:Room k X.A)(o:Gl X a)(r:vT X E (e::f) g)
 (h:(a==010)=7:=by decide)(s:01 (e::f) X.env=%[7|011]::01 f X.env:=by rfl)(i:(backTo pos<|01 f X.env).any (·.1)=7:=by rfl):
 vd X E (.Call (.Name a p) (e::f) [] pos) (CV l g):=PE.weak (AZ c T m o r h s i) λZ H Q u=>by
 let(B w F x y,t,n):=u;rw[jC B w F x y (t,(Res.need_bind n).mono (λp z A C G I J b L=>?_) 004)];show yt X.K l (A++[]) I Q E;rw[ZA,];rw[(G,p.1,b.rs.ext.fh,L,(Res.need_bind z).mono (λd M v N O j P=>M v C N O (J.trans j.ff) (b.go j.ff<|b.rs.step j) P) λ_ _ q=>q.ext<|b.ext0 b.rs.ext)]
def wJ(f:FT):wx:=λa c=>(f a).bind λb=>.ok %[b|c]
def MZ(h:QT X E e f):my X E e (wJ f):=PT.weak h λZ H Q=>qZ λB c F g m=>j5 λt n=>jg c F g (t.rs,(Res.need_bind n).mono (λb i j l a=>i c j l a.ff<|t.go a.ff<|t.rs.step a) λ_ _ q=>q.ext<|t.ext0 t.rs.ext)
def vA(a:Yh)(f:FT):mD:=λb c=>(f<|derI c a b).strict
def p0(is)(h:QT X E e a):cR X E e (vA is a):=PT.weak h λZ H Q=>qZ λB m F o r=>j5 λt n=>xa t.frz λb=>j8 λs f g=>jg B b _ (f.derI g is,(jG<|n).mono (λd i u j l=>i F j<|.grow t.rs.ext.fh l.hh) λc fs q=>q)
def wK(fo fi:FE):xF:=λb c=>(fo b).bind λo=>match o with
 |.adr a=>match je c a with
  |some (.dct e f)=>(fi b).bind λk=>(Res.ofO<|(Kg k).bind λq=>jO e f q).bind λz=>.ok %[z|c]
  |_=>.no
 |_=>.no
def pZ(m:X.A.units+1<cLine)(r:QE X E o fo)(s:QE X E i fi)(u:ve i):vd X E (.Subscript o i pos) (wK fo fi):=PE.weak (DV m r s u) λZ H Q A=>by
 let(B e F j Y,t,n):=A;rw[jg e F j (t.rs,(Res.need_bind n).mono (λd b v C H1 f G=>?_) λ_ _ q=>q.ext<|t.ext0 t.rs.ext)]
 split at b
 .rename_i a;obtain rfl:=jE.mp G
  split at b
  .rename_i ks ds I;let c:=t.go f.ff<|t.rs.step f;rw[jg e C j (c.rs,(Res.need_bind b).mono (λy J w L M g N=>?_) λ_ _ q=>q.ext<|t.ext0 c.rs.ext)];let l:=c.go g.ff<|c.rs.step g;have(xs,O,P,R):=l.lies I;have(z,h,q):=ji (Res.need_bind J);have(k,S,h):=Jg.mp h;have(x,T,U):=(ZQ k P R).1 z h;rw[(a,x,9,?_,q x e L M (f.ff.trans g.ff) l U)];rw[Y1 S N,<-T];rw[EB<|.inl O]
  .rw[b.elim]
 .rw[b.elim]
def Na(fo e:FE)(b:SD)(p:D×HP):Res Out2:=(fo b).bind λo=>match o with
 |.adr a=>match je p.2 a with
  |some (.dct c f)=>(e b).bind λk=>match Kg k with
   |some q=>if ⇑c<00 then .ok (.next b<|Qo p.2 a<|.dct (WZ c q)<|X1 c f q p.1)else .no
   |none=>.no
  |_=>.no
 |_=>.no
def CW(fo b:FE)(c:xF):ya:=λa e=>(c a e).bind<|Na fo b a
def aJ(x:X.A.units+1<cLine)(y:QE X E o fo)(z:QE X E i fi)(A:vd X E e C)(G:swapsWith e (! .Subscript o i pos') pos.line X.env=pure 7:=by rfl):
 u5 X E m (.Assign [.Subscript o i pos'] e pos) (CW fo fi C):=PS.weak (He x y z A G) λT Z H I=>by
 let(B J F l L,t,n):=I;rw[jC B J F l L (t,(Res.need_bind n).mono (λp M v r N H1 O b P=>jg r N l (b.rs,(Res.need_bind M).mono (λd c v2 Q H2 g R=>?_) λ_ _ q=>q.ext<|b.ext0 b.rs.ext)) 004)]
 split at c
 .rename_i a;obtain rfl:=jE.mp R;let h:=b.go g.ff<|b.rs.step g
  split at c
  .rename_i ks ds s;rw[jg r Q l (h.rs,(Res.need_bind c).mono (λk f w S H3 j U=>?_) λ_ _ q=>q.ext<|b.ext0 h.rs.ext)];let u:=h.go j.ff<|h.rs.step j
   split at f
   .rename_i q Y
    split at f
    .have(xs,h4,h5,h6):=u.lies s;let(ys,y1,y2,y3):=IL h5 h6 (jf.same (g.ff.trans j.ff) _ _ P);rw[(a,_,9,by rw[Y1 Y U,];rw[wy.k h4 ()],f Z _ S _ ((O.trans g.ff).trans j.ff)<|u.chg s (ys,by rw[JO,y1],y2,y3))]
    .rw[f.elim]
   .rw[f.elim]
  .rw[c.elim]
 .rw[c.elim]
end
def v5(K:f')(E:XK)(f:FA)(g:D):TA:=λZ H Q=>∃B F c,RS K B F H c Z/\(f c).need (λh=>∀e l a b,Ext F H a b->jc K a h e->H l=8->a l=8->zc K a b l g->Q (e++[.ref l]) b) (XW K E F H)
open Classical in
def vc(g:Addr->Res D):Res D:=if h:∃r,∀a,g a=r then Classical.choose h else .no
def aD  (h:∀a,g a=r):vc g=r:=by
 let b:∃r,∀a,g a=r:=(r,h);ext vc;rw[dif_pos b,];rw[(Wd b 0).symm.trans<|h 0]
def iK   (h:(vc g).need p q)(a):(g a).need p q:=by
 unfold vc at h
 split at h
 .grind
 .rw[h.elim]
def Ft(a:YC->HP->Res (D×HP))(b:D)(c:FA):FE:=λe=>(c e).bind λf=>vc λl=>(a (f++[.adr l]) [%[l|b]]).bind λp=>.ok p.1
def e6(h:QN X E e (dC d0))(a:01 [e] X.env=%[7|011]::01 [] X.env:=by rfl):PA X [e] (v5 X.K E jb d0):=PA.weak (WF h WQ a) λZ H Q=>qf λB F b=>j5 λr n=>jg B F b (r,λl c f e g i j=>n [] l c f e 9 g i j)
def Fu(g:QE X E e h)(i:PA X b (v5 X.K E j m))(o:01 (e::b) X.env=%[7|011]::01 b X.env:=by rfl):PA X (e::b) (v5 X.K E (J2 h j) m):=PA.weak (WF g i o) λZ H Q=>qf λB F c=>j5 λr n=>jg B F c (r,(Res.need_bind n).mono (λx p v s J a t=>jg B s c (r.step a,(Res.need_bind p).mono (λL u w l y z f A C G I=>u (v::w) l y z (a.trans f) (.mk (jf.same f.ff _ _ t) A) (Qe a.hh C) G I) λ_ _ q=>q.ext a)) 004)
def gn (c:zv X.prog X.w X.K X.mg X.base b k ps (KS X.K t))(T:Thrown X E)(C:Room k X.A)(G:Gl X b)(I:PA X (e::g) (v5 X.K E J h))
 (j:(b==010)=7:=by decide)(L:01 (e::g) X.env=%[7|011]::01 g X.env:=by rfl)(m:(backTo s<|01 g X.env).any (·.1)=7:=by rfl):
 QE X E (.Call (.Name b p) (e::g) [] s) (Ft t h J):=PE.weak (AZ c T C G I j L m) λZ H Q M=>by
 let(B F N,r,n):=M;rw[jg B F N (r,(Res.need_bind n).mono (λO P R l u x f S h1 h2 h3=>?_) 004)];show KS X.K t (R++[.ref l]++[]) x Q E;rw[ZA,];let at_:∀{a:Addr},a≠l->je [%[l|h]] a=8:=λz=>by rw[Qj,Ze z];rfl
 let ne:∀a o,H a=!o->a≠l:=by grind
 let U:wr X.K u x [%[l|h]]:=λa d q=>by
  simp_all[Qj]
 rw[jg u (O++[.adr l]) [%[l|h]] (f.fh,S.snoc<|jE.mpr 9,U,(Res.need_bind<|iK P l).mono (λp Y v F2 H2 w i=>?_) λc fs q=>?_)]
 .rw[Y v F2 H2 (f.ff.trans w.ff,w.fh,λa o q=>w.hh a o (at_<|ne a o q)<|f.hh a o q,λa q0 A=>w.new a (f.new a q0 A) λz=>?_) i]
  induction y:H a with
  |none=>rw[A y]
  |some o=>rw[f.hh a o y]at z;cases z
 .rw[q.ext (f.ff,λa o y=>?_,λa o y=>?_,f.new)]
  .let na:a≠l:=by grind
   rw[Km (at_ na),];rw[f.fh a o y]
  .rw[Km (at_<|ne a o y),];rw[f.hh a o y]
def pE  {K:f'}      :FnOk P w K b a (yw P w) k f c e (KS K λ_ _=>.no):=(λ_ _ _ _=>qf λ_ _ _=>xb λ_ _ _ n=>n.elim,λ_ _ _ _ _ _ _ _ _ _ _ _ _=>qf λ_ _ _=>xb λ_ _ _ n=>n.elim)
structure Ev where
 P:Program
 w:World
 K:f'
 mg:Yd
 base:Heap
 C:5->Addr
 t:5->Tok
abbrev Ca(e:Ev):=wI e.P e.w e.K e.mg e.base
abbrev zS(e:Ev):=zv e.P e.w e.K e.mg e.base
def km(K:f')(T:5->Stmt):List (Str×5)->4
 |[]=>True
 |p::r=>uu K p.1 (T p.2)/\km K T r
def Nn(K:f'):Yi->4
 |[]=>True
 |x::r=>W.nsIn K 000 x=!8/\Nn K r
def dfs_cons{K:f'}    (h:uu K x (T i))(q:km K T r):km K T (%[x|i]::r):=(h,q)
def nn_cons{K:f'}  (h:W.nsIn K 000 x=!8)(q:Nn K r):Nn K (x::r):=(h,q)
theorem Fv{K:f'} :∀{l:List (Str×5)}{j:5}{p:Str×5},km K T l->l[j]?=!p->uu K p.1 (T p.2)
 |[],j,p,_,h=>by simp at h
 |q::r,0,p,d,h=>by
  obtain rfl:=by simpa using h
  rw[d.1]
 |q::r,j+1,p,d,h=>Fv d.2 (by simpa using h)
theorem Nb{K:f'}  (X:K.In h)(G:h.Ns 000 a):∀{l:Yi},Nn K l->∀x∈l,a x=8
 |[],_,x,q=>by simp at q
 |y::r,d,x,q=>by
  obtain z|z:=UY.mp q
  .rw[z,];rw[W.mg_none_of X G d.1]
  .rw[Nb X G d.2 x z]
abbrev cU(mg:Yd)(bl:Yi):4:=∀x∈bl,mg x=8
def J8   (m:cU a bl)(h:x∈bl:=by decide):a x=8:=m x h
structure Al(e:Ev)(T:5->Stmt)(tbl:List (Str×5))(bl:Yi):4 where
 h:∃h,e.K.In h/\h.Ns 000 e.mg
 d:km e.K T tbl
 m:cU e.mg bl
section
variable {e:Ev}{T:Nat->Stmt}{tbl:List (Str×Nat)}{bl:Yi}{x:Str}{k:Nat}{ps:Yi}{sp:Sp}
abbrev Nc(x:Str)(st:Stmt)(ps:Yi):4:=∀(kV doc pm:Value)(an:02 Addr)(cdv ct:Value)(us:Ye),⇑us=⇑ps->bindArgs (W.fnOf x x (XS st) (Ki st) (JY st) .none kV doc pm an cdv ct) (us,[])=pure (ps.zip us)
def qW(a:Al e T tbl bl)(j i:5)(ok:∀{f:Addr}{b:FuncData},Fun e.K x x (T i) f b->FnOk e.P e.w e.K e.mg e.base yL k f b ps sp)(h:tbl[j]?=!%[x|i]:=by rfl)
 (c:Nc x (T i) ps:=by intro _ _ _ _ _ _;first|rw[rW 002]|rw[dS λ_ _ _=>9]|rw[dU λ_=>9]|rw[rV λ_ _ _ _=>9]|rw[dR λ_ _ _ _ _=>9]|rw[us6 λ_ _ _ _ _ _=>9]):Ca e x k ps sp:=by
 let(-_,X,G):=a.h;rw[(Fv a.d h).callee X G ok c]
def yQ(a:Al e T tbl bl)(j i:5)(ok:∀{f:Addr}{b:FuncData},Fun e.K x x (T i) f b->FnOk e.P e.w e.K e.mg e.base (yw e.P e.w) k f b ps sp)(h:tbl[j]?=!%[x|i]:=by rfl)
 (c:autoParam (Nc x (T i) ps) qW._auto_2):zS e x k ps sp:=by
 let(-_,X,G):=a.h;rw[(Fv a.d h).calleeX X G ok c]
end
def j7{X:Cx}(h:X.N.Nodup:=by dsimp only[JS,qj,Cx.nox];decide+kernel):X.N.Nodup:=h
def qv  (i:5)  (b:X.N[i]?=!x:=by rfl)(c:autoParam (dA X.env.scope x) pv._auto_2)(e:(x==010)=7:=by decide)(a:(x==("__classdict__":Str))=7:=by decide):QE X E (.Name x f) (ja i):=PE.weak (pv i b c e a) λZ H Q g=>by
 let(B F l,r,n):=g;unfold ja at n
 split at n
 .rename_i d q;let(-v,h,j):=r.val q;rw[(v,h,n v F H (.refl r.ext.fh) j)]
 .rw[n.elim]
inductive Wr(α:Type)where
 |ok(a:α)|ex(c:Str)(fs:YC)|no|new(hp:HP)(k:Addr->Wr α)
def Wr.bind{α β:Type}:Wr α->(α->Wr β)->Wr β
 |.ok a,g=>g a
 |.ex c fs,_=>.ex c fs
 |.no,_=>.no
 |.new e k,g=>.new e λa=>(k a).bind g
def Wr.need{α:Type}:Wr α->(α->4)->(Str->YC->4)->4
 |.ok a,p,_=>p a
 |.ex c fs,_,q=>q c fs
 |.no,_,_=>False
 |.new e k,p,q=>∀a,je e a=8->(k a).need p q
def Wr.of{α:Type}:Res α->Wr α
 |.ok a=>.ok a
 |.ex c fs=>.ex c fs
 |.no=>.no
@[simp]theorem Wr.bind_ok (a:α)(g:α->Wr β):(Wr.ok a).bind g=g a:=rfl
@[simp]def uz (c:HP)(k:Addr->Wr α)(g:α->Wr β):(Wr.new c k).bind g=.new c λa=>(k a).bind g:=rfl
@[simp]def uy (c:HP)(k:Addr->Wr α)(p:α->4)(q:Str->YC->4):(Wr.new c k).need p q=∀a,je c a=8->(k a).need p q:=rfl
@[simp]def ms (a:α):Wr.of (Res.ok a)=.ok a:=rfl
theorem Wr.need_bind   {g:α->Wr β}:∀{r:Wr α},(r.bind g).need p q↔r.need (λa=>(g a).need p q) q
 |.ok _=>.rfl
 |.ex _ _=>.rfl
 |.no=>.rfl
 |.new _ k=>forall_congr' λa=>imp_congr .rfl<|Wr.need_bind
theorem Wr.need.mono {p e:α->4} (f:∀a,p a->e a)(i:∀c fs,q c fs->j c fs):∀{r:Wr α},r.need p q->r.need e j
 |.ok _,h=>f _ h
 |.ex _ _,h=>i _ _ h
 |.no,h=>h
 |.new _ k,h=>λa z=>Wr.need.mono f i<|h a z
def qk    :(Wr.of r).need p q↔r.need p q:=by cases r<;>rw[.rfl]
def qs   {g:α->Wr β}{r:Wr α}(h:(r.bind g).need p q) (k:∀a,(g a).need p q->c a):r.need c q:=(Wr.need_bind.mp h).mono k λ_ _ z=>z
def zN   {g:α->Wr β} (h:((Wr.of r).bind g).need p q) (k:∀a,(g a).need p q->e a)(f:∀c fs,q c fs->i c fs):r.need e i:=(qk.mp<|Wr.need_bind.mp h).mono k f
def dr(e:HP):5->D->D
 |0,d=>d
 |n+1,.adr a=>match je e a with
  |some d=>dr e n d
  |none=>.adr a
 |n+1,.lst b=>.lst (b.map<|dr e n)
 |n+1,.tup b=>.tup (b.map<|dr e n)
 |n+1,.dct f b=>.dct f (b.map<|dr e n)
 |n+1,.ins c fs b=>.ins c fs (b.map<|dr e n)
 |_+1,d=>d
def drI(n:5)(b:HP):Yh->SD->SD
 |[],a=>a
 |i::is,a=>drI n b is (match a[i]? with
  |some (~~~d)=>a.set i (~~~dr b n d)
  |_=>a)
section
variable {K:f'}{B B':Bs}{F H F' H':Hp}{sd:SD}{hp hp':HP}{Z: St}
theorem jc.mapOf (h:∀d v,jf K F d v->jf K F (g d) v):∀{c:YC}{e:YB},jc K F c e->jc K F (c.map g) e
 |[],_,i=>i
 |d::c,e,i=>by
  let(x r,f,j,l):=jl.mp i;rw[jl.mpr (x,r,f,h d x j,jc.mapOf h l)]
theorem jf.dr(l:∀a d,je hp a=!d->jf K F d 016):∀(n:5)(d:D)(v:V),jf K F d v->jf K F (dr hp n d) v
 |0,_,_,h=>h
 |n+1,.adr a,v,h=>by
  obtain rfl:=jE.mp h;ext L2.DL.dr
  split
  .rename_i d q;rw[jf.dr l n d _<|l a d q]
  .rw[h]
 |n+1,.lst o,v,h=>by
  let(a e,f,i,j):=jo.mp h;rw[jo.mpr (a,e,f,i,jc.mapOf (jf.dr l n) j)]
 |n+1,.tup o,v,h=>by
  let(a e,f,i,j):=js.mp h;rw[js.mpr (a,e,f,i,jc.mapOf (jf.dr l n) j)]
 |n+1,.dct u o,v,h=>by
  let(a e,f,i,p,j):=jS.mp h;rw[jS.mpr<|jR a e (f,i,p,jc.mapOf (jf.dr l n) j)]
 |n+1,.ins c fs o,v,h=>by
  let(a C r e,f,s,i,p,j):=jM.mp h;rw[jM.mpr<|jW a C r e (f,s,i,p,jc.mapOf (jf.dr l n) j)]
 |_+1,.non,_,h=>h
 |_+1,.bl _,_,h=>h
 |_+1,.int _,_,h=>h
 |_+1,.str _,_,h=>h
 |_+1,.ty _,_,h=>h
 |_+1,.scr _,_,h=>h
 |_+1,.exc _,_,h=>h
 |_+1,.exr _ _,_,h=>h
 |_+1,.ucl _,_,h=>h
 |_+1,.dcf _ _,_,h=>h
 |_+1,.pin _ _,_,h=>h
theorem RS.drI(e:∀a d,je hp a=!d->jf K F d 016)(n:5):∀(c:Yh){sd:SD},RS K B F H sd Z->RS K B F H (drI n hp c sd) Z
 |[],sd,r=>r
 |i::c,sd,r=>by
  ext L2.DL.drI
  split
  .rename_i d h;rw[RS.drI e n c<|r.reval h λv q=>jf.dr e n d v q]
  .rw[RS.drI e n c r]
def Ks:5->D->Bool
 |n+1,.tup a=>a.all (Ks n)
 |_,d=>Um d
theorem xB (h:∀d v,g d=6->jf K F d v->jf K F' d v):∀{c:YC}{e:YB},c.all g=6->jc K F c e->jc K F' c e
 |[],_,_,i=>i
 |d::c,e,s,i=>by
  let(x r,f,j,l):=jl.mp i;rw[UG,Ud]at s;rw[jl.mpr (x,r,f,h d x s.1 j,xB h s.2 l)]
theorem yI(e:∀a c,F a=! .tup c->F' a=! .tup c):∀(n:5)(d:D)(v:V),Ks n d=6->jf K F d v->jf K F' d v
 |0,d,v,s,h=>h.scal (by cases d<;>rw[s])
 |n+1,d,v,s,h=>by
  cases d with
  |tup l=>
   let(a c,f,i,j):=js.mp h;rw[js.mpr (a,c,f,.of<|e a c i,xB (yI e n) s j)]
  |_=>rw[h.scal s]
def zc.noTup   (h:zc K F H a d)(e:H a=Option.some o)(i:YB):o ≠ .tup i:=λz=>by
 cases d with
 |lst f=>let(-_,q,_):=h;ext
 |dct j f=>let(-_,q,_):=h;ext
 |ins c fs f=>let(_ _ _,_,q,_):=h;ext
 |_=>rw[h]
def RT.frzA(t:RT K B B' F H sd hp Z):jk F (xj F B'.H0 hp)/\RS K B (xj F B'.H0 hp) H sd Z/\∀a d,je hp a=!d->jf K (xj F B'.H0 hp) d 016:=by
 let E:∀b d,je hp b=!d->xj F B'.H0 hp b=B'.H0 b:=λb d e=>by ext xj;rw[e,]
 let n:∀b,je hp b=8->xj F B'.H0 hp b=F b:=λb e=>by ext xj;rw[e,]
 let f:jk F (xj F B'.H0 hp):=λb u e=>by
  induction q:je hp b with
  |none=>ext
  |some d=>rw[t.free q]at e;rw[J7 e]
 rw[(f,((?_,λb u e=>?_,t.sub.trans t.rs.ext.hh,λb Q j=>?_),t.rs.len,λq=>xa (t.rs.val q) λv=>j5 λj G=>(v,j,jf.same f _ _ G),λ{i p e}q=>?_,t.rs.apart),λb e r=>?_)]
 .rw[<-t.f0];rw[t.rs.ext.ff.trans f]
 .cases q:je hp b with
  |none=>rw[n b q]at e;rw[t.rs.ext.fh _ _ e]
  |some d=>rw[E b d q]at e;rw[t.rs.ext.hh _ _ e]
 .induction q:je hp b with
  |none=>rw[n b q,];rw[t.rs.ext.new b (by rwa[t.f0,])<|by rwa[t.out b q,]]
  |some d=>rw[Zn (t.obj b d q).2.1 j]
 .let(-l,I,s,R,J,L):=t.rs.own q;let S:je hp l=8:=by
   induction z:je hp l with
   |none=>rfl
   |some T=>rw[Zn 9<|t.no_own z s]
  rw[(l,I,Qe t.sub s,(),J.ext f λ_ q=>q,λz=>by rw[<-t.pa];rw[L z])]
 .let(!U,X,y):=t.obj b e r;let(o,O):=y.has;rw[jf.same (λc u q=>?_) _ _<|y.frz O<|t.free r];cases z:c=b
  .simp_all[JO]
  .rw[JI z]at q;rw[f _ _ q]
def RT.thaw(t:RT K B B' F H sd hp Z) (e:Ext (xj F B'.H0 hp) H c j):RT K B B' (qO c hp) j sd hp Z/\jk F (qO c hp)/\∀a f,c a=! .tup f->qO c hp a=! .tup f:=by
 let(!p,u,l):=t.frzA;let i:jk F (qO c hp):=λa o q=>by
  cases z:je hp a with
  |none=>rw[Km z,];rw[e.ff _ _<|p _ _ q]
  |some d=>rw[t.free z]at q;rw[J7 q]
 let r:Ext F H (qO c hp) j:=(i,λa o q=>by
  cases z:je hp a with
  |none=>rw[Km z]at q;rw[e.fh _ _ q]
  |some d=>rw[Be z]at q;rw[J7 q],e.hh,λa v s=>by
  cases z:je hp a with
  |none=>rw[Km z,];rw[e.new a (by simp_all[xj]) s]
  |some d=>rw[Be z])
 rw[(t.go i<|t.rs.step r,i,λa f q=>?_)]
 induction z:je hp a with
 |none=>rwa[Km z,]
 |some d=>
  have(_,_,n):=t.obj a d z;have(o,l):=n.has;let y:=e.ff a o (by simp_all[xj]);rw[Zn ()<|n.noTup l f]
def RT.newO(t:RT K B B' F H sd hp Z)   (f:H a=8)(h:zc K F (upd H a o) a d):je hp a=8/\RT K B (B'.F0,upd B'.H0 a o,B'.pa) F (upd H a o) sd (%[a|d]::hp) Z:=by
 let j:je hp a=8:=by
  induction z:je hp a with
  |none=>rfl
  |some U=>
   let(u,s):=(t.lies z).has
   ext
 let n:=Qe t.rs.ext.fh f;let X:=Qe t.rs.ext.hh f;let v:B.H0 a=8:=by rwa[<-t.out a j]
 rw[(j,((t.rs.ext.ff,BS o t.rs.ext.fh n,λb u e=>?_,λb E G=>?_),t.rs.len,t.rs.val,λ{i p e}q=>?_,t.rs.apart),t.f0,t.pa,λb c=>?_,λb e c=>?_)]
 .let e:upd B'.H0 a o b=!u:=e;cases z:b=a
  .simp_all[JO]
  .rw[JI z]at e ⊢;rw[t.rs.ext.hh _ _ e]
 .cases z:b=a
  .rwa[z,]
  .rw[t.rs.ext.new b E λy=>G<|by show upd B'.H0 a o b=8;rwa[JI z,]]
 .let(-l,I,J,L,r,O):=t.rs.own q;let ne:l≠a:=λz=>by
   let(u,s):=r.has
   ext
  rw[(l,I,(JI ne).trans J,L,r.ext (.refl _)<|λu Q=>by rwa[JI ne,],λz=>(O z).mono λu Q=>by rwa[JI ne,])]
 .rw[Qj]at c;cases z:b=a
  .ext
  .rw[Ze z]at c;show upd B'.H0 a o b=B.H0 b;rw[JI z,];rw[t.out b c]
 .rw[Qj]at c;cases z:b=a
  .rw[Zd z]at c;obtain rfl:=Zqi c;subst z;rw[(by rw[<-t.f0];rw[Qe t.rs.ext.ff n],v,h.ext (.refl _) λu q=>by simp_all[JO])]
  .rw[Ze z]at c;let(!R,S,T):=t.obj b e c;rw[(R,S,T.ext (.refl _) λu q=>by show upd B'.H0 a o b=!u;rwa[JI z,])]
structure ExtV(K:f')(F H:Hp)(hp:HP)(F' H':Hp)(hp':HP):4 where
 ff:jk F F'
 fh:jk F' H'
 hh:∀a o,je hp a=8->H a=!o->H' a=!o
 new:∀a,F a=8->H a≠8->F' a=8
 len:wr K F' H' hp'
 dom:∀a,je hp' a=8->je hp a=8
 frs:∀a,je hp a=8->je hp' a≠8->H a=8
def RT.callV(t:RT K B B' F H sd hp Z)(w:ExtV K F H hp F' H' hp'):∃I,RT K B I F' H' sd hp' Z:=by
 let X:∀a,(match je hp' a with
  |none=>B'.H0 a
  |some _=>H' a)=if je hp' a=8 then B'.H0 a else H' a:=λa=>by grind
 rw[((B'.F0,λa=>match je hp' a with
  |none=>B'.H0 a
  |some _=>H' a,B'.pa),((t.rs.ext.ff.trans w.ff,w.fh,λa o e=>?_,λa J c=>?_),t.rs.len,λq=>let(v,L,h2):=t.rs.val q;(v,L,jf.same w.ff _ _ h2),λ{i p e}q=>?_,t.rs.apart),t.f0,t.pa,λa f=>?_,λa d f=>?_)]
 .let e:(match je hp' a with
   |none=>B'.H0 a
   |some _=>H' a)=!o:=e
  cases z:je hp' a with
  |none=>rw[z]at e;rw[w.hh a o (w.dom a z)<|t.rs.ext.hh _ _ e]
  |some d=>ext
 .let c:(match je hp' a with
   |none=>B'.H0 a
   |some _=>H' a)≠8:=c
  cases z:je hp' a with
  |none=>
   rw[z]at c;rw[w.new a (t.rs.ext.new a J c) λy=>c<|Qe t.rs.ext.hh y]
  |some d=>rw[(w.len a d z).1]
 .have(l,O,Q,R,r,S):=t.rs.own q;let n:je hp l=8:=by
   induction z:je hp l with
   |none=>rfl
   |some T=>rw[Zn 9<|t.no_own z Q]
  have(o,s):=r.has;let U:je hp' l=8:=by
   induction z:je hp' l with
   |none=>rfl
   |some T=>
    let:=w.frs l n (by rw[z,];simp);rw[s]at this;rw[J7 this.symm]
  rw[(l,O,?_,w.new l R<|by rw[s,];simp,r.ext w.ff λu q=>w.hh _ _ n q,λz=>(S z).mono λu q=>w.hh _ _ n q)]
  ext
 .show(match je hp' a with
   |none=>B'.H0 a
   |some _=>H' a)=B.H0 a
  rw[f,];rw[t.out a<|w.dom a f]
 .let j:B.F0 a=8/\B.H0 a=8:=by
   induction z:je hp a with
   |none=>
    let E:=w.frs a z (by rw[f,];simp);rw[(by rw[<-t.f0];rw[Qe t.rs.ext.ff<|Qe t.rs.ext.fh E],by rw[<-t.out a z];rw[Qe t.rs.ext.hh E])]
   |some G=>rw[((t.obj a G z).1,(t.obj a G z).2.1)]
  rw[(j.1,j.2,(w.len a d f).2.ext (.refl _) λo q=>?_)]
  ext
end
abbrev FV:=SD->HP->Wr (D×HP)
abbrev vk:=SD->HP->Wr (YC×HP)
abbrev m9:=SD->HP->Wr (Bool×HP)
def cS(K:f')(B:Bs)(F:Hp)(c:SD)(Z:St)(Q:VK)(p:D×HP):4:=∀v e a b,jk F a->RT K B e a b c p.2 Z->jf K a p.1 v->Q v b
def tDV(K:f')(E:XK)(f:FV):TE:=λZ H Q=>∃B c F a b,RT K B c F H a b Z/\(f a b).need (cS K B F a Z Q) (XW K E B.F0 B.H0)
abbrev QV(X:Cx)(E:XK)(e:Expr)(f:FV):4:=PE X e<|tDV X.K E f
def sx(K:f')(E:XK)(f:vk):TA:=λZ H Q=>∃B h F a c,RT K B h F H a c Z/\(f a c).need (λp=>∀e i b g,jk F b->RT K B i b g a p.2 Z->jc K b p.1 e->Q e g) (XW K E B.F0 B.H0)
abbrev mx(X:Cx)(E:XK)(es:List Expr)(f:vk):4:=PA X es<|sx X.K E f
def sw(K:f')(E:XK)(f:m9):TT:=λZ H Q=>∃B g F a b,RT K B g F H a b Z/\(f a b).need (λp=>∀h c e,jk F c->RT K B h c e a p.2 Z->Q p.1 e) (XW K E B.F0 B.H0)
abbrev cQ(X:Cx)(E:XK)(e:Expr)(f:m9):4:=PT X e<|sw X.K E f
section
variable    {a b e o i:Expr}  {fe fa fb fo fi:FE}   {fr:vk}
def vL(f:FE):FV:=λc g=>(Wr.of<|f c).bind λd=>.ok %[d|g]
def JV(h:QE X E e fe):QV X E e (vL fe):=PE.weak h λZ H Q=>qZ λB f F g r=>j5 λt n=>jg f F g (t.rs,zN n (λd j v l m c p=>j v f l m c.ff (t.go c.ff<|t.rs.step c) p) λ_ _ q=>q.ext<|t.ext0 t.rs.ext)
def yM(k:5)(g:Yh)(f:FE):FV:=λh c=>(Wr.of (f<|drI k c g h).strict).bind λd=>if Ks 08 d then .ok %[d|c]else .no
def W6(k:5)(g:Yh)(h:QE X E e fe):QV X E e (yM k g fe):=PE.weak h λZ H Q j=>by
 let(B l F A C,t,n):=j;let(!G,m,p):=t.frzA;rw[jg B _ _ (m.drI p k g,(jG<|qk.mp<|Wr.need_bind.mp n).mono (λd f v I r s u=>?_) λc fs q=>q)]
 split at f
 .rename_i w;let(!x,y,z):=t.thaw s;rw[f v l _ r y x<|yI z 08 d v w u]
 .rw[f.elim]
def y8(k:5)(g:Yh)(f:FT):m9:=λh c=>(Wr.of (f<|drI k c g h).strict).bind λd=>.ok %[d|c]
def Ae(k:5)(f:Yh)(h:QT X E e g):cQ X E e (y8 k f g):=PT.weak h λZ H Q j=>by
 let(B l F v w,t,n):=j;rw[jg B _ _ (t.frzA.2.1.drI t.frzA.2.2 k f,(jG<|qk.mp<|Wr.need_bind.mp n).mono (λd m x p r=>?_) λc fs q=>q)];let(!s,u,y):=t.thaw r;rw[m l _ p u s]
def yN(o:D)(q:D×HP):Wr (D×HP):=match o with
 |.adr a=>match je q.2 a with
  |some (.lst c)=>(Wr.of<|.ofO<|ju (.lst c) q.1).bind λz=>.ok %[z|q.2]
  |_=>.no
 |_=>.no
def zG(fo fi:FV):FV:=λc f=>(fo c f).bind λp=>(fi c p.2).bind<|yN p.1
def Y6(m:QV X E o r)(s:QV X E i u)(A:A1 i):QV X E (.Subscript o i C) (zG r u):=PE.weak (BO rP m s A) λZ H Q G=>by
 let(B I F g J,t,n):=G;rw[jC B I F g J (t,qs n λp L v M N H1 O P h=>jC B M N g p.2 (P,qs L λq c w R S T U j Y=>?_))];unfold yN at c
 split at c
 .rename_i a f;rw[f]at h;obtain rfl:=jE.mp h
  split at c
  .rename_i es ha;have(xs,g1,g2):=j.lies ha;have(z,l,k):=ji (qk.mp<|Wr.need_bind.mp c);let(y,hp2):=q;cases y with
   |int k'=>
    have(x,hx,ix):=Cy g2 l;rw[jW a xs k' x (9,jd.mp Y,qP.of g1,hx,k _ R S T (O.trans U) j ix)]
   |_=>rw[J7 l]
  .rw[c.elim]
 .rw[c.elim]
def qb:vk:=λ_ c=>.ok %[[]|c]
def JJ(f:FV)(g:vk):vk:=λc h=>(f c h).bind λp=>(g c p.2).bind λq=>.ok %[p.1::q.1|q.2]
def Xg:mx X E [] qb:=PA.weak WQ λZ H Q=>qZ λB c F f g=>j5 λt n=>n [] c F H (.refl _) t .nil
def Q9(h:QV X E e j)(l:mx X E c fr)(m:01 (e::c) X.env=%[7|011]::01 c X.env:=by rfl):mx X E (e::c) (JJ j fr):=PA.weak (WF h l m) λZ H Q=>qZ λB r F f s=>j5 λt n=>jC B r F f s (t,qs n λp u v w x O y z A=>jC B w x f p.2 (z,qs u λq C G I J L g M N=>C (v::G) I J L (y.trans g) M<|.mk (jf.same g _ _ A) N))
def qH(fr:vk):FV:=λc f=>(fr c f).bind λp=>if ⇑p.1<=1000 then .new p.2 λa=>.ok %[.adr a|%[a|.lst p.1]::p.2]else .no
def Af(h:mx X E g fr):QV X E (.List g j) (qH fr):=PE.weak (GI h) λZ H Q l=>by
 let(B m F r s,t,n):=l;rw[jC B m F r s (t,qs n λp c u C v G w x f=>?_)]
 split at c
 .let I:=⇑f;rw[(small (),λq y=>?_)];let(z,A):=x.newO (d:=.lst p.1) y (u,JO,f);rw[c q z _ _ v _ w A<|jE.mpr 9]
 .rw[c.elim]
def mw(K:f')(j:YC->HP->Wr (D×HP)):Sp:=λl H Q _=>∃F f c,jk F H/\jc K F f l/\wr K F H c/\(j f c).need (λp=>∀v g h,ExtV K F H c g h p.2->jf K g p.1 v->Q v h) (XW K E0 F<|qO H c)
def XC(c:YC->HP->Wr (D×HP))(fr:vk):FV:=λf g=>(fr f g).bind λp=>c p.1 p.2
def Fw     (c:wI X.prog X.w X.K X.mg X.base f k U (mw X.K r))(s:Room k X.A)(u:Gl X f)(x:mx X E0 (e::g) fr)
 (j:(f==010)=7:=by decide)(y:01 (e::g) X.env=%[7|011]::01 g X.env:=by rfl)(l:(backTo m<|01 g X.env).any (·.1)=7:=by rfl):
 QV X E0 (.Call (.Name f p) (e::g) [] m) (XC r fr):=PE.weak (A6 c s u x j y l) λZ H Q z=>by
 let(B A F C E,t,n):=z;rw[jC B A F C E (t,qs n λp G I Y J L M h N=>?_)];show mw X.K r (I++[]) L Q E0;rw[ZA,];rw[jg J p.1 p.2 (h.rs.ext.fh,N,h.lent,G.mono (λq O v P R w i=>?_) λ_ _ q=>q.ext h.hidden)];let(S,T):=h.callV w;rw[O v S P R (M.trans w.ff) T i]
end
inductive Out3 where
 |next(sd:SD)(hp:HP)|ret(d:D)(hp:HP)|brk(sd:SD)(hp:HP)|cont(sd:SD)(hp:HP)
def ka(K:f')(B:Bs)(F:Hp)(T:Ends):Out3->4
 |.next c e=>∀Z f a b,jk F a->RT K B f a b c e Z->T.nx Z b
 |.brk c e=>∀Z f a b,jk F a->RT K B f a b c e Z->T.bk Z b
 |.cont c e=>∀Z f a b,jk F a->RT K B f a b c e Z->T.ct Z b
 |.ret d e=>∀v Z c f a b,jk F a->RT K B f a b c e Z->jf K a d v->T.rt v b
def ka.mono{K:f'}    (h:ka K B F T o)(e:jk F p):ka K B p T o:=by
 cases(o)with
 |next l n=>rw[λZ c f j s r=>h Z c f j (e.trans s) r]
 |brk l n=>rw[λZ c f j s r=>h Z c f j (e.trans s) r]
 |cont l n=>rw[λZ c f j s r=>h Z c f j (e.trans s) r]
 |ret d n=>rw[λv Z l c f j s r i=>h v Z l c f j (e.trans s) r i]
abbrev xu:=SD->HP->Wr Out3
def dX(K:f')(E:XK)(g:xu):TS:=λT Z H=>∃B c F a b,RT K B c F H a b Z/\(g a b).need (ka K B F T) (XW K E B.F0 B.H0)
abbrev VS(X:Cx)(E:XK)(st:Stmt)(g:xu):4:=PS X st<|dX X.K E g
abbrev vP(X:Cx)(E:XK)(st:List Stmt)(g:xu):4:=xm X st<|dX X.K E g
noncomputable def rX(b:HP):Out->Wr Out3
 |.next a=>.ok (.next a b)
 |.ret _=>.no
 |.brk a=>.ok (.brk a b)
 |.cont a=>.ok (.cont a b)
section
variable    {st:Stmt}  {g:FS}{g1 g2:xu}  {o i e:Expr}
def zL(g:FS):xu:=λa b=>(Wr.of<|g a).bind<|rX b
def Fx(h:QS X E m st g):VS X E st (zL g):=PS.weak h λT Z H=>qZ λB j F p u=>j5 λt n=>jg j F p (t.rs,zN n (λo l=>by
 cases(o)with
 |next a=>rw[λb c f s r=>l b j c f s<|t.go s r]
 |brk a=>rw[λb c f s r=>l b j c f s<|t.go s r]
 |cont a=>rw[λb c f s r=>l b j c f s<|t.go s r]
 |ret d=>rw[l.elim]) λ_ _ q=>t.xw q)
def Ag:xu:=λa b=>.ok<|.next a b
def zK(g2:xu):Out3->Wr Out3
 |.next a b=>g2 a b
 |o=>.ok o
def jV(g1 g2:xu):xu:=λa b=>(g1 a b).bind<|zK g2
def Fy:vP X E [] Ag:=xm.weak Aw λT Z H=>qZ λB a F b c=>j5 λt n=>n Z a F H (.refl _) t
def KU(h:VS X E st g1):vP X E [st] g1:=BH h
def Kh(h:VS X E st g1)(j:vP X E f g2):vP X E (st::f) (jV g1 g2):=xm.weak (YU h j) λT Z H l=>by
 let(B m F p r,t,n):=l;rw[jC B m F p r (t,qs n λo c=>?_)]
 cases(o)with
 |next b a=>rw[λx u v y s w=>jC B u v b a (w,c.mono (λo q=>q.mono s) 004)]
 |ret d a=>rw[c]
 |brk b a=>rw[c]
 |cont b a=>rw[c]
def zw(f:FV):xu:=λa b=>(f a b).bind λp=>.ok<|.ret p.1 p.2
def Fz(h:QV X E e b):VS X E (.Return (!e) c) (zw b):=PS.weak (Ax h) λT Z H=>qZ λB f F a j=>j5 λt n=>jC B f F a j (t,qs n λp l v m q r s u w=>l v Z a m q r s u w)
def CY(f:FV):xu:=λa b=>(f a b).bind λp=>.ok<|.next a p.2
def aH(h:QV X E e b)(c:swapsWith e 8 a.line X.env=pure 7:=by rfl):VS X E (.Expr e a) (CY b):=PS.weak (YV h c) λT Z H=>qZ λB f F j l=>j5 λt n=>jC B f F j l (t,qs n λp m v q r s u w x=>m Z q r s u w)
def xK(i:5)(f:FV):xu:=λa b=>(f a b).bind λp=>.ok<|.next (a.set i<|~~~p.1) p.2
def Xh{i:5}  (c:X.N.Nodup)(f:X.N[i]?=!x)(h:zP X.env.scope x)(j:QV X E e l)(m:swapsWith e (! .Name x a) q.line X.env=pure 7:=by rfl)(r:X.fn x=6\/X.env.scope.names.lookup x=!.local:=by trivial):
 VS X E (.Assign [.Name x a] e q) (xK i l):=PS.weak (DI c f h j m r) λT Z H=>qZ λB s F u w=>j5 λt n=>jC B s F u w (t,qs n λp y v z A C G b I=>y _ z A C G<|b.go (.refl _)<|b.rs.setVal I)
def Wp(c:m9)(g1 g2:xu):xu:=λa b=>(c a b).bind λp=>if p.1 then g1 a p.2 else g2 a p.2
def Ah   (u:cQ X E c v)(w:vP X E a g1)(x:vP X E b g2):VS X E (.If c a b y) (Wp v g1 g2):=PS.weak (BI u w x) λT Z H z=>by
 let(B A F h C,t,n):=z;rw[jC B A F h C (t,qs n λp j l m G r s=>?_)];let(b,f):=p
 cases(b)with
 |true=>rw[jC B l m h f (s,(j).mono (λ_ q=>q.mono r) 004)]
 |false=>rw[jC B l m h f (s,(j).mono (λ_ q=>q.mono r) 004)]
def XD(c:SD)(a:Addr)(q:D×HP):Wr Out3:=match je q.2 a with
 |some (.lst b)=>if ⇑b<00 then .ok (.next c<|Qo q.2 a<|.lst<|b++[q.1])else .no
 |_=>.no
def Y7(c:FV)(b:SD)(p:D×HP):Wr Out3:=match p.1 with
 |.adr a=>match je p.2 a with
  |some (.lst _)=>(c b p.2).bind (XD b a)
  |_=>.no
 |_=>.no
def xz(b c:FV):xu:=λa f=>(b a f).bind<|Y7 c a
def Bg (J:QV X E o L)(M:QV X E e N)
 (j:∀{x:TE}{t:TA},PE X o x->PA X [e] t->PE X (.Call (.Attribute o "append" b) [e] [] c) (kQ X.K 013 BP x t))
 (O:swapsWith (.Call (.Attribute o "append" b) [e] [] c) 8 l.line X.env=pure 7:=by rfl)
 (m:01 [e] X.env=%[7|011]::01 [] X.env:=by rfl):VS X E (.Expr (.Call (.Attribute o "append" b) [e] [] c) l) (xz L N):=
 PS.weak (YV (j J<|WF M WQ m) O) λT Z H P=>by
  let(B Q F y j,t,n):=P;rw[jC B Q F y j (t,qs n λp f v R S H1 U z A=>?_)];unfold Y7 at f
  split at f
  .rename_i a r;rw[r]at A;obtain rfl:=jE.mp A
   split at f
   .rename_i Y s;have(u,k1,k2):=z.lies s;rw[(.inl (9,u,qP.of k1),B,R,S,y,p.2,z,qs f λq h w B2 F2 H2 s2 C i2=>?_)];unfold XD at h
    split at h
    .rename_i es G
     split at h
     .have(I,g1,g2):=C.lies G;let hl:=⇑g2;rw[jg a I w (9,9,g1,(),h Z _ F2 _ (U.trans s2)<|C.chg G (I++[w],JO,g2.snoc i2))]
     .rw[h.elim]
    .rw[h.elim]
   .rw[f.elim]
  .rw[f.elim]
def XE(c:SD)(d:D)(a:Addr)(q:D×HP):Wr Out3:=match je q.2 a with
 |some (.lst b)=>match q.1 with
  |.int k=>match yD ⇑b k with
   |some j=>.ok (.next c<|Qo q.2 a<|.lst<|b.set j d)
   |none=>.no
  |_=>.no
 |_=>.no
def CZ(c:FV)(b:SD)(d:D)(p:D×HP):Wr Out3:=match p.1 with
 |.adr a=>(c b p.2).bind (XE b d a)
 |_=>.no
def wa(b c f:FV):xu:=λa h=>(f a h).bind λp=>(b a p.2).bind<|CZ c a p.1
def F6(I:QV X E o J)(L:QV X E i M)(N:QV X E e O)(f:∀v,assign (.Subscript o i b) X.env v=(do
 let h<-holding [v] (eval o X.env)
 let m<-holding [v,h] (eval i X.env)
 standAt b
 holding [v,h,m] (setItem h m v)
 release [v,h,m] []):=by intro _;rfl)(P:swapsWithSole [.Subscript o i b] e r.line X.env=pure 7:=by rfl)(Q:swappedStores [.Subscript o i b] e X.env=pure 8:=by rfl)
 (R:(assignEach [.Subscript o i b] X.env).map (·.2)=[assign (.Subscript o i b) X.env]:=by rfl):VS X E (.Assign [.Subscript o i b] e r) (wa J M O):=PS.weak (G8 N (G4 I L GT f) P Q R) λT Z H S=>by
 let(B U F s Y,t,n):=S;rw[jC B U F s Y (t,qs n λp n1 v B1 F1 H1 s1 t1 i1=>jC B B1 F1 s p.2 (t1,qs n1 λp2 l v2 B2 F2 H2 y t2 z=>?_))];unfold CZ at l
 split at l
 .rename_i a u;rw[u]at z;obtain rfl:=jE.mp z;rw[jC B B2 F2 s p2.2 (t2,qs l λq c w B3 F3 H3 A C G=>?_)];unfold XE at c
  split at c
  .rename_i es f
   split at c
   .rename_i k x;rw[x]at G
    split at c
    .rename_i j hk;let(-xs,g1,g2):=C.lies f;let hl:=⇑g2;rw[jW a xs k j (9,jd.mp G,g1,by rw[hl,];rw[hk],?_)];rw[c Z _ F3 _ ((s1.trans y).trans A)<|C.chg f (_,JO,g2.set j<|jf.same (y.trans A) _ _ i1)]
    .rw[c.elim]
   .rw[c.elim]
  .rw[c.elim]
 .rw[l.elim]
def wl(b:D->xu):YC->xu
 |[],f,h=>.ok (.next f h)
 |x::j,f,h=>(b x f h).bind λo=>match o with
  |.next c a=>wl b j c a
  |.cont c a=>wl b j c a
  |.brk c a=>.ok (.next c a)
  |.ret d a=>.ok (.ret d a)
def Y8(a:Tg)(b:xu)(x:D):xu:=λc f=>(Wr.of<|JQ a x c).bind λs=>b s f
def v3(c:FA)(f:Tg)(b:xu):xu:=λa h=>(Wr.of<|c a).bind λj=>wl (Y8 f b) j a h
def pX    (A:PassesOwn 009 X.A X.env X.xe)(hc:X.calm=6)(hi:QI X E tg m it)(hg:QG X tg t)(hb:vP X E G g1)
 (R:∀x,foldedSetIterable m X.env x=pure x:=by intro _;rfl):VS X E (.For tg m G [] pos) (v3 it t g1):=PS.weak (BL A hc hi hg hb R) λT Z H=>qZ λB B' F I A=>j5 λr n=>jg B' F I (r.rs,zN n (λc n1 J S H1 U wk=>by
  rw[(λi k Z H=>k=⇑c-i/\i<=⇑c/\∃O C I A,jk S C/\RT X.K B O C H I A Z/\(wl (Y8 t g1) (c.drop i) I A).need (ka X.K B C T) (XW X.K E B.F0 B.H0),
   (⇑c,9,Ub _,B',S,I,A,.refl _,r.go U.ff<|r.rs.step U,n1.mono (λ_ q=>q.mono U.ff) 004),?_)]
  rintro i k Z2 H2 ⟨rfl,hi,O,C,sd2,Y,s2,P,L⟩;let(!w1,w2):=wk i C H2 s2 P.rs.ext.fh;cases f:i<⇑c
  .have(go,yl):=w1 f;rw[.inr (go,λZ' H'=>∃B3 s h j,jk S s/\RT X.K B B3 s H' h j Z'/\(wl (Y8 t g1) (c.drop<|i+1) h j).need (ka X.K B s T) (XW X.K E B.F0 B.H0),
    λZ' H'(B3,s,h,j,q1,q2,q3)=>(⇑c-(i+1),(),9,f,B3,s,h,j,q1,q2,q3),λx H3 y=>?_)]
   let(d s,hd,p,i3):=yl x H3 y;rw[Uo f]at L;let hd':c[i]=d:=by rw[Zqg f]at hd;rw[Zqi hd]
   rw[hd']at L;let r3:=P.go p.ff<|P.rs.step p;rw[XZ r3.rs i3 (qk.mp<|Wr.need_bind.mp<|Wr.need_bind.mp L) λsd' Z' n4 _ r4=>jC B O s sd' Y (r3.go (.refl _) r4,n4.mono (λo Q=>?_) 004)]
   cases(o)with
   |next a b=>rw[λM u w N l z=>(u,w,a,b,(s2.trans p.ff).trans l,z,Q.mono (λ_ q=>q.mono<|p.ff.trans l) 004)]
   |cont a b=>rw[λM u w N l z=>(u,w,a,b,(s2.trans p.ff).trans l,z,Q.mono (λ_ q=>q.mono<|p.ff.trans l) 004)]
   |brk a b=>rw[λM u w N l z=>Q M u w N (p.ff.trans l) z]
   |ret d b=>rw[λv M a u w N l z i5=>Q v M a u w N (p.ff.trans l) z i5]
  .let he:i=⇑c:=()
   rw[.inl (w2 (),?_)];subst he;rw[UX]at L;rw[L Z2 O C H2 (.refl _) P]) λ_ _ q=>q.ext<|r.ext0 r.rs.ext)
end
noncomputable def zf:Out3->Wr (D×HP)
 |.ret d a=>.ok %[d|a]
 |.next _ a=>.ok %[.non|a]
 |_=>.no
def zd(n ar:5)(g:xu)(a:YC)(b:HP):Wr (D×HP):=if ⇑a=ar then((g (Qt n a) b).bind zf).bind λp=>if b.all λz=>(je p.2 z.1).isSome then .ok p else .no else .no
section
variable   {K:f'}    {st:Stmt}
theorem Nd:∀{b:HP}{a:Addr}{d:D},je b a=!d->∃z∈b,z.1=a
 |[],a,d,h=>by cases h
 |p::r,a,d,h=>by
  rw[Qj]at h;cases z:a=p.1
  .rw[(p,Zqs,z.symm)]
  .rw[Ze z]at h;let(-y,c,e):=Nd h;rw[(y,Zqm _ c,e)]
def bb (F:Fun K x B st f fd)(S:FnScope N U (JY st))
 (hb:∀(r:Value)(A:Around)(c:List Env)(s:Shared)(H:Hp)(E:XK),Room k (A.deeper<|envOfC B (JY st) s⁻¹ f r)->vP (qj yL P w K mg I N B (JY st) f r A c s H E).nox E0 (Ki st) g):
 FnOk P w K mg I yL (k+1) f fd U (mw K<|zd ⇑N ⇑U g):=by
 rw[F.ok S (λX H Q E=>qf λF Y j=>xb λ_ i _ n=>?_) λr A c s H X Q E hr=>qf λF Y j=>xb λhs i Z n=>(_,hb r A c s H E hr,?_)]
 .unfold zd at n
  split at n
  .rw[⇑i,];assumption
  .rw[n.elim]
 .unfold zd at n
  split at n
  .let t:RT K (F,qO H j,λ_=>8) (F,H,λ_=>8) F H (Qt ⇑N Y) j (L2.start N X):=(RS.start hs i,9,9,λa C=>(Km C).symm,λa d C=>((Z a d C).1,Be C,(Z a d C).2));let J:∀{d:D}{b:HP}{v:V}{M:St}{h:SD}{O:Bs}{l u:Hp},(Wr.need (if j.all λz=>(je b z.1).isSome then(.ok %[d|b]:Wr (D×HP))else .no) (λp=>∀v l u,ExtV K F H j l u p.2->jf K l p.1 v->Q v u)<|XW K E0 F<|qO H j)->
    jk F l->RT K (F,qO H j,λ_=>8) O l u h b M->jf K l d v->Q v u:=λ{d b v M h O l u}G L m R=>by
    split at G
    .let T:∀a,je b a=8->je j a=8:=λa C=>by
      induction z:je j a with
      |none=>rfl
      |some d0=>
       grind[Nd]
     let e:=m.ext0 m.rs.ext;rw[G v l u (L,m.rs.ext.fh,λa o C q=>e.hh a o<|(Km C).trans q,λa h0 h1=>?_,m.lent,T,λa z y=>?_) R]
     .induction z:je j a with
      |none=>rw[e.new a h0 λy=>h1<|(Km z).symm.trans y]
      |some d=>
       induction y:je b a with
       |none=>ext
       |some d'=>rw[m.free y]
     .induction y':je b a with
      |none=>rw[Zn y' y]
      |some d'=>
       let:=(m.obj a d' y').2.1
       rwa[<-Km (H:=H) z]
    .rw[G.elim]
   rw[jC _ _ F _ j (t,qs (Wr.need_bind.mp n|>λq=>Wr.need_bind.mpr q|>λq=>Wr.need_bind.mp q) λo G=>?_)]
   cases(o)with
   |next h b=>rw[λM O l u L m=>J G L m<|jD.mpr 9]
   |ret d b=>rw[λv M h O l u L m R=>J G L m R]
   |brk h b=>rw[G.elim]
   |cont h b=>rw[G.elim]
  .rw[n.elim]
def ba   (F:Fun K x l st f O)(S:FnScope N M (JY st))
 (hw:∀h d,B h=.ok d->⇑h=⇑M/\((g (Qt ⇑N h) []).bind zf).need (λp=>dr p.2 kk p.1=d) λ_ _=>False)(hx:∀h,∀c fs,B h ≠ .ex c fs)
 (R:∀(j:Value)(A:Around)(a:List Env)(s:Shared)(H:Hp)(E:XK),Room k (A.deeper<|envOfC l (JY st) s⁻¹ f j)->vP (qj yL P w K T r N l (JY st) f j A a s H E).nox E0 (Ki st) g):
 FnOk P w K T r yL (k+1) f O M (qJ K B):=by
 rw[F.ok S (λU H Q E=>j4 λF h=>j8 λ_ i n=>?_) λj A a s H U Q E X=>j4 λF h=>j8 λY i n=>(_,R j A a s H E X,?_)]
 .induction q:B h with
  |ok d=>rw[⇑i,];rw[(hw h d q).1]
  |ex c fs=>ext
  |no=>rw[q]at n;rw[n.elim]
 .induction q:B h with
  |ex c fs=>ext
  |no=>rw[q]at n;rw[n.elim]
  |ok d=>
   rw[q]at n;let t:∀{C:D}{b:HP}{v:V}{G:St}{e:SD}{I:Bs}{u y:Hp},dr b kk C=d->RT K (F,H,λ_=>8) I u y e b G->jf K u C v->Q v y:=λ{C b v G e I u y}Z m L=>by
    let:=jf.dr m.frzA.2.2 kk C v<|jf.same m.frzA.1 _ _ L;rw[Z]at this;rw[n v _ _ m.frzA.2.1.ext this]
   rw[jC _ _ F _ [] (RT.start<|RS.start Y i,(Wr.need_bind.mp (hw h d q).2).mono (λo J=>?_) λ_ _ z=>z.elim)]
   cases(o)with
   |next e b=>rw[λG I u y s1 m=>t J m<|jD.mpr 9]
   |ret d b=>rw[λv G e I u y s1 m L=>t J m L]
   |brk e b=>rw[J.elim]
   |cont e b=>rw[J.elim]
end
end L2.DL
namespace L2
def uU(lo c:3)(n:5):It:=(λi _=>i<n,λi H x a=>a=H/\x=.int (lo+i*c),λi _=>n<=i)
def oQ  {K:PySem.W.Frag} (f:Addr)(lo c:3)(n:5):Turn P w K R (uU lo c n) [f] f λi h=>IsRangeIter h f (lo+(i:5)*c) ((n:3)-(i:5)) c where
 mem:=by simp
 obj:=λi h a b g=>by
  let e:b=f:=by simpa using g
  subst e;rw[(_,a,λv z=>by
   let J:Data.fields _=Data.cell v:=z;cases J)]
 keep:=λi h l a k=>k f () _ a
 item:=by
  intro X p q r u i Y s Z H E I m a x;subst p q r;let(!y,A,L,B,C,F):=m f ();let W:=Walks.range (prog:=X.prog) (w:=X.w) (I.ok.hd u) f lo c n;rw[W.item i s _ _ x a λv l G M j N=>?_];let(t,rfl):=M;let O:Inv X Y Z H {s with heap:=l,toks:=G}:=I.turned (λb o g e=>N b o (by simpa using g) e) y A B C F;rw[(_,9,BJ (s:={s with heap:=l,toks:=G}) (n:="range_iterator") j 9 9 008 (.int<|lo+i*c,H,O,(t,9),(9,9),j,λb g=>(m b g).1))]
 done:=by
  intro X p q r u i Y s Z H E I m a x;subst p q r;let(!y,A,L,B,C,F):=m f ();rw[wpAny_pyNext_range_end (I.ok.hd u) a (by let:n<=i:=x;lia) λl Q=>(9,I.turned (t':=s.toks) (λb o g e=>Q b o g e) y A B C F)]
 self:=λ_ _ _ _ _ a h=>wpAny_pyIter_rangeiter a h
def f8(a:TA):TI:=λZ H R=>a Z H λb c=>∃i j:3,b=[.int i,.int j,.int 2]/\(-1000000000<=i/\i<=1000000000/\-1000000000<=j/\j<=1000000000)/\R (uU i 2 ((j-i+1)/2).toNat) c
def iX   (z:Gl X "range")(A:X.mg "range"=8)(B:PA X [a,b,c] C)(E:01 [a,b,c] X.env=[%[7|eval a X.env],%[7|eval b X.env],%[7|eval c X.env]]:=by rfl)(g:01 [b,c] X.env=[%[7|eval b X.env],%[7|eval c X.env]]:=by rfl):
 PI X O (.Call (.Name "range" p) [a,b,c] [] m) (f8 C):=by
 intro Y s Z H R I h;rw[Call_ (Xq I z A boot_range<|PyProof.Rows.callWith_type1 (jL (B m Y s Z H _ I h) λP f=>j4 λQ x=>j8 λF G y=>?_) (by rw[E,g])<|by rw[g,];rfl)];let(i,j,e,(y,S,T,U),q):=y;subst e;cases G with
 |cons r l=>
  cases l with
  |cons J l=>
   cases l with
   |cons n l=>
    cases l;let(t,rfl):=r;let(u,rfl):=J;let(v,rfl):=n;rw[call_range_3 008 ?_ (.inl<|PyProof.noPylong_of_log2<|008)];rw[wpAny_pyIter_range (IsRange.new ..) (by
     ext Builtin.Range.small Builtin.Range.rangeSize;simp only[Builtin.Range.rangeFitsLong,Ud,UU,decide_eq_true_eq,Yp,show(2:3)>0 by decide,if_true]
     split<;>lia) ?_]
    let w:Inv X Y Z x {f with heap:=f.heap.push {cls:=.type "range",data:=.fields #[.int i t,.int j u,.int 2 v]},toks:=f.toks}:=F.kept λb o e=>Zq _ e;rw[jC (f.heap.push {cls:=.type "range",data:=.fields #[.int i t,.int j u,.int 2 v]}).objs.size [(f.heap.push {cls:=.type "range",data:=.fields #[.int i t,.int j u,.int 2 v]}).objs.size] _ _ x (9,
     w.kept (t':=f.toks) λb o e=>Zq _ e,oQ _ i 2 ((j-i+1)/2).toNat,?_,λb L=>?_,q)]
    .let M:i+((0:5):3)*2=i:=by simp
     let N:((((j-i+1)/2).toNat:5):3)-((0:5):3)=Builtin.Range.rangeSize i j 2:=by
      ext Builtin.Range.rangeSize;rw[Zd 008,]
      split<;>lia
     show IsRangeIter _ _ (i+((0:5):3)*2) (((((j-i+1)/2).toNat:5):3)-((0:5):3)) 2;rw[M,N];rw[Zr _ 9]
    .let e:b=(f.heap.push {cls:=.type "range",data:=.fields #[.int i t,.int j u,.int 2 v]}).objs.size:=by simpa using L
     subst e;rw[w.fpOk (Zf _)<|w.hok.fresh<|Zf _]
end L2
namespace L2.DL
noncomputable def W7(lo c:3)(n:5):YC:=(List.range n).map λk:5=>.int<|lo+k*c
def oV{K:f'} (lo c:3)(n:5):vO K h (uU lo c n) (W7 lo c n):=λi b j l e=>by
 let f:⇑(W7 lo c n)=n:=by ext W7;rw[Zql,ZB]
 rw[f,];rw[(λa=>(a,λx m g=>?_),λa=>a)];let(rfl,rfl):=g;rw[(.int<|lo+i*c,b,?_,.refl e,jd.mpr 9)];ext W7;rw[Zv,Vu a];rfl
def fA(a:FA):FA:=λb=>(a b).bind λc=>match c with
 |[.int i,.int j,.int 2]=>if Wo i&&Wo j then .ok (W7 i 2 ((j-i+1)/2).toNat)else .no
 |_=>.no
def iQ (s:Gl X "range")(t:X.mg "range"=8)(u:QA X E [a,b,c] v)(w:01 [a,b,c] X.env=[%[7|eval a X.env],%[7|eval b X.env],%[7|eval c X.env]]:=by rfl)(f:01 [b,c] X.env=[%[7|eval b X.env],%[7|eval c X.env]]:=by rfl):QI X E P (.Call (.Name "range" p) [a,b,c] [] A) (fA v):=PI.weak (iX s t u w f) λZ H R C=>by
 let(B F G,r,n):=C;rw[jg B F G (r,(Res.need_bind n).mono (λQ e S I J L M=>?_) 004)]
 split at e
 .split at e
  .rename_i i j g;let(x T,rfl,h,N):=jl.mp M;let(y z,rfl,O,l):=AO N;rw[jd.mp h,jd.mp O,jd.mp l];rw[Ud]at g;let m:-1000000000<=i/\i<=1000000000:=by let:=g.1;unfold Wo at this;rw[Ud,UB,UB]at this;lia
   let o:-1000000000<=j/\j<=1000000000:=by let:=g.2;unfold Wo at this;rw[Ud,UB,UB]at this;lia
   rw[(i,j,9,(m.1,m.2,o.1,o.2),e _ I J L<|oV i 2 _)]
  .rw[e.elim]
 .rw[e.elim]
def Wq(c:FT)(b:FS):5->FS
 |0,_=>.no
 |n+1,e=>(c e).bind λt=>if t then(b e).bind λo=>match o with
  |.next a=>Wq c b n a
  |.cont a=>Wq c b n a
  |.brk a=>.ok (.next a)
  |.ret d=>.ok (.ret d)else .ok (.next e)
def eE    (k:5)(M:PassesOwn 009 X.A X.env X.xe)(N:QT X E c x)(O:zZ X E m h g):QS X E m (.While c h [] P) (Wq x g k):=PS.weak (Pw M N O) λT Z H Q=>by
 let(B F R,r,n):=Q;rw[(λj Z H=>∃i a,jk F i/\RS X.K B i H a Z/\(Wq x g j a).need (zE X.K m B i T) (XW X.K E B.F0 B.H0),jg k F R (.refl _,r,n),?_)];intro j S Y;rw[j4 λi a=>j8 λC u G=>?_]
 cases(j)with
 |zero=>rw[G.elim]
 |succ j=>
  rw[jg B i a (u,(Res.need_bind G).mono (λt v I U e=>?_) λ_ _ q=>q.ext u.ext)]
  cases(t)with
  |true=>
   rw[Zd 9]at v;rw[Zd 9,];rw[(λJ L=>∃y l,jk F y/\RS X.K B y L l J/\(Wq x g j l).need (zE X.K m B y T) (XW X.K E B.F0 B.H0),λJ L q=>(j,UC _,q),B,I,a,u.step e,(Res.need_bind v).mono (λo w=>?_) 004)]
   cases(o)with
   |next b=>rw[λz p A f s=>(p,b,(C.trans e.ff).trans f,s,w.mono (λ_ q=>q.mono<|e.ff.trans f) 004)]
   |cont b=>rw[λz p A f s=>(p,b,(C.trans e.ff).trans f,s,w.mono (λ_ q=>q.mono<|e.ff.trans f) 004)]
   |brk b=>rw[λz p A f s=>w z p A (e.ff.trans f) s]
   |ret d=>rw[w]
  |false=>
   rw[Ze Zj]at v;rw[Ze Zj,];rw[v S I U e.ff<|u.step e]
structure ClsI(K:f')(C:Addr):4 where
 cl:W.findIn K (.ref C) "__class__"=! ! .builtin "object.__class__"
 gt:W.specialIn K (.builtin "object.__class__") "__get__"=! ! .builtin "getset_descriptor.__get__"
 tk:W.takesIn K (.builtin "object.__class__")=!6
 mr:W.mroIn K C (.type "object")=!6
def Bh(K:f')(c:Str):4:=∃C,W.nsIn K 000 c=! ! .ref C/\ClsI K C
def Xi(c:Str):YC->YD
 |[.ins c' _ _,.ucl u]=>if c'=c/\u=c then ! .bl 6 else 8
 |_=>8
def Nf   (k:ClsD X.K X.mg c C fs)(z:Bh X.K c):ql X (.builtin "isinstance") (wS X.K<|Xi c):=by
 intro Y s Z H m B Q I r e;let(F,E,y,i,id,b,q):=e;unfold Xi at b
 split at b
 .rename_i G J L u
  split at b
  .rename_i h;let(rfl,rfl):=h;cases b;let(M N,rfl,n,o):=AO id;let(p t,rfl,v,w):=r.two;let(a P R m,rfl,j,x,_):=jM.mp n;let(-U,rfl,l):=xC.mp o;obtain rfl:p=Value.ref a:=v;obtain rfl:t=Value.ref U:=w;let(-C2,f,g):=z;rw[k.ns]at j l f;cases j;cases l;cases f;let(-mA,O,_):=BM I.hok (i _ _ x);let(-S,A,_):=O.look;rw[W.kia_one (W.kitx_own (k.cls.get _) k.cls.hd g.cl g.gt g.tk g.mr) I.kIn A (by
    ext W.kitOne;rw[Zd (Yp.mpr 9),]) (λz=>nomatch z) λT=>(.bl _,H,I.tok _,9,q _ F H (.refl i)<|jt.mpr 9)]
  .rw[J7 b]
 .rw[J7 b]
@[simp]def cH(f:FE)(a:SD)(b:HP):vL f a b=(Wr.of<|f a).bind λd=>.ok %[d|b]:=rfl
@[simp]def tU(k:5)(b:Yh)(f:FE)(c:SD)(a:HP):yM k b f c a=(Wr.of (f<|drI k a b c).strict).bind λd=>if Ks 08 d then .ok %[d|a]else .no:=rfl
@[simp]def nT(k:5)(b:Yh)(f:FT)(c:SD)(a:HP):y8 k b f c a=(Wr.of (f<|drI k a b c).strict).bind λd=>.ok %[d|a]:=rfl
@[simp]def rC(n:5)(b:HP)(a:SD):drI n b [] a=a:=rfl
def cL(n:5)(b:HP)(i:5)(a:SD):02 (02 SV)->SD
 |some (~~~d)=>a.set i (~~~dr b n d)
 |_=>a
@[simp]def rE(n:5)(a:HP)(i:5)(b:SD)(d:D):cL n a i b (!~~~d)=b.set i (~~~dr a n d):=rfl
@[simp]def bV(n:5)(a:HP)(i:5)(c:Yh)(b:SD):drI n a (i::c) b=drI n a c (cL n a i b b[i]?):=by
 rfl
@[simp]def tV(b c:FV)(a:SD)(e:HP):zG b c a e=(b a e).bind λp=>(c a p.2).bind<|yN p.1:=rfl
def Da   (h:je q.2 a=! .lst b):yN (.adr a) q=(Wr.of<|.ofO<|ju (.lst b) q.1).bind λz=>.ok %[z|q.2]:=by
 simp_all[yN]
@[simp]def nU(b:SD)(a:HP):qb b a=.ok %[[]|a]:=rfl
@[simp]def bJ(f:FV)(g:vk)(a:SD)(b:HP):JJ f g a b=(f a b).bind λp=>(g a p.2).bind λq=>.ok %[p.1::q.1|q.2]:=rfl
@[simp]def nV(b:vk)(c:SD)(e:HP):qH b c e=(b c e).bind λp=>if ⇑p.1<=1000 then .new p.2 λa=>.ok %[.adr a|%[a|.lst p.1]::p.2]else .no:=rfl
@[simp]def bK(a:YC->HP->Wr (D×HP))(b:vk)(c:SD)(e:HP):XC a b c e=(b c e).bind λp=>a p.1 p.2:=rfl
@[simp]def cG(g:FS)(a:SD)(b:HP):zL g a b=(Wr.of<|g a).bind (rX b):=rfl
@[simp]def kB(a:HP)(b:SD):rX a (.next b)=.ok (.next b a):=rfl
@[simp]def bE(a:SD)(b:HP):Ag a b=.ok (.next a b):=rfl
@[simp]def F7(a b:xu)(c:SD)(e:HP):jV a b c e=(a c e).bind (zK b):=rfl
@[simp]def mM(g:xu)(a:SD)(b:HP):zK g (.next a b)=g a b:=rfl
@[simp]def rR(g:xu)(d:D)(a:HP):zK g (.ret d a)=.ok (.ret d a):=rfl
@[simp]def nO(f:FV)(a:SD)(b:HP):zw f a b=(f a b).bind λp=>.ok<|.ret p.1 p.2:=rfl
@[simp]def bF(f:FV)(a:SD)(b:HP):CY f a b=(f a b).bind λp=>.ok<|.next a p.2:=rfl
@[simp]def nN(i:5)(f:FV)(a:SD)(b:HP):xK i f a b=(f a b).bind λp=>.ok<|.next (a.set i<|~~~p.1) p.2:=rfl
@[simp]def tS(c:m9)(b e:xu)(a:SD)(f:HP):Wp c b e a f=(c a f).bind λp=>if p.1 then b a p.2 else e a p.2:=rfl
@[simp]def nQ(b c:FV)(a:SD)(e:HP):xz b c a e=(b a e).bind (Y7 c a):=rfl
def Bi     (h:je b a=! .lst f):Y7 e c %[.adr a|b]=(e c b).bind (XD c a):=by
 simp_all[Y7]
def Bj     (h:je b a=! .lst c)(f:⇑c<00):XD e a %[d|b]=.ok (.next e<|Qo b a<|.lst<|c++[d]):=by
 simp_all[XD]
@[simp]def nP(b c e:FV)(a:SD)(f:HP):wa b c e a f=(e a f).bind λp=>(b a p.2).bind<|CZ c a p.1:=rfl
@[simp]def zw6(c:FV)(b:SD)(d:D)(a:Addr)(e:HP):CZ c b d %[.adr a|e]=(c b e).bind (XE b d a):=rfl
def F8       (h:je b a=! .lst c)(e:yD ⇑c k=!j):XE f d a %[.int k|b]=.ok (.next f<|Qo b a<|.lst<|c.set j d):=by
 ext XE;simp only[h,e]
@[simp]def gE(d:D)(a:HP):zf (.ret d a)=.ok %[d|a]:=rfl
def Bl   (n:5)(h:je b a=!d):dr b (n+1) (.adr a)=dr b n d:=by
 show(match je b a with
  |some d=>dr b n d
  |none=>.adr a)=_
 rw[h,]
@[simp]def bi(n:5)(i:3):Ks n (.int i)=6:=by cases n<;>rfl
@[simp]def bh(n:5)(i:Str):Ks n (.str i)=6:=by cases n<;>rfl
def Bm   (h:je c b≠8):je (Qo c a d) b ≠8:=by
 cases z:je c a=8
 .let:Qo c a d=c:=by
   clear h
   cases(c)with
   |nil=>rfl
   |cons p r e=>
    rw[Qj]at z;cases y:a=p.1
    .rw[Zd y]at z;cases z
    .rw[Ze y]at z;ext Qo;rw[Ze y,e z]
  rw[this,];rw[h]
 .rw[Ac b z,]
  split
  .simp
  .rw[h]
def Bn   (h:je b a≠8):je (Qo b a d) a=!d:=by rw[Ac a h,Zd 9]
def KE   (h:je c a≠8)(n:b≠a):je (Qo c a d) b=je c b:=by rw[Ac b h,Ze n]
def aw{n ar:5}     (f:⇑c=ar)(h:((g (Qt n c) b).bind zf).need (λp=>(∀a,je b a≠8->je p.2 a≠8)/\P p) Q):(zd n ar g c b).need P Q:=by
 ext zd;rw[Zd f,];rw[Wr.need_bind.mpr<|h.mono (λp e=>?_) 004];let:(b.all λz=>(je p.2 z.1).isSome)=6:=UJ.mpr λz i=>by
  let j:je b z.1≠8:=by
   rw[Ne,Bd];rw[λy=>y<|Ja.mpr (z,i,9)]
  let:=e.1 z.1 j
  induction y:je p.2 z.1 with
  |none=>rw[Zn y this]
  |some d=>rfl
 rw[Zd this,];rw[e.2]
end L2.DL
namespace L2
def Ng      {mA:Yd} (f:h.Ns1 d mA)(e:mA "row"=!u)(r:jz (.int n) u):yC P w H h d (DL.RowO d n):=by
 let a:=f;let(g i j,b,c):=f;rw[((mA,u,a,e,r),(_,b),λl m(mA,u,(g,i,j,b,c),r)k=>(mA,u,jg g i j (k _ b,c),r))]
end L2
namespace L2.DL
def RT.takeIn{K:f'}        (t:RT K B j F H n c Z)(p:RT K B j (qO f c) i n c Z)(E:jk F (qO f c))(r:Ext (xj F j.H0 c) H f i)(Q:H l=8)(R:f l=8)(G:i l=! .lst s)(I:jc K (qO f c) J s):
 je c l=8/\∃L,RT K B L (qO f c) i n (%[l|.lst J]::c) Z:=by
 let v:je c l=8:=by
  induction z:je c l with
  |none=>rfl
  |some S=>
   let(u,T):=(t.lies z).has
   ext
 rw[(v,t.callV (E,p.rs.ext.fh,λa o _ q=>r.hh a o q,λa O y=>by
  induction z:je c a with
  |none=>rw[Km z,];rw[r.new a (by simp_all[xj]) y]
  |some d=>rw[Be z],λa d e=>by
  rw[Qj]at e;cases z:a=l
  .rw[Zd z]at e;obtain rfl:=Zqi e;rw[z,];rw[(by rwa[Km v,],s,G,I)]
  .rw[Ze z]at e;rw[p.lent a d e],λa e=>by
  grind[Qj],λa O y=>by
  simp_all[Qj]))]
def gZ(b:HP):D->Wr (D×HP)
 |.lst c=>if c.all (Ks 08)then .new b λa=>.ok %[.adr a|%[a|.lst c]::b]else .no
 |_=>.no
def yG(k:5)(b:Yh)(f:FE):FV:=λc a=>(Wr.of (f<|drI k a b c).strict).bind<|gZ a
def Nh(k:5)(i:Yh)(h:QN X E e o):QV X E e (yG k i o):=PE.weak h λZ H Q p=>by
 let(B R F r f,t,n):=p;let(!S,s,u):=t.frzA;rw[jg B _ _ (s.drI u k i,(jG<|qk.mp<|Wr.need_bind.mp n).mono (λd b l v w j x y z=>?_) λc fs q=>q)];cases d with
 |lst g=>
  let b:(if g.all (Ks 08)then Wr.new f λa=>.ok %[.adr a|%[a|.lst g]::f]else .no:Wr (D×HP)).need (cS X.K B F r Z Q) (XW X.K E B.F0 B.H0):=b
  split at b
  .rename_i A;let(!C,m,G):=t.thaw j;let(-I,J,L):=z;let M:jc X.K (qO v f) g I:=xB (yI G 08) A L;let(N,O,P):=t.takeIn C m j x y J M;rw[b l N _ O _ w m P<|jE.mpr 9]
  .rw[b.elim]
 |_=>rw[b.elim]
noncomputable def wO(i:5):FS:=λa=>match a[i]? with
 |some (some<|.own false<|.lst b)=>.ok (.next<|a.set i<|!(.own 7<|.lst b.reverse))
 |_=>.no
theorem Ni{K:f'} :∀{b:YC}{a:YB},jc K F b a->jc K F b.reverse a.reverse
 |[],a,h=>by
  rw[jc.nil_iff]at h;subst h;rw[jc.nil_iff.mpr 9]
 |d::b,a,h=>by
  rw[jl]at h;let(v w,rfl,c,e):=h;rw[VD,VD];rw[(Ni e).snoc c]
def p6   (q:PE X o (yH i))(c:attributeBase o "reverse" X.env (eval o X.env)=eval o X.env:=by rfl)(e:(a.endLine==b.line)=6:=by rfl)
 (s:swapsWith (.Call (.Attribute o "reverse" a) [] [] b) 8 f.line X.env=pure 7:=by rfl):QS X E m (.Expr (.Call (.Attribute o "reverse" a) [] [] b) f) (wO i):=
 PS.weak (YV (GV Yv PySem.F.slot_list_reverse PySem.F.type_list_reverse Rn q c e) s) λT Z H t=>by
  let(B F v,r,n):=t;unfold wO at n
  split at n
  .rename_i w h;let(-l,j,x,y,(g,p,u),_):=r.own h;rw[(.ref l,j,.inl (9,g,qP.of p),l,g,9,9,p,n Z F _ (.refl _)<|r.chg h j (g.reverse,JO,Ni u))]
  .rw[n.elim]
@[simp]def dc(i:5)(a:SD):wO i a=(wT a[i]?).bind λb=>.ok<|.next<|a.set i<|!(.own 7<|.lst b.reverse):=by
 ext wO
 cases(a[i]?)with
 |none=>rfl
 |some o=>
  cases(o)with
  |none=>rfl
  |some v=>
   cases(v)with
   |val d=>rfl
   |own p d=>cases(p)<;>cases d<;>rfl
end L2.DL
set_option maxHeartbeats 4000000
namespace My
open PySem L2 L2.DL
@[simp high]def gt1{α:Type}(b a:α)(l):(b::a::l)[1]?=!a:=rfl
@[simp high]def se1{α:Type}(a b v:α)(l):(a::b::l).set 1 v=a::v::l:=rfl
@[simp high]def gt2{α:Type}(b c a:α)(l):(b::c::a::l)[2]?=!a:=rfl
@[simp high]def se2{α:Type}(a b c v:α)(l):(a::b::c::l).set 2 v=a::b::v::l:=rfl
@[simp high]def gt3{α:Type}(b c e a:α)(l):(b::c::e::a::l)[03]?=!a:=rfl
@[simp high]def se3{α:Type}(a b c e v:α)(l):(a::b::c::e::l).set 03 v=a::b::c::v::l:=rfl
@[simp high]def gt4{α:Type}(b c e f a:α)(l):(b::c::e::f::a::l)[04]?=!a:=rfl
@[simp high]def se4{α:Type}(a b c e f v:α)(l):(a::b::c::e::f::l).set 04 v=a::b::c::e::v::l:=rfl
@[simp high]def gt5{α:Type}(b c e f g a:α)(l):(b::c::e::f::g::a::l)[05]?=!a:=rfl
@[simp high]def se5{α:Type}(a b c e f g v:α)(l):(a::b::c::e::f::g::l).set 05 v=a::b::c::e::f::v::l:=rfl
@[simp high]def gt6{α:Type}(b c e f g h a:α)(l):(b::c::e::f::g::h::a::l)[06]?=!a:=rfl
@[simp high]def se6{α:Type}(a b c e f g h v:α)(l):(a::b::c::e::f::g::h::l).set 06 v=a::b::c::e::f::g::v::l:=rfl
@[simp high]def gt7{α:Type}(b c e f g h i a:α)(l):(b::c::e::f::g::h::i::a::l)[07]?=!a:=rfl
@[simp high]def se7{α:Type}(a b c e f g h i v:α)(l):(a::b::c::e::f::g::h::i::l).set 07 v=a::b::c::e::f::g::h::v::l:=rfl
@[simp high]def gt8{α:Type}(b c e f g h i j a:α)(l):(b::c::e::f::g::h::i::j::a::l)[08]?=!a:=rfl
@[simp high]def se8{α:Type}(a b c e f g h i j v:α)(l):(a::b::c::e::f::g::h::i::j::l).set 08 v=a::b::c::e::f::g::h::i::v::l:=rfl
@[simp high]def gt9{α:Type}(b c e f g h i j m a:α)(l):(b::c::e::f::g::h::i::j::m::a::l)[09]?=!a:=rfl
@[simp high]def se9{α:Type}(a b c e f g h i j m v:α)(l):(a::b::c::e::f::g::h::i::j::m::l).set 09 v=a::b::c::e::f::g::h::i::j::v::l:=rfl
def JU(a:Yf)(k:3):3:=a.getD k.toNat 0
noncomputable def jN(a:Yf)(t:3):3:=a.getD t.toNat 0
def QB(r:J0)(a:Yf):3:=qN<|r.map λp=>jN a p.1+p.2
def Nj:jY 12 (.lst [])=6:=rfl
def Nk{α:Type}(f:α->D)(l:List α):jF (.lst<|l.map f) (.lst [])=l.isEmpty:=by
 cases(l)with
 |nil=>rw[ZP _]
 |cons x r=>rw[mK.mpr λh=>by cases h]
def Kt  {k:5}(h:k<⇑l):qa l (k:3)=l[k]?:=by
 simp_all[qa,yD]
def eT{a:Yf} (b:0<=t)(c:t<(⇑a:3)):qa (a.map D.int) t=!(.int<|jN a t):=by
 simp_all[yD,qa,jN]
def KF{α:Type}{f:α->D}{l:List α}{i:5} (h:(l.map f)[i]?=!x):∃p,l[i]?=!p/\x=f p:=by
 rw[Zv]at h
 induction q:l[i]? with
 |none=>rw[q]at h;cases h
 |some p=>rw[q]at h;rw[(p,9,(Zqi h).symm)]
structure RowOk(n:3)(r:J0):4 where
 ne:r ≠[]
 once:j9 r
 mem:∀p∈r,0<=p.1/\p.1<n
 len:⇑r<=12
def jm(f:J1):D:=.lst<|f.map j3
def qC(all:J1)(row:J0):Bool:=(all.filter λone=>(not<|decide<|one=row)&&JL one row).isEmpty
def Ai(all a:J1)(row:J0):J1:=if qC all row=6/\row∉a then a++[row]else a
def Nl(all a:J1):J1:=a.foldl (Ai all) []
def Qp(a:J1):J1:=Qs jK<|Nl a a
theorem Db(all:J1):∀(b a:J1),⇑(b.foldl (Ai all) a)<=⇑a+⇑b/\(∀r,r∈b.foldl (Ai all) a↔r∈a\/r∈b/\qC all r=6)/\(a.Nodup->(b.foldl (Ai all) a).Nodup)
 |[],a=>by simp
 |row::b,a=>by
  have(c,e,f):=Db all b (Ai all a row);unfold Ai at c e f ⊢
  grind
theorem xS  :r∈Qp a↔r∈a/\qC a r=6:=by
 ext Qp Nl;rw[(QM (ltb:=jK) _).mem_iff,(Db a a []).2.1];simp
def JG(f:J1)(a:Yf):3:=qV<|f.map λr=>QB r a
def F9{α:Type}(l:List α)(x y:α):(l++[x]).set ⇑l y=l++[y]:=()
@[simp]def fT(f):Q2 [jm f]=! jm f:=rfl
@[simp]def k8(f):Xa (jm f)=! f.map j3:=rfl
@[simp]def ky(r):Xa (j3 r)=! r.map qy:=rfl
@[simp]def ny(f):jy [jm f]=! .int ⇑f:=by show some (D.int ⇑(f.map j3))=_;rw[Zql,]
@[simp]def zvE(f):qd [jm f,.ty 013]=! .bl 6:=rfl
@[simp]def zug(f):qd [j3 f,.ty "tuple"]=! .bl 6:=rfl
@[simp]def zuo(p):qd [qy p,.ty "tuple"]=! .bl 6:=rfl
@[simp]def nv(p):jy [qy p]=! .int 2:=rfl
@[simp]def nG(p):ju (qy p) (.int 0)=! .int p.1:=rfl
@[simp]def nF(p):ju (qy p) (.int 1)=! .int p.2:=rfl
def Nm(n)(r):jY (n+03) (j3 r)=6:=by
 show(r.map qy).all (jY<|n+2)=6;rw[VT,UJ];rw[λp _=>9]
def Dc(n)(f):jY (n+04) (jm f)=6:=by
 show(f.map j3).all (jY<|n+03)=6;rw[VT,UJ];rw[λr _=>Nm n r]
structure FormOk(n:3)(f:J1):4 where
 ne:f ≠[]
 rows:∀r∈f,RowOk n r
 len:⇑f<=100
def aU (h:l ≠[])(w:3):qV (l.map (·+w))=qV l+w:=by
 let(a,b):=Z1 h;rw[(Ed () λy c=>?_).symm]
 grind
def eM (h:l ≠[])(w:3):qN (l.map (·+w))=qN l+w:=by
 let(a,b):=KZ h;rw[(Ec () λy c=>?_).symm]
 grind
def xk(r:J0):4:=(r.map (·.1)).Pairwise (·<·)
def No (h:xk r):r.Pairwise λx y=>qo x y=6:=by
 unfold xk at h;rw[Vf]at h;rw[h.imp λ{a b}z=>?_]
 simp_all[qo]
def zT :JL r o=6↔∀p∈r,∃w,JA o p.1=!w/\p.2<=w:=by
 ext JL;rw[UJ,];rw[forall_congr' λp=>forall_congr' λ_=>?_];ext zg
 cases(JA o p.1)with
 |none=>simp
 |some w=>simp
theorem KW (e:JL a b=6)(f:JL b c=6):JL a c=6:=by
 rw[zT]at*;intro p g;let(-w,h,i):=e p g;let(-v,j,l):=f _ (Q5 h);rw[(v,j,Int.le_trans i l)]
def Np (e:j9 a)(f:JL a b=6)(g:JL b a=6):∀p∈a,p∈b:=by
 rw[zT]at*;intro p c;let(-w,h,l):=f p c;let i:=Q5 h;let(-v,j,m):=g _ i;rw[e.look c]at j
 grind
theorem Nq (f:j9 a)(g:j9 b)(h:xk a)(i:xk b)(c:JL a b=6)(e:JL b a=6):a=b:=
 XY v0 (No h) (No i) λp=>(Np f c e p,Np g e c p)
theorem FB:∀{a:J1},a ≠[]->(∀r∈a,j9 r/\xk r)->∃m∈a,∀o∈a,JL o m=6->o=m
 |[],h,_=>Zn 9 h
 |x::a,_,ok=>by
  cases q:a=[]
  .ext
  .have(m,b,c):=FB q ()
   grind[Zqm,Zqs,KW,Nq]
def vq  :qC a m=6↔∀o∈a,JL o m=6->o=m:=by
 grind[qC,List.isEmpty_iff,List.filter_eq_nil_iff]
structure Good(n:3)(f:J1):4 where
 ne:f ≠[]
 rows:∀r∈f,RowOk n r
 rise:∀r∈f,xk r
 len:⇑f<=40
 anti:∀r∈f,∀s∈f,JL r s=6->r=s
 srt:f.Pairwise λa b=>jK a b=6
def XF(r:J0)(a t:3):3:=match JA r t with
 |some w=>0-w
 |none=>a
def JZ(r:J0)(a:3)(n:5):Yf:=(List.range n).map λi:5=>XF r a (i:3)
def FC  {n:5}(b:0<=t)(c:t<(n:3)):jN (JZ r a n) t=XF r a t:=by
 grind[jN,JZ,List.getD_eq_getElem?_getD,List.getElem?_map]
def oo(r)(a)(n):⇑(JZ r a n)=n:=by ext JZ;simp
def eN  {n:5}(c:r ≠[])(e:j9 r)(b:∀p∈r,0<=p.1/\p.1<(n:3)):QB r (JZ r late n)=0:=by
 let one:∀p∈r,jN (JZ r late n) p.1+p.2=0:=by
  intro p a;rw[FC (b p a).1 (b p a).2,];ext XF;rw[e.look a,];show 0-p.2+p.2=0;lia
 rw[(Ec ?_ λy f=>?_).symm]
 .cases(r)with
  |nil=>rw[Zn 9 c]
  |cons p r=>rw[Ja.mpr (p,Zqs,one p Zqs)]
 .let(-p,a,rfl):=Ja.mp f;rw[Int.le_of_eq<|one p a]
def FD(j n:5):min (j:3) (n:3)=((min j n:5):3):=by
 lia
def Nr (l:List α) (a:0<=k):Q1 l (!k) 8 8=l.drop k.toNat:=by
 let e:sliceBounds (!k) 8 8 ⇑l=%[((min k.toNat ⇑l:5):3),(⇑l:3)|1]:=by
  let(j,rfl):=Wm a;ext sliceBounds;simp only;rw[Ze (Int.not_lt.mpr a),FD];rw[9]
 ext Q1;rw[e,sliceRange_one];let b:(λx:5=>l[x]?)=λx:5=>l.toArray[x]?:=by simp
 rw[b,pick_run l.toArray (min k.toNat ⇑l)<|⇑l-min k.toNat ⇑l];cases c:k.toNat<=⇑l
 .rw[Vc c,Uz ()]
 .rw[VH (),Vb (Zf _),Vb ()];rw[List.take_nil]
def FF{α:Type}{f:α->Bool}{l:List α} {p:α}(h:∀q∈l.take i,f q=7)(a:l[i]?=!p)(b:f p=6):l.find? f=!p:=by
 let c:=(Jc.mp a).1;let e:l=l.take i++p::l.drop (i+1):=by
  let g:l.drop i=p::l.drop (i+1):=by
   rw[Uo c,]
   congr 1
   rw[(Jc.mp a).2]
  rw[<-g,UM]
 rw[e,List.find?_append,List.find?_eq_none.mpr λq j=>by rw[h q j,];simp];simp[b]
structure ThingsOk(ts:Yf):4 where
 ne:ts ≠[]
 len:⇑ts<=04
 rng:∀t∈ts,0<=t/\t<12
 up:ts.Pairwise (·<·)
def Dd (h:xk r):j9 r:=by
 unfold xk at h;ext j9 List.Nodup;rw[h.imp λh e=>()]
def eP (h:j9 r) (b:p∈r)(c:q∈r)(e:p.1=q.1):p=q:=by
 cases(r)with
 |nil=>cases b
 |cons a r f=>
  unfold j9 at h;rw[Zl,List.nodup_cons]at h;obtain z|z:=UY.mp b
  .rcases UY.mp c with y|y
   .rw[z,y]
   .rw[Zn (Ja.mpr (q,y,by rw[<-e,z])) h.1]
  .rcases UY.mp c with y|y
   .rw[Zn (Ja.mpr (p,z,by rw[e,y])) h.1]
   .rw[f h.2 z y]
def Bo   (a:p∈r):jN hs p.1+p.2<=QB r hs:=
 (KZ<|λz=>()).2 _ ()
def Nt  (a:r ≠[]):∃p∈r,QB r hs=jN hs p.1+p.2:=xa (Ja.mp (KZ<|λz=>a<|Je.mp z).1) λp=>j5 λb e=>(p,b,e.symm)
def oJ   (b:r ≠[]):QB r c<=x↔∀p∈r,jN c p.1+p.2<=x:=by
 constructor
 .intro h p a;rw[Int.le_trans (Bo a) h]
 .intro h;let(p,a,e):=Nt b;rw[e,];rw[h p a]
def WK   (a:r∈f):JG f hs<=QB r hs:=
 (Z1<|λz=>()).2 _ ()
def Xj  (a:f ≠[]):∃r∈f,JG f hs=QB r hs:=xa (Ja.mp (Z1<|λz=>a<|Je.mp z).1) λp=>j5 λb e=>(p,b,e.symm)
structure Over(f:J1)(hs:Yf):4 where
 ne:f ≠[]
 rne:∀r∈f,r ≠[]
 once:∀r∈f,j9 r
 bnd:∀r∈f,∀p∈r,0<=p.1/\p.1<(⇑hs:3)
structure RoundOk(n:3)(fs:List J1):4 where
 len:(⇑fs:3)=n
 low:1<=n
 most:n<=12
 forms:∀f∈fs,FormOk n f
def vQ  (R:RoundOk n fs) (h:⇑i=⇑fs):∀f∈fs,Over f i:=λf e=>((R.forms f e).ne,λr c=>((R.forms f e).rows r c).ne,λr c=>((R.forms f e).rows r c).once,λr c p j=>by
 let:=((R.forms f e).rows r c).mem p j;let:=R.len;lia)
def rdD(fs:List J1):D:=.lst<|fs.map jm
@[simp]def k7(fs):Xa (rdD fs)=! fs.map jm:=rfl
open L2.ST
theorem FG:∀{b a:Yf},a.Pairwise (·<·)->b.Pairwise (·<·)->(∀x∈a,x∈b)->⇑a<=⇑b/\(⇑a=⇑b->a=b)
 |[],a,_,_,h=>by
  cases(a)with
  |nil=>simp
  |cons x a=>cases h x Zqs
 |y::b,[],_,_,_=>by simp
 |y::b,x::a,hx,hy,h=>by
  rw[List.pairwise_cons]at hx hy;rcases UY.mp (h x Zqs)with q|q
  .have(c,f):=FG hx.2 hy.2 λz e=>by
    grind
   ext
  .let(c,_):=FG (Ji.mpr hx) hy.2 λz e=>by
    grind
   grind
theorem Nu:∀{a b:J0},a.map (·.1)=b.map (·.1)->(∀(i:5)p q,a[i]?=!p->b[i]?=!q->p.2<=q.2)->a≠b->jK a b=6
 |[],[],_,_,h=>Zn 9 h
 |[],_::_,e,_,_=>by simp at e
 |_::_,[],e,_,_=>by simp at e
 |p::a,q::b,e,hw,hn=>by
  let g:=hw 0 p q 9 9;rw[WT,];cases z:p=q
  .rw[Zd z,];rw[Nu (List.cons.inj e).2 (λi p q c f=>hw (i+1) p q c f) ()]
  grind[XU]
def eD (s:xk a)(j:xk b)(h:JL a b=6)(t:a≠b):wD a b=6:=by
 let u:=zT.mp h;let v:=Dd j;let(l,m):=FG s j λx y=>by
  let(-p,c,rfl):=Ja.mp y;let(-w,f,_):=u p c;rw[Ja.mpr (%[p.1|w],Q5 f,9)]
 rw[Zql,Zql]at l m;rw[Aa,];obtain q|q:=Nat.lt_or_eq_of_le l
 .rw[.inl q]
 .let e:=m q;rw[.inr (q,Nu e (λi p r c n=>?_) t)];let(-w,f,g):=u p (Uf c);let z:p.1=r.1:=by
   let o:(a.map (·.1))[i]?=!p.1:=by rw[Zv,c];rfl
   let A:(b.map (·.1))[i]?=!r.1:=by rw[Zv,n];rfl
   rw[e,A]at o;rw[(Zqi o).symm]
  let:=eP v (Uf n) (Q5 f) z.symm;rw[this,];rw[g]
def Bp  (T:Tot c) (f:l.Nodup):(Qs c l).Pairwise λa b=>c a b=6:=by
 let e:(Qs c l).Nodup:=(QM l).nodup_iff.mpr f;rw[List.Pairwise.imp ?_<|(XV T l).and e];rintro a b ⟨g,h⟩
 induction q:c a b with
 |true=>rfl
 |false=>rw[Zn (T.tot _ _ q g) h]
def xH(a:J1):J1:=Qs wD<|Qs jK<|xM a
theorem mJ  :r∈xH a↔r∈a:=by
 grind[xH,rQ,QM]
def Nv(c:J1):(xH c).Pairwise λa b=>wD a b=6:=Bp uZ<|(QM _).nodup_iff.mpr<|Mz c
def Nw(a:J1):⇑(xH a)<=⇑a:=by
 ext xH;rw[(QM _).length_eq,(QM _).length_eq];rw[M0 a]
def we(kept:J1)(r:J0):J1:=if kept.any (λo=>JL o r)=6 then kept else kept++[r]
def yi(a:J1):J1:=(xH a).filter<|qC a
theorem Nx (p:∀r∈a,xk r):∀i,i<=⇑(xH a)->((xH a).take i).foldl we []=((xH a).take i).filter (qC a)
 |0,_=>by simp
 |i+1,I=>by
  let G:=Nx p i ();let t:=Nv a;let s:∀r,r∈xH a↔r∈a:=λr=>mJ;generalize xH a=L at I G t s;let c:i<⇑L:=()
  rw[KM (Zqg c),Vz,List.filter_append,G];let u:∀o∈L.take i,wD o L[i]=6:=λo e=>by
   let(j,v,rfl):=UI e;rw[Uq]at v;rw[List.getElem_take,];rw[Jk.mp t j i () c ()]
  let y:=(s L[i]).mp<|UA c;show we ((L.take i).filter<|qC a) L[i]=_;ext we
  induction q:qC a L[i]with
  |true=>
   let low:=vq.mp q;rw[Ze,List.filter_cons_of_pos q,List.filter_nil];intro z;have(o,e,A):=V5.mp z;let e:=(Jf.mp e).1;let b:=u o e;rw[low o ((s o).mp<|List.mem_of_mem_take e) A]at b;let:=uZ.asy _ _ b
   ext
  |false=>
   let M:¬ ∀o∈a,JL o L[i]=6->o=L[i]:=λz=>by rw[vq.mpr z]at q;cases q
   let(o,e,A,hne):∃o∈a,JL o L[i]=6/\o≠L[i]:=by
    rw[by grind]
   let(-g,B,C):=FB (λz=>by
    let:o∈a.filter λo=>JL o L[i]:=Jf.mpr (e,A);rw[z]at this;cases this) λr h=>(Dd<|p r (Jf.mp h).1,())
   let(H,E):=Jf.mp B;let l:=vq.mpr λx J m=>C x (Jf.mpr (J,KW m E)) m;let n:g≠L[i]:=by grind
   let f:g∈L.take i:=by
    let(j,v,F):=UI ((s g).mpr H);obtain w|w|w:=Ve j i
    .rw[<-F,List.mem_take_iff_getElem];rw[by grind]
    .subst w;rw[Zn F.symm n]
    .let b:=Jk.mp t i j c v w;rw[F]at b;let:=uZ.asy _ _ b;rw[eD (p g H) (p _ y) E n]at this;cases this
   rw[Zd (V5.mpr (g,Jf.mpr (f,l),E)),List.filter_cons_of_neg (by rw[q,];simp),List.filter_nil,ZA]
def Ny(c:J1):Qs jK (yi c)=Qp c:=by
 let f:(yi c).Nodup:=by
  let:(xH c).Nodup:=by
   rw[(Nv c).imp λ{a b}h e=>?_];let:=uZ.asy _ _ h
   ext
  rw[List.Pairwise.sublist List.filter_sublist this]
 rw[XY yJ (Bp yJ f) (Bp yJ<|(Db c c []).2.2 Vt) λr=>?_]
 grind[yi,xS,mJ,QM]
structure PairsOk(ts:Yf)(r:J0):4 where
 ne:r ≠[]
 len:⇑r<=04
 mem:∀p∈r,p.1∈ts
 up:r.Pairwise λp q=>p.1<q.1
def lJ (h:r.Pairwise λp q=>p.1<q.1):j9 r:=by
 ext j9 List.Nodup;rw[Vf,];rw[h.imp λh e=>()]
def PairsOk.row  (T:ThingsOk c)(P:PairsOk c r):RowOk 12 r:=(P.ne,lJ P.up,λp e=>T.rng _<|P.mem p e,Zh P.len ())
def oE  (a:s ≠[])(f:j9 r)(h:JL s r=6):QB s hs<=QB r hs:=by
 rw[oJ a,];intro p b;let(-w,c,e):=zT.mp h p b;let:=Bo (hs:=hs)<|Q5 c
 grind
def Y9 (ok:∀r∈b,j9 r/\xk r) (f:r∈b):∃s∈Qp b,JL s r=6:=by
 let l:=zT.mpr λp g=>(p.2,(ok r f).1.look g,UZ _);let ne:b.filter (λo=>JL o r)≠[]:=λz=>by
  ext
 let(-m,i,h):=FB ne ();let(c,a):=Jf.mp i;rw[(m,xS.mpr (c,vq.mpr λo j e=>h o (Jf.mpr (j,KW e a)) e),a)]
def oA  (l:g ≠[])(ok:∀r∈g,r ≠[]/\j9 r/\xk r):JG (Qp g) hs=JG g hs:=by
 let(-r,j,e):=Xj (hs:=hs) l;let(-s,f,m):=Y9 (λr h=>(ok r h).2) j;let a:=WK (hs:=hs) f;let b:=oE (hs:=hs) (ok s (xS.mp f).1).1 (ok r j).2.1 m;let ne:Qp g ≠[]:=by grind
 let(-n,i,o):=Xj (hs:=hs) ne;let c:=WK (hs:=hs) (xS.mp i).1;lia
def al (h:⇑f+⇑g<=1000):j6 (jm f) (jm g)=!(jm<|f++g):=by
 show(if(f.map j3).length+⇑(g.map j3)<=00 then _ else _)=_;rw[Zql,Zql,Zd (small h)];ext jm;simp
def WL(c):(Qp c).Pairwise λa b=>jK a b=6:=Bp yJ<|(Db c c []).2.2 Vt
structure JRow(r:J0):4 where
 ne:r ≠[]
 rise:xk r
 bnd:∀p∈r,0<=p.1/\p.1<12
def JRow.once (h:JRow r):j9 r:=Dd h.rise
def JRow.len (h:JRow r):⇑r<=12:=by
 let e:∀(l:Yf)(a:3),l.Pairwise (·<·)->(∀x∈l,a<=x/\x<12)->(⇑l:3)<=max 0 (12-a):=by
  intro l
  cases(l)with
  |nil=>simp;lia
  |cons x l f=>
   intro a c i;rw[List.pairwise_cons]at c;let n:=i x Zqs;let:=f (x+1) c.2 ()
   grind
 let:=e _ 0 h.rise λx j=>by
  let(-p,c,rfl):=Ja.mp j;rw[h.bnd p c]
 grind
def asc(x:Str):4:=x.cps.all (·<128)=6
def dP :asc x↔∀c∈x.cps.toList,c<128:=by
 ext asc;rw[<-Array.all_toList,UJ];simp
def lN(a b:Str):(a++b).cps.toList=a.cps.toList++b.cps.toList:=Array.toList_append
structure TxtOk(n:5)(x:Str):4 where
 len:⇑x<=n
 asc:asc x
def TxtOk.mono  (c:TxtOk m a)(h:m<=n):TxtOk n a:=(Zh c.len h,c.asc)
def Nz  (h:(decide (⇑x<=n)&&x.cps.all (·<128))=6):TxtOk n x:=by
 rw[Ud]at h;rw[(of_decide_eq_true h.1,h.2)]
def low(x:Str):4:=∀c∈x.cps.toList,97<=c/\c<123
@[simp]def sK(n:5)(g:FS)(a b c d e:D):jJ n 05 g [a,b,c,d,e]=(g<|~~~a::~~~b::~~~c::~~~d::~~~e::List.replicate (n-05) 8).bind yg:=rfl
structure Pl where
 name:Str
 givens:Yi
 rows:List (Str×Str×J0)
def jB(r:Str×Str×J0):D:=.tup [.str r.1,.str r.2.1,j3 r.2.2]
def FH(p:Pl):D:=.tup [020,.lst (p.givens.map .str),.lst (p.rows.map jB)]
def Qy(p:Pl):D:=.ins "Plan" ["name","givens","rows"] [020,.lst (p.givens.map .str),.lst (p.rows.map jB)]
def Qz(a:List Pl):D:=.ins "Book" ["plans"] [.lst (a.map Qy)]
def gz(p:Str×3):D:=.tup [.str p.1,.int p.2]
structure ItOk(ahead:3)(its:J0):4 where
 rng:∀p∈its,0<=p.1/\p.1<ahead
 far:∀p∈its,-1000000000000000000000000000000<p.2/\p.2<1000000000000000000000000000000
@[simp]def fY(r):ju (jB r) (.int 0)=! .str r.1:=rfl
@[simp]def fX(r):ju (jB r) (.int 1)=! .str r.2.1:=rfl
@[simp]def fW(r):ju (jB r) (.int 2)=! j3 r.2.2:=rfl
@[simp]def zxM(p):ju (FH p) (.int 0)=! 020:=rfl
@[simp]def zwx(p):ju (FH p) (.int 1)=!(.lst<|p.givens.map .str):=rfl
@[simp]def zy1(p):ju (FH p) (.int 2)=!(.lst<|p.rows.map jB):=rfl
@[simp]def hB(p):ju (gz p) (.int 0)=! .str p.1:=rfl
@[simp]def fZ(p):ju (gz p) (.int 1)=! .int p.2:=rfl
@[simp]def zzq(a):qw "Book" "plans" (Qz a)=!(.lst<|a.map Qy):=rfl
@[simp]def bg(p):qw "Plan" "name" (Qy p)=! 020:=rfl
@[simp]def zwp(p):qw "Plan" "givens" (Qy p)=!(.lst<|p.givens.map .str):=rfl
@[simp]def bf(p):qw "Plan" "rows" (Qy p)=!(.lst<|p.rows.map jB):=rfl
noncomputable def aa(a:List Pl):List (Str×3):=a.map λp=>%[p.name|(⇑p.givens:3)]
def m7(a:List (Str×3))(how:Str)(n:5):4:=how="all"\/how="first"\/%[how|(n:3)]∈a
def Xk  (h:asc x):jY (n+1) (.str x)=6:=by
 show PyData.strOk x=6;ext PyData.strOk;rw[<-Array.all_toList,UJ];rw[λc a=>Zp<|Ur (dP.mp h c a) ()]
def aB{α:Type}{f:α->D}{l:List α}(h:jY 12 (.lst<|l.map f)=6):zr (.lst<|l.map f) (.lst [])=!(.bl<|not l.isEmpty):=by
 rw[IG h Nj,Nk]
def N0{α:Type}{f:α->D}{l:List α}(h:jY 12 (.lst<|l.map f)=6):xI (.lst<|l.map f) (.lst [])=! .bl l.isEmpty:=by
 rw[Cw h Nj,Nk]
def lV{x y:Str}(h:x.cps.toList=y.cps.toList):x=y:=by
 cases x
 ext
noncomputable def ck(l:Yh):Bool:=l[0]?==!120||l[0]?==!121||l[0]?==!113||l[2]?==!113
structure WB(ps:List Pl):4 where
 l1:1<=⇑ps
 l2:⇑ps<=20
 nd:(ps.map (·.name)).Nodup
 ok:∀p∈ps,TxtOk 12 p.name/\1<=⇑p.name/\p.name ≠"all"/\p.name ≠"first"
 how:∀(i:5)(p:Pl),ps[i]?=!p->∀r∈p.rows,r.2.1="all"\/r.2.1="first"\/r.2.1∈(ps.take i).map (·.name)
 sz:∀p∈ps,⇑p.rows<=40/\⇑p.givens<=12
@[simp]def nX(is)(f)(a):bY is f a=(f<|qp is a).bare.bind λd=>if MM d then .ok d else .no:=rfl
@[simp]def rg(c)(names)(a)(b)(e):Bb c names a b e=(b e).bind λf=>(a f).bind λg=>.ok<|.ins c names g:=rfl
@[simp]def iI(i j k)(r)(a):JQ (.tup [i,j,k]) (jB r) a=.ok (((a.set i<|~~~.str r.1).set j<|~~~.str r.2.1).set k<|~~~j3 r.2.2):=rfl
@[simp]def zw0(x):Kg (.str x)=! .inr x:=rfl
noncomputable def dT(t:List (Str×3)):D:=.dct (t.map λp=>.inr p.1)<|t.map λp=>.int p.2
noncomputable def z8(t:List (Str×3))(x:Str):02 3:=(t.find? λp=>decide<|p.1=x).map (·.2)
def lQ :(U0 a:jT)=.inr b ↔a=b:=()
theorem FI:∀(t:List (Str×3))(x:Str),jO (t.map λp=>.inr p.1) (t.map λp=>.int p.2) (.inr x)=(z8 t x).map .int
 |[],_=>9
 |p::t,x=>by
  rw[Zl,Zl];ext jO z8;rw[List.find?_cons,];cases h:p.1=x
  .ext
  .rw[Ze λz=>h<|lQ.mp z,Zo h];rw[FI t x]
@[simp]def cD(t)(x):ju (dT t) (.str x)=(z8 t x).map .int:=FI t x
@[simp]def cE(a)(t)(x):yE a (.str x) (dT t)=!(.bl<|if a then not<|(z8 t x).isSome else(z8 t x).isSome):=by
 show some (D.bl<|if a then not<|(jO (t.map λp=>.inr p.1) (t.map λp=>.int p.2)<|.inr x).isSome else(jO (t.map λp=>.inr p.1) (t.map λp=>.int p.2)<|.inr x).isSome)=_;rw[FI,VW]
def rN  :z8 t x=8↔x∉t.map (·.1):=by
 grind[z8,Option.map_eq_none_iff,List.find?_eq_none]
def pS  (h:x∉a.map (·.1)):z8 (a++b) x=z8 b x:=by
 ext z8;rw[List.find?_append,Option.map_eq_none_iff.mp (rN.mpr h)];rfl
noncomputable def tx(how:Str):Bool:=not<|decide (how="all")||decide (how="first")
def kc(t:List (Str×3))(p:Pl):3:=⇑p.rows+((p.rows.filter λr=>tx r.2.1).map λr=>(z8 t r.2.1).getD 0).sum
def uB(t:List (Str×3))(p:Pl):List (Str×3):=t++[%[p.name|kc t p]]
def za(a:List Pl):List (Str×3):=a.foldl uB []
def ak(a)(p):za (a++[p])=za a++[%[p.name|kc (za a) p]]:=by
 ext za;rw[Vz,];rfl
theorem N1:∀(l:List Pl)(t:List (Str×3)),∃u,l.foldl uB t=t++u
 |[],t=>([],())
 |p::l,t=>by
  let(u,e):=N1 l (uB t p)
  simp_all[uB]
theorem N2:∀(l:List Pl)t,(l.foldl uB t).map (·.1)=t.map (·.1)++l.map (·.name)
 |[],t=>by simp
 |p::l,t=>by
  rw[Vj,N2 l];ext uB;simp
theorem FJ(l:List Pl):(za l).map (·.1)=l.map (·.name):=by
 ext za;rw[N2,];rfl
def WB.fresh (W:WB c)  (o:c[i]?=!p):p.name∉(za<|c.take i).map (·.1):=by
 rw[FJ,];intro z;let f:i<⇑c:=();let(-y,l,e):=Ja.mp z;let(j,n,r):=UI l;rw[Uq]at n;let s:=Jk.mp (Vf.mp W.nd) j i () f ()
 ext
def WB.at (W:WB c)  (f:c[i]?=!p):z8 (za c) p.name=! kc (za<|c.take i) p:=by
 let e:za c=(c.drop<|i+1).foldl uB (za (c.take i)++[%[p.name|kc (za<|c.take i) p]]):=by
  rw[<-ak];ext za;rw[<-Vz];let j:c.take (i+1)=c.take i++[p]:=by rw[VE,f];rfl
  rw[<-j,UM]
 let(u,l):=N1 (c.drop<|i+1) (za (c.take i)++[%[p.name|kc (za<|c.take i) p]]);rw[e,l,Ul,pS (W.fresh f)]
 simp_all[z8]
def WB.part (W:WB c)  (l:c[i]?=!p) (n:r∈p.rows):(z8 (za<|c.take i) r.2.1).isSome=tx r.2.1:=by
 let f:∀w:Str,(∀y∈c,y.name≠w)->z8 (za<|c.take i) w=8:=λw o=>rN.mpr<|by
  grind[FJ]
 obtain z|z|z:=W.how i p l r n
 .rw[z,f "all" λy j=>(W.ok y j).2.2.1];rfl
 .rw[z,f "first" λy j=>(W.ok y j).2.2.2];rfl
 .let s:(z8 (za<|c.take i) r.2.1).isSome=6:=by
   induction h:z8 (za<|c.take i) r.2.1 with
   |some v=>rfl
   |none=>rw[Zn (by rwa[FJ,])<|rN.mp h]
  have(y,j,e):=Ja.mp z;let ok:=W.ok y ()
  simp_all[tx]
noncomputable def c7(c:5):Bool:=decide (97<=c)&&decide (c<123)
def isG(c:5):Bool:=decide (48<=c)&&decide (c<58)
def kept:Yi:=["plan","given","all","first","part"]
def N3(x:Str):Bool:=decide (1<=⇑x)&&(decide (⇑x<=12)&&((kept.all λw=>not<|decide<|w=x)&&(c7 (x.cps.toList.headD 0)&&x.cps.toList.all λc=>c7 c||isG c)))
def vH(x:Str):4:=TxtOk 12 x/\N3 x=6
def vH.ne (h:vH x):1<=⇑x/\x ≠"all"/\x ≠"first":=by
 let h:=h.2;unfold N3 at h;rw[Ud,Ud,Ud,decide_eq_true_eq]at h;let k:=UJ.mp h.2.2.1;let c:=k "all" (by decide+kernel);let e:=k "first" (by decide+kernel);rw[(h.1,λz=>by rw[z]at c;simp at c,λz=>by rw[z]at e;simp at e)]
structure PL(ahead:List Pl)(p:Pl):4 where
 nm:vH p.name
 fresh:∀q∈ahead,q.name≠p.name
 tn:∀x∈p.givens++p.rows.map (·.1),vH x
 td:(p.givens++p.rows.map (·.1)).Nodup
 g1:1<=⇑p.givens
 g2:⇑p.givens<=12
 r1:1<=⇑p.rows
 r2:⇑p.rows<=40
 its:∀(k:5)(r:Str×Str×J0),p.rows[k]?=!r->ItOk ((⇑p.givens:3)+k) r.2.2/\1<=⇑r.2.2/\⇑r.2.2<=40
 how:∀r∈p.rows,m7 (aa ahead) r.2.1 ⇑r.2.2
 wt:kc (za ahead) p<=2000
def LB(a:List Pl):4:=∀(i:5)(p:Pl),a[i]?=!p->PL (a.take i) p
def LB.snoc  (h:LB f)(l:PL f p):LB (f++[p]):=λk x c=>by
 cases z:k<⇑f
 .rw[Uj z]at c;rw[VU (),];rw[h k x c]
 .rw[Uv ()]at c;let i:k-⇑f=0:=by
   induction e:k-⇑f with
   |zero=>rfl
   |succ j=>rw[e]at c;simp at c
  rw[i]at c;cases c;let:k=⇑f:=()
  rwa[this,List.take_left' 9]
def LB.mem (h:LB c) (e:p∈c):∃i,PL (c.take i) p:=by
 let(i,f):=VA e;rw[(i,h i p f)]
noncomputable def bnd:5->3
 |0=>0
 |n+1=>06+06*bnd n
@[simp]def lG(a)(b)(c):wA a b c=(a b).bind λd=>.ok %[d|c]:=rfl
@[simp]def nS(g)(b c)(a)(e):v4 g b c a e=(b a e).bind λp=>(c a p.2).bind λq=>(Res.ofO<|g p.1 q.1).bind λz=>.ok %[z|q.2]:=rfl
@[simp]def zy8(a)(b)(c)(e):XB a b c e=(b c).bind λf=>a f e:=rfl
@[simp]def bH(b)(a):CS b a=.ok %[[]|a]:=rfl
@[simp]def iM(f)(g)(a)(b):X9 f g a b=(f a b).bind λp=>(g a p.2).bind λq=>.ok %[p.1::q.1|q.2]:=rfl
@[simp]def bG(a)(b)(c):kr a b c=(a b c).bind λp=>if ⇑p.1<=1000 then .ok %[.tup p.1|p.2]else .no:=rfl
@[simp]def zww(i)(f)(a)(b):lm i f a b=(f a b).bind λp=>.ok<|.next (a.set i<|~~~p.1) p.2:=rfl
@[simp]def rm(i)(g)(a)(b):vM i g a b=g (qp [i] a) b:=rfl
@[simp]def nR(is)(f)(b)(a):rS is f b a=(f<|derI a is b).strict.bind λd=>if Um d then .ok %[d|a]else .no:=rfl
def eK(g:xF):Out2->Res (D×HP)
 |.next a b=>g a b
 |_=>.no
@[simp]def rA(g)(a)(b):eK g (.next a b)=g a b:=rfl
@[simp]def FK(a:ya)(g:xF)(b:SD)(c:HP):zC a g b c=(a b c).bind (eK g):=by
 rfl
@[simp]def Xl(b)(ga g)(a)(c):rB b ga g a c=(b a c).bind λp=>if p.1 then ga a p.2 else g a p.2:=rfl
def tK(p:D×HP):Res (Bool×HP):=match p.1 with
 |.bl b=>.ok %[b|p.2]
 |_=>.no
@[simp]def ca(b)(a):tK %[.bl b|a]=.ok %[b|a]:=rfl
@[simp]def zwR(f)(a)(b):lh f a b=(f a b).bind tK:=rfl
def FL(a)(d):je [%[a|d]] a=!d:=Zd 9
def aF(a)(d e):Qo [%[a|d]] a e=[%[a|e]]:=Zd 9
def aX{n ar:5}    (h:⇑b=ar)(e:g (Qt n b) [%[a|d]]=.ok %[v|[%[a|c]]]):KD n ar g b [%[a|d]]=.ok %[v|[%[a|c]]]:=by
 simp_all[KD]
def mV     (h:a e f=.ok (.next sd' c))(g:b sd' c=r):zC a b e f=r:=()
def N4   (h:g a=.ok (.next sd')):uG g a b=.ok (.next sd' b):=()
def Ws (a:asc x)(b:asc y):xI (.str x) (.str y)=!(.bl<|decide<|x=y):=by
 rw[Cw (Xk a) (Xk b),]
 simp_all[jF]
def YH:asc "all":=by ext asc;decide+kernel
def YI:asc "first":=by ext asc;decide+kernel
def N5:xI (.str "all") (.str "all")=! .bl 6:=by rw[Ws YH YH,];congr 2
def N6:xI (.str "first") (.str "all")=! .bl 7:=by rw[Ws YI YH,];congr 2
def N7:xI (.str "first") (.str "first")=! .bl 6:=by rw[Ws YI YI,];congr 2
def yd(a:Yf)(b:J0):Yf:=b.map λp=>jN a p.1+p.2
def kA(a:Yf)(r:Str×Str×J0):3:=if r.2.1="all"then qN (yd a r.2.2)else qV (yd a r.2.2)
def wQ(rows:List (Str×Str×J0))(a:Yf):Yf:=rows.foldl (λf r=>f++[kA f r]) a
structure RowsOk(n:5)(rows:List (Str×Str×J0)):4 where
 len:⇑rows<=60
 pos:1<=⇑rows
 how:∀r∈rows,r.2.1="all"\/r.2.1="first"
 ne:∀r∈rows,r.2.2 ≠[]
 sh:∀r∈rows,⇑r.2.2<=60
 rng:∀(k:5)r,rows[k]?=!r->∀p∈r.2.2,0<=p.1/\p.1<(n:3)+k
theorem CF:∀rows a,⇑(wQ rows a)=⇑a+⇑rows
 |[],a=>9
 |r::rows,a=>by
  show(wQ rows<|a++[kA a r]).length=_;rw[CF rows,Ua,Ug,Zu];lia
def pY  (h:a ≠[]):yd found a ≠[]:=λz=>h<|Je.mp z
def au(a)(b):⇑(yd a b)=⇑b:=by ext yd;simp
def lU  (h:∀p∈b,0<=p.1/\p.1<(⇑a:3)):qg (.tup [0,1]) (jh j6 (jh ju (ja 2)<|015)<|ja 1) [8,8,~~~(.lst<|a.map .int)] (b.map qy)=.ok ((yd a b).map .int):=by
 ext yd;rw[Zw,];rw[K0 λp c=>by
  let:=eT (h p c).1 (h p c).2;simp[this]]
def RowsOk.at  (ok:RowsOk n rows) (l:⇑c=n)  (h:rows[i]?=!r):(∀p∈r.2.2,0<=p.1/\p.1<(⇑(wQ (rows.take i) c):3))/\⇑(wQ (rows.take i) c)=n+i/\i<⇑rows/\r∈rows:=by
 let f:=(Jc.mp h).1;let e:⇑(wQ (rows.take i) c)=n+i:=by rw[CF,Uq];lia
 rw[(λp j=>?_,e,f,Uf h)];let:=ok.rng i r h p j;lia
def FM{α:Type}{f:α->D}(a:List α)(x:α):ju (.lst<|(a++[x]).map f) (.int<|-1)=! f x:=by
 show qa ((a++[x]).map f) (-1)=_;ext qa yD;rw[Ze (),Zd (by rw[Zql,Ua,Ug];lia)];let e:((-1:3)+(⇑((a++[x]).map f):3)).toNat=⇑a:=by
  rw[Zql,Ua,Ug];lia
 ext
def FN{α:Type}{l:List α}(h:l ≠[]):∃a x,l=a++[x]:=(l.dropLast,l.getLast h,(List.dropLast_concat_getLast h).symm)
def sq2    (h:a f g=.ok (.next c e))(i:b c e=r):Bc a b f g=r:=()
def f6     (h:c a b=.ok 6)(f:e a b=r):wP c e g a b=r:=by
 rwa[MS,h]
def f7     (h:c a b=.ok 7)(f:e a b=r):wP c g e a b=r:=by
 rwa[MS,h]
@[simp]def bI(b c)(a)(e):kt b c a e=(b a e).bind λp=>(c a p.2).bind<|cz p.1:=rfl
@[simp]def zws(a)(b)(c)(e):l3 a b c e=(b c e).bind λp=>a p.1 p.2:=rfl
def cq:Pl:=("",[],[])
abbrev Rw:=Str×Str×J0
structure RwP(ps:List Pl)(n:3)(r:Rw):4 where
 nm:asc r.1
 how:r.2.1="all"\/r.2.1="first"\/∃q∈ps,r.2.1=q.name/\⇑r.2.2=⇑q.givens
 ne:r.2.2 ≠[]
 sh:⇑r.2.2<=20
 rng:∀p∈r.2.2,0<=p.1/\p.1<n
 wt:∀p∈r.2.2,-1000000000000000000000000000000<=p.2/\p.2<=1000000000000000000000000000000
structure PlP(ps:List Pl)(p:Pl):4 where
 g1:1<=⇑p.givens
 g2:⇑p.givens<=12
 r1:1<=⇑p.rows
 r2:⇑p.rows<=22
 row:∀(k:5)r,p.rows[k]?=!r->RwP ps ((⇑p.givens:3)+k) r
structure BkP(ps:List Pl):4 where
 len:⇑ps<=10
 nm:∀(i:5)p,ps[i]?=!p->asc p.name/\p.name ≠"all"/\p.name ≠"first"
 inj:∀(i j:5)p q,ps[i]?=!p->ps[j]?=!q->p.name=q.name->i=j
 ok:∀(i:5)p,ps[i]?=!p->PlP (ps.take i) p
def BkP.at (B:BkP c) {p:Pl}(h:c[i]?=!p):i<⇑c/\i<10/\asc p.name/\p.name ≠"all"/\p.name ≠"first":=have e:=(Jc.mp h).1;have l:=B.len;(e,(),B.nm i p h)
theorem BkP.find (B:BkP l){i:5} (h:l[i]?=!p):l.find? λq=>decide<|q.name=p.name=!p:=by
 rw[FF (λq n=>?_) h<|Zp 9];let(j,c):=Jm.mp n;let f:=(Jc.mp c).1;rw[Uq]at f;rw[Wf ()]at c;rw[Zo λe=>?_];let:=B.inj j i q p c h e;lia
def y7(rc:Str->List 3->3)(a:Yf)(r:Rw):3:=if r.2.1="all"then qN (yd a r.2.2)else if r.2.1="first"then qV (yd a r.2.2)else rc r.2.1 (yd a r.2.2)
def qx(rc:Str->List 3->3)(rows:List Rw)(a:Yf):Yf:=rows.foldl (λf r=>f++[y7 rc f r]) a
def xG(a:List Pl):5->Pl->List 3->List 3
 |0,_,_=>[]
 |n+1,p,b=>qx (λx c=>(xG a n ((a.find? λq=>decide<|q.name=x).getD cq) c).getLastD 0) p.rows b
def N8 {rows:List Rw}   (h:rows[i]?=!r):qx rc (rows.take<|i+1) a=qx rc (rows.take i) a++[y7 rc (qx rc (rows.take i) a) r]:=by
 simp_all[qx,VE]
theorem FP(rc):∀rows a,⇑(qx rc rows a)=⇑a+⇑rows
 |[],a=>9
 |r::rows,a=>by
  show(qx rc rows<|a++[y7 rc a r]).length=_;rw[FP rc rows,Ua,Ug,Zu];lia
def aP    :⇑(xG ps (n+1) p hs)=⇑hs+⇑p.rows:=FP _ _ _
def ir    (P:PlP b p):∃a,xG ps (n+1) p hs=a++[(xG ps (n+1) p hs).getLastD 0]:=by
 let ne:xG ps (n+1) p hs ≠[]:=λz=>by
  let c:=aP (ps:=ps) (n:=n) (p:=p) (hs:=hs);let f:=P.r1
  grind
 let(a x,e):=FN ne
 ext
def PlP.at  (P:PlP l p)  (n:⇑c=⇑p.givens){i:5}{r:Rw}(h:p.rows[i]?=!r):(∀y∈r.2.2,0<=y.1/\y.1<(⇑(qx rc (p.rows.take i) c):3))/\⇑(qx rc (p.rows.take i) c)=⇑p.givens+i/\i<⇑p.rows:=by
 let f:=(Jc.mp h).1;let e:⇑(qx rc (p.rows.take i) c)=⇑p.givens+i:=by rw[FP,Uq];lia
 rw[(λy j=>?_,e,f)];let:=(P.row i r h).rng y j;lia
def BkP.snoc  (B:BkP c)(l:⇑c<04)(P:PlP c p)(n:asc p.name/\p.name ≠"all"/\p.name ≠"first")(f:∀q∈c,q.name≠p.name):BkP (c++[p]):=by
 let at_:∀(i:5)q,(c++[p])[i]?=!q->i<⇑c/\c[i]?=!q\/i=⇑c/\q=p:=λi q h=>by
  obtain z|z:=US i ⇑c
  .rw[Uj z]at h;rw[.inl (z,h)]
  .rw[Uv z]at h;rcases V6 (i-⇑c)with y|y
   .rw[y]at h;cases h;rw[.inr ((),9)]
   .rw[V7 (by rw[Ug,];lia)]at h;cases h
 rw[((),λi q h=>?_,λi j q r h o e=>?_,λi q h=>?_)]
 .rcases at_ i q h with ⟨_,z⟩|⟨rfl,rfl⟩
  .rw[B.nm i q z]
  .rw[n]
 .rcases at_ i q h with ⟨_,z⟩|⟨rfl,rfl⟩<;>obtain⟨_,y⟩|⟨rfl,rfl⟩:=at_ j r o
  .rw[B.inj i j q r z y e]
  .rw[Zn e<|f q<|Uf z]
  .rw[Zn e.symm<|f r<|Uf y]
  .rfl
 .rcases at_ i q h with ⟨y,z⟩|⟨rfl,rfl⟩
  .rw[VU (),];rw[B.ok i q z]
  ext
def BkP.ascs (B:BkP c):∀q∈c,asc q.name:=λq e=>xa (Jm.mp e) λi f=>(B.at f).2.2.1
def xp(a:List Pl)(n:5)(x:Str)(b:Yf):3:=(xG a n ((a.find? λq=>decide<|q.name=x).getD cq) b).getLastD 0
def FQ(a)(n)(p)(b):xG a (n+1) p b=qx (xp a n) p.rows b:=rfl
theorem BkP.how (B:BkP f){i:5} (l:f[i]?=!p){k:5}{r:Rw}(n:p.rows[k]?=!r):r.2.1="all"\/r.2.1="first"\/asc r.2.1/\r.2.1 ≠"all"/\r.2.1 ≠"first"/\∃j q,j<i/\f[j]?=!q/\r.2.1=q.name/\⇑r.2.2=⇑q.givens:=by
 rcases((B.ok i p l).row k r n).how with z|z|⟨q,z1,z2,z3⟩
 .rw[.inl z]
 .rw[.inr<|.inl z]
 .let(j,c):=Jm.mp z1;let e:=(Jc.mp c).1;rw[Uq]at e;rw[Wf ()]at c;let(!_,_,o,s,u):=B.at c;rw[.inr<|.inr (by rwa[z2,],by rwa[z2,],by rwa[z2,],j,q,(),c,z2,z3)]
def BkP.part (B:BkP c){j n:5} (i:c[j]?=!q)(l:Yf):∃f,xG c (n+1) q l=f++[xp c (n+1) q.name l]:=by
 let(f,e):=ir (B.ok j q i);rw[(f,?_)];ext xp
 rwa[B.find i,]
theorem De{α:Type}:∀{l m:List α},l.Nodup->(∀x∈l,x∈m)->⇑l<=⇑m
 |[],m,_,_=>Ub _
 |x::l,m,h,s=>by
  let(a b,rfl):=List.append_of_mem (s x Zqs);have(e,c):=Jh.mp h;let f:=De (m:=a++b) c λy g=>by
   grind
  grind
def xU(t g:J1):J1:=Qp<|t++g
structure Fm(n:3)(U:J1)(f:J1):4 where
 good:Good n f
 sub:∀r∈f,r∈U
def Fm.len  (F:Fm n U f)(h:⇑U<=28):⇑f<=28:=Zh (De (F.good.srt.imp λ{a b}h e=>by
 let:=yJ.asy _ _ h
 ext) F.sub) h
def Fm.step  (T:Fm n U t)(G:Fm n U g)(h:⇑U<=28):Fm n U (xU t g):=by
 let rows:∀r∈t++g,RowOk n r/\xk r/\r∈U:=λr c=>by
  obtain z|z:=Jb.mp c
  .rw[(T.good.rows r z,T.good.rise r z,T.sub r z)]
  .rw[(G.good.rows r z,G.good.rise r z,G.sub r z)]
 let sub:=λr c=>(rows r (xS.mp c).1).2.2;rw[((λz=>?_,λr c=>(rows r (xS.mp c).1).1,λr c=>(rows r (xS.mp c).1).2.1,?_,λr c s f i=>vq.mp (xS.mp f).2 r (xS.mp c).1 i,WL _),sub)]
 .let(r,c):=List.exists_mem_of_ne_nil _ T.good.ne;let(-s,f,_):=Y9 (λr c=>((rows r c).1.once,(rows r c).2.1)) (U9 _ c);let f:s∈xU t g:=f
  ext
 .let:=De ((WL<|t++g).imp λ{a b}h e=>by
   let:=yJ.asy _ _ h
   ext) sub
  show(Qp<|t++g).length<=40;lia
structure SdOk(r:J0):4 where
 once:j9 r
 mem:∀t∈r.map (·.1),0<=t/\t<12
def SdOk.len (h:SdOk r):⇑r<=12:=by
 let:(r.map (·.1)).length<=⇑((List.range 12).map λk:5=>(k:3)):=De h.once λt c=>by
  let(e,f):=h.mem t c;rw[Ja.mpr (t.toNat,VR.mpr (),())]
 ext
def SdOk.nil:SdOk []:=(Vt,λt c=>by cases c)
noncomputable def xX(i:5):5:=if i<26 then 97+i else 22+i
def xh:5->5->List 5
 |0,_=>[]
 |f+1,n=>if n=0 then[]else xX (n%36)::xh f (n/36)
def Bq(m:5):Yh:=xX (m%26)::xh 59 (m/26)
def vt(l:Yh):Str:=⟨l.toArray⟩
def QD(m:5):Str:=vt<|Bq m
def lL(a:Yh):⇑(vt a)=⇑a:=by
 show a.toArray.size=_;simp
def w6:Str:="abcdefghijklmnopqrstuvwxyz0123456789"
def aW:w6.cps.toList=(List.range 36).map xX:=by decide+kernel
def lS:⇑w6<=00:=small<|show ⇑w6<=1000 by decide+kernel
def N9 (b:0<=k)(f:k<36):ju (.str w6) (.int k)=! .str ⟨#[xX k.toNat]⟩:=by
 show(if ⇑w6<=00 then(qa w6.cps.toList k).map λc=>D.str ⟨#[c]⟩ else 8)=_;rw[Zd lS,aW];let e:qa ((List.range 36).map xX) k=! xX k.toNat:=by
  let a:k=((k.toNat:5):3):=()
  rw[a,Kt (by simp;lia),Zv,Vu ()];rfl
 rw[e,];rfl
def NA (a:i<36):xX i<128:=by
 ext xX
 split<;>lia
noncomputable def Br:Yh->5
 |[]=>0
 |c::r=>(if 97<=c then c-97 else c-22)+36*Br r
def rT:Yh->5
 |[]=>0
 |c::r=>(if 97<=c then c-97 else c-22)+26*Br r
def NB (a:i<36):(if 97<=xX i then xX i-97 else xX i-22)=i:=by
 ext xX;cases h:i<26
 .rw[Zd h,Zd ()];lia
 .rw[Ze h,Ze ()];lia
theorem NC:∀(f n:5),n<36^f->Br (xh f n)=n
 |0,n,h=>by
  let:n=0:=by simpa using h
  rw[this,];rfl
 |f+1,n,h=>by
  ext xh;cases z:n=0
  .rw[Zd z,z];rfl
  .rw[Ze z,];show(if 97<=xX (n%36)then xX (n%36)-97 else xX (n%36)-22)+36*Br (xh f<|n/36)=n;rw[NB (),NC f (n/36) ()];lia
theorem ND:∀(f g n:5),n<36^g->⇑(xh f n)<=g
 |0,g,n,h=>Ub _
 |f+1,g,n,h=>by
  ext xh;cases z:n=0
  .ext
  .cases(g)with
   |zero=>simp at h;lia
   |succ g=>
    let:=ND f g (n/36)<|VV ()
    ext
theorem NE:∀(f n c:5),c∈xh f n->∃i,i<36/\c=xX i
 |0,n,c,h=>by cases h
 |f+1,n,c,h=>by
  unfold xh at h;cases z:n=0
  .ext
  .rw[Ze z]at h;obtain rfl|h:=UY.mp h
   .rw[(n%36,UH _ (),9)]
   .rw[NE f (n/36) c h]
def NF:36^11<=36^59:=by decide+kernel
def i8 (b:m<26*36^11)(c:n<26*36^11)(h:QD m=QD n):m=n:=by
 let e:Bq m=Bq n:=have:=Zt (λs:Str=>s.cps.toList) h;this;let a:∀k,k<26*36^11->rT (Bq k)=k:=λk f=>by
  show(if 97<=xX (k%26)then xX (k%26)-97 else xX (k%26)-22)+26*Br (xh 59<|k/26)=k;rw[NB (),NC 59 (k/26) (Zg (VV f) NF)];lia
 rw[<-a m b,<-a n c,e]
def FR(m:5):asc (QD m):=dP.mpr λc hc=>by
 let hc:c∈Bq m:=hc;obtain rfl|hc:=UY.mp hc
 .rw[NA ()]
 .let(-i,a,rfl):=NE _ _ _ hc;rw[NA a]
noncomputable def zF:Yi:=["plan","given","all","first","part"]
def wH(x:Str):4:=∃m,m<26*36^11/\x=QD m/\x∉zF
def wH.ok (h:wH x):TxtOk 12 x:=by
 let(-m,c,rfl,_):=h;rw[(by
  let:=ND 59 11 (m/26)<|VV c;show(xh 59<|m/26).length+1<=12;lia,FR m)]
theorem NG{α:Type}[DecidableEq α]:∀{l m:List α},l.Nodup->(∀x∈l,x∈m)->⇑l<=⇑m
 |[],_,_,_=>Ub _
 |a::l,m,hn,h=>by
  have(b,c):=Jh.mp hn;let:=NG (m:=m.erase a) c λx e=>(List.mem_erase_of_ne λz=>b<|by rwa[<-z]).mpr<|h x<|Zqm _ e
  grind
def iq {c:Yi}(h:n+⇑c+06<26*36^11):∃k,k<⇑c+06/\QD (n+k)∉c/\QD (n+k)∉zF:=by
 rw[V9 λl=>?_];let f:∀x∈(List.range<|⇑c+06).map λk=>QD<|n+k,x∈c++zF:=λx m=>by
  let(k,i,rfl):=Ja.mp m;rw[VR]at i;rw[V9 λj=>l (k,i,λz=>j<|U9 _ z,λz=>j<|Ui _ z)]
 let g:((List.range<|⇑c+06).map λk=>QD<|n+k).Nodup:=by
  rw[Vf.mpr<|(V8).imp_of_mem λ{a b}o p q e=>?_];rw[VR]at o p;let:=i8 () () e;lia
 let:=NG g f;rw[Zql,ZB,Ua]at this;let e:⇑zF=05:=9;lia
def NH {a:Yi}(h:∀x∈a,asc x):(a.map D.str).all (jY<|n+1)=6:=UJ.mpr λd b=>by
 let(-x,c,rfl):=Ja.mp b;rw[Xk<|h x c]
def NI(x:Str)(a:Yi):(a.map D.str).any (λe=>jF e<|.str x)=decide (x∈a):=by
 cases h:x∈a
 .rw[Zp h,];rw[V5.mpr (.str x,Ja.mpr (x,h,9),ZP _)]
 grind[mL]
def NJ  {a:Yi}(b:asc x)(h:∀y∈a,asc y):yE neg (.str x) (.lst<|a.map D.str)=!(.bl<|if neg then not<|decide<|x∈a else decide (x∈a)):=by
 let c:jY 12 (.str x)=6:=Xk b;let f:(a.map D.str).all (jY 12)=6:=NH h;show(if jY 12 (.str x)&&(a.map D.str).all (jY 12)then !(D.bl<|if neg then not<|(a.map D.str).any<|λe=>jF e<|.str x else(a.map D.str).any λe=>jF e<|.str x)else 8)=_;rw[c,f,NI];rfl
def i7  {xs:Yi}(a:asc x)(h:∀y∈xs,asc y):yE neg (.str x) (.tup<|xs.map D.str)=!(.bl<|if neg then not<|decide<|x∈xs else decide (x∈xs)):=by
 let b:jY 12 (.str x)=6:=Xk a;let c:(xs.map D.str).all (jY 12)=6:=NH h;show(if jY 12 (.str x)&&(xs.map D.str).all (jY 12)then !(D.bl<|if neg then not<|(xs.map D.str).any<|λe=>jF e<|.str x else(xs.map D.str).any λe=>jF e<|.str x)else 8)=_;rw[b,c,NI];rfl
def aQ:∀y∈zF,asc y:=by
 intro y a;let:y="plan"\/y="given"\/y="all"\/y="first"\/y="part":=by simpa[zF]using a
 obtain rfl|rfl|rfl|rfl|rfl:=this<;>ext asc<;>decide+kernel
def eU(a:Yh)(c:5):vt a++⟨#[c]⟩=vt (a++[c]):=lV<|by rw[lN,];rfl
def FU(c:Tg)(b:FS)(e:YC):Out->Res Out
 |.next a=>xg c b e a
 |.cont a=>xg c b e a
 |.brk a=>.ok (.next a)
 |.ret d=>.ok (.ret d)
def NK(a:Tg)(b:FS)(x:D)(e:YC)(c:SD):xg a b (x::e) c=((JQ a x c).bind b).bind (FU a b e):=by
 show((JQ a x c).bind b).bind _=_;rw[Zt _<|funext λo=>by cases(o)<;>rfl]
@[simp]def zwk(a:Tg)(b:FS)(c:YC)(e:SD):FU a b c (.next e)=xg a b c e:=rfl
@[simp]def zxA(a:Tg)(b:FS)(c:YC)(d:D):FU a b c (.ret d)=.ok (.ret d):=rfl
def dQ(c:FT)(b:FS)(n:5):Out->Res Out
 |.next a=>Wq c b n a
 |.cont a=>Wq c b n a
 |.brk a=>.ok (.next a)
 |.ret d=>.ok (.ret d)
def NL(c:FT)(b:FS)(n:5)(a:SD):Wq c b (n+1) a=(c a).bind λt=>if t then(b a).bind (dQ c b n)else .ok (.next a):=by
 rfl
@[simp]def ku(c:FT)(b:FS)(n:5)(a:SD):dQ c b n (.next a)=Wq c b n a:=rfl
@[simp]def mq(a b c:D)(e:SD):JQ (.tup [0,1,2]) (.tup [a,b,c]) e=.ok (((e.set 0<|~~~a).set 1<|~~~b).set 2<|~~~c):=rfl
structure PlT(p:Pl):4 where
 nm:TxtOk 12 p.name
 gs:∀g∈p.givens,TxtOk 12 g
 gl:⇑p.givens<=12
 rl:⇑p.rows<=32
 rs:∀r∈p.rows,TxtOk 12 r.1/\TxtOk 12 r.2.1/\⇑r.2.2<=44/\∀i∈r.2.2,0<=i.1/\i.1<((⇑p.givens+⇑p.rows:5):3)/\-1000000000000000000000000000000<i.2/\i.2<1000000000000000000000000000000
noncomputable def thT(p:Pl):Yi:=p.givens++p.rows.map (·.1)
def PlT.th (h:PlT p):∀x∈thT p,TxtOk 12 x:=λx c=>by
 obtain z|z:=Jb.mp c
 .rw[h.gs x z]
 .let(-r,e,rfl):=Ja.mp z;rw[(h.rs r e).1]
def Qu(q:Pl):D:=.lst [.str q.name,.lst (q.givens.map .str),.lst (q.rows.map jB)]
@[simp]def zwr(q:Pl):ju (Qu q) (.int 0)=! .str q.name:=rfl
@[simp]def zwt(q:Pl):ju (Qu q) (.int 1)=!(.lst<|q.givens.map .str):=rfl
@[simp]def zwj(q:Pl):ju (Qu q) (.int 2)=!(.lst<|q.rows.map jB):=rfl
def wE(ld:Yf):D:=.lst<|ld.map .int
def qY(a:List Pl):D:=.lst<|a.map Qu
structure AtP(hp:HP)(a:Addr×Addr×Addr)(q:Pl):4 where
 pl:je hp a.1=! .lst [.str q.name,.adr a.2.1,.adr a.2.2]
 gv:je hp a.2.1=!(.lst<|q.givens.map .str)
 rw_:je hp a.2.2=!(.lst<|q.rows.map jB)
noncomputable def qE(b:List (Addr×Addr×Addr)):Yj:=b.flatMap λa=>[a.1,a.2.1,a.2.2]
def xR(c:HP):List (Addr×Addr×Addr)->List Pl->4
 |[],b=>b=[]
 |a::e,b=>∃q r,b=q::r/\AtP c a q/\xR c e r
structure StB(hp:HP)(p l:Addr)(as:List (Addr×Addr×Addr))(a:Addr×Addr×Addr)(ps:List Pl)(q:Pl)(ld:Yf):4 where
 hp_:je hp p=!(.lst<|(as++[a]).map λb=>.adr b.1)
 hl:je hp l=!(.lst<|ld.map .int)
 all:xR hp as ps
 at_:AtP hp a q
 nd:(p::l::qE (as++[a])).Nodup
theorem xR.len :∀{e:List (Addr×Addr×Addr)}{c:List Pl},xR f e c->⇑c=⇑e
 |[],c,h=>by rw[h,];rfl
 |a::e,c,h=>by
  let(q,r,rfl,_,h):=h;rw[Zu,Zu,h.len]
theorem xR.snoc   (f:AtP i a q):∀{e:List (Addr×Addr×Addr)}{c:List Pl},xR i e c->xR i (e++[a]) (c++[q])
 |[],c,h=>by rw[h,];rw[(q,[],9,f,9)]
 |b::e,c,h=>by
  let(j,r,rfl,l,h):=h;rw[(j,r++[q],9,l,h.snoc f)]
def NM(a bs:List (Addr×Addr×Addr)):qE (a++bs)=qE a++qE bs:=List.flatMap_append
def AtP.mono   (h:AtP f a q)(e:∀b ∈[a.1,a.2.1,a.2.2],je c b=je f b):AtP c a q:=
 ((e _ ()).trans h.pl,(e _ ()).trans h.gv,(e _ ()).trans h.rw_)
theorem xR.mono :∀{i:List (Addr×Addr×Addr)}{j:List Pl},xR n i j->(∀b∈qE i,je l b=je n b)->xR l i j
 |[],j,h,_=>h
 |a::i,j,h,e=>by
  let(q,r,rfl,o,h):=h;rw[(q,r,9,o.mono λb f=>e b ?_,h.mono λb f=>e b ?_)]
  .rw[Jr.mpr (a,Zqs,f)]
  .let(-c,p,f):=Jr.mp f;rw[Jr.mpr (c,Zqm _ p,f)]
def AtP.has   (h:AtP e a q):∀c ∈[a.1,a.2.1,a.2.2],je e c≠8:=λc f=>by
 let:c=a.1\/c=a.2.1\/c=a.2.2:=by simpa using f
 obtain rfl|rfl|rfl:=this
 .rw[h.pl,];simp
 .rw[h.gv,];simp
 .rw[h.rw_,];simp
theorem xR.has :∀{e:List (Addr×Addr×Addr)}{f:List Pl},xR i e f->∀c∈qE e,je i c≠8
 |[],_,_,c,hc=>by cases hc
 |a::e,f,h,c,hc=>by
  let(q,r,rfl,j,h):=h;obtain z|z:=Jb.mp hc
  .rw[j.has c z]
  .rw[h.has c z]
def Df(a:HP)(n:5)(x:Str):dr a n (.str x)=.str x:=by cases n<;>rfl
def FW(a:HP)(n:5)(x:3):dr a n (.int x)=.int x:=by cases n<;>rfl
def bU(a:HP)(n:5)(x:3×3):dr a n (qy x)=qy x:=by
 cases(n)with
 |zero=>rfl
 |succ n=>
  show D.tup [dr a n (.int x.1),dr a n (.int x.2)]=_;rw[FW,FW];rfl
def Dg{α:Type}{f:α->D} (h:∀x,g (f x)=f x)(l:List α):(l.map f).map g=l.map f:=by
 rw[Zw,];rw[UV λx _=>h x]
def bT(a:HP)(n:5)(r:J0):dr a n (j3 r)=j3 r:=by
 cases n with
 |zero=>rfl
 |succ n=>
  show D.tup ((r.map qy).map<|dr a n)=_;rw[Dg (bU a n),];rfl
def pN(a:HP)(n:5)(r:Str×Str×J0):dr a n (jB r)=jB r:=by
 cases(n)with
 |zero=>rfl
 |succ n=>
  show D.tup [dr a n (.str r.1),dr a n (.str r.2.1),dr a n (j3 r.2.2)]=_;rw[Df,Df,bT];rfl
def aL(a:HP)(n:5)(r:Yi):dr a n (.lst<|r.map .str)=.lst (r.map .str):=by
 cases n with
 |zero=>rfl
 |succ n=>
  show D.lst ((r.map D.str).map<|dr a n)=_;rw[Dg (Df a n),]
def lu(a:HP)(n:5)(r:Yf):dr a n (.lst<|r.map .int)=.lst (r.map .int):=by
 cases n with
 |zero=>rfl
 |succ n=>
  show D.lst ((r.map D.int).map<|dr a n)=_;rw[Dg (FW a n),]
def ao(a:HP)(n:5)(r:List (Str×Str×J0)):dr a n (.lst<|r.map jB)=.lst (r.map jB):=by
 cases n with
 |zero=>rfl
 |succ n=>
  show D.lst ((r.map jB).map<|dr a n)=_;rw[Dg (pN a n),]
theorem AtP.dr{c:HP}{a:Addr×Addr×Addr}{q:Pl}(h:AtP c a q)(n:5):dr c (n+03) (.adr a.1)=Qu q:=by
 rw[Bl _ h.pl,];show D.lst [L2.DL.dr c (n+1) (.str q.name),L2.DL.dr c (n+1) (.adr a.2.1),L2.DL.dr c (n+1) (.adr a.2.2)]=_;rw[Df,Bl _ h.gv,Bl _ h.rw_,aL,ao];rfl
theorem xR.dr{f:HP}(n:5):∀{e:List (Addr×Addr×Addr)}{c:List Pl},xR f e c->(e.map λb=>D.adr b.1).map (dr f<|n+03)=c.map Qu
 |[],c,h=>by rw[h,];rfl
 |a::e,c,h=>by
  let(q,r,rfl,i,h):=h;rw[Zl,Zl,i.dr,h.dr n];rfl
def Xm (l:List α)(x:α):qa (l++[x]) (-1)=!x:=by
 ext qa yD;rw[Ze (),Zd (by rw[Ua,Ug];lia),Ua,Ug,show((-1:3)+((⇑l+1:5):3)).toNat=⇑l by lia];simp
def FX{α:Type}(l:List α)(x:α):yD ⇑(l++[x]) (-1)=!⇑l:=by
 grind[yD,List.length_append,List.length_singleton]
section
variable       {ld:Yf}
def StB.dp(h:StB c p l e a f q ld):dr c 05 (.adr p)=qY (f++[q]):=by
 rw[Bl _ h.hp_,];show D.lst (((e++[a]).map λb=>D.adr b.1).map<|dr c 03)=_;rw[xR.dr 0 (h.all.snoc h.at_),];rfl
def StB.dl(h:StB c p l e a f q ld):dr c 05 (.adr l)=wE ld:=by rw[Bl _ h.hl,lu];rfl
def StB.da(h:StB c p l e a f q ld):dr c 05 (.adr a.1)=Qu q:=h.at_.dr 2
theorem StB.len(h:StB f p l c a e q ld):⇑c=⇑e:=h.all.len.symm
def StB.ne(h:StB B p l e a E q ld):p≠l/\p≠a.1/\p≠a.2.1/\p≠a.2.2/\l≠a.1/\l≠a.2.1/\l≠a.2.2/\a.1≠a.2.1/\a.1≠a.2.2/\a.2.1≠a.2.2/\∀b∈qE e,b≠p/\b≠l/\b≠a.1/\b≠a.2.1/\b≠a.2.2:=by
 let c:=h.nd;rw[NM]at c;let r:a.1∈qE e++qE [a]:=Ui _ (by simp[qE]);let m2:a.2.1∈qE e++qE [a]:=Ui _ (by simp[qE]);let u:a.2.2∈qE e++qE [a]:=Ui _ (by simp[qE]);let(f,c):=Jh.mp c;let(i,c):=Jh.mp c;let(!F,j,n):=Ju.mp c;let j:[a.1,a.2.1,a.2.2].Nodup:=by simpa[qE]using j
 let(s,v):=Jh.mp j;let(y,_):=Jh.mp v;rw[(λz=>f<|by rw[z,];rw[Zqs],λz=>f<|by rw[z,];rw[Zqm _ r],λz=>f<|by rw[z,];rw[Zqm _ m2],(),
  λz=>i<|by rw[z,];rw[r],λz=>i<|by rw[z,];rw[m2],λz=>i<|by rw[z,];rw[u],λz=>s<|by rw[z,];simp,λz=>s<|by rw[z,];simp,λz=>y<|by rw[z,];simp,λb o=>?_)]
 rw[((),(),n b o _<|by simp[qE],n b o _<|by simp[qE],n b o _<|by simp[qE])]
def StB.upd(h:StB f p l i a j q ld)   (e:∀b,b≠a.2.1->b≠a.2.2->b≠l->je hp' b=je f b)
 (n:je hp' a.2.1=!(.lst<|o.map .str))(r:je hp' a.2.2=!(.lst<|s.map jB))(u:je hp' l=!(.lst<|c.map .int)):StB hp' p l i a j (q.name,o,s) c:=by
 let(v,I,y,z,B,J,L,E,F,G,H):=h.ne;rw[((e p y z v).trans h.hp_,u,h.all.mono λb O=>?_,((e _ E F B.symm).trans h.at_.pl,n,r),h.nd)]
 ext
def StB.load(h:StB f p l i a j q ld)(c:Yf):StB (Qo f l<|wE c) p l i a j q c:=by
 let e:je f l≠8:=by rw[h.hl,];simp
 let:=h.upd (hp':=Qo f l<|wE c) (λb _ _ z=>KE e z) ((KE e h.ne.2.2.2.2.2.1.symm).trans h.at_.gv) ((KE e h.ne.2.2.2.2.2.2.1.symm).trans h.at_.rw_)<|Bn e;rw[this]
def StB.given(h:StB e p l i a j q ld)(f:Yi):StB (Qo e a.2.1<|.lst<|f.map .str) p l i a j (q.name,f,q.rows) ld:=by
 let c:je e a.2.1≠8:=by rw[h.at_.gv,];simp
 rw[h.upd (λb z _ _=>KE c z) (Bn c) ((KE c h.ne.2.2.2.2.2.2.2.2.2.1.symm).trans h.at_.rw_)<|(KE c h.ne.2.2.2.2.2.1).trans h.hl]
def StB.rows(h:StB e p l i a j q ld)(f:List (Str×Str×J0)):StB (Qo e a.2.2<|.lst<|f.map jB) p l i a j (q.name,q.givens,f) ld:=by
 let c:je e a.2.2≠8:=by rw[h.at_.rw_,];simp
 rw[h.upd (λb _ z _=>KE c z) ((KE c h.ne.2.2.2.2.2.2.2.2.2.1).trans h.at_.gv) (Bn c)<|(KE c h.ne.2.2.2.2.2.2.1).trans h.hl]
def aE(n:5)(r:J0):Ks (n+2) (j3 r)=6:=by
 show(r.map qy).all (Ks<|n+1)=6;rw[VT,UJ];rw[λx _=>by
  show[D.int x.1,D.int x.2].all (Ks n)=6;simp]
def FY(n:5)(r:Str×Str×J0):Ks (n+03) (jB r)=6:=by
 show[D.str r.1,D.str r.2.1,j3 r.2.2].all (Ks<|n+2)=6;simp[aE]
end
def lO{n ar:5}    (h:⇑f=ar)(e:(g (Qt n f) c).bind zf=.ok %[d|b])(k:∀a,je c a≠8->je b a≠8):zd n ar g f c=.ok %[d|b]:=by
 ext zd;rw[Zd h,e];show(if _ then _ else _)=_;rw[Zd,];rw[UJ.mpr λz i=>?_];let j:je c z.1≠8:=by
  rw[Ne,Bd];rw[λw=>w<|Ja.mpr (z,i,9)]
 let:=k _ j
 induction w:je b z.1 with
 |none=>rw[Zn w this]
 |some d=>rfl
theorem NN   (P:5->SD->HP->4):∀{ds:YC}{sd:SD}{hp:HP}(j:5),P j sd hp->(∀(i:5)(x:D)(sd:SD)(hp:HP),ds[i]?=!x->P (j+i) sd hp->(Y8 tg b x sd hp).need (λo=>∃a c,o=.next a c/\P (j+i+1) a c) Q)->
 (wl (Y8 tg b) ds sd hp).need (λo=>∃a c,o=.next a c/\P (j+⇑ds) a c) Q
 |[],sd,hp,j,h0,_=>(sd,hp,9,h0)
 |x::g,sd,hp,j,h0,h=>by
  rw[Wr.need_bind.mpr<|(h 0 x sd hp 9 h0).mono (λo l=>?_) λ_ _ y=>y];let(a c,rfl,m):=l;let:=NN P (j+1) m λi y e f n p=>by
   let:=h (i+1) y e f n<|by rwa[show j+(i+1)=j+1+i by lia,]
   rwa[show j+(i+1)+1=j+1+i+1 by lia]at this
  rwa[show j+1+⇑g=j+⇑(x::g) by rw[Zu,];lia]at this
def FZ:YC->Res YC:=zH 2 2<|J2 (jj Q2<|018) jb
def Dh:YC->Res YC:=zH 04 04<|J2 (ja 1)<|J2 (jj Q2<|J2 (ja 2) jb)<|J2 (jj Q2<|J2 (ja 03) jb) jb
def Di:FS:=j0<|Bb "Book" ["plans"] FZ<|J2 (Q6 [8] (iS<|015) (.one 0)<|Bb "Plan" ["name","givens","rows"] Dh<|J2 (jh ju 015<|022)<|J2 (jj Q2<|J2 (jh ju 015<|005) jb)<|J2 (jj Q2<|J2 (jh ju 015<|023) jb) jb) jb
def Dj:YC->Res D:=q9 1 1 Di
def bw (h:⇑ps<=60):Dj [qY ps]=.ok (Qz ps):=by
 let a:qg (.one 0) (Bb "Plan" ["name","givens","rows"] Dh<|J2 (jh ju 015<|022)<|J2 (jj Q2<|J2 (jh ju 015<|005) jb)<|J2 (jj Q2<|J2 (jh ju 015<|023) jb) jb) [8] (ps.map Qu)=.ok (ps.map Qy):=K0 λp b=>by
  simp[Dh,zH,Qt,Qy]
 let c:=Qb<|show ⇑ps<=1000 from()
 simp_all[qY,Dj,Di,FZ,zH,Qt,Qz]
def YJ:FS:=jp (xx (J9<|jh ki (ja 1)<|007) (j0<|jh ju 015<|ja 1) Qa)<|j0<|022
def QC:YC->Res D:=jJ 2 2 YJ
def Dk(a:Yf)(k:5):QC [.scr a,.int k]=.ok (.int<|JU a k):=by
 ext JU;cases h:k<⇑a
 .let e:qa a (k:3)=!a[k]:=by rw[Kt h,];simp
  simp_all[QC,YJ]
 .simp[QC,YJ,h]
def Bt(a:YC->Res D):FS:=j0<|jh ju (JB a<|J2 015<|J2 (ja 1)<|J2 (ja 2) jb)<|jZ qc<|005
def YK(a:YC->Res D):FS:=jp (xx (J9<|jh xI (ja 1)<|dC<|.str "all") (j0<|jj X2<|J2 (ja 2) jb) Qa)<|jp (xx (J9<|jh xI (ja 1)<|dC<|.str "first") (j0<|jj X3<|J2 (ja 2) jb) Qa)<|j0<|JB a<|J2 015<|J2 (ja 1)<|J2 (ja 2) jb
def vV:FS:=jp (qS (iS<|jZ (qw "Book" "plans")<|015) (.one 2)<|xx (J9<|jh xI (jZ (qw "Plan" "name")<|ja 2)<|ja 1) (j0<|ja 2) Qa) cm
def wv:YC->Res D:=jJ 03 2 vV
def br   (m:asc x)(n:∀p∈a,asc p.name)(j:a.find? λp=>decide<|p.name=x=!p):wv [Qz a,.str x]=.ok (Qy p):=by
 let o:xg (.one 2) (xx (J9<|jh xI (jZ (qw "Plan" "name")<|ja 2)<|ja 1) (j0<|ja 2) Qa) (a.map Qy) [~~~Qz a,~~~.str x,8]=.ok (.ret<|Qy p):=by
  rw[ZV (R:=λr=>r=.ok (.ret<|Qy p)) (P:=λi f=>(∀q∈a.take i,decide (q.name=x)=7)/\∃u,f=[~~~Qz a,~~~.str x,u]) () (λf(g,h)=>?_) λi d f s(g,u,h)=>?_]
  .grind
  .let(-q,b,rfl):=KF s;let t:q∈a:=by grind
   let e:=(λp v=>Ws (n p v) m) q t;let w:a.take (i+1)=a.take i++[q]:=by rw[VE,b];rfl
   induction c:decide (q.name=x)with
   |true=>
    rw[c]at e;rw[.inr<|.inr (Qy q,?_,?_)]
    .subst h;simp[e]
    .rw[FF g b c]at j;cases j;rfl
   |false=>
    rw[c]at e;rw[.inl ([~~~Qz a,~~~.str x,~~~Qy q],.inl ?_,λy l=>?_,_,9)]
    .subst h;simp[e]
    .rw[w]at l;obtain z|z:=Jb.mp l
     .rw[g y z]
     .rwa[Jd.mp z,]
 simp[wv,vV,o]
def Bu(a:YC->Res D):FS:=jp (qX 03<|jj Q2<|J2 (ja 2) jb)<|jp (qS (iS<|jZ (qw "Plan" "rows")<|JB wv<|J2 015<|018) (.tup [04,05,06])<|Wy 03<|yB [03]<|JB a<|J2 015<|J2 (ja 05)<|J2 (Q6 [8,8,!03] (iS<|ja 06) (.tup [0,1])<|jh j6 (jh ju (ja 2)<|015)<|ja 1) jb)<|λb=>(j0<|ja 03)<|qp [03] b
def XG:5->YC->Res D
 |0=>λ_=>.no
 |n+1=>jJ 07 03 (Bu<|jJ 03 03<|YK<|jJ 03 03<|Bt<|XG n)
def W8(n:5):YC->Res D:=jJ 03 03<|Bt<|XG n
def W9(n:5):YC->Res D:=jJ 03 03<|YK<|W8 n
def NO    (h:XG n [bk,a,b]=.ok (.lst<|(c++[x]).map .int)):W8 n [bk,a,b]=.ok (.int x):=by
 let l:=FM (f:=D.int) c x
 simp_all[W8,Bt]
def oK    (a:asc how)(c:how ≠"all")(e:how ≠"first")(h:W8 n [b,.str how,d]=.ok z):W9 n [b,.str how,d]=.ok z:=by
 let f:=Ws a YH;let g:=Ws a YI
 simp_all[W9,YK]
theorem NP (B:BkP a):∀(n i:5)(p:Pl)(c:Yf),a[i]?=!p->i<n->⇑c=⇑p.givens->XG n [Qz a,020,.lst (c.map .int)]=.ok (.lst<|(xG a n p c).map .int)
 |0,i,p,c,_,h,_=>()
 |n+1,i,p,c,m,L,hl=>by
  let P:=B.ok i p m;let M:=P.g2;let N:=P.r2;let O:=br (B.at m).2.2.1 B.ascs<|B.find m;show jJ 07 03 (Bu<|W9 n) _=_;rw[FQ,];let(y,e,u,v,w,A):=Xc (tg:=.tup [04,05,06]) (b:=Wy 03<|yB [03]<|JB (W9 n)<|J2 015<|J2 (ja 05)<|J2 (Q6 [8,8,!03] (iS<|ja 06) (.tup [0,1])<|jh j6 (jh ju (ja 2)<|015)<|ja 1) jb) (ds:=p.rows.map jB) (sd:=[~~~Qz a,~~~020,~~~(.lst<|c.map .int),!(.own 7<|.lst<|c.map .int),8,8,8])
   (P:=λi sd=>∃u v w,sd=[~~~Qz a,~~~020,~~~(.lst<|c.map .int),!(.own 7<|.lst<|(qx (xp a n) (p.rows.take i) c).map .int),u,v,w]) (8,8,8,9) (by
    rintro k x sd C ⟨u,v,w,rfl⟩;let(r,f,rfl):=KF C;let(E,Q,S):=P.at (rc:=xp a n) hl f;let R:=P.row k r f;let F:=lU E;let G:=R.sh;let g:=pY (found:=qx (xp a n) (p.rows.take k) c) R.ne;let H:=au (qx (xp a n) (p.rows.take k) c) r.2.2;let I:W9 n [Qz a,.str r.2.1,.lst ((yd (qx (xp a n) (p.rows.take k) c) r.2.2).map .int)]=.ok (.int<|y7 (xp a n) (qx (xp a n) (p.rows.take k) c) r):=by
     ext y7;obtain z|z|⟨z0,o,s,j,q,z3,z4,z5,z6⟩:=B.how m f
     .rw[z,Zd 9];(simp[W9,YK,N5,ER g])
     .rw[z,Ze (by decide+kernel),Zd 9];(simp[W9,YK,N6,N7,ES g])
     .rw[Ze o,Ze s];rw[oK z0 o s ?_];let(l,rfl):∃l,n=l+1:=(n-1,());let(T,J):=B.part (n:=l) z4 (yd (qx (xp a<|l+1) (p.rows.take k) c) r.2.2);let t:=NP B (l+1) j q _ z4 ()<|H.trans z6;rw[J,<-z5]at t;rw[NO t]
    let o:=Qb<|show ⇑r.2.2<=1000 from();let s:=Qb (show(qx (xp a n) (p.rows.take k) c).length<=1000 by lia);rw[N8 f,iI,Res.bind_ok];simp[F,I,o,s])
  simp_all[Bu]
def Dl:FS:=j0<|jh xW (JB (W8 20)<|J2 015<|J2 (jh ju (ja 1)<|022)<|J2 (jj Q2<|J2 (ja 2) jb) jb)<|JB (W8 20)<|J2 015<|J2 (jh ju (ja 1)<|005)<|J2 (jj Q2<|J2 (ja 2) jb) jb
def XH:YC->Res D:=jJ 03 03 Dl
def NQ (B:BkP c){i j:5} (g:c[i]?=!p)(h:c[j]?=!q) (l:⇑a=⇑p.givens)(m:⇑a=⇑q.givens):XH [Qz c,.tup [020,.str q.name],.lst (a.map .int)]=.ok (.int<|xp c 20 p.name a-xp c 20 q.name a):=by
 let one:∀{k:5}{r:Pl},c[k]?=!r->⇑a=⇑r.givens->W8 20 [Qz c,.str r.name,.lst (a.map .int)]=.ok (.int<|xp c 20 r.name a):=λ{k r}f n=>by
  let b:=(B.at f).2.1;let e:=NP B 20 k r a f () n;let(s,o):=B.part f a;rw[o]at e;rw[NO e]
 let t:=one g l;let u:=one h m;let v:qa [D.str p.name,D.str q.name] 0=! 020:=9;let w:qa [D.str p.name,D.str q.name] 1=! .str q.name:=9
 simp_all[XH,Dl]
def Ga:FS:=j0<|ZJ (jj qd<|J2 015<|J2 (dC<|.ty "int") jb)<|Cm<|jj qd<|J2 015<|J2 (dC<|.ty "bool") jb
def Bv:YC->Res D:=jJ 1 1 Ga
@[simp]def zpu(i):Bv [.int i]=.ok (.bl 6):=by
 rfl
def vX:FS:=jp (qX 03<|jh vI (qI<|018)<|ja 2)<|jp (qS (iS<|015) (.tup [04,05])<|ZX 03 (ja 04)<|jZ qc<|ja 05)<|KO 03
def uq:YC->Res D:=q9 06 03 vX
def oO    (f:0<=p.1):JZ (r++[p]) a n=(JZ r a n).set p.1.toNat (0-p.2):=by
 apply Wc;intro j;ext JZ;rw[Zv,];cases c:j<n
 .rw[Vu c,];show some (XF (r++[p]) a (j:3))=_;let b:JA (r++[p]) (j:3)=if p.1=(j:3)then !p.2 else JA r j:=by
   rw[Hv,];show(match if p.1=(j:3)then !p.2 else 8 with|some w=>!w|none=>JA r j)=_;cases z:p.1=(j:3)
   .rw[Zd z,Zd z]
   .rw[Ze z,Ze z]
  ext XF;rw[b,];cases z:p.1=(j:3)
  .let e:p.1.toNat=j:=()
   rw[Zd z,e,UT (by rwa[Zql,ZB])]
  .rw[Ze z,Zx (),Zv,Vu c];rfl
 ext
def tO  {n:5}(h:∀p∈r,0<=p.1/\p.1<(n:3))(o:n<=1000):uq [j3 r,.int late,.int n]=.ok (.lst<|(JZ r late n).map .int):=by
 let q:vI (.lst [.int late]) (.int n)=!(.lst<|(JZ [] late n).map .int):=by
  rw[af () () (),];ext JZ;rw[Uy,Zw,show(D.int ∘ λi:5=>XF [] late (i:3))=λ_=>D.int late from 9,List.map_const',ZB];simp
 let(-j,e,(u,v,l)):=Xc (tg:=.tup [04,05]) (b:=ZX 03 (ja 04)<|jZ qc<|ja 05) (ds:=r.map qy)
  (P:=λi a=>∃u v,a=[~~~j3 r,~~~.int late,~~~.int n,!(.own 7<|.lst<|(JZ (r.take i) late n).map .int),u,v]) (jR 8 8 9) (by
   rintro i x a m ⟨u,v,rfl⟩;let(p,c,rfl):=KF m;have(f,s):=h p (Uf c);rw[KM c,oO f,List.map_set];let g:yD ⇑((JZ (r.take i) late n).map D.int) p.1=!p.1.toNat:=by
    rw[Zql,oo];ext yD;rw[Zd f,];rw[Zd ()]
   generalize(JZ (r.take i) late n).map D.int=ds at g;simp[g])
 simp_all[uq,vX]
def vW:FS:=j0<|jj X3<|J2 (Q6 [8] (iS<|015) (.one 0)<|jj X3<|J2 (Q6 [8,8] (iS<|015) (.tup [0,1])<|ja 1) jb) jb
def uj:YC->Res D:=jJ 1 1 vW
def Q3(f:J1):3:=qV<|f.map λr=>qV<|r.map (·.2)
def ie   (a:r∈f)(b:p∈r):Q3 f<=p.2:=by
 let c:=(Z1 (l:=f.map λr=>qV<|r.map (·.2))<|λz=>()).2 _<|Ja.mpr (r,a,9);let e:=(Z1 (l:=r.map (·.2))<|λz=>()).2 _<|Ja.mpr (p,b,9);rw[Int.le_trans c e]
def tN (g:f ≠[])(i:⇑f<=1000)(c:∀r∈f,r ≠[])(j:∀r∈f,⇑r<=1000):uj [jm f]=.ok (.int<|Q3 f):=by
 let a:qg (.one 0) (jj X3<|J2 (Q6 [8,8] (iS<|015) (.tup [0,1])<|ja 1) jb) [8] (f.map j3)=.ok (f.map λr=>.int<|qV<|r.map (·.2)):=K0 λr h=>by
  let a:qg (.tup [0,1]) (ja 1) [8,8] (r.map qy)=.ok (r.map λp=>.int p.2):=K0 λp _=>by simp
  let e:r.map (λp=>D.int p.2)=(r.map (·.2)).map .int:=by simp
  let b:=ES (ns:=r.map (·.2))<|λz=>c r h<|Je.mp z;rw[<-e]at b;simp[a,Qb (j r h),b]
 let e:f.map (λr=>D.int<|qV<|r.map (·.2))=(f.map λr=>qV<|r.map (·.2)).map .int:=by simp
 let b:=ES (ns:=f.map λr=>qV<|r.map (·.2))<|λz=>g<|Je.mp z;rw[<-e]at b;simp[uj,vW,a,Qb i,b,Q3]
def vY:FS:=jp (jA 2<|jj Y3<|018)<|jp (qS (iS<|015) (.tup [03,04])<|xx (J9<|jh (yE 6) (ja 03)<|ja 2) (j0<|dC .non) Qa)<|j0<|jj X2<|J2 (Q6 [8,8,!2] (iS<|015) (.tup [0,1])<|jh xW (ja 1)<|jh ju (ja 2)<|015) jb
def ur:YC->Res D:=jJ 05 2 vY
def qu(r o:J0):02 3:=if r.all λp=>(JA o p.1).isSome then !(qN<|r.map λp=>p.2-(JA o p.1).getD 0)else 8
noncomputable def yh:02 3->D
 |none=>.non
 |some i=>.int i
def eV{r o:J0} (a:p∈r)(q:JA o p.1=8):r.all (λp=>(JA o p.1).isSome)=7:=()
def tP (l:r ≠[])(m:⇑r<=1000)(b:⇑o<=100)(c:j9 o):ur [j3 r,j3 o]=.ok (yh<|qu r o):=by
 simp[ur,vY,EQ b c];generalize n:j0 (jj X2 _)=K;rw[ZV (R:=λz=>(z.bind<|ye K).bind yg=.ok (yh<|qu r o)) (P:=λi f=>(∃u v,f=[~~~j3 r,~~~j3 o,~~~yF o,u,v])/\(r.take i).all (λp=>(JA o p.1).isSome)=6) ((8,8,9),9) ?_ ?_]
 .rintro f ⟨⟨u,v,rfl⟩,hu⟩;rw[Zql,Vg]at hu;subst n;let g:qg (.tup [0,1]) (jh xW (ja 1)<|jh ju (ja 2)<|015) [8,8,~~~yF o] (r.map qy)=.ok (r.map λp=>.int<|p.2-(JA o p.1).getD 0):=K0 λp h=>by
   let a:=AU c p.1
   induction q:JA o p.1 with
   |none=>
    grind
   |some w=>
    simp_all[yF]
  let e:r.map (λp=>D.int<|p.2-(JA o p.1).getD 0)=(r.map λp=>p.2-(JA o p.1).getD 0).map .int:=by simp
  let j:=ER (ns:=r.map λp=>p.2-(JA o p.1).getD 0)<|λz=>l<|Je.mp z;rw[<-e]at j;simp[g,Qb m,j,qu,hu,yh]
 .rintro i x f s ⟨⟨u,v,rfl⟩,hu⟩;let(-p,h,rfl):=KF s;let a:=AU c p.1
  induction q:JA o p.1 with
  |none=>
   rw[q]at a;let z:=eV (Uf h) q;rw[.inr<|.inr (.non,by simp[yF,a],by simp[qu,z,yh])]
  |some w=>
   rw[q]at a;rw[.inl ([~~~j3 r,~~~j3 o,~~~yF o,~~~.int p.1,~~~.int p.2],.inl<|by simp[yF,a],jR _ _ 9,?_)];rw[KM h,List.all_append,hu];simp[q]
def vZ:FS:=jp (jA 2<|dC .non)<|jp (qS (t5<|J2 015 jb) (.tup [03,04])<|jp (jA 05<|JB ur<|J2 (ja 04)<|018)<|xx (Kr (J9<|jZ (x9 6)<|ja 05)<|xN (J9<|jZ (x9 7)<|ja 2)<|J9<|jh ki (ja 05)<|jh ju (ja 2)<|022) (jA 2<|xi<|J2 (ja 05)<|J2 (ja 03) jb) Qa)<|j0<|ja 2
def zR:YC->Res D:=jJ 06 2 vZ
noncomputable def YL(a:02 (3×3))(m:02 3)(i:3):02 (3×3):=match m with
 |none=>a
 |some m=>match a with
  |none=>!%[m|i]
  |some t=>if m<t.1 then !%[m|i]else !t
def QR(a:J1)(o:J0):5->02 (3×3)
 |0=>8
 |i+1=>YL (QR a o i) ((a[i]?).bind λr=>qu r o) i
def Qd(a:J1)(o:J0):02 (3×3):=QR a o ⇑a
def xt:02 (3×3)->D
 |none=>.non
 |some p=>qy p
def b9  (z:∀r∈a,r ≠[]/\⇑r<=1000)(j:⇑o<=100)(A:j9 o):zR [.lst (a.map j3),j3 o]=.ok (xt<|Qd a o):=by
 simp[zR,vZ];generalize B:jp _ _=b;let(-C,e,(u,v,w,E)):=Xc (tg:=.tup [03,04]) (b:=b) (ds:=Y4<|a.map j3) (sd:=[~~~(.lst<|a.map j3),~~~j3 o,~~~.non,8,8,8])
  (P:=λi sd=>∃u v w,sd=[~~~(.lst<|a.map j3),~~~j3 o,~~~(xt<|QR a o i),u,v,w]) (jg 8 8 8 9) (by
   rintro i x sd n ⟨u,v,w,rfl⟩;rw[L4]at n;let(-y,F,rfl):=Jj.mp n;let(-r,p,rfl):=KF F;have(G,H):=z r (Uf p);let h:=tP G H j A;let f:QR a o (i+1)=YL (QR a o i) (qu r o) i:=by
    show YL (QR a o i) ((a[i]?).bind λr=>qu r o) i=_;rw[p,];rfl
   subst B
   induction q:qu r o with
   |none=>
    rw[q]at h f;rw[(_,by simp[h];rfl,?_)];rw[jg _ _ _<|by rw[f,];rfl]
   |some m=>
    rw[q]at h f
    induction t:QR a o i with
    |none=>
     rw[t]at f;rw[(_,by simp[h,yh];rfl,?_)];rw[jg _ _ _<|by rw[f,];rfl]
    |some g=>
     rw[t]at f;let s:qa [D.int g.1,D.int g.2] 0=! D.int g.1:=9;cases c:m<g.1
     .let l:QR a o (i+1)=!%[m|(i:3)]:=by rw[f,];show(if m<g.1 then _ else _)=_;rw[Zd c,]
      rw[(_,by simp[h,yh,xt,qy,s,c];rfl,jg _ _ _<|by rw[l,];rfl)]
     .let l:QR a o (i+1)=!g:=by rw[f,];show(if m<g.1 then _ else _)=_;rw[Ze c,]
      rw[(_,by simp[h,yh,xt,qy,s,c];rfl,jg _ _ _<|by rw[l,];rfl)])
 simp_all[L5,Qd]
def WM(a os:J1):02 3:=if os.all λo=>(Qd a o).isSome then !(qN<|os.map λo=>((Qd a o).getD %[0|0]).1)else 8
theorem Gb  :∀{i:5}{m:3×3},QR a o i=!m->∃r∈a,qu r o=!m.1
 |0,m,h=>by cases h
 |i+1,m,h=>by
  let h:YL (QR a o i) ((a[i]?).bind λr=>qu r o) i=!m:=h
  induction q:(a[i]?).bind λr=>qu r o with
  |none=>
   rw[q]at h;rw[Gb h]
  |some v=>
   rw[q]at h;let(-r,c,f):=Jg.mp q;let new:∀{j:3},some %[v|j]=!m->∃r∈a,qu r o=!m.1:=λ{j}e=>by
    cases e;rw[(r,Uf c,f)]
   cases t:QR a o i with
   |none=>rw[t]at h;rw[new h]
   |some b=>
    rw[t]at h;let h:(if v<b.1 then !%[v|(i:3)]else !b)=!m:=h
    split at h
    .rw[new h]
    .rw[h]at t;rw[Gb t]
def ad  (h:qu r o=!m):∀p∈r,∃w,JA o p.1=!w/\p.2-w<=m:=by
 unfold qu at h
 split at h
 .rename_i c;intro p a;let b:=UJ.mp c p a
  induction q:JA o p.1 with
  |none=>ext
  |some w=>
   let:=(KZ (l:=r.map λp=>p.2-(JA o p.1).getD 0)<|λz=>by rw[List.map_eq_nil_iff]at z;subst z;cases a).2 _<|Ja.mpr (p,a,9)
   ext
 .cases h
theorem Gc  :∀{i:5},QR a o i=8->∀r∈a.take i,qu r o=8
 |0,_,r,hr=>by cases hr
 |i+1,h,r,hr=>by
  let h:YL (QR a o i) ((a[i]?).bind λr=>qu r o) i=8:=h
  induction q:(a[i]?).bind λr=>qu r o with
  |some v=>
   rw[q]at h
   induction t:QR a o i with
   |none=>rw[t]at h;cases h
   |some b=>
    rw[t]at h;let h:(if v<b.1 then !%[v|(i:3)]else !b)=8:=h
    split at h<;>cases h
  |none=>
   rw[q]at h;let c:=Gc h
   induction z:a[i]? with
   |none=>
    rw[Uz (by let:=Jq.mp z;lia)]at hr;rw[Uz (Jq.mp z)]at c;rw[c r hr]
   |some s=>
    rw[KM z]at hr
    grind
theorem Gd  :∀{i:5}{m:3×3},QR a o i=!m->∀r∈a.take i,∀v,qu r o=!v->m.1<=v
 |0,m,h,r,hr,v,hv=>by cases hr
 |i+1,m,h,r,hr,v,hv=>by
  let h:YL (QR a o i) ((a[i]?).bind λr=>qu r o) i=!m:=h
  induction z:a[i]? with
  |none=>
   rw[z]at h;let h:=h;rw[Gd h r ?_ v hv];rw[Uz (by let:=Jq.mp z;lia)]at hr
   rwa[Uz (Jq.mp z),]
  |some s=>
   rw[z]at h;rw[KM z]at hr;let b:∀{c:3×3},QR a o i=!c->∀r∈a.take i,∀v,qu r o=!v->c.1<=v:=λe=>Gd e;let h:YL (QR a o i) (qu s o) i=!m:=h
   induction q:qu s o with
   |none=>
    rw[q]at h;let h:=h;obtain y|y:=Jb.mp hr
    .rw[b h r y v hv]
    .rw[Jd.mp y,q]at hv;cases hv
   |some w=>
    rw[q]at h
    induction t:QR a o i with
    |none=>
     rw[t]at h;cases h;obtain y|y:=Jb.mp hr
     .rw[Gc t r y]at hv;cases hv
     .rw[Jd.mp y,q]at hv;cases hv;rw[UZ _]
    |some f=>
     rw[t]at h;let h:(if w<f.1 then !%[w|(i:3)]else !f)=!m:=h
     split at h
     .cases h;obtain y|y:=Jb.mp hr
      .let:=b t r y v hv;lia
      .rw[Jd.mp y,q]at hv;cases hv;rw[UZ _]
     .cases h;obtain y|y:=Jb.mp hr
      .rw[b t r y v hv]
      .rw[Jd.mp y,q]at hv;cases hv;lia
def ug:FS:=jp (qS (iS<|ja 1) (.one 04)<|jp (jA 05<|JB zR<|J2 015<|J2 (ja 04) jb)<|xx (xN (J9<|jZ (x9 7)<|ja 05)<|J9<|jh nM (jh ju (ja 05)<|022)<|ja 2) (j0<|JB uq<|J2 (ja 04)<|J2 (jh xW (ja 2)<|JB uj<|J2 015 jb)<|J2 (ja 03) jb) Qa)<|j0<|dC .non
def vj:YC->Res D:=jJ 06 04 ug
def qD(f:J1)(t:3)(o:J0):Bool:=match Qd f o with
 |none=>6
 |some m=>decide (t<=m.1)
def Xn(f g:J1)(t:3)(n:5):D:=match g.find? (qD f t)with
 |none=>.non
 |some o=>.lst ((JZ o (t-Q3 f) n).map .int)
def bD  {n:5}(G:f ≠[])(H:⇑f<=1000)(j:∀r∈f,r ≠[]/\⇑r<=1000)(C:∀o∈g,⇑o<=100/\j9 o)(I:∀o∈g,∀p∈o,0<=p.1/\p.1<(n:3))(J:n<=1000):vj [jm f,jm g,.int t,.int n]=.ok (Xn f g t n):=by
 let b:=tN G H (λr h=>(j r h).1) λr h=>(j r h).2;let M:Xa (jm g)=! g.map j3:=9;simp only[vj,ug,T7,T6,TF,bO];rw[ZV (R:=λz=>(z.bind<|ye<|j0<|dC .non).bind yg=.ok (Xn f g t n)) (tg:=.one 04) (ds:=g.map j3) (P:=λi l=>(∃u v,l=[~~~jm f,~~~jm g,~~~.int t,~~~.int n,u,v])/\∀o∈g.take i,qD f t o=7) () ?_ ?_]
 .rintro l ⟨⟨u,v,rfl⟩,hu⟩;rw[Zql,Vg]at hu;let:g.find? (qD f t)=8:=by grind
  simp[Xn,this]
 .rintro i x l L ⟨⟨u,v,rfl⟩,hu⟩;let(-o,s,rfl):=KF L;let w:=Uf s;let e:zR [jm f,j3 o]=.ok (xt<|Qd f o):=b9 j (C o w).1 (C o w).2;let A:=tO (r:=o) (late:=t-Q3 f) (I o w) J;let E:∀p q:D,qa [p,q] 0=!p:=002;let a:qD f t o=6->Xn f g t n=.lst ((JZ o (t-Q3 f) n).map .int):=λz=>by ext Xn;rw[FF hu s z,]
  generalize(JZ o (t-Q3 f) n).map D.int=ds at A a;let no:qD f t o=7->∀B∈g.take (i+1),qD f t B=7:=λz B F=>by
   rw[KM s]at F;obtain y|y:=Jb.mp F
   .rw[hu B y]
   .rw[Jd.mp y,];rw[z]
  induction q:Qd f o with
  |none=>
   rw[q]at e;let z:qD f t o=6:=by ext qD;rw[q,]
   rw[.inr<|.inr (.lst ds,by simp[e,xt,b,A],by rw[a z,];simp)]
  |some m=>
   rw[q]at e;cases c:t<=m.1
   .let z:qD f t o=6:=by ext qD;rw[q,];rw[Zp c]
    rw[.inr<|.inr (.lst ds,by simp[e,xt,qy,E,c,b,A],by rw[a z,];simp)]
   .let z:qD f t o=7:=by ext qD;rw[q,];rw[Zo c]
    rw[.inl ([~~~jm f,~~~jm g,~~~.int t,~~~.int n,~~~j3 o,~~~qy m],.inl<|by simp[e,xt,qy,E,c],jR _ _ 9,no z)]
def o9  (h:WM f g=!L)(b:g ≠[])(e:L<t):g.find? (qD f t)=8:=by
 unfold WM at h
 split at h
 .rename_i c;rw[List.find?_eq_none.mpr λo a z=>?_];let i:=UJ.mp c o a;unfold qD at z
  induction q:Qd f o with
  |none=>ext
  |some m=>
   let:=(KZ (l:=g.map λo=>((Qd f o).getD %[0|0]).1)<|λz=>b<|Je.mp z).2 _<|Ja.mpr (o,a,9)
   grind
 .cases h
def NR  (i:g ≠[])(h:∀L,WM f g=!L->t<=L):∃o,g.find? (qD f t)=!o/\o∈g/\qD f t o=6:=by
 let j:∃o∈g,qD f t o=6:=by
  cases c:g.all (λo=>(Qd f o).isSome)=6
  .let e:WM f g=!(qN<|g.map λo=>((Qd f o).getD %[0|0]).1):=Zd c;let n:=h _ e;let(-o,b,a):=Ja.mp (KZ (l:=g.map λo=>((Qd f o).getD %[0|0]).1)<|λz=>i<|Je.mp z).1;rw[(o,b,?_)];ext qD
   induction q:Qd f o with
   |none=>rfl
   |some m=>
    rw[q]at a;let a:m.1=_:=a;rw[()]
  grind[qD]
 let(-o,b,p):=j
 induction q:g.find? (qD f t)with
 |none=>ext
 |some r=>rw[()]
def NS   {n:5}(s:f ≠[])(u:∀r∈f,r ≠[]/\∀p∈r,0<=p.1/\p.1<(n:3))(x:o ≠[])(y:j9 o)(A:∀p∈o,0<=p.1/\p.1<(n:3))(B:o∈g)(e:qD f t o=6):
 t<=JG f (JZ o (t-Q3 f) n)-JG g (JZ o (t-Q3 f) n):=by
 let C:=eN (late:=t-Q3 f) x y A;let E:=WK (hs:=JZ o (t-Q3 f) n) B;rw[C]at E;let(-r,i,J):=Xj (hs:=JZ o (t-Q3 f) n) s;let(F,h):=u r i;let G:t<=QB r (JZ o (t-Q3 f) n):=by
  induction q:qu r o with
  |none=>
   let H:∃p∈r,JA o p.1=8:=by
    apply V9;intro I;let:r.all (λp=>(JA o p.1).isSome)=6:=UJ.mpr λp a=>by
     induction z:JA o p.1 with
     |none=>rw[Zn (p,a,z) I]
     |some w=>rfl
    unfold qu at q;rw[Zd this]at q;cases q
   let(p,a,z):=H;let b:=Bo (hs:=JZ o (t-Q3 f) n) a;rw[FC (h p a).1 (h p a).2]at b;unfold XF at b;rw[z]at b;let:=ie i a
   grind
  |some v=>
   let L:t<=v:=by
    unfold qD at e
    induction z:Qd f o with
    |none=>
     let:=Gc z r (by rw[Vg,];rw[i]);rw[q]at this;cases this
    |some m=>
     rw[z]at e;let e:t<=m.1:=of_decide_eq_true e;let:=Gd z r () v q;lia
   unfold qu at q
   split at q
   .rename_i c;cases q;let(-p,a,j):=Ja.mp (KZ (l:=r.map λp=>p.2-(JA o p.1).getD 0)<|λz=>F<|Je.mp z).1;let b:=Bo (hs:=JZ o (t-Q3 f) n) a;rw[FC (h p a).1 (h p a).2]at b;unfold XF at b;let hs:=UJ.mp c p a
    induction z:JA o p.1 with
    |none=>rw[z]at hs;rw[Zn hs Zj]
    |some w=>
     rw[z]at b j;let j:p.2-w=_:=j;let b:0-w+p.2<=QB r (JZ o (t-Q3 f) n):=b;lia
   .cases q
 lia
def Dm:FS:=jp (jA 04<|JB vj<|J2 (jj Q2<|J2 015 jb)<|J2 (jj Q2<|018)<|J2 (ja 2)<|J2 (ja 03) jb)<|jp (xx (xN (Kj<|J9<|jj qd<|J2 (ja 04)<|J2 (dC<|.ty 013) jb)<|xN (J9<|jh zr (jj jy<|J2 (ja 04) jb)<|ja 03)<|Kj<|J9<|jj zM<|J2 (Q6 [8] (iS<|ja 04) (.one 0)<|JB Bv<|J2 015 jb) jb) (j0<|dC .non) Qa)<|j0<|ja 04
def Bw:YC->Res D:=jJ 05 04 Dm
def Dn:FS:=jp (qX 03<|qI jb)<|jp (qS (wX<|018) (.one 04)<|jp (jA 05<|JB QC<|J2 015<|J2 (jh jP (jh j6 (jh xf (ja 2)<|dC<|.int 03)<|ja 04)<|jj ZR<|J2 005<|J2 007 jb) jb)<|jp (jA 06<|jh j6 (jh j6 (jh xf (jh jP (jh xf (ja 05)<|dC<|.int 48271)<|dC<|.int 2147483647)<|jh j6 (ja 2)<|005)<|jh Kk (ja 05)<|dC<|.int 07)<|jh xf (ja 04)<|ja 04)<|Wy 03<|jh ju (qI<|J2 (jh jP (ja 06)<|dC<|.int 30)<|J2 (jh jP (ja 06)<|jh yT (dC<|.int 10)<|dC<|.int 60)<|J2 (jh xW 022<|jh jP (ja 06)<|jh yT (dC<|.int 10)<|dC<|.int 60) jb)<|jh jP (ja 2)<|dC<|.int 03)<|KO 03
def Aj:YC->Res D:=q9 07 03 Dn
def ix3(a b c:3)(t:5):∃v,qa [D.int a,.int b,.int c] ((t:3)%03)=! .int v:=by
 let:(t:3)%03=0\/(t:3)%03=1\/(t:3)%03=2:=()
 obtain h|h|h:=this<;>rw[h,]
 .rw[(a,9)]
 .rw[(b,9)]
 .rw[(c,9)]
def bt(a:Yf){many t:5}(E:many<=12)(F:t<=08):∃f:Yf,⇑f=many/\Aj [.scr a,.int many,.int t]=.ok (.lst<|f.map .int):=by
 let(m,hm1,hm2):∃m:5,1<=m/\ZR [.int 1,.int (⇑a:3)]=! .int (m:3):=(max 1 ⇑a,(),by grind[T8]);let o:W2 [.int (many:5)]=.ok (Qn 0 many):=by rw[X7 () (),];rfl
 let g:yT (.int 10) (.int 60)=! .int 1000000000000000000000000000000000000000000000000000000000000:=by
  rfl
 let G:jy [.scr a]=! .int (⇑a:3):=9;ext Aj;rw[Lo 07 03 _ [.scr a,.int many,.int t] 9,show Qt 07 [D.scr a,.int many,.int t]=[~~~.scr a,~~~.int many,~~~.int t,8,8,8,8]from 9];ext Dn;generalize p:jp (jA 05 _) _=b;let(-q,e,(f,u,v,w,h,c)):=Xc (tg:=.one 04) (b:=b) (ds:=Qn 0 many) (sd:=[~~~.scr a,~~~.int many,~~~.int t,!(.own 7<|.lst []),8,8,8])
  (P:=λi sd=>∃(f:Yf)(u v w:02 SV),sd=[~~~.scr a,~~~.int many,~~~.int t,!(.own 7<|.lst<|f.map .int),u,v,w]/\⇑f=i) (jW [] 8 8 8 (9,9)) (by
   rintro i x sd l ⟨f,u,v,w,rfl,c⟩;let(rfl,H):=C8 l;rw[Int.zero_add,];let n:=AS (i:=(t:3)*03+(i:3)) (j:=(m:3)) ();let I:=Vh ((t:3)*03+(i:3)) (b:=(m:3)) ();let(k,hk):∃k:5,((t:3)*03+(i:3))%(m:3)=(k:3):=((((t:3)*03+(i:3))%(m:3)).toNat,());rw[hk]at n;let r:=Dk a k;let s:=X6<|C6 (i:=(t:3)) (j:=03) () ();let m2:=X6<|C6 (i:=JU a k) (j:=48271) () ();let z:=X6<|C6 (i:=JU a k*48271%2147483647) (j:=(t:3)+1) () ();let A:=X6<|C6 (i:=(i:3)) (j:=(i:3)) () ();let B:=Qb<|show ⇑f<=1000 from();let(x,l):∃x,x=JU a k*48271%2147483647*((t:3)+1)+JU a k/07+(i:3)*(i:3):=(_,9);have(y,C):=ix3 (x%30) (x%1000000000000000000000000000000000000000000000000000000000000) (-(x%1000000000000000000000000000000000000000000000000000000000000)) t;rw[([~~~.scr a,~~~.int many,~~~.int t,!(.own 7<|.lst<|(f++[y]).map .int),~~~.int i,~~~(.int<|JU a k),~~~.int x],?_,_,_,_,_,9,by rw[Ua,c];rfl)];rw[<-p];simp[s,hm2,n,r,m2,z,A,<-l,g,C,B])
 subst h;rw[ZU]at c;rw[(f,c,?_)];simp[o,e]
def Dp:FS:=jp (qX 06<|Q6 [8,!0,!03] (wX<|J2 (dC<|.int 09) jb) (.one 0)<|JB Aj<|J2 (ja 1)<|J2 (ja 2)<|J2 015 jb)<|jp (qS (wX<|J2 (jh xf 023<|ja 03) jb) (.one 07)<|jp (qX 08<|jj Q2<|J2 (ja 04) jb)<|jp (ZX 08 (jh Kk (ja 07)<|023)<|jh xW (jh j6 (X5 08<|jh Kk (ja 07)<|023)<|005)<|jh xf 023<|jh jP (ja 07)<|023)<|λa=>(Wy 06<|ja 08)<|qp [08] a)<|jp (Ct 06 (.one 08)<|xx (J9<|jh vw (yB [08]<|JB XH<|J2 (ja 1)<|J2 (ja 2)<|J2 (ja 08) jb)<|ja 05) (j0<|dC<|.bl 7) Qa)<|j0<|dC<|.bl 6
def Dq:YC->Res D:=jJ 09 06 Dp
abbrev xT(hs:Yf):D:=.lst<|hs.map .int
open Classical in
def Ak(a:Yf)(n k:5):Yf:=if h:n<=12/\k<=08 then Classical.choose (bt a h.1 h.2)else[]
def NT(a:Yf) (b:n<=12)(c:k<=08):⇑(Ak a n k)=n/\Aj [.scr a,.int n,.int k]=.ok (xT<|Ak a n k):=by
 grind[Ak]
def zjN(f:Yf) (B:BkP l){i j:5} (J:l[i]?=!p)(M:l[j]?=!q) (o:n<=12)(N:⇑p.givens=n)(O:⇑q.givens=n) (Q:⇑a=n)
 (R:∀g:Yf,⇑g=n->xp l 20 p.name g-xp l 20 q.name g<=L):Dq [.scr f,Qz l,.tup [020,.str q.name],.int n,xT a,.int L]=.ok (.bl 6):=by
 let s:∀g:Yf,⇑g=n->XH [Qz l,.tup [020,.str q.name],xT g]=.ok (.int<|xp l 20 p.name g-xp l 20 q.name g):=λg h=>NQ B J M (h.trans N.symm)<|h.trans O.symm;generalize Qz l=bk at s ⊢;generalize D.tup [020,.str q.name]=pr at s ⊢;let t:qg (.one 0) (JB Aj<|J2 (ja 1)<|J2 (ja 2)<|J2 015 jb) [8,~~~.scr f,~~~.int n] (Qn 0 09)=.ok ((List.range 09).map λk=>xT<|Ak f n k):=C9 λk y=>by
  let e:=(NT f o<|show k<=08 from()).2;simp[e]
 let S:∃T:List Yf,((List.range 09).map λk=>xT<|Ak f n k)=T.map xT/\⇑T=09/\∀x∈T,⇑x=n:=by
  rw[((List.range 09).map λk=>Ak f n k,by rw[Zw,];rfl,(),λx h=>?_)];let(-k,y,rfl):=Ja.mp h;rw[(NT f o<|by let:=VR.mp y;lia).1]
 let(T,U,A,C):=S;rw[U]at t;let r9:W2 [.int 09]=.ok (Qn 0 09):=9;let r1:W2 [.int (2*(n:3))]=.ok (Qn 0<|2*n):=by
  rw[X7 () (),]
  congr 2
 let m1:=X6<|C7 (i:=2) (j:=(n:3)) () ();let X:Q2 [xT a]=! xT a:=9;ext Dq;rw[EO 09 06 _ [.scr f,bk,pr,.int n,xT a,.int L] 9,show Qt 09 [.scr f,bk,pr,.int n,xT a,.int L]=[~~~.scr f,~~~bk,~~~pr,~~~.int n,~~~xT a,~~~.int L,8,8,8]from 9];ext Dp;generalize Y:jp (qX 08 _) _=b;let(-E,e,(r,u,v,m,t4,Z)):=Xc (tg:=.one 07) (b:=b) (ds:=Qn 0<|2*n) (sd:=[~~~.scr f,~~~bk,~~~pr,~~~.int n,~~~xT a,~~~.int L,!(.own 7<|.lst<|T.map xT),8,8])
  (P:=λk sd=>∃(T:List Yf)(u v:02 SV),sd=[~~~.scr f,~~~bk,~~~pr,~~~.int n,~~~xT a,~~~.int L,!(.own 7<|.lst<|T.map xT),u,v]/\⇑T=09+k/\∀x∈T,⇑x=n) (jg T 8 8 (9,A,C)) (by
   rintro k x sd h ⟨T,u,v,rfl,A,C⟩;let(rfl,y):=C8 h;rw[Int.zero_add,];let hk2:k/2<n:=()
   let d1:=Lp (i:=(k:3)) (j:=2) () ();let d2:=AS (i:=(k:3)) (j:=2) ();let m2:=X6<|C7 (i:=2) (j:=(k:3)%2) () ();let G:(k:3)/2=((k/2:5):3):=()
   let a1:qa (a.map D.int) ((k:3)/2)=!(.int<|jN a<|(k:3)/2):=by
    rw[G,Kt (by rw[Zql,];lia),Zv,Zqg ()];ext jN;rw[Uy,Ue,Zqg ()];rfl
   let ix:yD ⇑a ((k:3)/2)=! k/2:=by
    rw[G,];ext yD;rw[Zd (),Zd (),Uy]
   let H:⇑T<00:=Qb ();let es:∀w,D.lst ((a.map D.int).set (k/2)<|.int w)=xT (a.set (k/2) w):=by simp
   rw[([~~~.scr f,~~~bk,~~~pr,~~~.int n,~~~xT a,~~~.int L,!(.own 7<|.lst<|(T++[a.set (k/2) (jN a ((k/2:5):3)+1-2*((k:3)%2))]).map xT),~~~.int k,~~~(xT<|a.set (k/2)<|jN a ((k/2:5):3)+1-2*((k:3)%2))],?_,_,_,_,9,by rw[Ua,A];rfl,λx h=>?_)]
   .rw[<-Y];simp[X,d1,d2,m2,a1,ix,qp,H,es]
   .rcases Jb.mp h with z|z
    .rw[C x z]
    .rw[Jd.mp z,UW];rw[Q])
 subst m;generalize hC:xx _ (j0<|dC<|.bl 7) Qa=c;let(-E,e2,(u2,m)):=TW (k:=06) (v:=.own 7<|.lst<|r.map xT) (tg:=.one 08) (b:=c) (ds:=r.map xT) (sd:=[~~~.scr f,~~~bk,~~~pr,~~~.int n,~~~xT a,~~~.int L,!(.own 6<|.lst<|r.map xT),u,v])
  (P:=λi sd=>∃(v:02 SV),sd=[~~~.scr f,~~~bk,~~~pr,~~~.int n,~~~xT a,~~~.int L,!(.own 6<|.lst<|r.map xT),u,v]) (by
   rintro j sd ⟨v,rfl⟩;rfl) (v,9) (by
   rintro k x sd h ⟨v,rfl⟩;let(-g,F,rfl):=KF h;let I:=Z g<|Uf F;let e:=s g I;let le:=R g I;rw[([~~~.scr f,~~~bk,~~~pr,~~~.int n,~~~xT a,~~~.int L,!(.own 6<|.lst<|r.map xT),u,~~~xT g],?_,_,9)];rw[<-hC];generalize xT g=h at e ⊢;simp[qp,e];lia)
 subst m;let H:⇑(Qn 0 09)<00:=by rw[ZU,];rw[Qb ()]
 ext
def uf:FS:=j0<|Q6 [8,!0] (iS<|ja 1) (.one 0)<|JB zR<|J2 (ja 1)<|J2 015 jb
def ut:YC->Res D:=q9 2 2 uf
def tQ{a os:J1}(f:∀r∈a,r ≠[]/\⇑r<=1000)(c:∀o∈os,⇑o<=100/\j9 o)(g:⇑os<=1000):ut [.lst (a.map j3),.lst (os.map j3)]=.ok (.lst<|os.map λo=>xt<|Qd a o):=by
 let b:qg (.one 0) (JB zR<|J2 (ja 1)<|J2 015 jb) [8,~~~(.lst<|a.map j3)] (os.map j3)=.ok (os.map λo=>xt<|Qd a o):=K0 λo e=>by
  simp[b9 f (c o e).1 (c o e).2]
 simp[ut,uf,b,Qb g]
def vi:FS:=jp (jA 2<|JB ut<|J2 015<|018)<|jp (xx (J9<|jh (yE 7) (dC .non)<|ja 2) (j0<|dC .non) Qa)<|j0<|jj X2<|J2 (Q6 [8,8] (iS<|ja 2) (.tup [0,1])<|015) jb
def ww:YC->Res D:=jJ 03 2 vi
def eO(p:02 (3×3)):jY 12 (xt p)=6:=by cases p<;>rfl
def NU(p:02 (3×3)):jF (xt p) .non=not p.isSome:=by
 cases p with
 |none=>rw[@decide_eq_true _ (Classical.propDecidable _) 9]
 |some p=>rw[@decide_eq_false _ (Classical.propDecidable _)<|by intro z;cases z]
def tR{a os:J1}(w:∀r∈a,r ≠[]/\⇑r<=1000)(h:∀o∈os,⇑o<=100/\j9 o)(t:⇑os<=1000)(j:os ≠[]):ww [.lst (a.map j3),.lst (os.map j3)]=.ok (yh<|WM a os):=by
 let x:(os.map λo=>xt<|Qd a o).all (jY 12)=6:=by
  rw[VT,];rw[UJ.mpr λo _=>eO _]
 let i:yE 7 .non (.lst<|os.map λo=>xt<|Qd a o)=!(.bl<|os.any λo=>not<|(Qd a o).isSome):=by
  show(if jY 12 .non&&(os.map λo=>xt<|Qd a o).all (jY 12)then !(D.bl<|(os.map λo=>xt<|Qd a o).any λe=>jF e .non)else 8)=_;rw[x,Bool.and_true,Zd (show jY 12 .non=6 from 9),List.any_map];rw[Zt (λf=>!(D.bl<|os.any f))<|funext λo=>NU _]
 let l:=tQ w h t;cases c:os.all (λo=>(Qd a o).isSome)=6
 .let b:(os.any λo=>not<|(Qd a o).isSome)=7:=by
   rw[Yr,];intro z;let(-o,y,u):=V5.mp z;let:=UJ.mp c o y;rw[this]at u;rw[Zj u]
  rw[b]at i;let(g,e0,A,e2):∃g:J0,os.map (λo=>xt<|Qd a o)=g.map qy/\g.map (·.1)=(os.map λo=>((Qd a o).getD %[0|0]).1)/\⇑g=⇑os:=by
   rw[(os.map λo=>(Qd a o).getD %[0|0],?_,by rw[Zw,];rfl,Zql _)];rw[Zw,];rw[UV λo h=>?_];let:=UJ.mp c o h;show xt (Qd a o)=qy ((Qd a o).getD %[0|0])
   induction q:Qd a o with
   |none=>rw[q]at this;rw[Zn this Zj]
   |some p=>rfl
  rw[e0]at i l;let m:qg (.tup [0,1]) 015 [8,8] (g.map qy)=.ok (g.map λp=>.int p.1):=K0 λp _=>by simp
  let e:g.map (λp=>D.int p.1)=(g.map (·.1)).map .int:=by rw[Zw,];rfl
  let n:g ≠[]:=λz=>by
   subst z;rw[j<|Jl.mp e2.symm]
  let v:=ER (ns:=g.map (·.1))<|λz=>n<|Je.mp z;rw[<-e,A]at v;let s:⇑g<=1000:=by rw[e2,];rw[t]
  simp[ww,vi,l,i,m,Qb s,v,WM,c,yh]
 .let b:(os.any λo=>not<|(Qd a o).isSome)=6:=by
   induction z:os.any λo=>not<|(Qd a o).isSome with
   |true=>rfl
   |false=>
    rw[Zn (UJ.mpr λo h=>?_) c];let:=List.any_eq_false.mp z o h;cases q:(Qd a o).isSome with
    |true=>rfl
    |false=>rw[q]at this;rw[Zn 9 this]
  rw[b]at i;simp[ww,vi,l,i,WM,c,yh]
def Bx:FS:=jp (jA 05<|JB ww<|J2 (jj Q2<|J2 (jh ju (ja 03)<|022) jb)<|J2 (jj Q2<|J2 (jh ju (ja 03)<|005) jb) jb)<|jp (jA 06<|jh jP (JB QC<|J2 015<|J2 (dC<|.int 04) jb)<|jh yT (dC<|.int 10)<|dC<|.int 62)<|jp (xx (J9<|jZ (x9 7)<|ja 05) (jp (jA 07<|JB Bw<|J2 (jh ju (ja 03)<|022)<|J2 (jh ju (ja 03)<|005)<|J2 (ja 06)<|J2 (ja 04) jb)<|j0<|ZJ (jZ (x9 6)<|ja 07)<|jh nM (JB XH<|J2 (ja 1)<|J2 (ja 2)<|J2 (ja 07) jb)<|ja 06) Qa)<|jp (jA 07<|JB Bw<|J2 (jh ju (ja 03)<|022)<|J2 (jh ju (ja 03)<|005)<|J2 (ja 05)<|J2 (ja 04) jb)<|jp (xx (xN (Kj<|J9<|JB Bv<|J2 (ja 05) jb)<|xN (J9<|jZ (x9 7)<|ja 07)<|J9<|jh zr (JB XH<|J2 (ja 1)<|J2 (ja 2)<|J2 (ja 07) jb)<|ja 05) (j0<|dC<|.bl 7) Qa)<|jp (xx (J9<|jZ (x9 6)<|JB vj<|J2 (jj Q2<|J2 (jh ju (ja 03)<|022) jb)<|J2 (jj Q2<|J2 (jh ju (ja 03)<|005) jb)<|J2 (jh j6 (ja 05)<|005)<|J2 (ja 04) jb) (j0<|dC<|.bl 7) Qa)<|j0<|JB Dq<|J2 015<|J2 (ja 1)<|J2 (ja 2)<|J2 (ja 04)<|J2 (ja 07)<|J2 (ja 05) jb
def Am:YC->Res D:=jJ 08 05 Bx
def m8(n:5)(f:J1):4:=f ≠[]/\⇑f<=12/\∀r∈f,JRow r/\∀p∈r,p.1<(n:3)
def NV(H:Yf) (B:BkP A){i j:5} (s:A[i]?=!p)(hq:A[j]?=!q) (Y:n<=12)(gp:⇑p.givens=n)(gq:⇑q.givens=n) (F:m8 n f)(G:m8 n g)
 (ef:∀hs:Yf,⇑hs=n->JG f hs=xp A 20 p.name hs)(eg:∀hs:Yf,⇑hs=n->JG g hs=xp A 20 q.name hs):Am [.scr H,Qz A,.tup [020,.str q.name],.lst [jm f,jm g],.int n]=.ok (.bl 6):=by
 let(!R,fl,I):=F;let(!J,gl,C):=G;let M:∀r∈f,r ≠[]/\⇑r<=1000:=λr h=>((I r h).1.ne,by let:=(I r h).1.len;lia);let N:∀o∈g,⇑o<=100/\j9 o:=λo h=>(by let:=(C o h).1.len;lia,(C o h).1.once);let S:∀o∈g,∀p∈o,0<=p.1/\p.1<(n:3):=λo h p s=>(((C o h).1.bnd p s).1,(C o h).2 p s);let fb:∀r∈f,r ≠[]/\∀p∈r,0<=p.1/\p.1<(n:3):=λo h=>((I o h).1.ne,λp s=>(((I o h).1.bnd p s).1,(I o h).2 p s));let y:ww [jm f,jm g]=.ok (yh<|WM f g):=tR M N () J;let T:∀f:J1,Q2 [jm f]=! jm f:=λ_=>9;let a0:qa [jm f,jm g] 0=! jm f:=9;let a1:qa [jm f,jm g] 1=! jm g:=9;let c4:QC [.scr H,.int 04]=.ok (.int<|JU H 04):=Dk H 04;let O:yT (.int 10) (.int 62)=! .int 100000000000000000000000000000000000000000000000000000000000000:=by
  rfl
 let Z:∀(o:J0)(l:3),⇑(JZ o l n)=n:=λo l=>by ext JZ;simp
 let ap:∀a:Yf,⇑a=n->XH [Qz A,.tup [020,.str q.name],.lst (a.map .int)]=.ok (.int<|JG f a-JG g a):=λa U=>by
  rw[ef a U,eg a U];rw[NQ B s hq (U.trans gp.symm)<|U.trans gq.symm]
 let E:∀{t:3}{o:J0},g.find? (qD f t)=!o->Bw [jm f,jm g,.int t,.int n]=.ok (.lst<|(JZ o (t-Q3 f) n).map .int):=λ{t o}h=>by
  let e:=bD (t:=t) R () M N S ();let ed:Xn f g t n=.lst ((JZ o (t-Q3 f) n).map .int):=by ext Xn;rw[h,]
  rw[ed]at e;let(hs,hh):∃hs,hs=JZ o (t-Q3 f) n:=(_,9);let h:⇑hs=n:=by rw[hh,];ext JZ;simp
  rw[<-hh]at e ⊢;let key:qg (.one 0) (JB Bv<|J2 015 jb) [8] (hs.map .int)=.ok ((hs.map λ_=>6).map .bl):=by
   rw[Zw,];rw[K0 λx _=>by simp]
  let ga:=Ly<|hs.map λ_=>6;rw[show(hs.map λ_=>6).all id=6 by rw[VT,UJ];rw[002]]at ga;let gl:jy [.lst (hs.map D.int)]=! .int (n:5):=by rw[AT,Zql,h]
  let gi:qd [.lst (hs.map D.int),.ty 013]=! .bl 6:=9;let lz:⇑(hs.map D.int)<00:=by rw[Zql,];rw[Qb ()]
  let T:∀f:J1,Q2 [jm f]=! jm f:=λ_=>9;generalize(hs.map λ_=>6).map D.bl=bl at*;generalize hs.map D.int=hd at*;simp[Bw,Dm,T,e,gi,gl,lz,key,ga]
 induction z:WM f g with
 |none=>
  rw[z]at y;let(b,hfar):∃b,b=JU H 04%100000000000000000000000000000000000000000000000000000000000000:=(_,9);let(-o,X,u,h3):=NR (f:=f) (t:=b) J λL h=>by rw[z]at h;cases h
  let P:=E X;let le:=NS (n:=n) R fb (C o u).1.ne (C o u).1.once (S o u) u h3;let e:=ap _<|Z o<|b-Q3 f;generalize(JZ o (b-Q3 f) n).map D.int=hd at P e;generalize JG f _-JG g _=v at e le;generalize Qz A=bk at e ⊢;generalize D.tup [020,.str q.name]=pr at e ⊢;simp[Am,Bx,T,a0,a1,y,yh,c4,O,<-hfar,P,e,le,x9,EN]
 |some L=>
  rw[z]at y;let(-o,X,u,h3):=NR (f:=f) (t:=L) J ();let P:=E X;let le:=NS (n:=n) R fb (C o u).1.ne (C o u).1.once (S o u) u h3;let up:∀a:Yf,JG f a-JG g a<=L:=λa=>by
   let(-o,N,eo):=Xj (hs:=a) J;unfold WM at z
   split at z
   .rename_i c;let hn:=UJ.mp c o N
    induction q:Qd f o with
    |none=>ext
    |some m=>
     let(-r,M,hl):=Gb q;let hm:m.1<=qN (g.map λo=>((Qd f o).getD %[0|0]).1):=by
      let:=(KZ (l:=g.map λo=>((Qd f o).getD %[0|0]).1)<|λz=>J<|Je.mp z).2 _<|Ja.mpr (o,N,9)
      rwa[q]at this
     let(-p,s,ep):=Nt (hs:=a) ((λr h=>(I r h).1.ne) r M);let(-w,hw,hle):=ad hl p s;let X:=Bo (hs:=a)<|Q5 hw;let u:=WK (hs:=a) M
     grind
   .cases z
  let u1:=up<|JZ o (L-Q3 f) n;let e:=ap _<|Z o<|L-Q3 f;let eL:JG f (JZ o (L-Q3 f) n)-JG g (JZ o (L-Q3 f) n)=L:=()
  rw[eL]at e;let Q:=zjN H B s hq Y gp gq (Z o<|L-Q3 f) (L:=L) ();let lb:=bD (t:=L+1) (n:=n) R () M N S ();let ed:Xn f g (L+1) n=.non:=by ext Xn;rw[o9 z J (),]
  rw[ed]at lb;unfold xT at Q;generalize(JZ o (L-Q3 f) n).map D.int=hd at P e Q;generalize Qz A=bk at e Q ⊢;generalize D.tup [020,.str q.name]=pr at e Q ⊢;simp[Am,Bx,T,a0,a1,y,yh,c4,O,P,e,lb,Q,x9,EN]
def uV:FS:=jp (qS (iS<|015) (.tup [2,03])<|xx (xN (J9<|jh (yE 6) (ja 2)<|ja 1)<|J9<|jh vw (ja 03)<|jh ju (ja 1)<|ja 2) (j0<|dC<|.bl 7) Qa)<|j0<|dC<|.bl 6
def uW:YC->Res D:=jJ 04 2 uV
def tM (f:j9 o):uW [j3 r,yF o]=.ok (.bl<|JL r o):=by
 rw[ZV (R:=λz=>(z.bind<|ye<|j0<|dC<|.bl 6).bind yg=.ok (.bl<|JL r o)) (P:=λi e=>(∃u v,e=[~~~j3 r,~~~yF o,u,v])/\JL (r.take i) o=6) (jR 8 8 9,9) ?_ ?_]
 .simp
 .rintro i x e g ⟨⟨u,v,rfl⟩,hu⟩;let(p,b,rfl):=KF g;let a:=AU f p.1
  induction q:JA o p.1 with
  |none=>
   rw[q]at a;let z:zg o p=7:=by ext zg;rw[q,]
   rw[Hx b z,];rw[.inr<|.inr (.bl 7,by simp[yF,a],())]
  |some w=>
   rw[q]at a;cases c:w<p.2
   .let z:zg o p=7:=by ext zg;rw[by grind]
    rw[Hx b z,];rw[.inr<|.inr (.bl 7,by simp[yF,a,c],())]
   .let z:zg o p=6:=by ext zg;rw[by grind]
    rw[.inl ([~~~j3 r,~~~yF o,~~~.int p.1,~~~.int p.2],.inl<|by simp[yF,a,c],jR _ _ 9,by
     rw[KM b,]
     simp_all[JL])]
def Dr:FS:=jp (jA 2<|jj Y3<|J2 015 jb)<|jp (qS (iS<|ja 1) (.one 03)<|xx (J9<|JB uW<|J2 (ja 03)<|J2 (ja 2) jb) (j0<|dC<|.bl 6) Qa)<|j0<|dC<|.bl 7
def KG:YC->Res D:=jJ 04 2 Dr
def NW  (c:j9 r)(j:⇑r<=100):KG [j3 r,jm ks]=.ok (.bl<|ks.any λo=>JL o r):=by
 let l:=EQ j c;simp[KG,Dr,l];rw[ZV (R:=λz=>(z.bind<|ye<|j0<|dC<|.bl 7).bind yg=.ok (.bl<|ks.any λo=>JL o r)) (P:=λi b=>(∃u,b=[~~~j3 r,~~~jm ks,~~~yF r,u])/\∀o∈ks.take i,JL o r=7) ((8,9),λ_ h=>by simp at h) ?_ ?_]
 .rintro b ⟨⟨u,rfl⟩,hu⟩;rw[Zql,Vg]at hu;let e:ks.any (λo=>JL o r)=7:=List.any_eq_false.mpr λo h=>by rw[hu o h,];simp
  rw[e,];simp
 .rintro i x b m ⟨⟨u,rfl⟩,hu⟩;let(-o,f,rfl):=KF m;let a:=tM (r:=o) c
  induction q:JL o r with
  |true=>
   rw[q]at a;let e:ks.any (λo=>JL o r)=6:=V5.mpr (o,Uf f,q);rw[e,];rw[.inr<|.inr (.bl 6,by simp[a],())]
  |false=>
   rw[q]at a;rw[.inl ([~~~j3 r,~~~jm ks,~~~yF r,~~~j3 o],.inl<|by simp[a],(_,9),λy g=>?_)];rw[KM f]at g;obtain z|z:=Jb.mp g
   .rw[hu y z]
   .rw[Jd.mp z,];rw[q]
def vU:FS:=jp (qX 2<|jj Y3<|J2 015 jb)<|jp (qS (iS<|ja 1) (.tup [03,04])<|AQ 2 (ja 03)<|jj ZR<|J2 (ja 04)<|J2 (yB [2]<|C4 (ja 2) (ja 03)<|ja 04) jb)<|λa=>(j0<|jj ZS<|J2 (EM<|ja 2) jb)<|qp [2] a
def wu:YC->Res D:=jJ 05 2 vU
def QU(r o:J0):J0:=Qs qo<|Q7 r o
def tL (c:r ≠[])(or:j9 r)(f:j9 o)(y:⇑r<=20)(lo:⇑o<=20):wu [j3 r,j3 o]=.ok (j3<|QU r o):=by
 let g:Y3 [.tup (r.map qy)]=! yF r:=EQ () or;simp[wu,vU,g,j3];generalize h:AQ 2 _ _=b;let(-j,e,(u,v,a)):=Xc (tg:=.tup [03,04]) (b:=b) (ds:=o.map qy) (sd:=[~~~(.tup<|r.map qy),~~~(.tup<|o.map qy),!(.own 7<|yF r),8,8])
  (P:=λi sd=>∃u v,sd=[~~~(.tup<|r.map qy),~~~(.tup<|o.map qy),!(.own 7<|yF<|Q7 r<|o.take i),u,v]) (jR 8 8 9) (by
   rintro i x sd l ⟨u,v,rfl⟩;let(-p,m,rfl):=KF l;let n:Q7 r (o.take<|i+1)=WU (Q7 r<|o.take i) p:=by
    rw[KM m,];ext Q7;rw[Vz,];rfl
   let q:=Ew (o.take i) r;let z:⇑(o.take i)<=⇑o:=by rw[Uq,];lia
   let s:=Qb (show(Q7 r<|o.take i).length<=1000 by lia);let t:=AU (Cj (o.take i) r or) p.1;subst h;let w:WU (Q7 r<|o.take i) p=xr (Q7 r<|o.take i) p.1 (if(JA (Q7 r<|o.take i) p.1).getD p.2>p.2 then(JA (Q7 r<|o.take i) p.1).getD p.2 else p.2):=9;rw[n,w,<-TC (Q7 r<|o.take i) p.1<|if(JA (Q7 r<|o.take i) p.1).getD p.2>p.2 then(JA (Q7 r<|o.take i) p.1).getD p.2 else p.2];simp[yF,t,s])
 rw[e,];subst a;let q:=Ew o r;simp[TD (Iu c f) (),QU]
def Ds:FS:=jp (qX 2<|jh Fp (X4 [8,!1] (iS<|015) (.one 0) (J9<|JB KG<|J2 015<|018)<|015)<|X4 [8,!0] (iS<|ja 1) (.one 0) (J9<|JB KG<|J2 015<|018)<|015)<|jp (jA 03<|X4 [8,!0] (iS<|ja 1) (.one 0) (Kj<|J9<|JB KG<|J2 015<|018)<|015)<|jp (qS (iS<|015) (.one 04)<|xx (Kj<|J9<|JB KG<|J2 (ja 04)<|018) (ZM 2<|Q6 [8,!04] (iS<|ja 03) (.one 0)<|JB wu<|J2 (ja 1)<|J2 015 jb) Qa)<|KO 2
def Bz:YC->Res D:=q9 05 2 Ds
def YM(f g:J1):J1:=f.flatMap λr=>g.map<|QU r
def v1  :q∈YM f g↔∃r∈f,∃o∈g,QU r o=q:=by
 simp_all[YM]
def ow(f g:J1):⇑(YM f g)=⇑f*⇑g:=by
 ext YM
 cases(f)with
 |nil=>simp
 |cons r f a=>grind
def iB (c:j9 a)(p:b.Perm a)(t:3):JA b t=JA a t:=by
 induction h:JA a t with
 |some w=>rw[(Iv<|((p.map λz:3×3=>z.1).nodup_iff).mpr c).mp<|p.mem_iff.mpr<|Q5 h]
 |none=>
  induction h2:JA b t with
  |none=>rfl
  |some w=>
   let:=(Iv c).mp<|p.mem_iff.mp<|Q5 h2
   ext
def Dt (or:j9 r)(a:j9 o)(t:3):JA (QU r o) t=jw (JA r t) (JA o t):=by
 rw[<-Ci t o r a];rw[iB (Cj o r or) (QM _) t]
theorem An (a:JRow r)(b:JRow o):JRow (QU r o):=by
 let e:=Cj o r a.once;rw[(λz=>(Iu a.ne b.once) ?_,?_,λp f=>?_)]
 .let:=(QM (ltb:=qo)<|Q7 r o).length_eq
  grind[QU,List.length_nil]
 .ext xk QU;let g:(Qs qo<|Q7 r o).Pairwise λx y=>x.1≠y.1:=by
   grind[j9,List.Nodup,List.pairwise_map,QM]
  rw[Vf,];rw[(List.Pairwise.and (SF e) g).imp λ{x y}h=>?_]
  grind[XU]
 .let c:=e.look<|(QM<|Q7 r o).mem_iff.mp f;rw[Ci p.1 o r b.once]at c
  induction q1:JA r p.1 with
  |some w=>rw[a.bnd %[p.1|w]<|Q5 q1]
  |none=>
   induction q2:JA o p.1 with
   |some w=>rw[b.bnd %[p.1|w]<|Q5 q2]
   |none=>rw[q1,q2]at c;cases c
def NX (a:JRow r)(b:JRow o):JL r (QU r o)=6:=by
 rw[zT,];intro p c;rw[Dt a.once b.once,a.once.look c]
 cases(JA o p.1)with
 |none=>rw[(p.2,9,UZ _)]
 |some y=>rw[(_,9,by split<;>lia)]
def NY (b:JRow r)(a:JRow o):JL o (QU r o)=6:=by
 rw[zT,];intro p c;rw[Dt b.once a.once,a.once.look c]
 cases(JA r p.1)with
 |none=>rw[(p.2,9,UZ _)]
 |some y=>rw[(_,9,by split<;>lia)]
def Ge (h:JRow r)(i:JRow o)(f:JL r q=6)(g:JL o q=6):JL (QU r o) q=6:=by
 rw[zT]at f g ⊢;intro p j;let c:=(An h i).once.look j;rw[Dt h.once i.once]at c
 induction q1:JA r p.1 with
 |none=>
  rw[q1]at c;rw[g p<|Q5 c]
 |some x=>
  induction q2:JA o p.1 with
  |none=>
   rw[q1,q2]at c;cases c;rw[f %[p.1|p.2]<|Q5 q1]
  |some y=>
   rw[q1,q2]at c;let(w,m,a):=f %[p.1|x] (Q5 q1);let(-n,l,b):=g %[p.1|y] (Q5 q2);let e:=Zqi c
   grind
def jX(g:J1)(r:J0):Bool:=g.any λo=>JL o r
def dO  :jX g r=6↔∃o∈g,JL o r=6:=V5
def K3(f g:J1)(l:J1):J1:=(l.filter λr=>not<|jX g r).flatMap λr=>(g.filter λo=>not<|jX f o).map<|QU r
def WA(f g:J1):J1:=f.filter (jX g)++g.filter (jX f)++K3 f g f
def NZ(f g l:J1):⇑(K3 f g l)=⇑(l.filter λr=>not<|jX g r)*⇑(g.filter λo=>not<|jX f o):=by
 ext K3;generalize l.filter (λr=>not<|jX g r)=a
 cases(a)with
 |nil=>simp
 |cons r a b=>grind
theorem Du{α:Type}(p:α->Bool):∀l:List α,⇑(l.filter p)+⇑(l.filter λx=>not<|p x)=⇑l
 |[]=>9
 |x::l=>by
  let:=Du p l
  grind
def Oa (a:∀r∈f,JRow r)(b:∀r∈g,JRow r):∀q∈WA f g,JRow q:=λq hq=>by
 obtain hq|hq:=Jb.mp hq
 .grind
 .let(-r,c,hq):=Jr.mp hq
  grind[An]
def bA (l:∀r∈f,JRow r)(t:∀r∈g,JRow r)(G:⇑f+⇑g+⇑f*⇑g<=1000):Bz [jm f,jm g]=.ok (jm<|WA f g):=by
 let m:∀(u:J1)(r:J0),JRow r->KG [j3 r,jm u]=.ok (.bl<|jX u r):=λu r h=>NW h.once (by let:=h.len;lia);let B:W1 (.one 0) (J9<|JB KG<|J2 015<|018) 015 [8,~~~jm g] (f.map j3)=.ok ((f.filter<|jX g).map j3):=
  CA (s:=λr=>[~~~j3 r,~~~jm g]) (λr _=>9) λr j=>by simp[m g r (l r j)] ()
 let m2:W1 (.one 0) (J9<|JB KG<|J2 015<|018) 015 [8,~~~jm f] (g.map j3)=.ok ((g.filter<|jX f).map j3):=
  CA (s:=λr=>[~~~j3 r,~~~jm f]) (λr _=>9) λr j=>by simp[m f r (t r j)] ()
 let v:W1 (.one 0) (Kj<|J9<|JB KG<|J2 015<|018) 015 [8,~~~jm f] (g.map j3)=.ok ((g.filter λo=>not<|jX f o).map j3):=
  CA (s:=λr=>[~~~j3 r,~~~jm f]) (λr _=>9) λr j=>by simp[m f r (t r j)] ()
 let T:=Du (jX g) f;let H:=Du (jX f) g;let a:∀o∈g.filter λo=>not<|jX f o,JRow o:=λo n=>t o (Jf.mp n).1;let C:WA f g=f.filter (jX g)++g.filter (jX f)++K3 f g f:=9;let bl:∀i,⇑(K3 f g<|f.take i)<=min i ⇑f*⇑g:=λi=>by
  rw[NZ,];rw[Vv ?_<|VB _ _];let:=VB (λr=>not<|jX g r)<|f.take i;rw[Uq]at this;rw[this]
 let E:∀(i:5)(r:J0),f[i]?=!r->K3 f g (f.take<|i+1)=K3 f g (f.take i)++if jX g r=6 then[]else(g.filter λo=>not<|jX f o).map (QU r):=λi r j=>by
  ext K3;rw[KM j,List.filter_append,List.flatMap_append]
  induction c:jX g r with
  |true=>rw[List.filter_cons_of_neg (by rw[c,];simp),Zd 9];rfl
  |false=>rw[List.filter_cons_of_pos (by rw[c,];rfl),Ze Zj];simp
 generalize U:(g.filter λo=>not<|jX f o)=rest at v a E H;let X:⇑rest<=⇑g:=()
 generalize F:f.filter (jX g)++g.filter (jX f)=A at C;let Y:⇑A<=⇑f+⇑g:=by rw[<-F,Ua];lia
 let I:⇑(f.filter<|jX g)+⇑(g.filter<|jX f)<=00:=small ();let J:(f.filter<|jX g).map j3++(g.filter<|jX f).map j3=A.map j3:=by rw[<-F,Uc]
 let(-L,e,(w,y)):=Xc (tg:=.one 04) (b:=xx (Kj<|J9<|JB KG<|J2 (ja 04)<|018) (ZM 2<|Q6 [8,!04] (iS<|ja 03) (.one 0)<|JB wu<|J2 (ja 1)<|J2 015 jb) Qa) (ds:=f.map j3) (sd:=[~~~jm f,~~~jm g,!(.own 7<|.lst<|A.map j3),~~~(.lst<|rest.map j3),8])
  (P:=λi sd=>∃(w:02 SV),sd=[~~~jm f,~~~jm g,!(.own 7<|.lst<|(A++K3 f g (f.take i)).map j3),~~~(.lst<|rest.map j3),w]) (8,by rw[List.take_zero,];simp[K3]) (by
   rintro i x sd M ⟨w,rfl⟩;let(-r,j,rfl):=KF M;let Z:=(Jc.mp j).1;let p:=Uf j;let q:=m g r<|l r p;let b0:=bl i;let N:(min i ⇑f+1)*⇑g<=⇑f*⇑g:=Vv ()<|Zf _;rw[Nat.succ_mul]at N;rw[E i r j,]
   induction c:jX g r with
   |true=>
    rw[c]at q;rw[Zd 9,ZA];rw[([~~~jm f,~~~jm g,!(.own 7<|.lst<|(A++K3 f g (f.take i)).map j3),~~~(.lst<|rest.map j3),~~~j3 r],by simp[q],_,9)]
   |false=>
    rw[c]at q;rw[Ze Zj,];let z:qg (.one 0) (JB wu<|J2 (ja 1)<|J2 015 jb) [8,~~~j3 r] (rest.map j3)=.ok (rest.map λo=>j3<|QU r o):=K0 λo n=>by
     let G:=(l r p).len;let l2:=(a o n).len;simp[tL (l r p).ne (l r p).once (a o n).once () ()]
    let O:(rest.map<|QU r).map j3=rest.map λo=>j3<|QU r o:=by rw[Zw,];rfl
    let sz:⇑(A++K3 f g (f.take i))+⇑rest<=00:=small (by rw[Ua,];lia);let Q:=Qb<|show ⇑rest<=1000 from();rw[([~~~jm f,~~~jm g,!(.own 7<|.lst<|(A++(K3 f g (f.take i)++rest.map (QU r))).map j3),~~~(.lst<|rest.map j3),~~~j3 r],?_,_,9)];rw[<-Ul];generalize A++K3 f g (f.take i)=acc at sz ⊢;rw[Uc,O];simp[q,z,Q,sz])
 subst y;rw[Zql,Vg]at e;let R:=Qb<|show ⇑f<=1000 from();let S:=Qb<|show ⇑g<=1000 from();rw[C,];simp[jm]at B m2 v e ⊢;simp[Bz,Ds,B,m2,v,R,S,I,J,e]
def Dv:FS:=jp (qX 2<|qI jb)<|jp (qS (iS<|jj CL<|J2 (jj CK<|J2 015 jb) jb) (.one 03)<|jp (xx (J9<|jh xI (yB [2]<|jj jy<|J2 (ja 2) jb)<|ja 1) uF Qa)<|xx (Kj<|J9<|yB [2]<|JB KG<|J2 (ja 03)<|J2 (ja 2) jb) (Wy 2<|ja 03) Qa)<|KO 2
def Dw:YC->Res D:=q9 04 2 Dv
def ziz  (ne:∀r∈c,r ≠[])(ri:∀r∈c,xk r)(p:∀r∈c,⇑r<=100)(w:⇑c<1000)(M:0<=en):Dw [jm c,.int en]=.ok (jm<|(yi c).take en.toNat):=by
 let dl:=M0 c;let y:CK [jm c]=!(.lst<|(Qs jK<|xM c).map j3):=by
  show(QP Wn<|c.map j3).bind _=_;rw[E6,];rw[Zd (ne,(),())]
 let N:⇑(Qs jK<|xM c)=⇑(xM c):=(QM (ltb:=jK) _).length_eq;let A:CL [.lst ((Qs jK<|xM c).map j3)]=!(.lst<|(xH c).map j3):=by
  show(QP Wn<|(Qs jK<|xM c).map j3).bind _=_;rw[E6,];rw[Zd (Bp yJ<|Mz c,(),λr B=>by
   let:=p r<|rQ.mp<|(QM (ltb:=jK) _).mem_iff.mp B;lia)]
 let e:=Nx ri;let s:∀r,r∈xH c->r∈c:=λr h=>mJ.mp h;let C:=Nw c;let E:yi c=(xH c).filter (qC c):=9;rw[E,];simp[Dw,Dv,y,A];generalize xH c=L at e s C;rw[ZV (R:=λz=>(z.bind<|ye<|KO 2).bind zz=.ok (jm<|(L.filter<|qC c).take en.toNat)) (P:=λi n=>i<=⇑L/\(⇑((L.take i).filter<|qC c):3)<=en/\∃u,n=[~~~jm c,~~~.int en,!(.own 7<|.lst<|((L.take i).filter<|qC c).map j3),u]) (Ub _,(),8,9) ?_ ?_]
 .rintro n ⟨_,le,u,rfl⟩;rw[Zql,Vg]at le ⊢;rw[Uz (),];rfl
 .rintro i x n F ⟨_,le,u,rfl⟩;let(-r,l,rfl):=KF F;let O:=(Jc.mp l).1;let m:=e (i+1) ();rw[KM l,Vz,e i (),<-KM l]at m;let m:we ((L.take i).filter<|qC c) r=(L.take<|i+1).filter (qC c):=m;let G:⇑((L.take i).filter<|qC c)<=i:=by
   let a:=VB (qC c)<|L.take i;rw[Uq]at a;lia
  rw[<-m];let t:=s r<|Uf l;let g:=NW (r:=r) (ks:=(L.take i).filter<|qC c) (Dd<|ri r t)<|p r t;let f:L.filter (qC c)=(L.take i).filter (qC c)++(L.drop i).filter (qC c):=by rw[<-List.filter_append,UM]
  generalize(L.take i).filter (qC c)=ks at G g le f;let g:KG [j3 r,.lst (ks.map j3)]=.ok (.bl<|ks.any λo=>JL o r):=g;let H:=Qb<|show ⇑ks<=1000 from();cases j:(⇑ks:3)=en
  .let I:(L.filter<|qC c).take en.toNat=ks:=by
    rw[f,List.take_left' ()]
   rw[.inr<|.inl ([~~~jm c,~~~.int en,!(.own 7<|.lst<|ks.map j3),~~~j3 r],by simp[j],?_)];rw[I,];simp[jm]
  .let v:∀b,(ks.any λo=>JL o r)=b->we ks r=if b=6 then ks else ks++[r]:=λb J=>by ext we;rw[J,]
   induction q:ks.any λo=>JL o r with
   |true=>
    rw[q]at g;rw[v 6 q,Zd 9];rw[.inl ([~~~jm c,~~~.int en,!(.own 7<|.lst<|ks.map j3),~~~j3 r],.inl<|by simp[j,g],(),le,_,9)]
   |false=>
    rw[q]at g;rw[v 7 q,Ze Zj];rw[.inl ([~~~jm c,~~~.int en,!(.own 7<|.lst<|(ks++[r]).map j3),~~~j3 r],.inl<|by simp[j,g,H],(),by rw[Ua,Ug];lia,_,9)]
def B0:FS:=jp (jA 2<|KC Dw<|J2 015<|J2 (jh j6 (ja 1)<|005) jb)<|jp (xx (J9<|jh vw (jj jy<|J2 (ja 2) jb)<|ja 1) (CO "TooMany"<|jZ (vK "more than ")<|ja 1) Qa)<|j0<|jj AV<|J2 (ja 2) jb
def QZ:YC->Res D:=q9 03 2 B0
def eX(a:J1):⇑(yi a)=⇑(Qp a):=by
 rw[<-Ny,(QM _).length_eq]
noncomputable def qh(a:3)(t:J1):02 J1:=if(⇑t:3)<=a then !t else 8
def yf:02 J1->Res D
 |some t=>.ok (jm t)
 |none=>.ex "TooMany" []
def Gf  (ne:∀r∈rs,r ≠[])(ri:∀r∈rs,xk r)(h:∀r∈rs,⇑r<=100)(e:⇑rs<1000)(l:0<=most)(i:most<=1000):QZ [jm rs,.int most]=yf (qh most<|Qp rs):=by
 let f:=ziz (en:=most+1) ne ri h e ();let m:⇑(yi rs)<=⇑rs:=Zh (VB _ _)<|Nw rs;let n:=eX rs;ext qh;cases c:(⇑(Qp rs):3)<=most
 .rw[Zd c,];rw[Uz ()]at f;let b:AV [jm (yi rs)]=!(.lst<|(Qs jK<|yi rs).map j3):=by
   show(QP Wn<|(yi rs).map j3).bind _=_;rw[E6,];rw[Zd (λr j=>ne r<|mJ.mp (Jf.mp j).1,())]
  rw[Ny]at b;let b:AV [jm (yi rs)]=!(jm<|Qp rs):=b;let g:¬most<(⇑(yi rs):3):=()
  show _=Res.ok (jm<|Qp rs);simp[QZ,B0,f,g,b]
 .rw[Ze c,];let g:most<(⇑((yi rs).take (most+1).toNat):3):=by
   grind
  have(z,o):=aR (x:="more than ") (a:=most) () ();show _=Res.ex "TooMany" []
  simp_all[QZ,B0]
def B4:FS:=jp (jA 2<|JB QZ<|J2 (jh ju 015<|022)<|018)<|jp (qS (iS<|zW 015 (Q8<|005) Kl Kl) (.one 03)<|jA 2<|JB QZ<|J2 (KC Bz<|J2 (ja 2)<|J2 (ja 03) jb)<|018)<|j0<|ja 2
def WC:YC->Res D:=jJ 04 2 B4
def WD(t f:J1):J1:=Qp<|YM t f
structure AllOk(fs:List J1)(t:J1):4 where
 row:∀r∈t,JRow r
 abv:∀r∈t,∀f∈fs,∃s∈f,JL s r=6
 least:∀q:J0,(∀f∈fs,∃s∈f,JL s q=6)->∃r∈t,JL r q=6
 anti:∀r∈t,∀s∈t,JL r s=6->r=s
 strict:t.Pairwise λa b=>jK a b=6
def Gg (o:j9 r):JL r r=6:=zT.mpr λp a=>(p.2,o.look a,UZ _)
def Gh :∀r∈Qp rs,∀s∈Qp rs,JL r s=6->r=s:=λr a s b c=>vq.mp (xS.mp b).2 r (xS.mp a).1 c
def Ob (h:∀r∈f,JRow r):AllOk [f] (Qp f):=by
 rw[(λr a=>h r (xS.mp a).1,λr a g c=>?_,λq e=>?_,Gh,WL f)]
 .rw[Jd.mp c,];rw[(r,(xS.mp a).1,Gg (h r (xS.mp a).1).once)]
 .let(s,i,j):=e f ();let(-r,a,b):=Y9 (λr a=>((h r a).once,(h r a).rise)) i;rw[(r,a,KW b j)]
def Oc  (A:AllOk fs t)(h:∀r∈f,JRow r):AllOk (fs++[f]) (WD t f):=by
 let rows:∀q∈YM t f,JRow q:=λq c=>by
  let(r,a,o,b,rfl):=v1.mp c;rw[An (A.row r a)<|h o b]
 rw[(λr a=>rows r (xS.mp a).1,λq c g m=>?_,λq c=>?_,Gh,WL _)]
 .let(r,a,o,b,rfl):=v1.mp (xS.mp c).1;obtain z|z:=Jb.mp m
  .let(-s,e,i):=A.abv r a g z;rw[(s,e,KW i<|NX (A.row r a)<|h o b)]
  .rw[Jd.mp z,];rw[(o,b,NY (A.row r a)<|h o b)]
 .let(r,a,i):=A.least q λg m=>c g ();let(-o,b,j):=c f ();let(-s,e,l):=Y9 (λr a=>((rows r a).once,(rows r a).rise)) (v1.mpr (r,a,o,b,9));rw[(s,e,KW l<|Ge (A.row r a) (h o b) i j)]
def Gi (h:∀r∈a,JRow r)(c:a ≠[]):Qp a ≠[]:=λz=>by
 cases(a)with
 |nil=>rw[c 9]
 |cons r a=>
  let(-s,e,_):=Y9 (λr b=>((h r b).once,(h r b).rise)) Zqs
  ext
def Od (i:∀r∈a,JRow r)(e:∀r∈b,JRow r)(h:∀q,(∃x∈a,JL x q=6)↔∃x∈b,JL x q=6):Qp a=Qp b:=by
 let f:∀{a b:J1},(∀r∈a,JRow r)->(∀r∈b,JRow r)->(∀q,(∃x∈a,JL x q=6)↔∃x∈b,JL x q=6)->∀r,r∈Qp a->r∈Qp b:=by
  intro a b i e h r l;let(m,s):=xS.mp l;let(y,t,u):=(h r).mp (r,m,Gg (i r m).once);let(-j,n,o):=Y9 (λr l=>((e r l).once,(e r l).rise)) t;let c:=(xS.mp n).1;let p:=KW o u;let(-x,v,g):=(h j).mpr (j,c,Gg (e j c).once);rw[vq.mp s x v<|KW g p]at g
  rwa[Nq (i r m).once (e j c).once (i r m).rise (e j c).rise g p,]
 rw[XY yJ (WL a) (WL b) λr=>(f i e h r,f e i (λq=>(h q).symm) r)]
def Oe (a:∀r∈f,JRow r)(b:∀r∈g,JRow r):∀q∈YM f g,JRow q:=λq c=>by
 let(-r,e,(o,h,rfl)):=v1.mp c;rw[An (a r e)<|b o h]
def ee (e:∀r∈t,JRow r)(f:∀r∈g,JRow r):Qp (WA t g)=WD t g:=Od (Oa e f) (Oe e f)<|λq=>by
 constructor
 .rintro⟨x,hx,a⟩;obtain hx|hx:=Jb.mp hx
  .rcases Jb.mp hx with hx|hx
   .let(hx,h):=Jf.mp hx;let(o,b,c):=dO.mp h;rw[(QU x o,v1.mpr (),Ge (e x hx) (f o b) a<|KW c a)]
   .let(hx,h):=Jf.mp hx;let(o,b,c):=dO.mp h;rw[(QU o x,v1.mpr (o,b,x,hx,9),Ge (e o b) (f x hx) (KW c a) a)]
  .let(-r,i,hx):=Jr.mp hx;rw[(_,v1.mpr (),a)]
 .rintro⟨x,hx,a⟩;let(r,i,o,b,rfl):=v1.mp hx;let j:=KW (NX (e r i)<|f o b) a;let l:=KW (NY (e r i)<|f o b) a
  grind[WA,K3]
def yq(a:3):J1->List J1->02 J1
 |t,[]=>!t
 |t,g::b=>(qh a<|WD t g).bind λc=>yq a c b
def Og(a)(t g)(b):yq a t (g::b)=(qh a<|WD t g).bind λc=>yq a c b:=rfl
def yV(a:3)(f:J1)(fs:List J1):02 J1:=(qh a<|Qp f).bind λt=>yq a t fs
def YN  (h:qh a t=!b):b=t/\(⇑t:3)<=a:=by
 grind[qh]
theorem Oh :∀{c fs:List J1}{t b:J1},AllOk fs t->(⇑t:3)<=a->t ≠[]->(∀g∈c,g ≠[]/\∀r∈g,JRow r)->yq a t c=!b->AllOk (fs++c) b/\(⇑b:3)<=a/\b ≠[]
 |[],fs,t,b,A,hl,hn,_,h=>by
  cases h
  ext
 |g::c,fs,t,b,A,hl,hn,hg,h=>by
  unfold yq at h
  induction q:qh a (WD t g)with
  |none=>ext
  |some l=>
   rw[q]at h;let(e,i):=YN q;let f:=hg g Zqs;let:=Oh (Oc A f.2) i (Gi (Oe A.row f.2)<|λz=>by
    let:=ow t g;rw[z,ZC]at this;let:=Nat.mul_pos (Jn.mpr hn)<|Jn.mpr f.1;lia) (λx j=>hg x<|Zqm _ j)<|by rwa[<-e]
   ext
def MW    (b:f ≠[]/\∀r∈f,JRow r)(c:∀g∈fs,g ≠[]/\∀r∈g,JRow r)(h:yV a f fs=!t):AllOk (f::fs) t/\(⇑t:3)<=a/\t ≠[]:=by
 unfold yV at h
 induction q:qh a (Qp f)with
 |none=>ext
 |some j=>
  rw[q]at h;let(e,i):=YN q;rw[Oh (Ob b.2) i (Gi b.2 b.1) c<|by rwa[<-e]]
def zi1   (o:f ≠[]/\∀r∈f,JRow r)(b:∀g∈fs,g ≠[]/\∀r∈g,JRow r)(u:⇑f<1000)(C:0<=most)(m2:most<=1000)(O:⇑fs<=900)
 (sz:∀(i:5)(t g:J1),AllOk (f::fs.take i) t->(⇑t:3)<=most->fs[i]?=!g->⇑(WA t g)<1000/\⇑t+⇑g+⇑t*⇑g<=1000):
 WC [.lst ((f::fs).map jm),.int most]=yf (yV most f fs):=by
 let h:=Gf (rs:=f) (most:=most) (λr a=>(o.2 r a).ne) (λr a=>(o.2 r a).rise) λr a=>by let:=(o.2 r a).len;lia u C m2;let p:qa ((f::fs).map jm) 0=! jm f:=by
  rw[show(0:3)=((0:5):3)from 9,Kt ()];rfl
 let H:Q1 (jm f::fs.map jm) (!1) 8 8=fs.map jm:=by
  rw[Nr _ (),];rfl
 ext yV
 induction q:qh most (Qp f)with
 |none=>
  rw[q]at h;let h:QZ [jm f,.int most]=.ex "TooMany" []:=h;show _=Res.ex "TooMany" [];simp[WC,B4]at p ⊢;simp[p,h]
 |some l=>
  rw[q]at h;let(I,Q):=YN q;let h:QZ [jm f,.int most]=.ok (jm l):=h;show _=yf (yq most l fs);let S:AllOk [f] l:=by rw[I,];rw[Ob o.2]
  let n:((xg (.one 03) (jA 2<|JB QZ<|J2 (KC Bz<|J2 (ja 2)<|J2 (ja 03) jb)<|018) (fs.map jm) [~~~(.lst<|(f::fs).map jm),~~~.int most,~~~jm l,8]).bind<|ye<|j0<|ja 2).bind yg=yf (yq most l fs):=by
   rw[ME (R:=λz=>(z.bind<|ye<|j0<|ja 2).bind yg=yf (yq most l fs)) (P:=λi v=>∃(t:J1)(w:02 SV),v=[~~~(.lst<|(f::fs).map jm),~~~.int most,~~~jm t,w]/\AllOk (f::fs.take i) t/\(⇑t:3)<=most/\yq most t (fs.drop i)=yq most l fs) () ?_ ?_]
   .rintro v ⟨t,w,rfl,A,lt,j⟩;rw[Zql,UX]at j;rw[<-j];simp[yf,yq]
   .intro i x v J;rw[j4 λt w=>xb λc A lt j=>?_];subst c;let(-g,m,rfl):=KF J;let E:=(Jc.mp m).1;let s:=Uf m;let(!L,M):=sz i t g A lt m;let F:=bA (f:=t) (g:=g) A.row (b g s).2 M;let rows:=Oa A.row (b g s).2;let e:=Gf (rs:=WA t g) (most:=most) (λr a=>(rows r a).ne) (λr a=>(rows r a).rise) λr a=>by let:=(rows r a).len;lia L C m2;rw[ee A.row (b g s).2]at e;let N:fs.drop i=g::fs.drop (i+1):=by
     rw[Uo E,];rw[Zqg E]at m;rw[Zqi m,]
    rw[N,Og]at j
    induction y:qh most (WD t g)with
    |none=>
     rw[y]at e j;let e:QZ [jm (WA t g),.int most]=.ex "TooMany" []:=e;rw[.inr ("TooMany",[],by simp[F,e],?_)];rw[<-j];rfl
    |some B=>
     rw[y]at e j;let(G,u):=YN y;let e:QZ [jm (WA t g),.int most]=.ok (jm B):=e;rw[.inl ([~~~(.lst<|(f::fs).map jm),~~~.int most,~~~jm B,~~~jm g],by simp[F,e],B,_,9,?_,by rw[G,];rw[u],j)];rw[KM m,G];rw[Oc A (b g s).2]
  simp[WC,B4]at p n ⊢;simp[p,h,H,n]
def ic (b:g ≠[]):⇑(WA f g)<=⇑f*⇑g+⇑g:=by
 ext WA;rw[Ua,Ua,NZ];let a:=Du (jX g) f;let p:0<⇑g:=by grind
 let d:=Vv (Zf ⇑(f.filter λr=>not<|jX g r))<|VB (λo=>not<|jX f o) g;let e:=Nat.le_mul_of_pos_right ⇑(f.filter<|jX g) p
 grind[Nat.add_mul]
def B5:FS:=jp (qX 2<|JB QZ<|J2 (jh ju 015<|022)<|018)<|jp (qS (iS<|zW 015 (Q8<|005) Kl Kl) (.one 03)<|λa=>(qX 2<|JB QZ<|J2 (jh j6 (ja 2)<|ja 03)<|018)<|qp [2] a)<|KO 2
def WN:YC->Res D:=q9 04 2 B5
def zV(a:3):J1->List J1->02 J1
 |t,[]=>qh a t
 |t,g::b=>(qh a t).bind λ_=>zV a (xU t g) b
def Oi  (h:qh a t=8)(b):zV a t b=8:=by
 cases b with
 |nil=>rw[h]
 |cons g b=>show(qh a t).bind _=8;rw[h,];rfl
def Dx  (h:(⇑t:3)<=a):qh a t=!t:=Zd h
def Oj  (h:a<(⇑t:3)):qh a t=8:=Ze ()
def Dy:FS:=j0<|jj ZS<|J2 (Q6 [8,8,!1] (iS<|015) (.tup [0,1])<|xi<|J2 015<|J2 (jh j6 (ja 1)<|ja 2) jb) jb
def B6:YC->Res D:=jJ 2 2 Dy
noncomputable def QX(r:J0)(w:3):J0:=r.map λp=>%[p.1|p.2+w]
def bC  (b:⇑r<=1000):B6 [j3 r,.int w]=.ok (j3<|QX r w):=by
 let a:qg (.tup [0,1]) (xi<|J2 015<|J2 (jh j6 (ja 1)<|ja 2) jb) [8,8,~~~.int w] (r.map qy)=.ok (r.map λp=>qy %[p.1|p.2+w]):=K0 λp c=>by
  rfl
 simp[B6,Dy,j3,a,Qb b,QX]
def Dz:FS:=j0<|Q6 [8,!1] (iS<|015) (.one 0)<|JB B6<|J2 015<|018
def XI:YC->Res D:=q9 2 2 Dz
def QF(f:J1)(w:3):J1:=f.map λr=>QX r w
def Ol  (b:⇑f<=1000)(c:∀r∈f,⇑r<=1000):XI [jm f,.int w]=.ok (jm<|QF f w):=by
 let a:qg (.one 0) (JB B6<|J2 015<|018) [8,~~~.int w] (f.map j3)=.ok (f.map λr=>j3<|QX r w):=K0 λr h=>by
  simp[bC (c r h)]
 let e:(QF f w).map j3=f.map λr=>j3<|QX r w:=by ext QF;simp
 simp[XI,Dz,jm,a,Qb b,e]
def D0:FS:=j0<|JB WC<|J2 (Q6 [8,8,!1] (iS<|015) (.tup [0,1])<|KC XI<|J2 (jh ju (ja 2)<|015)<|018)<|J2 (ja 2) jb
def KH:YC->Res D:=jJ 03 03 D0
def qU(fs:List J1)(t:3):J1:=fs.getD t.toNat []
def D1  (a:0<=t)(b:t<(⇑fs:3)):qU fs t∈fs:=by
 simp_all[qU]
def Om  (a:0<=t)(b:t<(⇑fs:3)):qa (fs.map jm) t=!(jm<|qU fs t):=by
 let(k,rfl):∃k:5,t=(k:3):=(t.toNat,());rw[Kt (by rw[Zql,];lia),Zv];ext qU;rw[Uy,Ue,Zqg ()];rfl
def oH{r:J0} (c:∀p∈r,0<=p.1/\p.1<(⇑fs:3))(e:∀f∈fs,⇑f<=1000/\∀r∈f,⇑r<=1000):
 qg (.tup [0,1]) (KC XI<|J2 (jh ju (ja 2)<|015)<|018) [8,8,~~~(.lst<|fs.map jm)] (r.map qy)=.ok ((r.map λp=>QF (qU fs p.1) p.2).map jm):=by
 rw[Zw,];rw[K0 λp g=>by
  let(a,b):=c p g;let(h,i):=e _ (D1 a b);simp[Om a b,Ol h i]]
def Ao:FS:=j0<|JB WN<|J2 (Q6 [8,!1,!2] (iS<|015) (.one 0)<|JB KH<|J2 015<|J2 (ja 1)<|J2 (ja 2) jb)<|J2 (ja 2) jb
def Wt:YC->Res D:=q9 03 03 Ao
def bB {fs:List J1}   (e:⇑a<=100)
 (f:∀r∈a,KH [j3 r,.lst (fs.map jm),.int b]=.ok (jm<|g r))(h:WN [.lst ((a.map g).map jm),.int b]=.ok d):Wt [jm a,.lst (fs.map jm),.int b]=.ok d:=by
 let c:qg (.one 0) (JB KH<|J2 015<|J2 (ja 1)<|J2 (ja 2) jb) [8,~~~(.lst<|fs.map jm),~~~.int b] (a.map j3)=.ok ((a.map g).map jm):=by
  rw[Zw,];rw[K0 λr h=>by
   ext]
 let i:=Qb<|show ⇑a<=1000 from()
 simp_all[Wt,Ao]
def Xo(a:YC->HP->Res (D×HP)):xF:=rB (wJ<|J9<|jh xI (ja 1)<|dC<|.str "all") (wA<|JB WC<|J2 (ja 2)<|J2 (ja 03) jb)<|rB (wJ<|J9<|jh xI (ja 1)<|dC<|.str "first") (wA<|JB WN<|J2 (ja 2)<|J2 (ja 03) jb)<|zC (wP (vA [04]<|J9<|jh (yE 6) (ja 1)<|ja 04) (CW (ja 04) (ja 1)<|v4 vJ (XB a<|J2 015<|J2 (ja 1)<|J2 (ja 03)<|J2 (ja 04) jb)<|wA<|jZ qc<|005) MP)<|CV Wt<|X9 (wK (ja 04)<|ja 1)<|X9 (wA<|ja 2)<|X9 (wA<|ja 03) CS
def Gj:FS:=j0<|qI<|J2 (xi<|J2 (xi<|J2 015<|J2 022 jb) jb) jb
def D3:YC->Res D:=q9 1 1 Gj
@[simp]def cF(t:3):D3 [.int t]=.ok (jm [[%[t|0]]]):=by
 rfl
def YO(a:YC->HP->Res (D×HP)):xF:=zC (uG<|jA 04<|KC wv<|J2 015<|018)<|zC (uG<|qX 05<|Q6 [8] (wX<|J2 (jj jy<|J2 (jZ (qw "Plan" "givens")<|ja 04) jb) jb) (.one 0)<|KC D3<|J2 015 jb)<|zC (CQ (iS<|jZ (qw "Plan" "rows")<|ja 04) (.tup [06,07,08])<|Bc (uG<|jA 09<|Bf [8,8,!05] 2 (iS<|ja 08) (.tup [0,1])<|KC XI<|J2 (X5 2<|015)<|018)<|XA 05<|XB a<|J2 015<|J2 (ja 07)<|J2 (ja 09)<|J2 (ja 2)<|J2 (ja 03) jb)<|vM 05<|wA<|ja 05
def Ko:5->YC->HP->Res (D×HP)
 |0=>λ_ _=>.no
 |n+1=>KD 10 04 (YO<|KD 05 05<|Xo<|Ko n)
def QH(n:5):YC->HP->Res (D×HP):=KD 05 05<|Xo<|Ko n
class Mo(mo:3):4 where
 lo:1<=mo
 hi:mo<=08
variable {mo:Int}[Mo mo]
def upF(f:J1)(q:J0):4:=∃x∈f,JL x q=6
structure Cn(f:J1):4 where
 ne:f ≠[]
 rows:∀r∈f,JRow r
 thin:Qp f=f
def Cn.anti (C:Cn f):∀r∈f,∀s∈f,JL r s=6->r=s:=by
 let h:=Gh (rs:=f)
 rwa[C.thin]at h
def Cn.strict (C:Cn f):f.Pairwise λa b=>jK a b=6:=by
 let h:=WL f
 rwa[C.thin]at h
theorem Gk(w:3):∀(r:J0)(t:3),JA (QX r w) t=(JA r t).map (·+w)
 |[],_=>9
 |p::r,t=>by
  let a:=Gk w r t;show(match JA (QX r w) t with|some v=>!v|none=>if p.1=t then ! p.2+w else 8)=Option.map _ (match JA r t with|some v=>!v|none=>if p.1=t then !p.2 else 8)
  grind
def o8(r:J0)(w:3):QX (QX r w) (-w)=r:=by
 ext QX;rw[Zw,];rw[(UV λp _=>?_).trans<|List.map_id r];show%[p.1|p.2+w+-w]=p;rw[Int.add_neg_cancel_right,]
def oM  :JL (QX r w) q=6↔JL r (QX q<|-w)=6:=by
 rw[zT,zT];constructor
 .intro h p a;let(-u,c,l):=h %[p.1|p.2+w] (Ja.mpr (p,a,9))
  grind[Gk]
 .intro h p a;let(-f,b,rfl):=Ja.mp a;let(-u,c,l):=h f b;rw[Gk]at c
  induction e:JA q f.1 with
  |none=>ext
  |some v=>
   grind
theorem Oo(w:3):∀a b:J0,jK (QX a w) (QX b w)=jK a b
 |[],[]=>9
 |[],_::_=>9
 |_::_,[]=>9
 |p::a,q::b=>by
  show jK (%[p.1|p.2+w]::QX a w) (%[q.1|q.2+w]::QX b w)=_;rw[WT,WT,Oo w a b];cases h:p=q
  .rw[Zd h,h,Zd 9]
  .rw[Ze h,Ze λz=>h ?_]
   .simp_all[qo]
   grind
def og (h:r ≠[])(w:3)(a:Yf):QB (QX r w) a=QB r a+w:=by
 ext QB QX;rw[<-eM λz=>h<|Je.mp z,Zw,Zw]
 congr 1
 rw[UV λp _=>?_]
 grind
def ik{n:3}   (A:AllOk fs t)(F:t ≠[])(G:fs ≠[])(v:∀f∈fs,f ≠[]/\∀r∈f,r ≠[]/\j9 r/\∀p∈r,0<=p.1/\p.1<12):JG t hs=qN (fs.map λf=>JG f hs):=by
 let i:∀{r:J0},r ≠[]->∀p∈r,jN hs p.1+p.2<=QB r hs:=λ{r}j p g=>(KZ (l:=r.map λp=>jN hs p.1+p.2)<|λz=>j<|Je.mp z).2 _<|Ja.mpr (p,g,9);let o:∀{r:J0}{M:3},r ≠[]->(∀p∈r,jN hs p.1+p.2<=M)->QB r hs<=M:=λ{r M}j h=>by
  let(m,_):=KZ (l:=r.map λp=>jN hs p.1+p.2) λz=>j<|Je.mp z;let(-p,g,e):=Ja.mp m;let:=h p g;let e:jN hs p.1+p.2=QB r hs:=e;lia
 let(H,m2):=KZ (l:=fs.map λf=>JG f hs) λz=>G<|Je.mp z;let m2:∀f∈fs,JG f hs<=qN (fs.map λf=>JG f hs):=λf h=>m2 _<|Ja.mpr (f,h,9);let(-x,u,y):=Ja.mp H;let y:JG x hs=qN (fs.map λf=>JG f hs):=y;generalize qN (fs.map λf=>JG f hs)=M at m2 y;let(-r,j,Q):=Xj (hs:=hs) F;let lo:M<=JG t hs:=by
  let(-s,c,B):=A.abv r j x u;let I:=WK (hs:=hs) c;let J:QB s hs<=QB r hs:=o ((v x u).2 s c).1 λp g=>by
   let(w,C,L):=zT.mp B p g;let:=i (A.row r j).ne %[p.1|w]<|Q5 C;let this:jN hs p.1+w<=QB r hs:=this;lia
  lia
 let(-q,E,B):=A.least ((List.range 12).map λk:5=>%[(k:3)|M-jN hs (k:3)]) λf h=>by
  let(-s,c,R):=Xj (hs:=hs) (v f h).1;let(!N,S,O):=(v f h).2 s c;rw[(s,c,zT.mpr λp g=>(M-jN hs p.1,?_,?_))]
  .let P:j9 ((List.range 12).map λk:5=>%[(k:3)|M-jN hs (k:3)]):=by
    ext j9;rw[Zw,];ext List.Nodup;rw[Vf,];rw[V8 (n:=12).imp λ{a b}h e=>h<|by let e:(a:3)=(b:3):=e;lia]
   let b:=O p g;rw[P.look<|Ja.mpr (p.1.toNat,VR.mpr (),by rw[show((p.1.toNat:5):3)=p.1 by lia,])]
  .let a:=i N p g;let b:=m2 f h;lia
 let I:=WK (hs:=hs) E;let J:QB q hs<=M:=o (A.row q E).ne λp g=>by
  let(-w,C,L):=zT.mp B p g;let(-k,T,U):=Ja.mp (Q5 C)
  grind
 lia
theorem Op{α:Type} {f:FE} {k:α->D}  :∀{a:List α},(∀x∈a,(∃v,(JQ b (k x) c).bind f=.ok v)\/(JQ b (k x) c).bind f=.ex n g)->(∃x∈a,(JQ b (k x) c).bind f=.ex n g)->qg b f c (a.map k)=.ex n g
 |[],_,(_,h,_)=>nomatch h
 |x::a,h,(y,hy,e)=>by
  let i:qg b f c ((x::a).map k)=((JQ b (k x) c).bind f).bind λv=>(qg b f c<|a.map k).bind λj=>.ok<|v::j:=9;rw[i,];obtain⟨v,q⟩|q:=h x Zqs
  .rw[q,Op (λz l=>h z<|Zqm _ l) ?_]
   .rfl
   grind
  ext
def zjS   (s:Cn f/\⇑f<=64)(u:∀g∈fs,Cn g/\⇑g<=64)(E:0<=a)(m2:a<=60)(J:⇑fs<=900):
 WN [.lst ((f::fs).map jm),.int a]=yf (zV a f fs):=by
 let w:∀{rs:J1},(∀r∈rs,JRow r)->⇑rs<=200->QZ [jm rs,.int a]=yf (qh a<|Qp rs):=λ{rs}h l=>Gf (λr j=>(h r j).ne) (λr j=>(h r j).rise) λr j=>by let:=(h r j).len;lia () E ();let m:=w (rs:=f) s.1.rows ();rw[s.1.thin]at m;let p:qa ((f::fs).map jm) 0=! jm f:=by
  rw[show(0:3)=((0:5):3)from 9,Kt ()];rfl
 let F:Q1 (jm f::fs.map jm) (!1) 8 8=fs.map jm:=by
  rw[Nr _ (),];rfl
 cases y:(⇑f:3)<=a
 .rw[Dx y]at m;let m:QZ [jm f,.int a]=.ok (jm f):=m;let n:((xg (.one 03) (λo=>(qX 2<|JB QZ<|J2 (jh j6 (ja 2)<|ja 03)<|018)<|qp [2] o) (fs.map jm) [~~~(.lst<|(f::fs).map jm),~~~.int a,!(.own 7<|jm f),8]).bind<|ye<|KO 2).bind zz=yf (zV a f fs):=by
   rw[ME (R:=λz=>(z.bind<|ye<|KO 2).bind zz=yf (zV a f fs)) (P:=λi o=>∃(t:J1)(v:02 SV),o=[~~~(.lst<|(f::fs).map jm),~~~.int a,!(.own 7<|jm t),v]/\(∀r∈t,JRow r)/\(⇑t:3)<=a/\zV a t (fs.drop i)=zV a f fs) (f,8,9,s.1.rows,y,9) ?_ ?_]
   .rintro o ⟨t,v,rfl,T,lt,e⟩;rw[Zql,UX]at e;rw[<-e];show _=yf (qh a t);rw[Dx lt,];rfl
   .rintro i x o H ⟨t,v,rfl,T,lt,e⟩;let(-g,q,rfl):=KF H;let A:=(Jc.mp q).1;let(!G,L):=u g (Uf q);let B:=al (f:=t) (g:=g) ();let C:∀r∈t++g,JRow r:=λr j=>(Jb.mp j).elim (λz=>T r z) λz=>G.rows r z;let b:=w (rs:=t++g) C (by rw[Ua,];lia);let I:fs.drop i=g::fs.drop (i+1):=by
     rw[Uo A,];rw[Zqg A]at q;rw[Zqi q,]
    rw[I]at e;let e:(qh a t).bind (λ_=>zV a (xU t g)<|fs.drop<|i+1)=zV a f fs:=e;rw[Dx lt]at e;let e:zV a (xU t g) (fs.drop<|i+1)=zV a f fs:=e;cases c:(⇑(xU t g):3)<=a
    .let b:QZ [jm (t++g),.int a]=.ok (jm<|xU t g):=by
      rw[b,];show yf (qh a<|xU t g)=_;rw[Dx c,];rfl
     rw[.inl ([~~~(.lst<|(f::fs).map jm),~~~.int a,!(.own 7<|jm<|xU t g),~~~jm g],by simp[B,b],xU t g,_,9,λr j=>C r (xS.mp j).1,c,e)]
    .let no:qh a (xU t g)=8:=Ze c;let b:QZ [jm (t++g),.int a]=.ex "TooMany" []:=by
      rw[b,];show yf (qh a<|xU t g)=_;rw[no,];rfl
     rw[.inr ("TooMany",[],by simp[B,b],?_)];rw[<-e,Oi no];rfl
  simp[WN,B5]at p n ⊢;simp[p,m,F,n]
 .rw[Oj ()]at m;let m:QZ [jm f,.int a]=.ex "TooMany" []:=m;rw[Oi (Oj ()),];show _=Res.ex "TooMany" [];simp[WN,B5]at p ⊢;simp[p,m]
def et (A:Cn a)(B:Cn b)(hs:Yf):Cn (xU a b)/\JG (xU a b) hs<=JG a hs/\JG (xU a b) hs<=JG b hs/\(JG (xU a b) hs=JG a hs\/JG (xU a b) hs=JG b hs):=by
 let rows:=λr c=>(Jb.mp c).elim (A.rows r)<|B.rows r;let ne:a++b ≠[]:=λz=>A.ne (Jz.mp z).1;rw[((Gi rows ne,λr c=>rows r (xS.mp c).1,Od (λr c=>rows r (xS.mp c).1) rows<|λq=>by
  constructor
  .rintro⟨x,g,h⟩;rw[(x,(xS.mp g).1,h)]
  .rintro⟨x,g,h⟩;let(-s,hs,i):=Y9 (λr c=>((rows r c).once,(rows r c).rise)) g;rw[(s,hs,KW i h)]),?_)]
 ext xU;rw[oA ne λr c=>((rows r c).ne,(rows r c).once,(rows r c).rise),];let(-r,c,e):=Xj (hs:=hs) A.ne;let(-s,j,m):=Xj (hs:=hs) B.ne;let n:=WK (hs:=hs)<|U9 b c;let o:=WK (hs:=hs)<|Ui a j;let(-q,l,p):=Xj (f:=a++b) (hs:=hs) λz=>A.ne (Jz.mp z).1;rw[((),(),?_)];obtain z|z:=Jb.mp l
 .let:=WK (hs:=hs) z;rw[.inl ()]
 .let:=WK (hs:=hs) z;lia
theorem Oq(a:Yf):∀(b:List J1)(t:J1),Cn t->(∀g∈b,Cn g)->Cn (b.foldl xU t)/\(JG (b.foldl xU t) a=JG t a\/∃g∈b,JG (b.foldl xU t) a=JG g a)/\JG (b.foldl xU t) a<=JG t a/\∀g∈b,JG (b.foldl xU t) a<=JG g a
 |[],t,T,_=>(T,006,UZ _,λ_ h=>nomatch h)
 |g::b,t,T,G=>by
  let(!e,f,i,j):=et T (G g Zqs) a;let(!c,l,m,n):=Oq a b (xU t g) e ()
  grind
theorem Ot{P:J0->4}:∀(a:List J1)(t:J1),(∀r∈t,P r)->(∀g∈a,∀r∈g,P r)->∀r∈a.foldl xU t,P r
 |[],_,h,_=>h
 |g::a,t,h,k=>Ot a (xU t g) (λr b=>(Jb.mp (xS.mp b).1).elim (h r)<|k g Zqs r) λx c=>k x<|Zqm _ c
theorem Ou :∀(b:List J1)(t c:J1),yq a t b=!c->c=b.foldl WD t
 |[],_,_,h=>(Zqi h).symm
 |g::b,t,c,h=>by
  rw[Og]at h
  induction q:qh a (WD t g)with
  |none=>ext
  |some e=>
   rw[q]at h;rw[Vj,<-(YN q).1];rw[Ou b e c h]
def lZ    (h:yV a f fs=!t):t=fs.foldl WD (Qp f):=by
 unfold yV at h
 induction q:qh a (Qp f)with
 |none=>ext
 |some b=>
  rw[q]at h;rw[<-(YN q).1];rw[Ou fs b t h]
theorem Ov :∀(c:List J1)(t b:J1),zV a t c=!b->b=c.foldl xU t/\(⇑b:3)<=a
 |[],t,b,h=>by
  let(e,l):=YN h
  ext
 |g::c,t,b,h=>by
  let h:(qh a t).bind (λ_=>zV a (xU t g) c)=!b:=h
  induction q:qh a t with
  |none=>ext
  |some f=>
   rw[q]at h;rw[Ov c (xU t g) b h]
def eA (f:JRow a)(g:JRow b):∀p∈QU a b,p∈a\/p∈b:=λp i=>by
 let c:=(An f g).once.look i;rw[Dt f.once g.once]at c
 induction q1:JA a p.1 with
 |some w=>
  induction e:JA b p.1 with
  |some v=>
   rw[q1,e]at c;let h:=Q5 q1;let m2:=Q5 e;let c:some (if w>v then w else v)=!p.2:=c
   grind
  |none=>
   rw[q1,e]at c;let h:=Q5 q1;rw[Zqi c]at h
   ext
 |none=>
  cases e:JA b p.1 with
  |some v=>
   rw[q1,e]at c;let m2:=Q5 e;rw[Zqi c]at m2
   ext
  |none=>rw[q1,e]at c;cases c
theorem Ow{Q:3×3->4}:∀(c:List J1)t,(∀r∈t,JRow r/\∀p∈r,Q p)->(∀g∈c,∀r∈g,JRow r/\∀p∈r,Q p)->∀r∈c.foldl WD t,∀p∈r,Q p
 |[],t,ht,_=>λr e=>(ht r e).2
 |g::c,t,ht,hg=>Ow c (WD t g) (λr e=>by
  let(-a,i,(b,j,rfl)):=v1.mp (xS.mp e).1;let(f,l):=ht a i;let(h,m):=hg g Zqs b j;rw[(An f h,λp n=>(eA f h p n).elim (l p)<|m p)]) λx o=>hg x<|Zqm _ o
structure Tf(n:5)(W:3)(t:J1):4 where
 cn:Cn t
 len:⇑t<=12
 th:∀r∈t,∀p∈r,p.1<(n:3)/\-W<=p.2/\p.2<=W
def Tf.row   (T:Tf n W t):∀r∈t,JRow r/\∀p∈r,p.1<(n:3)/\-W<=p.2/\p.2<=W:=λr c=>(T.cn.rows r c,T.th r c)
def Tf.mono {W V:3} (T:Tf n W t)(h:W<=V):Tf n V t:=(T.cn,T.len,λr c p e=>by let:=T.th r c p e;lia)
def Tf.wait {W V:3} (T:Tf n W t) (E:-V<=w/\w<=V):Tf n (W+V) (QF t w):=by
 rw[(by
  rw[(λz=>T.cn.ne<|Je.mp z,λr l=>?_,XY yJ (WL _) ?_ λr=>(λh=>(xS.mp h).1,λh=>xS.mpr (h,vq.mpr λo y j=>?_)))]
  .let(f,c,rfl):=Ja.mp l;let h:=T.cn.rows f c;rw[(λz=>h.ne<|Je.mp z,?_,λp s=>?_)]
   .let e:(QX f w).map (·.1)=f.map (·.1):=by
     ext QX;simp
    ext xk;rw[e,];rw[h.rise]
   .let(u,i,rfl):=Ja.mp s;rw[h.bnd u i]
  .ext QF;rw[Vf,];rw[T.cn.strict.imp λ{a b}h=>by rwa[Oo,]]
  .let(-B,v,rfl):=Ja.mp y;let(-f,c,rfl):=Ja.mp h;let j:=oM.mp j;rw[o8]at j;rw[T.cn.anti B v f c j,],?_,λr l p s=>?_)]
 .ext QF;rw[Zql,];rw[T.len]
 .let(f,c,rfl):=Ja.mp l;let(u,i,rfl):=Ja.mp s;let:=T.th f c u i;lia
def Tf.comes   (T:Tf n W t)(w)(c):JG (QF t w) c=JG t c+w:=by
 ext JG QF;rw[<-aU λz=>T.cn.ne<|Je.mp z,Zw,Zw]
 congr 1
 rw[UV λr e=>og ((λr e=>(T.cn.rows r e).ne) r e) w c]
def KI:Res D:=.ex "TooMany" []
def Ox   (ne:fs ≠[])(h:∀g∈fs,Tf n W g)(l:⇑fs<=100):WC [.lst (fs.map jm),.int mo]=KI\/∃t,WC [.lst (fs.map jm),.int mo]=.ok (jm t)/\Tf n W t/\∀j,JG t j=qN (fs.map λg=>JG g j):=by
 cases(fs)with
 |nil=>rw[Zn 9 ne]
 |cons f fs=>
  let c:=h f Zqs;let b:=λg a=>h g<|Zqm _ a;let l:⇑fs+1<=100:=l;let z:=c.len;let u:=Mo.lo (mo:=mo);let v:=Mo.hi (mo:=mo);let A:=zi1 (most:=mo) (c.cn.ne,c.cn.rows) (λg a=>((b g a).cn.ne,(b g a).cn.rows)) () () () () λi t g _ lt a=>by
   let G:=b g<|Uf a;let w:=G.len;let e:=ic (f:=t) G.cn.ne;let lt:⇑t<=12:=()
   let m:=Vv lt w;lia
  rw[A,]
  induction q:yV mo f fs with
  |none=>rw[006]
  |some t=>
   rw[.inr (t,9,?_)];have(A,lt,s):=MW (c.cn.ne,c.cn.rows) (λg a=>((b g a).cn.ne,(b g a).cn.rows)) q;let e:=lZ q;rw[c.cn.thin]at e;rw[(((s,A.row,XY yJ (WL _) A.strict λr=>(λh=>(xS.mp h).1,λh=>xS.mpr (h,vq.mpr λo x y=>A.anti o x r h y))),(),?_),λj=>ik (n:=0) A s () λg a=>((h g a).cn.ne,λr p=>(((h g a).cn.rows r p).ne,((h g a).cn.rows r p).once,((h g a).cn.rows r p).bnd)))];rw[e,];rw[Ow fs f c.row λg a=>(b g a).row]
def Oy   (ne:fs ≠[])(h:∀g∈fs,Tf n W g)(l:⇑fs<=100):WN [.lst (fs.map jm),.int mo]=KI\/∃t,WN [.lst (fs.map jm),.int mo]=.ok (jm t)/\Tf n W t/\∀c,JG t c=qV (fs.map λg=>JG g c):=by
 cases(fs)with
 |nil=>rw[Zn 9 ne]
 |cons f fs=>
  let i:=h f Zqs;let b:=λg a=>h g<|Zqm _ a;let l:⇑fs+1<=100:=l;let s:=i.len;let j:=Mo.lo (mo:=mo);let m:=Mo.hi (mo:=mo);rw[zjS (i.cn,()) (λg a=>((b g a).cn,by let:=(b g a).len;lia)) () () (),]
  induction q:zV mo f fs with
  |none=>rw[006]
  |some t=>
   rw[.inr (t,9,?_)];have(e,lt):=Ov fs f t q;let C:=λc=>Oq c fs f i.cn λg a=>(b g a).cn;rw[<-e]at C;rw[(((C []).1,(),?_),λc=>?_)]
   .rw[e,];rw[Ot fs f i.th λg a=>(b g a).th]
   .have(_,o,u,p):=C c;rw[Ed ?_ λy r=>?_]
    .rcases o with z|⟨g,a,z⟩
     .rw[Ja.mpr (f,Zqs,z.symm)]
     .rw[Ja.mpr (g,Zqm _ a,z.symm)]
    .let(-g,a,rfl):=Ja.mp r;obtain z|z:=UY.mp a
     .rwa[z,]
     .rw[p g z]
def e7  (b:0<=t)(c:t<(⇑fs:3))(a:Yf):jN (fs.map λg=>JG g a) t=JG (qU fs t) a:=by
 simp_all[jN,qU]
def Oz {W V:3} (f:∀g∈T,Tf n W g) (h:∀p∈its,0<=p.1/\p.1<(⇑T:3))(i:∀p∈its,-V<=p.2/\p.2<=V):(∀g∈its.map λp=>QF (qU T p.1) p.2,Tf n (W+V) g)/\∀a,(its.map λp=>QF (qU T p.1) p.2).map (λg=>JG g a)=yd (T.map λg=>JG g a) its:=by
 rw[(λg j=>?_,λa=>?_)]
 .let(-p,b,rfl):=Ja.mp j;let(c,e):=h p b;rw[(f _<|D1 c e).wait<|i p b]
 .rw[Zw,];rw[UV λp b=>?_];let(c,e):=h p b;show JG (QF (qU T p.1) p.2) a=_;rw[(f _<|D1 c e).comes,e7 c e]
def oR {W V:3}{fs:List J1} (a:JRow r)(b:∀p∈r,p.1<(⇑fs:3)/\-V<=p.2/\p.2<=V)(h:∀g∈fs,Tf n W g):KH [j3 r,.lst (fs.map jm),.int mo]=KI\/∃t,KH [j3 r,.lst (fs.map jm),.int mo]=.ok (jm t)/\Tf n (W+V) t/\∀j,JG t j=QB r (fs.map λg=>JG g j):=by
 let m:=λp i=>(b p i).2;let b:∀p∈r,0<=p.1/\p.1<(⇑fs:3):=λp i=>((a.bnd p i).1,(b p i).1);let v:=a.len;let(o,q):=Oz h b m;let s:∀f∈fs,⇑f<=1000/\∀r∈f,⇑r<=1000:=λf l=>(by let:=(h f l).len;lia,λr a=>by let:=((h f l).cn.rows r a).len;lia);let c:=oH b s;let e:KH [j3 r,.lst (fs.map jm),.int mo]=WC [.lst ((r.map λp=>QF (qU fs p.1) p.2).map jm),.int mo]:=by
  generalize(r.map λp=>QF (qU fs p.1) p.2).map jm=u at c;simp[KH,D0,c,Qb<|show ⇑r<=1000 from()]
  cases(WC [D.lst u,D.int mo])<;>rfl
 rw[e,];rcases Ox (mo:=mo) (λz=>a.ne<|Je.mp z) o ()with z|⟨t,z1,z2,z3⟩
 .rw[.inl z]
 .rw[.inr (t,z1,z2,λj=>?_)];rw[z3,q];rfl
def O0 {W V:3} {fs:List J1}(F:Tf m V a)(l:⇑fs=m)(h:∀g∈fs,Tf n W g):Wt [jm a,.lst (fs.map jm),.int mo]=KI\/∃t,Wt [jm a,.lst (fs.map jm),.int mo]=.ok (jm t)/\Tf n (W+V) t/\∀f,JG t f=JG a (fs.map λg=>JG g f):=by
 let R:∀r∈a,_:=λr b=>oR (mo:=mo) (n:=n) (fs:=fs) (V:=V) (F.cn.rows r b) (by rw[l,];rw[F.th r b]) h;let u:=F.len;let j:∀r,(JQ (.one 0) (j3 r) [8,~~~(.lst<|fs.map jm),~~~.int mo]).bind (JB KH<|J2 015<|J2 (ja 1)<|J2 (ja 2) jb)=KH [j3 r,.lst (fs.map jm),.int mo]:=λr=>by
  simp
 cases c:∃r∈a,KH [j3 r,.lst (fs.map jm),.int mo]=KI
 .left;let e:qg (.one 0) (JB KH<|J2 015<|J2 (ja 1)<|J2 (ja 2) jb) [8,~~~(.lst<|fs.map jm),~~~.int mo] (a.map j3)=.ex "TooMany" []:=by
   rw[Op (λr b=>?_) ?_]
   .rw[j,];obtain z|⟨t,z,_⟩:=R r b
    .rw[.inr z]
    .rw[.inl (_,z)]
   .let(-r,b,z):=c;rw[(r,b,by rw[j,];rw[z])]
  simp[Wt,Ao,e,Qb<|show ⇑a<=1000 from(),KI]
 .let o:∀r,∃t,r∈a->KH [j3 r,.lst (fs.map jm),.int mo]=.ok (jm t)/\Tf n (W+V) t/\∀f,JG t f=QB r (fs.map λg=>JG g f):=λr=>by
   cases b:r∈a
   .rcases R r b with z|⟨t,z⟩
    .rw[Zn (r,b,z) c]
    .rw[(t,λ_=>z)]
   .rw[([],λz=>Zn z b)]
  have(G,i):=Classical.axiomOfChoice o;let p:=λd=>bB (d:=d) () λr b=>(i r b).1;let q:∀g∈a.map G,Tf n (W+V) g:=λg s=>by
   let(-r,b,rfl):=Ja.mp s;rw[(i r b).2.1]
  let e:qg (.one 0) (JB KH<|J2 015<|J2 (ja 1)<|J2 (ja 2) jb) [8,~~~(.lst<|fs.map jm),~~~.int mo] (a.map j3)=.ok ((a.map G).map jm):=by
   rw[Zw,];rw[K0 λr h=>by
    rw[(i r h).1]]
  rcases Oy (mo:=mo) (λz=>F.cn.ne<|Je.mp z) q (by rw[Zql,];lia)with z|⟨t,z1,z2,z3⟩
  .left;generalize(a.map G).map jm=v at e z;simp[Wt,Ao,e,Qb<|show ⇑a<=1000 from(),z,KI]
  .rw[.inr (t,p _ z1,z2,λf=>?_)];rw[z3,Zw]
   congr 1
   rw[UV λr b=>(i r b).2.2 f]
def Xp    (h:f a=.ok b):wJ f a c=.ok %[b|c]:=by
 simp_all[wJ]
def D4{n ar:5}{g:xF}   {x:Res D} (h:⇑b=ar)(f:g (Qt n b) [%[a|d]]=x.bind λt=>.ok %[t|[%[a|e]]]):KD n ar g b [%[a|d]]=x.bind λt=>.ok %[t|[%[a|e]]]:=by
 ext KD;rw[Zd h,f]
 cases(x)with
 |ok t=>rw[Zd 9]
 |ex c i=>rfl
 |no=>rfl
def O1{n ar:5}     (h:⇑a=ar)(f:g (Qt n a) b=.ex c e):KD n ar g a b=.ex c e:=by
 simp_all[KD]
def vB(a b c d e):Qt 05 [a,b,c,d,e]=[~~~a,~~~b,~~~c,~~~d,~~~e]:=rfl
def O2 (bk d e:D)(a:Addr):QH n [bk,.str "all",d,.int mo,.adr a] [%[a|e]]=(WC [d,.int mo]).bind λt=>.ok %[t|[%[a|e]]]:=by
 rw[D4 9 ?_];rw[vB,];ext Xo;rw[Xl,Xp (b:=6) (by simp[N5]),Res.bind_ok,Zd 9];simp[lG]
def O3 (bk d e:D)(a:Addr):QH n [bk,.str "first",d,.int mo,.adr a] [%[a|e]]=(WN [d,.int mo]).bind λt=>.ok %[t|[%[a|e]]]:=by
 rw[D4 9 ?_];rw[vB,];ext Xo;rw[Xl,Xp (b:=7) (by simp[N6]),Res.bind_ok,Ze (),Xl,Xp (b:=6) (by simp[N7]),Res.bind_ok,Zd 9];simp
theorem O4 :∀{a:List jT},q∉a->zA q a=7
 |[],_=>9
 |k::a,h=>by
  show(decide (k=q)||zA q a)=7;rw[O4 λz=>h<|Zqm _ z,Zo λz=>h ()];rfl
theorem O5  :∀{a:List jT}{b:YC},⇑a=⇑b->q∉a->jO (a++[q]) (b++[d]) q=!d
 |[],[],_,_=>Zd 9
 |[],_::_,h,_=>by cases h
 |_::_,[],h,_=>by cases h
 |k::a,e::b,h,hq=>by
  show(if k=q then !e else jO (a++[q]) (b++[d]) q)=_;rw[Ze λz=>hq (),];rw[O5 (UN h) ()]
def lw       (h:f b=.ok (.adr a))(i:g b=.ok (.str how))(j:jO c e (.inr how)=!z):wK f g b [%[a|.dct c e]]=.ok %[z|[%[a|.dct c e]]]:=by
 simp_all[wK,FL]
def O6      (e:jO b c (.inr how)=!z):CV Wt (X9 (wK (ja 04)<|ja 1)<|X9 (wA<|ja 2)<|X9 (wA<|ja 03) CS) [~~~bk,~~~.str how,~~~d,~~~.int mo,~~~.adr a] [%[a|.dct b c]]=(Wt [z,d,.int mo]).bind λt=>.ok %[t|[%[a|.dct b c]]]:=by
 ext CV;rw[iM,lw 9 9 e,Res.bind_ok];simp
def Gm     :vA [04] (J9<|jh (yE 6) (ja 1)<|ja 04) [~~~bk,~~~.str how,~~~d,~~~.int mo,~~~.adr a] [%[a|.dct b c]]=.ok (not<|(jO b c<|.inr how).isSome):=by
 let e:derI [%[a|.dct b c]] [04] [~~~bk,~~~.str how,~~~d,~~~.int mo,~~~.adr a]=[~~~bk,~~~.str how,~~~d,~~~.int mo,~~~.dct b c]:=by
  show[! SV.val bk,~~~.str how,~~~d,~~~.int mo,~~~(der [%[a|.dct b c]]<|.adr a)]=_;let q:der [%[a|D.dct b c]] (.adr a)=.dct b c:=by
   ext der;rw[FL,]
  rw[q,]
 ext vA;rw[e,];rfl
def fq   (c:asc how)(h:how ≠"all")(i:how ≠"first")    (e:jO f g (.inr how)=!z):QH n [bk,.str how,d,.int mo,.adr a] [%[a|.dct f g]]=(Wt [z,d,.int mo]).bind λt=>.ok %[t|[%[a|.dct f g]]]:=by
 rw[D4 9 ?_];rw[vB,];ext Xo;rw[Xl,Xp (b:=7) (by simp[Ws c YH,h]),Res.bind_ok,Ze (),Xl,Xp (b:=7) (by simp[Ws c YI,i]),Res.bind_ok,Ze ()];rw[mV (f7 (by rw[Gm,e];rfl) 9)<|O6 e]
def pG   (i:asc how)(o:how ≠"all")(p:how ≠"first")   (q:jO e g (.inr how)=8)  (j:Ko n [bk,.str how,.int mo,.adr a] [%[a|.dct e g]]=.ok %[.lst ((ys++[t]).map jm)|[%[a|.dct ks' ds']]])(r:⇑ks'=⇑ds')(m:.inr how∉ks')(l:⇑ks'<=1000):
 QH n [bk,.str how,d,.int mo,.adr a] [%[a|.dct e g]]=(Wt [jm t,d,.int mo]).bind λz=>.ok %[z|[%[a|.dct (ks'++[.inr how]) (ds'++[jm t])]]]:=by
 let s:=Ws i YH;let u:=Ws i YI;let c:=FM (f:=jm) ys t;let h:=O5 (d:=jm t) r m;let w:=Qb l;let x:=O4 m;rw[D4 9 ?_];rw[vB,];ext Xo;rw[Xl,Xp (b:=7) (by simp[s,o]),Res.bind_ok,Ze (),Xl,Xp (b:=7) (by simp[u,p]),Res.bind_ok,Ze ()];rw[mV (sd':=[~~~bk,~~~.str how,~~~d,~~~.int mo,~~~.adr a]) (f6 (by rw[Gm,q];rfl) ?_)<|O6 h];ext CW;let y:v4 vJ (XB (Ko n)<|J2 015<|J2 (ja 1)<|J2 (ja 03)<|J2 (ja 04) jb) (wA<|jZ qc<|005) [~~~bk,~~~.str how,~~~d,~~~.int mo,~~~.adr a] [%[a|.dct e g]]=.ok %[jm t|[%[a|.dct ks' ds']]]:=by
  generalize(ys++[t]).map jm=v at j c;let c:vJ (.lst v) (.int<|-1)=! jm t:=c;simp[j,c]
 simp_all[Na,WZ,X1,Res.bind_ok,FL,aF]
def ft   (e:asc how)(h:how ≠"all")(i:how ≠"first")   (l:jO f g (.inr how)=8)  (m:Ko n [bk,.str how,.int mo,.adr a] [%[a|.dct f g]]=.ex c j):
 QH n [bk,.str how,d,.int mo,.adr a] [%[a|.dct f g]]=.ex c j:=by
 rw[O1 9 ?_];rw[vB,];ext Xo;rw[Xl,Xp (b:=7) (by simp[Ws e YH,h]),Res.bind_ok,Ze (),Xl,Xp (b:=7) (by simp[Ws e YI,i]),Res.bind_ok,Ze (),FK]
 simp_all[CW,Gm]
theorem O7 :∀{rows:List Rw},(∀r∈rows,∀f,y7 rc f r=y7 a f r)->∀b,qx rc rows b=qx a rows b
 |[],_,_=>9
 |r::rows,h,b=>by
  show qx rc rows (b++[y7 rc b r])=qx a rows (b++[y7 a b r]);rw[h r Zqs,];rw[O7 () _]
def BkP.fuel (B:BkP c):∀j n q,c[j]?=!q->j<n->∀e,xG c n q e=xG c (j+1) q e:=by
 intro j
 induction j using Nat.strongRecOn with
 |ind j l=>
  intro n q o u e;let(i,rfl):∃i,n=i+1:=(n-1,());rw[FQ,FQ];rw[O7 (λr p f=>?_) e];let(k,s):=Jm.mp p;ext y7;obtain z|z|⟨_,z1,z2,j2,q2,z3,z4,z5,_⟩:=B.how o s
  .ext
  .ext
  .rw[Ze z1,Ze z2,Ze z1,Ze z2,z5];ext xp;rw[B.find z4,];show(xG c i q2 _).getLastD 0=(xG c j q2 _).getLastD 0;rw[l j2 z3 i q2 z4 (),l j2 z3 j q2 z4 ()]
def BkP.rc (B:BkP c)  (e:c[j]?=!q)(h:j<n)(f):xp c n q.name f=xp c (j+1) q.name f:=by
 ext xp;rw[B.find e,];show(xG c n q _).getLastD 0=(xG c (j+1) q _).getLastD 0;rw[B.fuel j n q e h,]
abbrev Kn:=List<|Str×J1
def kD(K:Kn):D:=.dct (K.map λx=>.inr x.1)<|K.map λx=>jm x.2
theorem fz(x:Str):∀K:Kn,jO (K.map λx=>.inr x.1) (K.map λx=>jm x.2) (.inr x)=8/\x∉K.map (·.1)\/∃f,%[x|f]∈K/\jO (K.map λx=>.inr x.1) (K.map λx=>jm x.2) (.inr x)=! jm f
 |[]=>.inl (9,λz=>nomatch z)
 |y::K=>by
  rw[Zl,Zl,E9];cases c:y.1=x
  .grind
  .rcases fz x K with ⟨a,b⟩|⟨f,a,b⟩
   .grind
   grind
noncomputable def wB:5->3
 |0=>1000000000000000000000000000000
 |j+1=>44*wB j
theorem B7:∀j,1000000000000000000000000000000<=wB j
 |0=>UZ _
 |j+1=>by let:=B7 j;show _<=44*wB j;lia
theorem O8:∀{i j:5},i<=j->wB i<=wB j
 |i,0,h=>by rw[Nat.le_zero.mp h,];rw[UZ _]
 |i,j+1,h=>by
  let p:=B7 j;obtain z|z:=US j i
  .rw[show i=j+1 by lia,];rw[UZ _]
  .let:=O8 z;show _<=44*wB j;lia
structure KOk(ps:List Pl)(K:Kn):4 where
 nd:(K.map (·.1)).Nodup
 ok:∀x∈K,∃j q,ps[j]?=!q/\x.1=q.name/\Tf ⇑q.givens (wB<|j+1) x.2/\∀hs:Yf,⇑hs=⇑q.givens->JG x.2 hs=xp ps (j+1) q.name hs
def vf(b:List Pl)(j:5)(K c:Kn):4:=∀x∈c.map (·.1),x∈K.map (·.1)\/∃a q,a<j/\b[a]?=!q/\x=q.name
theorem O9:∀(a:List Pl)(l:Yi),l.Nodup->(∀x∈l,∃q∈a,x=q.name)->⇑l<=⇑a
 |[],l,_,h=>by
  cases(l)with
  |nil=>rw[Zf _]
  |cons x l=>
   have(q,b,_):=h x Zqs;cases b
 |p::a,l,nd,h=>by
  let c:=O9 a (l.erase p.name) (nd.erase _) λx e=>by
   grind
  grind
theorem KOk.len {K:Kn}(h:KOk c K)(B:BkP c):⇑K<=10:=by
 let:=O9 c (K.map (·.1)) h.nd λx e=>by
  let(-y,f,rfl):=Ja.mp e;let(j q,i,l,_):=h.ok y f;rw[(q,Uf i,l)]
 rw[Zql]at this;let:=B.len;lia
def Bk(a:List Pl)(bk:D):4:=∀q∈a,wv [bk,.str q.name]=.ok (Qy q)
def uQ(mo:3)(b:List Pl)(p:Pl)(j:5)(K:Kn):4:=(∀n,j<n->∀bk,Bk b bk->∀a,Ko n [bk,020,.int mo,.adr a] [%[a|kD K]]=.ex "TooMany" [])\/∃T c,KOk b c/\vf b j K c/\(∀g∈T,Tf ⇑p.givens (wB<|j+1) g)/\(∀e:Yf,⇑e=⇑p.givens->(T.map λg=>JG g e)=xG b (j+1) p e)/\T ≠[]/\∀n,j<n->∀bk,Bk b bk->∀a,Ko n [bk,020,.int mo,.adr a] [%[a|kD K]]=.ok %[.lst (T.map jm)|[%[a|kD c]]]
def vC {f:D->Res (D×HP)}(h:x=KI):x.bind f=.ex "TooMany" []:=by rw[h,];rfl
def eG (B:BkP m) {p:Pl}(S:m[j]?=!p)(IH:∀o q K,o<j->m[o]?=!q->KOk m K->uQ mo m q o K){k:5}{r:Rw}(X:p.rows[k]?=!r)  (hT:∀g∈T,Tf ⇑p.givens W g)(lT:⇑T=⇑p.givens+k){K:Kn}(G:KOk m K):
 (∀n,j<=n->∀bk,Bk m bk->∀a,QH n [bk,.str r.2.1,.lst ((r.2.2.map λp=>QF (qU T p.1) p.2).map jm),.int mo,.adr a] [%[a|kD K]]=.ex "TooMany" [])\/∃t v,KOk m v/\vf m j K v/\Tf ⇑p.givens (W+2*wB j) t/\(∀i:Yf,JG t i=y7 (xp m j) (T.map λg=>JG g i) r)/\∀n,j<=n->∀bk,Bk m bk->∀a,QH n [bk,.str r.2.1,.lst ((r.2.2.map λp=>QF (qU T p.1) p.2).map jm),.int mo,.adr a] [%[a|kD K]]=.ok %[jm t|[%[a|kD v]]]:=by
 let R:=(B.ok j p S).row k r X;let sh:=R.sh;let(H,I):=Oz hT (its:=r.2.2) (V:=1000000000000000000000000000000) λy hy=>by let:=R.rng y hy;lia R.wt;let pj:=B7 j;let ne:(r.2.2.map λp=>QF (qU T p.1) p.2)≠[]:=λz=>R.ne<|Je.mp z;let Y:⇑(r.2.2.map λp=>QF (qU T p.1) p.2)=⇑r.2.2:=Zql _;let same:vf m j K K:=λx E=>.inl E;ext y7;generalize(r.2.2.map λp=>QF (qU T p.1) p.2)=fs at H I ne Y;obtain z|z|⟨z0,z1,z2,o,q,z3,z4,z5,z6⟩:=B.how S X
 .rw[z,];simp only[if_true];rcases Ox (mo:=mo) ne H ()with y|⟨t,w,A,C⟩
  .rw[.inl λn s bk c a=>by rw[O2,];rw[vC y]]
  .rw[.inr (t,K,G,same,A.mono (),λi=>?_,λn s bk c a=>?_)]
   .rw[C,I]
   .rw[O2,w];rfl
 .rw[z,];let d:¬("first":Str)="all":=by decide+kernel
  simp only[if_true,Ze d];rcases Oy (mo:=mo) ne H ()with y|⟨t,w,A,C⟩
  .rw[.inl λn s bk c a=>by rw[O3,];rw[vC y]]
  .rw[.inr (t,K,G,same,A.mono (),λi=>?_,λn s bk c a=>?_)]
   .rw[C,I]
   .rw[O3,w];rfl
 .simp only[Ze z1,Ze z2];let rc:∀M,xp m j r.2.1 M=xp m (o+1) q.name M:=λM=>by rw[z5,];rw[B.rc z4 z3 M]
  let O:⇑fs=⇑q.givens:=Y.trans z6;let wj:=O8<|show o+1<=j from();let Z:∀i,⇑(fs.map λg=>JG g i)=⇑q.givens:=λi=>(Zql _).trans O;obtain⟨N,P⟩|⟨f,N,P⟩:=fz r.2.1 K
  .rcases IH o q K z3 z4 G with y|⟨U,v,Q,k2,k3,k4,k5,k6⟩
   .rw[.inl λn s bk c a=>ft z0 z1 z2 N<|by let:=y n () bk c a;rw[<-z5]at this;rw[this]]
   .let(ys t,rfl):=FN k5;let tf:Tf ⇑q.givens (wB<|o+1) t:=k3 t<|Ui _ Zqs;let ct:∀i:Yf,⇑i=⇑q.givens->JG t i=xp m (o+1) q.name i:=λi h=>by
     let e:=k4 i h;let(zs,ez):=B.part (n:=o) z4 i;rw[ez,Uc]at e;let e:=Zt (λl=>l.getLastD 0) e;let e:((ys.map λg=>JG g i)++[JG t i]).getLastD 0=(zs++[xp m (o+1) q.name i]).getLastD 0:=e;rw[List.getLastD_concat,List.getLastD_concat]at e;rw[e]
    let nq:r.2.1∉v.map (·.1):=λy=>by
     obtain y|⟨J,F,w,A,C⟩:=k2 _ y
     .rw[P y]
     .let e:q.name=F.name:=z5.symm.trans C;let:=B.inj o J q F z4 A e;lia
    let nk:(U0 r.2.1:jT)∉v.map λx=>U0 x.1:=λy=>by
     let(x,E,e):=Ja.mp y;injection e with e
     rw[nq<|Ja.mpr (x,E,e)]
    let l4:=Q.len B;let L:=λn(s:j<=n)bk(c:Bk m bk)a=>pG (n:=n) (bk:=bk) (d:=.lst<|fs.map jm) z0 z1 z2 (a:=a) N (ys:=ys) (t:=t) (ks':=v.map λx=>.inr x.1) (ds':=v.map λx=>jm x.2) (by let:=k6 n () bk c a;rw[<-z5]at this;rw[this]) (by rw[Zql,Zql]) nk (by rw[Zql,];lia);let kd:∀a:Addr,[%[a|D.dct ((v.map λx=>U0 x.1)++[.inr r.2.1]) ((v.map λx=>jm x.2)++[jm t])]]=[%[a|kD (v++[%[r.2.1|t]])]]:=λa=>by
     ext kD;rw[Uc,Uc];rfl
    let ko:KOk m (v++[%[r.2.1|t]]):=(by
     rw[Uc,];rw[Ju.mpr (Q.nd,V3 _ _,λa ha b hb e=>?_)];rw[e,Jd.mp hb]at ha;rw[nq ha],λx E=>by
     obtain y|y:=Jb.mp E
     .rw[Q.ok x y]
     .rw[Jd.mp y,];rw[(o,q,z4,z5,tf,ct)])
    let nw:vf m j K (v++[%[r.2.1|t]]):=λx E=>by
     rw[Uc]at E;obtain y|y:=Jb.mp E
     .rcases k2 x y with y|⟨J,F,w,A,C⟩
      .rw[.inl y]
      .rw[.inr (J,F,(),A,C)]
     .rw[.inr (o,q,z3,z4,(Jd.mp y).trans z5)]
    obtain y|⟨u,w,A,C⟩:=O0 (mo:=mo) tf O H
    .rw[.inl λn s bk c a=>by
      show QH n _ [%[a|D.dct _ _]]=_;rw[L n s bk c a,];rw[vC y]]
    .rw[.inr (u,_,ko,nw,A.mono (),λi=>?_,λn s bk c a=>?_)]
     .rw[C,ct _ (Z i),rc,I]
     .show QH n _ [%[a|D.dct _ _]]=_;rw[L n s bk c a,w,kd];rfl
  .let(J F,w,A,C,y4):=G.ok _ N;let e:q.name=F.name:=z5.symm.trans A;let e:=B.inj o J q F z4 w e;subst e;rw[z4]at w;cases w;let L:=λn(s:j<=n)bk(c:Bk m bk)a=>fq (mo:=mo) (n:=n) (bk:=bk) (d:=.lst<|fs.map jm) z0 z1 z2 (a:=a) P;obtain y|⟨u,x1,x2,x3⟩:=O0 (mo:=mo) C O H
   .rw[.inl λn s bk c a=>by
     show QH n _ [%[a|D.dct _ _]]=_;rw[L n s bk c a,];rw[vC y]]
   .rw[.inr (u,K,G,same,x2.mono (),λi=>?_,λn s bk c a=>?_)]
    .rw[x3,y4 _ (Z i),rc,I]
    .show QH n _ [%[a|D.dct _ _]]=_;rw[L n s bk c a,x1];rfl
def ip {b:J0}(h:∀p∈b,0<=p.1/\p.1<(⇑T:3))(f:∀g∈T,⇑g<=1000/\∀r∈g,⇑r<=1000):qg (.tup [0,1]) (KC XI<|J2 (X5 2<|015)<|018) [8,8,!(.own 7<|.lst<|T.map jm)] (b.map qy)=.ok ((b.map λp=>QF (qU T p.1) p.2).map jm):=by
 rw[Zw,];rw[K0 λp i=>by
  let(c,e):=h p i;let a:=Om c e;let(j,l):=f _ (D1 c e);let m:=Ol (w:=p.2) j l
  ext]
def Ap(n:5):ya:=Bc (uG<|jA 09<|Bf [8,8,!05] 2 (iS<|ja 08) (.tup [0,1])<|KC XI<|J2 (X5 2<|015)<|018)<|XA 05<|XB (QH n)<|J2 015<|J2 (ja 07)<|J2 (ja 09)<|J2 (ja 2)<|J2 (ja 03) jb
noncomputable def zx(mo:3)(bk b c:D)(a:Addr)(T:YC)(e f g h:02 SV):SD:=[~~~bk,~~~b,~~~.int mo,~~~.adr a,~~~c,!(.own 7<|.lst T),e,f,g,h]
def lM      {r:Rw}(f:∀p∈r.2.2,0<=p.1/\p.1<(⇑T:3))(h:∀g∈T,⇑g<=1000/\∀r∈g,⇑r<=1000)(l:⇑r.2.2<=1000):
 Xf (.tup [06,07,08]) (Ap n) (jB r) (zx mo bk nm pl a (T.map jm) u6 u7 u8 u9) hp=XA 05 (XB (QH n)<|J2 015<|J2 (ja 07)<|J2 (ja 09)<|J2 (ja 2)<|J2 (ja 03) jb) (zx mo bk nm pl a (T.map jm) (~~~.str r.1) (~~~.str r.2.1) (~~~j3 r.2.2)<|~~~(.lst<|(r.2.2.map λp=>QF (qU T p.1) p.2).map jm)) hp:=by
 let i:=ip f h;let j:=Qb l;let m:∀a b c d e u6 u7 u8 u9,capO [8,8,!05] 2 [a,b,c,d,e,!(.own 7<|.lst<|T.map jm),u6,u7,u8,u9]=[8,8,!(.own 7<|.lst<|T.map jm)]:=λ_ _ _ _ _ _ _ _ _=>9
 simp_all[zx,Ap]
def Ng        (h:QH n [bk,how,fs,.int mo,.adr a] c=.ok %[d|b])(l:⇑T<=1000):
 XA 05 (XB (QH n)<|J2 015<|J2 (ja 07)<|J2 (ja 09)<|J2 (ja 2)<|J2 (ja 03) jb) (zx mo bk e f a T g (~~~how) i<|~~~fs) c=.ok (.next (zx mo bk e f a (T++[d]) g (~~~how) i<|~~~fs) b):=by
 let z:=Qb l
 simp_all[zx,XA]
def pH       (h:b x a e=.ex c f):yk b (x::g) a e=.ex c f:=by
 simp_all[yk]
def OA     (h:b x e f=.ok (.next a c)):yk b (x::g) e f=yk b g a c:=by
 rw[yk,h];rfl
theorem OB (B:BkP c) {p:Pl}(hp:c[j]?=!p)(J:∀C q K,C<j->c[C]?=!q->KOk c K->uQ mo c q C K):∀(rows:List Rw)(i:5),p.rows.drop i=rows->i<=⇑p.rows->∀(T:List J1)(K:Kn),(∀g∈T,Tf ⇑p.givens ((i:3)*(2*wB j)) g)->⇑T=⇑p.givens+i->(∀f:Yf,⇑f=⇑p.givens->(T.map λg=>JG g f)=qx (xp c j) (p.rows.take i) f)->KOk c K->
 (∀n,j<=n->∀bk,Bk c bk->∀(nm pl:D)(a:Addr)u6 u7 u8 u9,yk (Xf (.tup [06,07,08])<|Ap n) (rows.map jB) (zx mo bk nm pl a (T.map jm) u6 u7 u8 u9) [%[a|kD K]]=.ex "TooMany" [])\/∃(o:List J1)(s:Kn),KOk c s/\vf c j K s/\(∀g∈o,Tf ⇑p.givens ((⇑p.rows:3)*(2*wB j)) g)/\⇑o=⇑p.givens+⇑p.rows/\(∀f:Yf,⇑f=⇑p.givens->(o.map λg=>JG g f)=qx (xp c j) p.rows f)/\∀n,j<=n->∀bk,Bk c bk->∀(nm pl:D)(a:Addr)u6 u7 u8 u9,∃E F G H,yk (Xf (.tup [06,07,08])<|Ap n) (rows.map jB) (zx mo bk nm pl a (T.map jm) u6 u7 u8 u9) [%[a|kD K]]=.ok (.next (zx mo bk nm pl a (o.map jm) E F G H) [%[a|kD s]])
 |[],i,hd,N,T,K,hT,lT,cT,hK=>by
  let e:i=⇑p.rows:=by
   let:=List.drop_eq_nil_iff.mp hd;lia
  subst e;rw[Vg]at cT;rw[.inr<|jR T K (hK,λx u=>.inl u,hT,lT,cT,λn l bk b nm pl a u6 u7 u8 u9=>jW u6 u7 u8 u9 9)]
 |r::rows,i,hd,N,T,K,hT,lT,cT,hK=>by
  let m:i<⇑p.rows:=by
   obtain z|z:=US i ⇑p.rows
   .rw[z]
   .rw[List.drop_eq_nil_iff.mpr z]at hd;cases hd
  rw[Uo m]at hd;injection hd with O h2
  let I:p.rows[i]?=!r:=by rw[Zqg m,O]
  let P:=B.ok j p hp;let R:=P.row i r I;let g2:=P.g2;let r2:=P.r2;let sh:=R.sh;let L:=λ(n:5)(bk nm pl:D)(a:Addr)u6 u7 u8 u9=>lM (mo:=mo) (n:=n) (bk:=bk) (nm:=nm) (pl:=pl) (a:=a) (T:=T) (u6:=u6) (u7:=u7) (u8:=u8) (u9:=u9) (hp:=[%[a|kD K]]) (r:=r) λy Q=>by let:=R.rng y Q;lia (λg A=>(by let:=(hT g A).len;lia,λx u=>by let:=((hT g A).cn.rows x u).len;lia)) ();obtain z|⟨t,K1,S,U,X,k4,Y⟩:=eG B hp J I hT lT hK
  .rw[.inl λn l bk b nm pl a u6 u7 u8 u9=>pH<|by rw[L,];(simp_all[zx,XA])]
  .let M:∀n,j<=n->∀bk,Bk c bk->∀(nm pl:D)(a:Addr)u6 u7 u8 u9,Xf (.tup [06,07,08]) (Ap n) (jB r) (zx mo bk nm pl a (T.map jm) u6 u7 u8 u9) [%[a|kD K]]=.ok (.next (zx mo bk nm pl a ((T++[t]).map jm) (~~~.str r.1) (~~~.str r.2.1) (~~~j3 r.2.2)<|~~~(.lst<|(r.2.2.map λp=>QF (qU T p.1) p.2).map jm)) [%[a|kD K1]]):=λn l bk b nm pl a u6 u7 u8 u9=>by
    rw[L,Ng (Y n l bk b a) (by rw[Zql,];lia),Uc];rfl
   let pj:=B7 j;let v:((i+1:5):3)*(2*wB j)=(i:3)*(2*wB j)+2*wB j:=by rw[Int.natCast_add,Int.add_mul];lia
   let Z:=OB B hp J rows (i+1) h2 m (T++[t]) K1 λg A=>by
    obtain y|y:=Jb.mp A
    .rw[(hT g y).mono<|by rw[v,];lia]
    .rw[Jd.mp y,];rw[X.mono<|by rw[v,];lia] (by rw[Ua,Ug];lia) λf h=>by
    rw[Uc,cT f h,N8 I,<-cT f h];show _++[JG t f]=_;rw[k4,] S
   obtain y|⟨o,s,y1,y2,y3,y4,y5,y6⟩:=Z
   .rw[.inl λn l bk b nm pl a u6 u7 u8 u9=>(OA<|M n l bk b nm pl a u6 u7 u8 u9).trans<|y n l bk b nm pl a _ _ _ _]
   .rw[.inr<|jR o s (y1,λx u=>?_,y3,y4,y5,λn l bk b nm pl a u6 u7 u8 u9=>?_)]
    .rcases y2 x u with w|w
     .rw[U x w]
     .rw[.inr w]
    .let(E,F,G,H,e):=y6 n l bk b nm pl a _ _ _ _;rw[jW E F G H<|(OA<|M n l bk b nm pl a u6 u7 u8 u9).trans e]
def pM (h:t<g)(a:g<=12):Tf g 0 [[%[(t:3)|0]]]:=by
 let b:JRow [%[(t:3)|(0:3)]]:=(List.cons_ne_nil _ _,V3 _ _,());rw[((List.cons_ne_nil _ _,(),XY yJ (WL _) () λr=>(λh=>(xS.mp h).1,λh=>xS.mpr (h,vq.mpr ()))),(),λr c p e=>?_)]
 ext
def zB(g:5):List J1:=(List.range g).map λt:5=>[[%[(t:3)|(0:3)]]]
def iW  (h:⇑a=g):((zB g).map λf=>JG f a)=a:=by
 ext zB;apply Wc;intro i;obtain z|z:=US i g
 .let e:JG [[%[(i:3)|(0:3)]]] a=jN a (i:3)+0:=9
  simp_all[jN]
 ext
def ph (B:BkP f):∀(j:5)(p:Pl)(K:Kn),f[j]?=!p->KOk f K->uQ mo f p j K:=by
 intro j
 induction j using Nat.strongRecOn with
 |ind j G=>
  intro p K o H;let P:=B.ok j p o;let g1:=P.g1;let g2:=P.g2;let r:=λbk(b:Bk f bk)=>b p<|Uf o;let I:W2 [.int (⇑p.givens:5)]=.ok (Qn 0 ⇑p.givens):=by rw[X7 () (),];rfl
  let J:qg (.one 0) (KC D3<|J2 015 jb) [8] (Qn 0 ⇑p.givens)=.ok ((zB ⇑p.givens).map jm):=by
   ext zB;rw[Zw,];rw[C9 λi hi=>by simp]
  let s:qw "Plan" "givens" (Qy p)=!(.lst<|p.givens.map .str):=9;let w:qw "Plan" "rows" (Qy p)=!(.lst<|p.rows.map jB):=9;let l:⇑(p.givens.map D.str)=⇑p.givens:=Zql _;let L:=Qb<|show ⇑p.givens<=1000 from();let M:∀bk a,Qt 10 [bk,020,.int mo,.adr a]=[~~~bk,~~~020,~~~.int mo,~~~.adr a,8,8,8,8,8,8]:=λbk a=>9;let c:∀n bk,Bk f bk->∀a(X:Res (D×HP)),(zC (CQ (iS<|jZ (qw "Plan" "rows")<|ja 04) (.tup [06,07,08])<|Ap n)<|vM 05<|wA<|ja 05) (zx mo bk 020 (Qy p) a ((zB ⇑p.givens).map jm) 8 8 8 8) [%[a|kD K]]=X->YO (QH n) (Qt 10 [bk,020,.int mo,.adr a]) [%[a|kD K]]=X:=λn bk b a X h=>by
   let r:=r bk b;rw[M,];ext YO;rw[mV (sd':=[~~~bk,~~~020,~~~.int mo,~~~.adr a,~~~Qy p,8,8,8,8,8]) (N4<|by simp[r]) ?_];rw[mV (N4 (sd':=zx mo bk 020 (Qy p) a ((zB ⇑p.givens).map jm) 8 8 8 8) ?_) h];generalize Qy p=N at s;generalize p.givens.map D.str=GD at s l;ext zx;simp[s,l,I,J,L,ZU]
  let x:∀bk a T y A C E,iS (jZ (qw "Plan" "rows")<|ja 04) (zx mo bk 020 (Qy p) a T y A C E)=.ok (p.rows.map jB):=λbk a T y A C E=>by
   generalize Qy p=N at w;ext zx;simp[w]
  let go:=OB B o (λO q K Q R S=>G O Q q K R S) p.rows 0 9 (Ub _) (zB ⇑p.givens) K λg u=>by
   let(-t,U,rfl):=Ja.mp u;rw[(pM (VR.mp U) ()).mono<|by show(0:3)<=0*_;lia] (by ext zB;rw[Zql,ZB];rfl) λF h=>by rw[iW h,];rfl H
  obtain z|⟨T,K',Y,Z,k3,v,k5,k6⟩:=go
  .rw[.inl λn hn bk b a=>?_];let(n,rfl):∃m,n=m+1:=(n-1,());show KD 10 04 (YO<|QH n) _ _=_;rw[O1 9<|c n bk b a _ ?_];rw[FK,MT,x,Res.bind_ok,z n () bk b];rfl
  .rw[.inr<|jR T K' (Y,Z,λg u=>(k3 g u).mono ?_,λF h=>?_,λe=>?_,λn hn bk b a=>?_)]
   .let pj:=B7 j;let r2:=P.r2;let:=Int.mul_le_mul_of_nonneg_right (show(⇑p.rows:3)<=22 by lia)<|show 0<=2*wB j from();show _<=44*wB j;lia
   .rw[k5 F h,];rfl
   .rw[e]at v;let v:0=⇑p.givens+⇑p.rows:=v;lia
   .let(n,rfl):∃m,n=m+1:=(n-1,());show KD 10 04 (YO<|QH n) _ _=_;rw[aX 9<|c n bk b a _ ?_];let(v6 v7 v8 v9,e):=k6 n () bk b 020 (Qy p) a 8 8 8 8;rw[FK,MT,x,Res.bind_ok,e,Res.bind_ok];rfl
def D5:FS:=j0<|Ft (Ko 20) (.dct [] [])<|J2 015<|J2 (ja 1)<|J2 (ja 2) jb
def D6:YC->Res D:=jJ 03 03 D5
def B8:FS:=j0<|jh ju (JB D6<|J2 015<|J2 (ja 1)<|J2 (ja 2) jb)<|jZ qc<|005
def WO:YC->Res D:=jJ 03 03 B8
def iO (B:BkP i)  (m:i[j]?=!p):(∀bk,Bk i bk->WO [bk,020,.int mo]=KI)\/∃t,(∀bk,Bk i bk->WO [bk,020,.int mo]=.ok (jm t))/\Tf ⇑p.givens (wB<|j+1) t/\∀g:Yf,⇑g=⇑p.givens->JG t g=xp i (j+1) p.name g:=by
 let o:∀bk(x:Res D),(∀a,(Ko 20 [bk,020,.int mo,.adr a] [%[a|.dct [] []]]).bind (λq=>.ok q.1)=x)->D6 [bk,020,.int mo]=x:=λbk x h=>by
  let c:Ft (Ko 20) (.dct [] []) (J2 015<|J2 (ja 1)<|J2 (ja 2) jb) [~~~bk,~~~020,~~~.int mo]=x:=aD h;simp[D6,D5,c]
  cases(x)<;>rfl
 rcases ph (mo:=mo) B j p [] m (Vt,λx h=>nomatch h)with z|⟨T,K',v,w,y,k4,s,k6⟩
 .rw[.inl λbk b=>?_];let e:=o bk KI λa=>by
   let:=z 20 (by let:=(B.at m).2.1;lia) bk b a;show Res.bind (Ko 20 [bk,020,.int mo,.adr a] [%[a|kD []]]) _=_;rw[this,];rfl
  simp[WO,B8,e,KI]
 .let(r t,rfl):=FN s;rw[.inr (t,λbk b=>?_,(),λg h=>?_)]
  .let e:=o bk (.ok<|.lst<|(r++[t]).map jm) λa=>by
    let:=k6 20 (by let:=(B.at m).2.1;lia) bk b a;show Res.bind (Ko 20 [bk,020,.int mo,.adr a] [%[a|kD []]]) _=_;rw[this,];rfl
   let l:=FM (f:=jm) r t
   simp_all[WO,B8]
  .let e:=k4 g h;let(A,u):=B.part (n:=j) m g;rw[u,Uc]at e;let e:=Zt (λl=>l.getLastD 0) e
   grind
def BkP.bk (B:BkP c):Bk c (Qz c):=λq f=>by
 let(j,e):=Jm.mp f;rw[br (B.at e).2.2.1 B.ascs<|B.find e]
def Gn (B:BkP a)  (c:a[j]?=!p):WO [Qz a,020,.int mo]=KI\/∃t,WO [Qz a,020,.int mo]=.ok (jm t)/\Tf ⇑p.givens (wB<|j+1) t/\∀b:Yf,⇑b=⇑p.givens->JG t b=xp a (j+1) p.name b:=by
 obtain z|⟨t,z,r⟩:=iO (mo:=mo) B c
 .rw[.inl<|z _ B.bk]
 .rw[.inr (t,z _ B.bk,r)]
def B9:FS:=jp (jA 03<|dC .non)<|jp (wN 03 "TooMany" WO (J2 015<|J2 (ja 1)<|J2 (ja 2) jb)<|jA 03<|dC .non)<|j0<|ja 03
def YP:YC->Res D:=jJ 04 03 B9
def Go  (h:WO [bk,a,.int m]=KI):YP [bk,a,.int m]=.ok .non:=by
 unfold KI at h;simp[YP,B9,h]
def Gp   (h:WO [bk,a,.int m]=.ok (jm t)):YP [bk,a,.int m]=.ok (jm t):=by
 simp[YP,B9,h]
def Aq:FS:=jp (jA 1<|jh jP (jh Kk 015<|dC<|.int 03)<|jh yT (dC<|.int 10)<|dC<|.int 30)<|jp (xx (J9<|jh xI (jh jP 015<|dC<|.int 03)<|022) (j0<|022) Qa)<|jp (xx (J9<|jh xI (jh jP 015<|dC<|.int 03)<|005) (j0<|ja 1) Qa)<|j0<|jh xW 022<|ja 1
def Ar:YC->Res D:=jJ 2 1 Aq
noncomputable def wd(c:3):3:=if c%03=0 then 0 else if c%03=1 then c/03%1000000000000000000000000000000 else 0-c/03%1000000000000000000000000000000
def b6(c:3):Ar [.int c]=.ok (.int<|wd c):=by
 let p:yT (.int 10) (.int 30)=! .int 1000000000000000000000000000000:=9;ext wd;cases a:c%03=0
 .simp[Ar,Aq,a,p]
 .cases b:c%03=1
  .simp[Ar,Aq,b,p]
  simp_all[Ar,Aq]
def Gq(c:3):-1000000000000000000000000000000<wd c/\wd c<1000000000000000000000000000000:=by
 ext wd
 split
 .omega
 .split<;>lia
def D7:FS:=j0<|xi<|J2 (jh jP 015<|ja 1)<|J2 (JB Ar<|J2 (jh Kk 015<|ja 1) jb) jb
def XJ:YC->Res D:=jJ 2 2 D7
def Ka(c a:3):3×3:=%[c%a|wd (c/a)]
def Gr (b:0<a)(f:a<1000000):XJ [.int c,.int a]=.ok (qy<|Ka c a):=by
 let e:Kk (.int c) (.int a)=!(.int<|c/a):=Lp b ();simp[XJ,D7,b,e,b6<|c/a];rfl
def XL:xu:=jV (xK 05<|zG (vL<|015)<|vL<|jZ qc<|005)<|jV (xK 06<|yM 05 [05]<|jh j6 (jj jy<|J2 (jh ju (ja 05)<|005) jb)<|jj jy<|J2 (jh ju (ja 05)<|023) jb)<|jV (xK 07<|yM 05 [0]<|jh ju (ja 2)<|jh jP (jh j6 007<|ja 06)<|jj jy<|J2 (ja 2) jb)<|jV (wa (vL<|ja 1) (vL<|jZ qc<|005)<|yM 05 [1]<|jh j6 (jh ju (ja 1)<|jZ qc<|005)<|005)<|jV (Wp (y8 05 [0]<|Kr (J9<|jh xI (jh jP (ja 03)<|dC<|.int 04)<|dC<|.int 03)<|J9<|jh vw 007<|005) (jV (xK 08<|yM 05 [0]<|jh jP (jh Kk (ja 03)<|dC<|.int 04)<|jh xW 007<|005)<|Wp (y8 05 [1]<|J9<|jh tH (jh j6 (jh ju (ja 1)<|jZ qc<|005)<|jh ju (ja 1)<|ja 08)<|dC<|.int 100) (jV (wa (vL<|ja 1) (vL<|jZ qc<|005)<|yM 05 [1]<|jh j6 (jh ju (ja 1)<|jZ qc<|005)<|jh ju (ja 1)<|ja 08)<|jV (xK 09<|yM 05 [0]<|jj jy<|J2 (jh ju (jh ju 015<|ja 08)<|005) jb)<|zw<|yM 05 [0]<|xi<|J2 (ja 07)<|J2 (jh ju (jh ju 015<|ja 08)<|022)<|J2 (jj ZS<|J2 (Q6 [8,!04,!06] (wX<|J2 (ja 09) jb) (.one 0)<|JB XJ<|J2 (jh j6 (ja 1)<|jh xf (jh xf (dC<|.int 31)<|015)<|015)<|J2 (ja 2) jb) jb) jb) Ag) Ag)<|zw<|vL<|xi<|J2 (ja 07)<|J2 (jh ju (qI<|J2 (dC<|.str "all")<|J2 (dC<|.str "first") jb)<|jh jP (ja 03)<|023)<|J2 (xi<|J2 (JB XJ<|J2 (ja 04)<|J2 (ja 06) jb) jb) jb
def Au:YC->HP->Wr (D×HP):=zd 10 05 XL
def JR(q:Pl):3:=(⇑q.givens:3)+(⇑q.rows:3)
def jU(a:Yi)(k:3):Str:=a.getD (k%(⇑a:3)).toNat Str.empty
def qB(a:List Pl)(k:3):Pl:=a.getD k.toNat (Str.empty,[],[])
noncomputable def wY(a:3):Str:=if a%2=0 then"all"else"first"
def qA(e:Yi)(b:List Pl)(q:Pl)(ld:Yf)(x a c:3):(Str×Str×J0)×3:=
 if a%04=03/\b ≠[]/\x+1+jN ld (a/04%(⇑b:3))<=100 then
  %[%[jU e ((⇑b:3)+1+JR q),(qB b<|a/04%(⇑b:3)).name|(List.range (qB b<|a/04%(⇑b:3)).givens.length).map λj:5=>Ka (c+31*j*j)<|JR q]|x+1+jN ld (a/04%(⇑b:3))]
 else%[%[jU e ((⇑b:3)+1+JR q),wY a|[Ka c (JR q)]]|x+1]
def Gs (a:0<⇑ws)(k:3):ju (.lst<|ws.map .str) (.int<|k%(⇑ws:3))=!(.str<|jU ws k):=by
 let b:0<=k%(⇑ws:3):=Vh _ ();let c:k%(⇑ws:3)<(⇑ws:3):=Vn _ ();have(j,hj):∃j:5,k%(⇑ws:3)=j:=((k%(⇑ws:3)).toNat,());show qa (ws.map D.str) (k%(⇑ws:3))=_;ext jU;rw[hj,Kt (by rw[Zql,];lia),Uy,Zv,Ue,Zqg ()];rfl
def l8  (b:0<=k)(c:k<(⇑a:3))(q:Pl):qa ((a++[q]).map Qu) k=!(Qu<|qB a k):=by
 let(j,rfl):∃j:5,k=j:=(k.toNat,());ext qB;rw[Kt (),Uy,Zv,Uj (),Ue,Zqg ()];rfl
def lB{ld:Yf} (a:0<=k)(b:k<(⇑ld:3))(x:3):qa ((ld++[x]).map D.int) k=!(.int<|jN ld k):=by
 let(j,rfl):∃j:5,k=j:=(k.toNat,());ext jN;rw[Kt (by rw[Zql,Ua];lia),Uy,Zv,Uj (),Ue,Zqg ()];rfl
def b5      {ld:Yf}  (h:StB n p l as a f q (ld++[x]))(hl:⇑ld=⇑f)(B:0<⇑o)(hq:0<JR q)(hq2:JR q<1000)(e g:3)
 (hs:∀r∈f,⇑r.givens<=1000):∃v,(XL [~~~.adr p,~~~.adr l,~~~(.lst<|o.map .str),~~~.int e,~~~.int g,8,8,8,8,8] n).bind zf=.ok %[jB (qA o f q ld x e g).1|v]/\
 (∀b,b≠l->je v b=je n b)/\StB v p l as a f q (ld++[(qA o f q ld x e g).2]):=by
 let F:=h.dp;let G:=h.da;let H:=h.dl;let I:yN (.adr p) %[.int (-1)|n]=.ok %[.adr a.1|n]:=by
  rw[Da (q:=%[D.int (-1)|n]) h.hp_,]
  simp_all[Uc,List.map_singleton,Xm]
 let J:=Gs B<|(⇑f:3)+1+JR q;let L:jy [D.lst (o.map D.str)]=! .int (⇑o:3):=by simp
 let M:jy [qY (f++[q])]=!(.int<|(⇑f:3)+1):=by show some (D.int (⇑((f++[q]).map Qu):3))=_;simp
 let N:jy [D.lst (q.givens.map D.str)]=! .int (⇑q.givens:3):=by simp
 let m:jy [D.lst (q.rows.map jB)]=! .int (⇑q.rows:3):=by simp
 let O:(⇑q.givens:3)+(⇑q.rows:3)=JR q:=9;let P:ju (wE<|ld++[x]) (.int<|-1)=! .int x:=by
  show qa ((ld++[x]).map D.int) (-1)=_;rw[Uc,List.map_singleton,Xm]
 let C:∀w,XE w (.int<|x+1) l %[.int (-1)|n]=.ok (.next w<|Qo n l<|wE<|ld++[x+1]):=λw=>by
  rw[F8 h.hl (j:=⇑ld) (by rw[Zql,];rw[FX ld x]),Uc,List.map_singleton,<-@List.length_map _ _ ld D.int,F9];ext wE;simp
 let s:=h.load<|ld++[x+1];let hn:je n l≠8:=by rw[h.hl,];simp
 let(i,hp1e):∃i,i=Qo n l (wE<|ld++[x+1]):=(_,9);rw[<-hp1e]at s;simp only[<-hp1e]at C;let Q:∀b,b≠l->je i b=je n b:=λb R=>by rw[hp1e,];rw[KE hn R]
 let S:=s.dp;let f3:=s.dl;let X:=Gr (c:=g) hq ();let y:ju (.lst [D.str "all",D.str "first"]) (.int<|e%2)=!(.str<|wY e):=by
  ext wY;let:e%2=0\/e%2=1:=()
  obtain z|z:=this<;>rw[z,]<;>rfl
 let small:¬(e%04=03/\f ≠[]/\x+1+jN ld (e/04%(⇑f:3))<=100)->qA o f q ld x e g=%[%[jU o ((⇑f:3)+1+JR q),wY e|[Ka g (JR q)]]|x+1]:=λz=>Ze z;cases A:e%04=03
 .cases T:f=[]
  .let m:=small λz=>z.2.1 T;rw[(i,?_,Q,by rw[m,];rw[s])];rw[m,];let E:¬(1:3)<(⇑f:3)+1:=by rw[T,];decide
   simp[XL,I,F,G,H,J,L,M,N,m,O,B,P,C,S,A,E,X,y];rfl
  .let E:0<(⇑f:3):=by let:=Jn.mpr T;lia
   let(t,ht):∃t,e/04%(⇑f:3)=t:=(_,9);let t0:0<=t:=by rw[<-ht];rw[Vh _ ()]
   let t1:t<(⇑f:3):=by rw[<-ht];rw[Vn _ E]
   let y1:ju (wE<|ld++[x+1]) (.int<|-1)=!(.int<|x+1):=by
    show qa ((ld++[x+1]).map D.int) (-1)=_;rw[Uc,List.map_singleton,Xm]
   let y2:ju (wE<|ld++[x+1]) (.int t)=!(.int<|jN ld t):=lB t0 ()<|x+1;rw[ht]at small;cases U:x+1+jN ld t<=100
   .let m:qA o f q ld x e g=%[%[jU o ((⇑f:3)+1+JR q),(qB f t).name|(List.range (qB f t).givens.length).map λj:5=>Ka (g+31*j*j)<|JR q]|x+1+jN ld t]:=by
     ext qA;rw[ht,Zd (A,T,U)]
    let Y:je i l≠8:=by rw[s.hl,];simp
    let Z:=s.load<|ld++[x+1+jN ld t];let p2:∀w,XE w (.int<|x+1+jN ld t) l %[.int (-1)|i]=.ok (.next w<|Qo i l<|wE<|ld++[x+1+jN ld t]):=λw=>by
     rw[F8 s.hl (j:=⇑ld) (by rw[Zql,];rw[FX ld<|x+1]),Uc,List.map_singleton,<-@List.length_map _ _ ld D.int,F9];ext wE;rw[Uc,List.map_singleton]
    let(u,hp2e):∃u,u=Qo i l (wE<|ld++[x+1+jN ld t]):=(_,9);rw[<-hp2e]at Z;simp only[<-hp2e]at p2;let k2:∀b,b≠l->je u b=je n b:=λb R=>by rw[hp2e,KE Y R];rw[Q b R]
    let w1:=Z.dp;let yp:ju (qY<|f++[q]) (.int t)=!(Qu<|qB f t):=l8 t0 t1 q;let hg:(qB f t).givens.length<=1000:=hs _<|by
     ext qB;rw[Ue,Zqg ()];rw[UA _]
    let yl:jy [D.lst ((qB f t).givens.map D.str)]=! .int ((qB f t).givens.length:3):=by show some (D.int (⇑((qB f t).givens.map D.str):3))=_;rw[Zql,]
    let yr:W2 [.int ((qB f t).givens.length:3)]=.ok (Qn 0 (qB f t).givens.length):=by rw[X7 () (),Uy]
    rw[(u,?_,k2,by rw[m,];rw[Z])];rw[m,];let c5:(1:3)<(⇑f:3)+1:=()
    let gm:jP (.int<|e/04) (.int (⇑f:3))=! .int t:=by rw[AS E,ht]
    let ym:qg (.one 0) (JB XJ<|J2 (jh j6 (ja 1)<|jh xf (jh xf (dC<|.int 31)<|015)<|015)<|J2 (ja 2) jb) [8,~~~.int g,~~~(.int<|JR q)] (Qn 0 (qB f t).givens.length)=.ok ((List.range (qB f t).givens.length).map λj:5=>qy<|Ka (g+31*j*j)<|JR q):=C9 λj hj=>by
     let g31:xf (.int 31) (.int (j:3))=!(.int<|31*j):=9;let g32:xf (.int<|31*(j:3)) (.int (j:3))=!(.int<|31*j*j):=X6<|C7 () ();let fj:=Gr (c:=g+31*j*j) hq ();simp[g31,g32,fj]
    let yz:⇑(Qn 0 (qB f t).givens.length)<00:=by rw[ZU,];rw[Qb hg]
    let ef:Ks 08 (.tup [.str (jU o<|(⇑f:3)+1+JR q),.str (qB f t).name,.tup ((List.range (qB f t).givens.length).map λj:5=>qy<|Ka (g+31*j*j)<|JR q)])=6:=by
     let:=FY 05 %[jU o ((⇑f:3)+1+JR q),(qB f t).name|(List.range (qB f t).givens.length).map λj:5=>Ka (g+31*j*j)<|JR q];unfold jB j3 at this;rw[Zw]at this;rw[this]
    simp[XL,I,F,G,H,J,L,M,N,m,O,B,P,C,S,f3,A,c5,gm,y1,y2,U,p2,w1,yp,yl,yr,ym,yz,ef];ext jB j3;rw[Zw,];rfl
   .let m:=small λz=>U z.2.2;rw[(i,?_,Q,by rw[m,];rw[s])];rw[m,];let c5:(1:3)<(⇑f:3)+1:=()
    let gm:jP (.int<|e/04) (.int (⇑f:3))=! .int t:=by rw[AS E,ht]
    simp[XL,I,F,G,H,J,L,M,N,m,O,B,P,C,S,f3,A,c5,gm,y1,y2,U,X,y];rfl
 .let m:=small λz=>A z.1;rw[(i,?_,Q,by rw[m,];rw[s])];rw[m,];simp[XL,I,F,G,H,J,L,M,N,m,O,B,P,C,S,A,X,y];rfl
def OC      {ld:Yf}  (h:StB n p l s a i q (ld++[x]))(t:⇑ld=⇑i)(u:0<⇑j)(v:0<JR q)(m:JR q<1000)(c f:3)
 (w:∀r∈i,⇑r.givens<=1000):∃g,Au [.adr p,.adr l,.lst (j.map .str),.int c,.int f] n=.ok %[jB (qA j i q ld x c f).1|g]/\
 (∀b,b≠l->je g b=je n b)/\StB g p l s a i q (ld++[(qA j i q ld x c f).2]):=by
 let(-g,e,k,o):=b5 h t u v m c f w;rw[(g,lO 9 e λb z=>?_,k,o)];cases y:b=l
 .rw[y,o.hl];simp
 ext
def Av:xu:=jV (xK 05<|zG (vL<|015)<|vL<|jZ qc<|005)<|jV (zL<|jA 06<|jh jP (ja 03)<|dC<|.int 08)<|Wp (y8 05 [05]<|Kr (J9<|jh xI (ja 06)<|022)<|J9<|jh zr (jh ju (ja 05)<|023)<|qI jb) (jV (zL<|jA 07<|jh j6 005<|jh jP (ja 04)<|dC<|.int 04)<|jV (xz (vL<|015)<|qH<|JJ (yM 05 [0]<|jh ju (ja 2)<|007)<|JJ (yG 05 [0]<|zW (ja 2) (Q8<|jh j6 007<|005) (Q8<|jh j6 (jh j6 007<|005)<|ja 07) Kl)<|JJ (qH qb) qb)<|xz (vL<|ja 1)<|vL<|022)<|Wp (y8 05 [05]<|Kr (J9<|jh xI (ja 06)<|005)<|Kr (J9<|jh xI (jh ju (ja 05)<|023)<|qI jb)<|J9<|jh ki (jj jy<|J2 (jh ju (ja 05)<|005) jb)<|dC<|.int 12) (xz (zG (vL<|ja 05)<|vL<|005)<|yM 05 [0,05]<|jh ju (ja 2)<|jh jP (jh j6 007<|jj jy<|J2 (jh ju (ja 05)<|005) jb)<|jj jy<|J2 (ja 2) jb)<|Wp (y8 05 [05]<|Kr (J9<|jh vw (ja 06)<|dC<|.int 03)<|Kr (J9<|jh zr (jh ju (ja 05)<|023)<|qI jb)<|J9<|jh (yE 7) (jh ju (jh ju (jh ju (ja 05)<|023)<|jZ qc<|005)<|005)<|xi<|J2 (dC<|.str "all")<|J2 (dC<|.str "first") jb) (jV (xK 08<|yM 05 [05]<|jh ju (jh ju (ja 05)<|023)<|jZ qc<|005)<|wa (zG (vL<|ja 05)<|vL<|023) (vL<|jZ qc<|005)<|yM 05 [05]<|xi<|J2 (jh ju (ja 08)<|022)<|J2 (jh ju (ja 08)<|005)<|J2 (jh CC (jh ju (ja 08)<|023)<|xi<|J2 (JB XJ<|J2 (ja 04)<|J2 (jh xW (jh j6 (jj jy<|J2 (jh ju (ja 05)<|005) jb)<|jj jy<|J2 (jh ju (ja 05)<|023) jb)<|005) jb) jb) jb)<|xz (zG (vL<|ja 05)<|vL<|023)<|XC Au<|JJ (vL<|015)<|JJ (vL<|ja 1)<|JJ (vL<|ja 2)<|JJ (vL<|jh Kk (ja 03)<|dC<|.int 08)<|JJ (vL<|ja 04) qb
def BA:YC->HP->Wr (D×HP):=zd 09 05 Av
structure Bst where
 ps:List Pl
 q:Pl
 ld:Yf
 x:3
noncomputable def KJ(h:Str):Bool:=decide (h="all")||decide (h="first")
noncomputable def JT(a:List (Str×Str×J0)):Str×Str×J0:=a.getLast?.getD %[Str.empty,Str.empty|[]]
def XM(c:Yi)(s:Bst)(a b:3):Bst:=
 if a%08=0/\s.q.rows ≠[]then(s.ps++[s.q],(jU c<|(⇑s.ps:3)+1,(c.drop<|⇑s.ps+2).take (1+b%04).toNat,[]),s.ld++[s.x],0)
 else if a%08=1/\s.q.rows=[]/\⇑s.q.givens<12 then(s.ps,(s.q.name,s.q.givens++[jU c ((⇑s.ps:3)+1+(⇑s.q.givens:3))],s.q.rows),s.ld,s.x)
 else if 03<a%08/\s.q.rows ≠[]/\KJ (JT s.q.rows).2.1=6 then(s.ps,(s.q.name,s.q.givens,s.q.rows.dropLast++[%[(012).1,(JT s.q.rows).2.1|(JT s.q.rows).2.2++[Ka b (JR s.q-1)]]]),s.ld,s.x)
 else(s.ps,(s.q.name,s.q.givens,s.q.rows++[(qA c s.ps s.q s.ld s.x (a/08) b).1]),s.ld,(qA c s.ps s.q s.ld s.x (a/08) b).2)
structure Bsz(s:Bst):4 where
 ll:⇑s.ld=⇑s.ps
 g1:1<=⇑s.q.givens
 ga:∀r∈s.ps++[s.q],⇑r.givens<=12
 ra:⇑s.q.rows<=100
 ta:∀z∈s.q.rows,asc z.1/\asc z.2.1/\1<=⇑z.2.2/\⇑z.2.2<=100
 na:⇑s.ps<=100
def fI:xu:=jV (zL<|jA 07<|jh j6 005<|jh jP (ja 04)<|dC<|.int 04)<|jV (xz (vL<|015)<|qH<|JJ (yM 05 [0]<|jh ju (ja 2)<|007)<|JJ (yG 05 [0]<|zW (ja 2) (Q8<|jh j6 007<|005) (Q8<|jh j6 (jh j6 007<|005)<|ja 07) Kl)<|JJ (qH qb) qb)<|xz (vL<|ja 1)<|vL<|022
def nh:xu:=xz (zG (vL<|ja 05)<|vL<|005)<|yM 05 [0,05]<|jh ju (ja 2)<|jh jP (jh j6 007<|jj jy<|J2 (jh ju (ja 05)<|005) jb)<|jj jy<|J2 (ja 2) jb
def ng:xu:=jV (xK 08<|yM 05 [05]<|jh ju (jh ju (ja 05)<|023)<|jZ qc<|005)<|wa (zG (vL<|ja 05)<|vL<|023) (vL<|jZ qc<|005)<|yM 05 [05]<|xi<|J2 (jh ju (ja 08)<|022)<|J2 (jh ju (ja 08)<|005)<|J2 (jh CC (jh ju (ja 08)<|023)<|xi<|J2 (JB XJ<|J2 (ja 04)<|J2 (jh xW (jh j6 (jj jy<|J2 (jh ju (ja 05)<|005) jb)<|jj jy<|J2 (jh ju (ja 05)<|023) jb)<|005) jb) jb) jb
def nc:xu:=xz (zG (vL<|ja 05)<|vL<|023)<|XC Au<|JJ (vL<|015)<|JJ (vL<|ja 1)<|JJ (vL<|ja 2)<|JJ (vL<|jh Kk (ja 03)<|dC<|.int 08)<|JJ (vL<|ja 04) qb
def fH:Av=(jV (xK 05<|zG (vL<|015)<|vL<|jZ qc<|005)<|jV (zL<|jA 06<|jh jP (ja 03)<|dC<|.int 08)<|Wp (y8 05 [05]<|Kr (J9<|jh xI (ja 06)<|022)<|J9<|jh zr (jh ju (ja 05)<|023)<|qI jb) fI<|Wp (y8 05 [05]<|Kr (J9<|jh xI (ja 06)<|005)<|Kr (J9<|jh xI (jh ju (ja 05)<|023)<|qI jb)<|J9<|jh ki (jj jy<|J2 (jh ju (ja 05)<|005) jb)<|dC<|.int 12) nh<|Wp (y8 05 [05]<|Kr (J9<|jh vw (ja 06)<|dC<|.int 03)<|Kr (J9<|jh zr (jh ju (ja 05)<|023)<|qI jb)<|J9<|jh (yE 7) (jh ju (jh ju (jh ju (ja 05)<|023)<|jZ qc<|005)<|005)<|xi<|J2 (dC<|.str "all")<|J2 (dC<|.str "first") jb) ng nc):=rfl
def OD{a:List (Str×Str×J0)}(h:∀z∈a,asc z.1/\asc z.2.1):jY 12 (.lst<|a.map jB)=6:=by
 show(a.map jB).all (jY 11)=6;rw[UJ,];intro d c;let(-z,b,rfl):=Ja.mp c;show[D.str z.1,D.str z.2.1,j3 z.2.2].all (jY 10)=6;rw[UG,UG,Xk (h z b).1,Xk (h z b).2,UG,Nm 07];rfl
def Gu (h:a ≠[]):a=a.dropLast++[JT a]:=by
 ext JT;rw[List.getLast?_eq_getLast h,];rw[(List.dropLast_concat_getLast h).symm]
def OE (l:List α) (f:0<=a)(g:a<=b):Q1 l (!a) (!b) 8=(l.drop a.toNat).take (b.toNat-a.toNat):=by
 let(i,rfl):=Wm f;let(j,rfl):=Wm (Int.le_trans f g);let e:sliceBounds (!(i:3)) (!(j:3)) 8 ⇑l=%[((min i ⇑l:5):3),((min j ⇑l:5):3)|1]:=by
  ext sliceBounds;simp;rw[Ze (Int.not_lt.mpr f),Ze (),FD,FD];rw[(Int.max_eq_right<|Int.natCast_nonneg _,Int.max_eq_right<|Int.natCast_nonneg _)]
 ext Q1;rw[e,];rw[sliceRange_one,];let h:(λx:5=>l[x]?)=λx:5=>l.toArray[x]?:=by simp
 rw[h,pick_run l.toArray (min i ⇑l)<|min j ⇑l-min i ⇑l];simp;cases c:i<=⇑l
 .rw[Vc c,];cases d:j<=⇑l
  .rw[Vc d,]
  .rw[VH (),Uz (),Uz (by simp;lia)]
 .rw[show min i ⇑l=⇑l from VH (),Vb (Zf _),Vb ()];simp
def OF(b:HP)(c:Yi):gZ b (.lst<|c.map .str)=.new b λa=>.ok %[.adr a|%[a|.lst (c.map .str)]::b]:=by
 show(if(c.map D.str).all (Ks 08)then _ else _)=_;simp
section
variable     {s:Bst}
noncomputable abbrev yS(p l:Addr)(ws:Yi)(what cell:3)(a:Addr):SD:=[~~~.adr p,~~~.adr l,~~~(.lst<|ws.map .str),~~~.int what,~~~.int cell,~~~.adr a,~~~(.int<|what%08),8,8]
def er(h:StB t p l I a s.ps s.q (s.ld++[s.x]))(z:Bsz s)(c f:3):Av [~~~.adr p,~~~.adr l,~~~(.lst<|v.map .str),~~~.int c,~~~.int f,8,8,8,8] t=
 if c%08=0/\s.q.rows ≠[]then fI (yS p l v c f a.1) t else if c%08=1/\s.q.rows=[]/\⇑s.q.givens<12 then nh (yS p l v c f a.1) t else if 03<c%08/\s.q.rows ≠[]/\KJ (JT s.q.rows).2.1=6 then ng (yS p l v c f a.1) t else nc (yS p l v c f a.1) t:=by
 let m:yN (.adr p) %[.int (-1)|t]=.ok %[.adr a.1|t]:=by
  rw[Da (q:=%[D.int (-1)|t]) h.hp_,];show(Wr.of<|.ofO<|qa ((I++[a]).map λb=>D.adr b.1)<|-1).bind _=_;rw[Uc,List.map_singleton,Xm];rfl
 let n:=h.da;let B:=OD λy w=>((z.ta y w).1,(z.ta y w).2.1);let g:=aB B;let i:=N0 B;let o:jy [D.lst (s.q.givens.map D.str)]=! .int (⇑s.q.givens:3):=by show some (D.int (⇑(s.q.givens.map D.str):3))=_;rw[Zql,]
 let C:(⇑s.q.givens:3)<12 ↔⇑s.q.givens<12:=()
 rw[fH,];cases j:s.q.rows=[]
 .rw[j]at g i;simp at g i;cases r:c%08=1
  .cases E:⇑s.q.givens<12
   .simp[yS,m,n,j,g,i,o,r,C,E]
   .simp[yS,m,n,j,g,i,o,r,C,E]
  .cases u:03<c%08
   .simp[yS,m,n,j,g,i,o,r,u]
   .simp[yS,m,n,j,g,i,o,r,u]
 .let F:=Gu j;let J:012 ∈s.q.rows:=by
   let:=Ui s.q.rows.dropLast<|Jd.mpr (9:012=012);rw[<-F]at this;rw[this]
  let L:asc (JT s.q.rows).2.1:=(z.ta _ J).2.1;let G:ju (.lst<|s.q.rows.map jB) (.int<|-1)=!(jB<|012):=by
   show qa (s.q.rows.map jB) (-1)=_;let:s.q.rows.map jB=s.q.rows.dropLast.map jB++[jB 012]:=by
    conv=>lhs;rw[F]
    simp
   rw[this,Xm]
  let H:yE 7 (.str (JT s.q.rows).2.1) (.tup [D.str "all",D.str "first"])=!(.bl<|KJ (JT s.q.rows).2.1):=by
   let:=i7 (neg:=7) (x:=(JT s.q.rows).2.1) (xs:=["all","first"]) L<|by
    intro y w;let:y="all"\/y="first":=by simpa using w
    obtain rfl|rfl:=this<;>ext asc<;>decide+kernel
   rw[show D.tup (List.map D.str ["all","first"])=D.tup [D.str "all",D.str "first"]from 9]at this;rw[this,];ext KJ;simp
  let M:s.q.rows.isEmpty=7:=by induction e:s.q.rows with|nil=>rw[Zn e j]|cons _ _=>rfl
  rw[M]at g i;cases A:c%08=0
  .simp[yS,m,n,j,g,i,o,A]
  .cases r:c%08=1
   .simp[yS,m,n,j,g,i,o,r]
   .cases u:03<c%08
    .induction c4:KJ (JT s.q.rows).2.1
     .simp[yS,m,n,j,g,i,o,A,r,u,G,H,c4]
     .simp[yS,m,n,j,g,i,o,A,r,u,G,H,c4]
    .simp[yS,m,n,j,g,i,o,A,r,u]
def D8(h:StB b p l c a s.ps s.q (s.ld++[s.x])):yN (.adr a.1) %[.int 1|b]=.ok %[.adr a.2.1|b]/\yN (.adr a.1) %[.int 2|b]=.ok %[.adr a.2.2|b]:=by
 constructor<;>rw[Da h.at_.pl,]<;>rfl
def pV(h:StB f p l o a s.ps s.q (s.ld++[s.x]))(z:Bsz s)(g:0<⇑e)(b c:3):nh (yS p l e b c a.1) f=.ok (.next (yS p l e b c a.1)<|Qo f a.2.1<|.lst<|(s.q.givens++[jU e ((⇑s.ps:3)+1+(⇑s.q.givens:3))]).map .str):=by
 let i:=h.dp;let j:=h.da;let m:jy [qY (s.ps++[s.q])]=!(.int<|(⇑s.ps:3)+1):=by show some (D.int (⇑((s.ps++[s.q]).map Qu):3))=_;simp
 let n:⇑(s.q.givens.map D.str)<00:=by rw[Zql,];rw[Qb<|by let:=z.ga s.q ();lia]
 ext nh;simp[(D8 h).1,Bi h.at_.gv,i,j,Gs g<|(⇑s.ps:3)+1+(⇑s.q.givens:3),m,g,Bj h.at_.gv n]
def l5(h:StB i p l A a s.ps s.q (s.ld++[s.x]))(z:Bsz s)(f b:3)(n:s.q.rows ≠[]):∃g,ng (yS p l B f b a.1) i=.ok (.next g<|Qo i a.2.2<|.lst<|(s.q.rows.dropLast++[%[(012).1,(JT s.q.rows).2.1|(JT s.q.rows).2.2++[Ka b (JR s.q-1)]]]).map jB):=by
 let q:=h.da;let r:=(D8 h).2;let o:=Gu n;let t:012 ∈s.q.rows:=by
  let:=Ui s.q.rows.dropLast<|Jd.mpr (9:012=012);rw[<-o]at this;rw[this]
 let(!_,_,C,E):=z.ta _ t;let e:s.q.rows.map jB=s.q.rows.dropLast.map jB++[jB 012]:=by
  conv=>lhs;rw[o]
  simp
 let u:ju (.lst<|s.q.rows.map jB) (.int<|-1)=!(jB<|012):=by
  show qa (s.q.rows.map jB) (-1)=_;rw[e,Xm]
 let F:jy [D.lst (s.q.givens.map D.str)]=! .int (⇑s.q.givens:3):=by show some (D.int (⇑(s.q.givens.map D.str):3))=_;rw[Zql,]
 let v:(⇑s.q.givens:3)+(⇑s.q.rows:3)=JR s.q:=9;let G:=z.g1;let H:=z.ga s.q ();let I:=z.ra;let w:=Gr (c:=b) (a:=JR s.q-1) (by let:=Jn.mpr n;lia) ();let x:CC (j3 (JT s.q.rows).2.2) (.tup [qy (Ka b<|JR s.q-1)])=!(j3<|(JT s.q.rows).2.2++[Ka b (JR s.q-1)]):=by
  show(if((JT s.q.rows).2.2.map qy).length+1<=00 then !(D.tup<|(JT s.q.rows).2.2.map qy++[qy (Ka b<|JR s.q-1)])else 8)=_;rw[Zd (small<|by rw[Zql,];lia),];ext j3;rw[Uc,List.map_singleton]
 let m:Ks 08 (.tup [.str (012).1,.str (JT s.q.rows).2.1,j3 ((JT s.q.rows).2.2++[Ka b (JR s.q-1)])])=6:=FY 05 %[(012).1,(JT s.q.rows).2.1|(JT s.q.rows).2.2++[Ka b (JR s.q-1)]];let eq:∀g d,XE g d a.2.2 %[.int (-1)|i]=.ok (.next g<|Qo i a.2.2<|.lst<|s.q.rows.dropLast.map jB++[d]):=λg d=>by
  rw[F8 h.at_.rw_ (j:=⇑s.q.rows.dropLast) (by rw[e,<-@List.length_map _ _ s.q.rows.dropLast jB];rw[FX _ _]),e,<-@List.length_map _ _ s.q.rows.dropLast jB,F9]
 let y:=FY 05<|012;ext ng;simp[r,q,u,v,w,x,m,y,eq];rfl
def pT(h:StB j p l m a s.ps s.q (s.ld++[s.x]))(z:Bsz s)(n:0<⇑ws)(c f:3):∃g,nc (yS p l ws c f a.1) j=.ok (.next (yS p l ws c f a.1) g)/\(∀b,je j b≠8->je g b≠8)/\
 StB g p l m a s.ps (s.q.name,s.q.givens,s.q.rows++[(qA ws s.ps s.q s.ld s.x (c/08) f).1]) (s.ld++[(qA ws s.ps s.q s.ld s.x (c/08) f).2]):=by
 let t:=z.g1;let u:=z.ga s.q ();let v:=z.ra;let(-g,e,k,i):=OC h z.ll n (by ext JR;lia) (by ext JR;lia) (c/08) f λr o=>by let:=z.ga r (by simp[o]);lia
 let q:⇑(s.q.rows.map jB)<00:=by rw[Zql,];rw[Qb ()]
 rw[(Qo g a.2.2<|.lst<|(s.q.rows++[(qA ws s.ps s.q s.ld s.x (c/08) f).1]).map jB,?_,λb w=>Bm ?_,i.rows<|s.q.rows++[(qA ws s.ps s.q s.ld s.x (c/08) f).1])]
 .ext nc;simp[(D8 h).2,Bi h.at_.rw_,e,Bj i.at_.rw_ q]
 .cases y:b=l
  .rw[y,i.hl];simp
  ext
def OG{k:5}(a:k<⇑ws):ju (.lst<|ws.map .str) (.int (k:3))=!(.str<|jU ws (k:3)):=by
 let:=Gs (ws:=ws) () (k:3);rw[We () ()]at this;rw[this]
noncomputable abbrev wh(p l:Addr)(ws:Yi)(what cell:3)(a:Addr):SD:=[~~~.adr p,~~~.adr l,~~~(.lst<|ws.map .str),~~~.int what,~~~.int cell,~~~.adr a,~~~(.int<|what%08),~~~(.int<|1+cell%04),8]
def l7(h:StB i p l A a s.ps s.q (s.ld++[s.x]))(z:Bsz s)(hw:⇑s.ps+2<⇑ws)(f e:3):(fI (yS p l ws f e a.1) i).need (λo=>∃sd u E a',o=.next sd u/\(∀b,je i b≠8->je u b≠8)/\
 StB u p l E a' (s.ps++[s.q]) (jU ws<|(⇑s.ps:3)+1,(ws.drop<|⇑s.ps+2).take (1+e%04).toNat,[]) (s.ld++[s.x]++[0])) λ_ _=>False:=by
 let e1:=h.dp;let ep:jy [qY (s.ps++[s.q])]=!(.int<|(⇑s.ps:3)+1):=by show some (D.int (⇑((s.ps++[s.q]).map Qu):3))=_;rw[Zql,Ua,Ug];simp
 let S:=OG (ws:=ws) (k:=⇑s.ps+1) ();rw[show((⇑s.ps+1:5):3)=(⇑s.ps:3)+1 by lia]at S;let T:Q1 (ws.map D.str) (!(⇑s.ps:3)+1+1) (!(⇑s.ps:3)+1+1+(1+e%04)) 8=((ws.drop<|⇑s.ps+2).take (1+e%04).toNat).map .str:=by
  let c0:=()
  rw[OE _ () (),show((⇑s.ps:3)+1+1).toNat=⇑s.ps+2 by lia,show((⇑s.ps:3)+1+1+(1+e%04)).toNat-(⇑s.ps+2)=(1+e%04).toNat by lia,<-List.map_drop,<-List.map_take]
 let(U,n2,n3,n4,n5,n6,n7,n8,n9,n10,F):=h.ne;let G:(qH<|JJ (yM 05 [0]<|jh ju (ja 2)<|007)<|JJ (yG 05 [0]<|zW (ja 2) (Q8<|jh j6 007<|005) (Q8<|jh j6 (jh j6 007<|005)<|ja 07) Kl)<|JJ (qH qb) qb) (wh p l ws f e a.1) i=
  .new i λg=>.new (%[g|.lst (((ws.drop<|⇑s.ps+2).take (1+e%04).toNat).map .str)]::i) λr=>.new (%[r|.lst []]::%[g|.lst (((ws.drop<|⇑s.ps+2).take (1+e%04).toNat).map .str)]::i) λb=>.ok %[.adr b|%[b|.lst [.str (jU ws<|(⇑s.ps:3)+1),.adr g,.adr r]]::%[r|.lst []]::%[g|.lst (((ws.drop<|⇑s.ps+2).take (1+e%04).toNat).map .str)]::i]:=by
  let(X,hgs):∃X,X=(ws.drop<|⇑s.ps+2).take (1+e%04).toNat:=(_,9);rw[<-hgs]at T ⊢;simp[wh,yG,e1,ep,S,T,OF]
 let es:fI (yS p l ws f e a.1) i=(jV (xz (vL<|015)<|qH<|JJ (yM 05 [0]<|jh ju (ja 2)<|007)<|JJ (yG 05 [0]<|zW (ja 2) (Q8<|jh j6 007<|005) (Q8<|jh j6 (jh j6 007<|005)<|ja 07) Kl)<|JJ (qH qb) qb)<|xz (vL<|ja 1)<|vL<|022) (wh p l ws f e a.1) i:=by
  ext fI;rw[F7,];simp[yS,wh]
 rw[es,F7];rw[Wr.need_bind.mpr ?_];let e0:xz (vL<|015) (qH<|JJ (yM 05 [0]<|jh ju (ja 2)<|007)<|JJ (yG 05 [0]<|zW (ja 2) (Q8<|jh j6 007<|005) (Q8<|jh j6 (jh j6 007<|005)<|ja 07) Kl)<|JJ (qH qb) qb) (wh p l ws f e a.1) i=
  ((qH<|JJ (yM 05 [0]<|jh ju (ja 2)<|007)<|JJ (yG 05 [0]<|zW (ja 2) (Q8<|jh j6 007<|005) (Q8<|jh j6 (jh j6 007<|005)<|ja 07) Kl)<|JJ (qH qb) qb) (wh p l ws f e a.1) i).bind (XD (wh p l ws f e a.1) p):=by
  show Y7 _ (wh p l ws f e a.1) %[.adr p|i]=_;rw[Bi h.hp_,]
 rw[e0,G];intro g hg r w b t;rw[Qj]at w;let H:r≠g:=λy=>by rw[Zd y]at w;cases w
 rw[Ze H]at w;rw[Qj]at t;let I:b≠r:=λy=>by rw[Zd y]at t;cases t
 rw[Ze I,Qj]at t;let J:b≠g:=λy=>by rw[Zd y]at t;cases t
 rw[Ze J]at t;let(n,h3e):∃n:HP,n=%[b|.lst [.str (jU ws<|(⇑s.ps:3)+1),.adr g,.adr r]]::%[r|.lst []]::%[g|.lst (((ws.drop<|⇑s.ps+2).take (1+e%04).toNat).map .str)]::i:=(_,9);let j:∀c,je i c≠8->je n c=je i c/\c≠b/\c≠r/\c≠g:=λc hc=>by
  let B:c≠b:=λy=>hc (by rw[y,];rw[t]);let C:c≠r:=λy=>hc (by rw[y,];rw[w]);let Y:c≠g:=λy=>hc (by rw[y,];rw[hg]);rw[(?_,B,C,Y)];rw[h3e,Qj,Ze B,Qj,Ze C,Qj,Ze Y]
 let L:je n b=! .lst [.str (jU ws<|(⇑s.ps:3)+1),.adr g,.adr r]:=by rw[h3e,Qj,Zd 9]
 let M:je n r=! .lst []:=by rw[h3e,Qj,Ze I.symm,Qj,Zd 9]
 let N:je n g=!(.lst<|((ws.drop<|⇑s.ps+2).take (1+e%04).toNat).map .str):=by rw[h3e,Qj,Ze J.symm,Qj,Ze H.symm,Qj,Zd 9]
 let(!O,pb,pr,pg):=j p (by rw[h.hp_,];simp);let(!Z,lb,lr,lg):=j l (by rw[h.hl,];simp);rw[h.hp_]at O;rw[h.hl]at Z;let la:=h.len;let zn:=z.na;show(XD (wh p l ws f e a.1) p %[.adr b|_]).need _ _;rw[<-h3e,Bj O (by rw[Zql,Ua,Ug];rw[Qb ()])];show(xz (vL<|ja 1) (vL<|022) (wh p l ws f e a.1) _).need _ _;let(q,h4e):∃q,q=Qo n p (.lst<|(A++[a]).map (λb=>D.adr b.1)++[.adr b]):=(_,9);rw[<-h4e];let pn:je n p≠8:=by rw[O,];simp
 let x:∀c,c≠p->je q c=je n c:=λc hc=>by rw[h4e,];rw[KE pn hc]
 let v:je q l=!(.lst<|(s.ld++[s.x]).map .int):=(x l U.symm).trans Z;let P:⇑((s.ld++[s.x]).map D.int)<00:=by rw[Zql,Ua,Ug];rw[Qb<|by let:=z.ll;lia]
 let e5:xz (vL<|ja 1) (vL<|022) (wh p l ws f e a.1) q=.ok (.next (wh p l ws f e a.1)<|Qo q l<|.lst<|(s.ld++[s.x]).map D.int++[.int 0]):=by
  show Y7 _ (wh p l ws f e a.1) %[.adr l|q]=_;rw[Bi v,];show XD _ _ %[.int 0|q]=_;rw[Bj v P,]
 rw[e5,];let Q:je q l≠8:=by rw[v,];simp
 let m:∀c,c≠p->c≠l->je (Qo q l<|.lst<|(s.ld++[s.x]).map D.int++[.int 0]) c=je n c:=λc B C=>by rw[KE Q C,x c B]
 rw[jW _ _ (A++[a]) %[b,g|r] (9,λc hc=>Bm<|by rw[h4e,];rw[Bm<|by rw[(j c hc).1,];rw[hc]],?_)];rw[(?_,?_,(h.all.mono λc hc=>?_).snoc<|h.at_.mono λc hc=>?_,(?_,?_,?_),?_)]
 .rw[KE Q U,h4e,Bn pn];simp
 .rw[Bn Q,];simp
 .let(!k1,k2,_):=F c hc;rw[(m c k1 k2).trans (j c<|h.all.has c hc).1]
 .let hh:=h.at_.has c hc;let:c=a.1\/c=a.2.1\/c=a.2.2:=by simpa using hc
  rw[(m c ?_ ?_).trans (j c hh).1]
  .rcases this with rfl|rfl|rfl
   .rw[n2.symm]
   .rw[n3.symm]
   .rw[n4.symm]
  .rcases this with rfl|rfl|rfl
   .rw[n5.symm]
   .rw[n6.symm]
   .rw[n7.symm]
 .rw[(m b pb.symm lb.symm).trans L]
 .rw[(m g pg.symm lg.symm).trans N]
 .rw[(m r pr.symm lr.symm).trans M]
 .let nd:=h.nd;let has:∀c∈p::l::qE (A++[a]),je i c≠8:=λc hc=>by
   obtain rfl|hc:=UY.mp hc
   .rw[h.hp_,];simp
   .rcases UY.mp hc with rfl|hc
    .rw[h.hl,];simp
    .rw[(h.all.snoc h.at_).has c hc]
  rw[NM,];show(p::l::qE (A++[a])++[b,g,r]).Nodup;rw[Ju.mpr (nd,?_,λc hc d hd y=>?_)]
  .simp[J,I,H.symm]
  .let R:=j c<|has c hc;let:d=b\/d=g\/d=r:=by simpa using hd
   obtain rfl|rfl|rfl:=this
   .rw[R.2.1 y]
   .rw[R.2.2.2 y]
   .rw[R.2.2.1 y]
def cZ(h:StB u p l j a s.ps s.q (s.ld++[s.x]))(z:Bsz s)(v:⇑s.ps+2<⇑ws)(f g:3):(BA [.adr p,.adr l,.lst (ws.map .str),.int f,.int g] u).need (λr=>∃i m,StB r.2 p l i m (XM ws s f g).ps (XM ws s f g).q ((XM ws s f g).ld++[(XM ws s f g).x])) λ_ _=>False:=by
 rw[aw 9 ?_];show(Wr.bind (Av [~~~.adr p,~~~.adr l,~~~(.lst<|ws.map .str),~~~.int f,~~~.int g,8,8,8,8] u) zf).need _ _;rw[er h z,];ext XM
 split
 .rw[Wr.need_bind.mpr<|(l7 h z v f g).mono (λo w=>?_) λ_ _ y=>y];let(x n i m,rfl,k,q):=w;rw[(k,i,m,q)]
 .split
  .rw[pV h z (),];rw[(λb t=>Bm t,j,a,h.given _)]
  .split
   .rename_i c;let(x,e):=l5 h z f g c.2.1;rw[e,];rw[(λb t=>Bm t,j,a,h.rows _)]
   .let(-n,e,k,q):=pT (ws:=ws) h z () f g;rw[e,];rw[(k,j,a,q)]
end
def D9:FS:=jp (jA 2<|dC<|.str "abcdefghijklmnopqrstuvwxyz0123456789")<|jp (jA 03<|qI<|J2 (dC<|.str "plan")<|J2 (dC<|.str "given")<|J2 (dC<|.str "all")<|J2 (dC<|.str "first")<|J2 (dC<|.str "part") jb)<|jp (qS (wX<|J2 (jh j6 (jj jy<|018)<|dC<|.int 06) jb) (.one 04)<|jp (jA 05<|jh ju (ja 2)<|jh jP (jh j6 015<|ja 04)<|dC<|.int 26)<|jp (jA 06<|jh Kk (jh j6 015<|ja 04)<|dC<|.int 26)<|jp (Wq (J9<|jh vw (ja 06)<|022) (jp (jA 05<|jh j6 (ja 05)<|jh ju (ja 2)<|jh jP (ja 06)<|dC<|.int 36)<|jA 06<|jh Kk (ja 06)<|dC<|.int 36) 60)<|xx (Kr (J9<|jh (yE 6) (ja 05)<|ja 1)<|J9<|jh (yE 6) (ja 05)<|ja 03) (j0<|ja 05) Qa)<|j0<|dC<|.str ""
def BB:YC->Res D:=jJ 07 2 D9
def wC:FT:=J9<|jh vw (ja 06)<|022
def mY:FS:=jp (jA 05<|jh j6 (ja 05)<|jh ju (ja 2)<|jh jP (ja 06)<|dC<|.int 36)<|jA 06<|jh Kk (ja 06)<|dC<|.int 36
theorem OH :∀(f n:5)(a:Yh),n<36^f->⇑a+f<=100->Wq wC mY (f+1) [x0,x1,~~~.str w6,x3,x4,~~~(.str<|vt a),~~~.int n]=
 .ok (.next [x0,x1,~~~.str w6,x3,x4,~~~(.str<|vt<|a++xh f n),~~~.int 0])
 |f,n,a,hn,ha=>by
  cases z:n=0
  .subst z;let e:xh f 0=[]:=by cases f<;>simp[xh]
   rw[e,ZA];rw[NL,];simp[wC]
  .cases f with
   |zero=>simp at hn;lia
   |succ f=>
    let b:=N9 (k:=(n:3)%36) () ();rw[show((n:3)%36).toNat=n%36 by lia]at b;let c:j6 (.str<|vt a) (.str ⟨#[xX (n%36)]⟩)=!(.str<|vt<|a++[xX (n%36)]):=by
     rw[<-eU];rw[Zd<|small ?_];rw[lL,];show ⇑a+1<=1000;lia
    let g:=OH (x0:=x0) (x1:=x1) (x3:=x3) (x4:=x4) f (n/36) (a++[xX (n%36)]) (by rw[Nat.pow_succ]at hn;rw[VV ()]) (by rw[Ua,Ug];lia);let h:xh (f+1) n=xX (n%36)::xh f (n/36):=by
     show(if n=0 then _ else _)=_;rw[Ze z,]
    rw[h,];rw[show a++xX (n%36)::xh f (n/36)=a++[xX (n%36)]++xh f (n/36)by simp,<-g];rw[NL,];let i:0<n:=()
    simp[wC,mY,b,c,i]
def nB:FS:=jp (jA 05<|jh ju (ja 2)<|jh jP (jh j6 015<|ja 04)<|dC<|.int 26)<|jp (jA 06<|jh Kk (jh j6 015<|ja 04)<|dC<|.int 26)<|jp (Wq wC mY 60)<|xx (Kr (J9<|jh (yE 6) (ja 05)<|ja 1)<|J9<|jh (yE 6) (ja 05)<|ja 03) (j0<|ja 05) Qa
def im{n k:5}{b:Yi} (f:n+k<26*36^11)(g:∀u∈b,asc u):∃h i,nB [~~~.int n,~~~(.lst<|b.map .str),~~~.str w6,~~~(.lst<|zF.map .str),~~~.int k,x5,x6]=
 if QD (n+k)∉b/\QD (n+k)∉zF then .ok (.ret<|.str<|QD<|n+k)else .ok (.next [~~~.int n,~~~(.lst<|b.map .str),~~~.str w6,~~~(.lst<|zF.map .str),~~~.int k,h,i]):=by
 let c:=N9 (k:=((n:3)+k)%26) () ();rw[show(((n:3)+k)%26).toNat=(n+k)%26 by lia]at c;let e:=OH (x0:= ~~~.int n) (x1:= ~~~(.lst<|b.map .str)) (x3:= ~~~(.lst<|zF.map .str)) (x4:= ~~~.int k) 59 ((n+k)/26) [xX ((n+k)%26)] (Zg (VV f) NF) ();let j:vt ([xX ((n+k)%26)]++xh 59 ((n+k)/26))=QD (n+k):=9;let l:(⟨#[xX ((n+k)%26)]⟩:Str)=vt [xX ((n+k)%26)]:=9;rw[l]at c;rw[j,show(((n+k)/26:5):3)=((n:3)+k)/26 by lia]at e;let m:=NJ (neg:=6) (FR<|n+k) aQ;rw[jR (~~~(.str<|QD<|n+k)) (~~~.int 0) ?_];ext nB;simp[c,e,NJ (FR<|n+k) g];cases a:QD (n+k)∈b
 .simp[a]
 ext
theorem OI {b:Yi}(f:∀u∈b,asc u):∀(a:Yh)(g x5 x6:02 SV),(∀k∈a,n+k<26*36^11)->(∃k∈a,QD (n+k)∉b/\QD (n+k)∉zF)->
 ∃k∈a,(QD (n+k)∉b/\QD (n+k)∉zF)/\xg (.one 04) nB (a.map λk:5=>D.int k) [~~~.int n,~~~(.lst<|b.map .str),~~~.str w6,~~~(.lst<|zF.map .str),g,x5,x6]=.ok (.ret<|.str<|QD<|n+k)
 |[],_,_,_,_,h=>by ext
 |k::a,g,x5,x6,hb,h=>by
  let(l m,e):=im (x5:=x5) (x6:=x6) (hb k Zqs) f;cases c:QD (n+k)∉b/\QD (n+k)∉zF
  .simp_all[NK]
  .let(-j,hj,o,q):=OI f a (~~~.int k) l m (λz p=>hb z<|Zqm _ p) (by
    let(-j,hj,i):=h;obtain rfl|hj:=UY.mp hj
    .rw[Zn i c]
    .rw[(j,hj,i)])
   rw[(j,Zqm _ hj,o,?_)]
   simp_all[NK]
def b8 {a:Yi}(f:n+⇑a+06<26*36^11)(r:⇑a<=100)(g:∀u∈a,asc u):∃w,BB [.int n,.lst (a.map .str)]=.ok (.str w)/\wH w/\w∉a:=by
 let(-h,i,j):=iq f;let(-k,b,(l,m),e):=OI g (List.range<|⇑a+06) 8 8 8 λk b=>by rw[VR]at b;lia (h,VR.mpr i,j);rw[VR]at b;rw[(QD<|n+k,?_,(n+k,(),9,m),l)];let o:W2 [.int ((⇑a:3)+06)]=.ok ((List.range<|⇑a+06).map λk:5=>D.int k):=by
  rw[X7 () (),];show Res.ok ((List.range ((⇑a:3)+06).toNat).map λk:5=>D.int<|0+k)=_
  grind
 ext BB D9;let p:D.lst [D.str "plan",D.str "given",D.str "all",D.str "first",D.str "part"]=.lst (zF.map .str):=9;let q:D.str "abcdefghijklmnopqrstuvwxyz0123456789"=.str w6:=9;let c:=e;unfold nB wC mY at c;simp[o,p,q,c]
def DA:FS:=jp (jA 2<|jh jP (JB QC<|J2 015<|J2 022 jb)<|jh xf (dC<|.int 26)<|jh yT (dC<|.int 36)<|dC<|.int 10)<|jp (jA 03<|jh ju (qI<|J2 005<|J2 (dC<|.int 26)<|J2 (dC<|.int 936)<|J2 (dC<|.int 33696)<|J2 (dC<|.int 1213056) jb)<|jh jP (JB QC<|J2 015<|J2 005 jb)<|dC<|.int 05)<|jp (qX 04<|qI jb)<|jp (qS (wX<|018) (.one 05)<|Wy 04<|yB [04]<|JB BB<|J2 (jh j6 (ja 2)<|jh xf (ja 05)<|ja 03)<|J2 (ja 04) jb)<|KO 04
def YQ:YC->Res D:=q9 06 2 DA
def DB(a:Yf)(k:5):QC [.lst (a.map .int),.int k]=.ok (.int<|JU a k):=by
 ext JU;rw[Uy,];let f:⇑(a.map D.int)=⇑a:=by simp
 cases h:k<⇑a
 .let e:ju (.lst<|a.map .int) (.int (k:3))=! .int a[k]:=by
   show qa (a.map D.int) (k:3)=_;rw[Kt (by rwa[Zql,]),Zv,Zqg h];rfl
  simp_all[QC,YJ]
 .let b:a.getD k 0=0:=by ext
  rw[b,];generalize a.map D.int=l at*;let c:¬k<⇑l:=()
  simp[QC,YJ,c]
def b7{g:Yf}{many:5}(G:many<=40):∃f:Yi,YQ [.lst (g.map .int),.int many]=.ok (.lst<|f.map .str)/\⇑f=many/\f.Nodup/\∀w∈f,wH w:=by
 let H:QC [.lst (g.map .int),.int 0]=.ok (.int<|JU g 0):=DB g 0;let I:QC [.lst (g.map .int),.int 1]=.ok (.int<|JU g 1):=DB g 1;let p:yT (.int 36) (.int 10)=! .int 3656158440062976:=9;let J:xf (.int 26) (.int 3656158440062976)=! .int 95060119441637376:=9;let L:(95060119441637376:5)*36=26*36^11:=by decide+kernel
 let(b,hb,b0,b1):∃b:5,JU g 0%95060119441637376=(b:3)/\0<=b/\b<95060119441637376:=((JU g 0%95060119441637376).toNat,(),(),());let(q,hq,q0,q5):∃q:3,JU g 1%05=q/\0<=q/\q<05:=(_,9,(),());let(h,hst,v):∃h:5,qa [D.int 1,D.int 26,D.int 936,D.int 33696,D.int 1213056] q=! .int h/\h<=1213056:=by
  let:q=0\/q=1\/q=2\/q=03\/q=04:=()
  obtain rfl|rfl|rfl|rfl|rfl:=this
  .rw[(1,9,())]
  .rw[(26,9,())]
  .rw[(936,9,())]
  .rw[(33696,9,())]
  .rw[(1213056,9,())]
 let M:W2 [.int many]=.ok (Qn 0 many):=by rw[X7 () (),Uy]
 let(-m,e,(f,o,y,l,r,j)):=Xc (tg:=.one 05) (b:=Wy 04<|yB [04]<|JB BB<|J2 (jh j6 (ja 2)<|jh xf (ja 05)<|ja 03)<|J2 (ja 04) jb) (ds:=Qn 0 many)
  (P:=λi m=>∃(f:Yi)(o:02 SV),m=[~~~(.lst<|g.map .int),~~~.int many,~~~.int b,~~~.int h,!(.own 7<|.lst<|f.map .str),o]/\⇑f=i/\f.Nodup/\∀w∈f,wH w) ([],8,9,9,.nil,λw j=>by cases j) (by
   rintro i x m s ⟨f,o,rfl,l,r,j⟩;let(rfl,N):=C8 s;let A:i*h<=40*1213056:=Vv () v;have(w,e,O,B):=b8 (n:=b+i*h) () () λu C=>(j u C).ok.asc;let t:xf (.int (i:3)) (.int h)=! .int ((i*h:5):3):=by
    rw[X6 (C7 () ()),];simp
   let E:⇑f<00:=Qb ();rw[([~~~(.lst<|g.map .int),~~~.int many,~~~.int b,~~~.int h,!(.own 7<|.lst<|(f++[w]).map .str),~~~(.int<|0+(i:3))],?_,f++[w],_,9,by simp[l],?_,λx s=>?_)]
   .simp[Int.natCast_mul]at e t;simp[t,e,E]
   .rw[Ju.mpr (r,V3 _ _,λa Q c F z=>B<|by rw[Jd.mp F]at z;rwa[<-z])]
   .rcases Jb.mp s with z|z
    .rw[j x z]
    .rwa[Jd.mp z,])
 rw[ZU]at l;rw[(f,?_,l,r,j)]
 simp_all[YQ,DA]
def BC:xu:=jV (zL<|jA 1<|JB YQ<|J2 015<|J2 (dC<|.int 26) jb)<|jV (xK 2<|qH<|JJ (qH<|JJ (vL<|jh ju (ja 1)<|022)<|JJ (yG 05 []<|zW (ja 1) (Q8<|005) (Q8<|jh j6 023<|jh jP (jh Kk (JB QC<|J2 015<|J2 005 jb)<|dC<|.int 05)<|dC<|.int 04) Kl)<|JJ (qH qb) qb) qb)<|jV (xK 03<|qH<|JJ (vL<|022) qb)<|jV (v3 (fA<|J2 023<|J2 (jj Y2<|J2 007<|J2 (dC<|.int 38) jb)<|J2 023 jb) (.one 04)<|CY<|XC BA<|JJ (vL<|ja 2)<|JJ (vL<|ja 03)<|JJ (vL<|ja 1)<|JJ (vL<|jh ju 015<|ja 04)<|JJ (vL<|JB QC<|J2 015<|J2 (jh j6 (ja 04)<|005) jb) qb)<|jV (Wp (y8 05 [2]<|J9<|jh xI (jh ju (jh ju (ja 2)<|jZ qc<|005)<|023)<|qI jb) (xz (zG (zG (vL<|ja 2)<|vL<|jZ qc<|005)<|vL<|023)<|XC Au<|JJ (vL<|ja 2)<|JJ (vL<|ja 03)<|JJ (vL<|ja 1)<|JJ (vL<|022)<|JJ (vL<|022) qb) Ag)<|zw<|vL<|ja 2
structure RwW(ps:List Pl)(ahead:3)(n:5)(r:Str×Str×J0):4 where
 how:KJ r.2.1=6/\⇑r.2.2<=n+1\/KJ r.2.1=7/\∃p∈ps,r.2.1=p.name/\⇑r.2.2=⇑p.givens
 low:1<=⇑r.2.2
 its:ItOk ahead r.2.2
structure PlW(ws:Yi)(i:5)(ps:List Pl)(n:5)(q:Pl):4 where
 nm:q.name=jU ws (i:3)
 th:∀(k:5)(x:Str),(q.givens++q.rows.map (·.1))[k]?=!x->x=jU ws ((i:3)+1+(k:3))
 g1:1<=⇑q.givens
 g12:⇑q.givens<=12
 h0:2*i<=n
 h1:q.rows ≠[]->2*i+1<=n
 sz:2*i+⇑q.givens+⇑q.rows<=n+04
 rw_:∀(k:5)(r:Str×Str×J0),q.rows[k]?=!r->RwW ps ((⇑q.givens:3)+(k:3)) n r
structure BW(ws:Yi)(n:5)(s:Bst):4 where
 all:∀(i:5)(q:Pl),s.ps[i]?=!q->PlW ws i (s.ps.take i) n q/\q.rows ≠[]
 last:PlW ws ⇑s.ps s.ps n s.q
 ll:⇑s.ld=⇑s.ps
def RwW.mono    (h:RwW i e n r)(o:n<=j)(l:∀p∈i,p∈f):RwW f e j r:=
 (h.how.imp (λ(a,b)=>(a,())) λ(a,p,b,c)=>(a,p,l p b,c),h.low,h.its)
theorem PlW.mono     (h:PlW c i e n q)(f:n<=j):PlW c i e j q:=
 (h.nm,h.th,h.g1,h.g12,by let:=h.h0;lia,λz=>by let:=h.h1 z;lia,by let:=h.sz;lia,λk r l=>(h.rw_ k r l).mono f λ_ y=>y)
structure WsOk(ws:Yi):4 where
 len:⇑ws=26
 nd:ws.Nodup
 ok:∀w∈ws,wH w
def WsOk.at_ (W:WsOk c)(k:3):jU c k∈c:=by
 let e:0<=k%(⇑c:3):=Vh _ (by let:=W.len;lia);let f:k%(⇑c:3)<(⇑c:3):=Vn _<|by let:=W.len;lia
 simp_all[jU]
def wH.noHow (h:wH x):KJ x=7:=by
 let(-m,_,_,c):=h;ext KJ;rw[Bool.or_eq_false_iff,];rw[(Zo λz=>c ?_,Zo λz=>c ?_)]<;>rw[z,]<;>simp[zF]
def aM (e:KJ h=6):TxtOk 12 h:=by
 unfold KJ at e;rw[UU,decide_eq_true_eq,decide_eq_true_eq]at e;obtain rfl|rfl:=e
 .rw[Nz<|by decide+kernel]
 .rw[Nz<|by decide+kernel]
def BW.names(B:BW c n s)(W:WsOk c):∀p∈s.ps++[s.q],p.name∈c/\1<=⇑p.givens/\⇑p.givens<=12:=λp e=>by
 obtain z|z:=Jb.mp e
 .let(-i,f):=VA z;let:=(B.all i p f).1;rw[(by rw[this.nm,];rw[W.at_ _],this.g1,this.g12)]
 .rw[Jd.mp z,];rw[(by rw[B.last.nm,];rw[W.at_ _],B.last.g1,B.last.g12)]
def PlW.rowTxt   (P:PlW f i o n q)(W:WsOk f)(j:∀p∈o,p.name∈f/\1<=⇑p.givens/\⇑p.givens<=12):∀z∈q.rows,wH z.1/\TxtOk 12 z.2.1/\1<=⇑z.2.2/\⇑z.2.2<=n+13:=λz r=>by
 let(k,l):=VA r;let R:=P.rw_ k z l;let e:(q.givens++q.rows.map (·.1))[⇑q.givens+k]?=!z.1:=by
  rw[Uv (),VP,Zv,l];rfl
 let:=P.th _ _ e;rw[(by rw[this,];rw[W.ok _<|W.at_ _],?_,R.low,?_)]
 .rcases R.how with ⟨a,_⟩|⟨_,p,b,c,_⟩
  .rw[aM a]
  .rw[c,];rw[(W.ok _ (j p b).1).ok]
 .rcases R.how with ⟨_,a⟩|⟨_,p,b,_,c⟩
  .omega
  .let:=(j p b).2.2;lia
theorem BW.sz(B:BW e n s)(W:WsOk e)(l:n<=19):Bsz s:=by
 let L:=B.last.sz;rw[(B.ll,B.last.g1,λr f=>(B.names W r f).2.2,(),λz i=>?_,by let:=B.last.h0;lia)];have(a,b,c,d):=B.last.rowTxt W λp j=>B.names W p<|by simp[j] z i;rw[(a.ok.asc,b.asc,c,())]
def OJ{j m k:5} (h:((a.drop j).take m)[k]?=!x):x=jU a ((j:3)+(k:3)):=by
 let b:=(Jc.mp h).1;rw[Uq,VJ]at b;rw[List.getElem?_take,Zd (),List.getElem?_drop]at h;ext jU;rw[We () (),Ue,show((j:3)+(k:3)).toNat=j+k by lia,h];rfl
def Gv (h:0<a):0<=(Ka c a).1/\(Ka c a).1<a:=(Vh _ (),Vn _ h)
def eC  (b:0<=k)(c:k<(⇑a:3)):qB a k∈a:=by
 ext qB;rw[Ue,Zqg ()];rw[UA _]
def aC(B:BW e n s)(W:WsOk e)(a b:3):(qA e s.ps s.q s.ld s.x a b).1.1=jU e ((⇑s.ps:3)+1+JR s.q)/\RwW s.ps (JR s.q) n (qA e s.ps s.q s.ld s.x a b).1:=by
 let f:0<JR s.q:=by ext JR;let:=B.last.g1;lia
 ext qA
 split
 .rename_i c;let i:0<(⇑s.ps:3):=by let:=Jn.mpr c.2.1;lia
  let l:0<=a/04%(⇑s.ps:3):=Vh _ ();let m:a/04%(⇑s.ps:3)<(⇑s.ps:3):=Vn _ i;let g:=eC l m;have(o,q,r):=B.names W _ (U9 _ g);rw[(9,.inr ((W.ok _ o).noHow,_,g,9,()),by simpa using q,λp h=>?_,λp h=>?_)]
  .let(j,_,rfl):=Ja.mp h;rw[Gv f]
  .let(j,_,rfl):=Ja.mp h;rw[Gq _]
 .rw[(9,.inl (?_,()),(),λp h=>?_,λp h=>?_)]
  .grind[wY,KJ]
  .rw[Jd.mp h,];rw[Gv f]
  .rw[Jd.mp h,];rw[Gq _]
def OK(B:BW g n s)(W:WsOk g)(a b x:3):BW g (n+1) (s.ps,(s.q.name,s.q.givens,s.q.rows++[(qA g s.ps s.q s.ld s.x a b).1]),s.ld,x):=by
 let(l,m):=aC B W a b;let L:=B.last;rw[(λi q j=>((B.all i q j).1.mono (),(B.all i q j).2),(L.nm,λk x c=>?_,L.g1,L.g12,by let:=L.h0;grind,λ_=>by let:=L.h0;simp_all,by let:=L.sz;simp;lia,λk r f=>?_),B.ll)]
 .rw[Uc,List.map_singleton,<-Ul]at c;obtain z|z:=US k (s.q.givens++s.q.rows.map (·.1)).length
  .rw[Uj z]at c;rw[L.th k x c]
  .rw[Uv z,Ua,Zql]at c;rw[Ua,Zql]at z;let h:k-(⇑s.q.givens+⇑s.q.rows)=0:=by
    let:=(Jc.mp c).1;simp at this;lia
   rw[h]at c;let c:(qA g s.ps s.q s.ld s.x a b).1.1=x:=Zqi c;rw[<-c,l];show jU g ((⇑s.ps:3)+1+JR s.q)=jU g ((⇑s.ps:3)+1+(k:3));ext JR
   congr 1
   lia
 .rcases US k ⇑s.q.rows with z|z
  .rw[Uj z]at f;rw[(L.rw_ k r f).mono () λ_ y=>y]
  .rw[Uv z]at f;let h:k-⇑s.q.rows=0:=by
    let:=(Jc.mp f).1;simp at this;lia
   rw[h]at f;let f:(qA g s.ps s.q s.ld s.x a b).1=r:=Zqi f;rw[<-f];let e:(⇑s.q.givens:3)+(k:3)=JR s.q:=by ext JR;lia
   rw[e,];rw[m.mono () λ_ y=>y]
def lP(B:BW g n s)(W:WsOk g)(F:n<=18)(h a:3):BW g (n+1) (XM g s h a):=by
 let L:=B.last;let m:∀i q,s.ps[i]?=!q->PlW g i (s.ps.take i) (n+1) q/\q.rows ≠[]:=λi q f=>((B.all i q f).1.mono (),(B.all i q f).2);ext XM
 split
 .rename_i c;let G:=L.h1 c.2;let H:=Vh a (show(04:3)≠0 by lia);let I:=Vn a (show(0:3)<04 by lia);let o:⇑((g.drop<|⇑s.ps+2).take (1+a%04).toNat)=(1+a%04).toNat:=by rw[Uq,VJ,W.len];lia
  rw[(λi q f=>?_,((),λk x e=>?_,by show 1<=⇑((g.drop _).take _);rw[o,];lia,by show((g.drop _).take _).length<=12;rw[o,];lia,by simp;lia,λz=>Zn 9 z,by show 2*⇑(s.ps++[s.q])+⇑((g.drop _).take _)+0<=_;rw[o,];simp;lia,λk r b=>by simp at b),by simp[B.ll])]
  .let f:(s.ps++[s.q])[i]?=!q:=f;obtain z|z:=US i ⇑s.ps
   .rw[Uj z]at f;let(!v,w):=m i q f;rw[show(s.ps++[s.q]).take i=s.ps.take i by rw[VU (),],];rw[(v,w)]
   .let l:=(Jc.mp f).1;simp at l;let A:i=⇑s.ps:=()
    subst A;rw[Uv (Zf _),VF]at f;let f:s.q=q:=Zqi f;subst f;rw[show(s.ps++[s.q]).take ⇑s.ps=s.ps by simp,];rw[(L.mono (),c.2)]
  .rw[List.map_nil,ZA]at e;rw[OJ e,]
   congr 1
   simp;lia
 .split
  .rename_i c;rw[(m,(L.nm,λk x e=>?_,(),by simp;lia,by let:=L.h0;show 2*⇑s.ps<=_;lia,λz=>Zn c.2.1 z,by let:=L.sz;simp;lia,λk r b=>?_),B.ll)]
   .let e:(s.q.givens++[jU g ((⇑s.ps:3)+1+(⇑s.q.givens:3))]++s.q.rows.map (·.1))[k]?=!x:=e;rw[c.2.1,List.map_nil,ZA]at e;obtain z|z:=US k ⇑s.q.givens
    .rw[Uj z]at e;rw[L.th k x ?_];rw[Uj z,];rw[e]
    .rw[Uv z]at e;let t:k-⇑s.q.givens=0:=by
      let:=(Jc.mp e).1;simp at this;lia
     rw[t]at e;let e:jU g ((⇑s.ps:3)+1+(⇑s.q.givens:3))=x:=Zqi e;rw[<-e];show _=jU g ((⇑s.ps:3)+1+(k:3))
     congr 1
     lia
   .let b:s.q.rows[k]?=!r:=b;rw[c.2.1]at b;simp at b
  .split
   .rename_i c;let l:=Gu c.2.1;let J:=Jn.mpr c.2.1;let ld:⇑s.q.rows.dropLast=⇑s.q.rows-1:=List.length_dropLast;let j:s.q.rows[⇑s.q.rows-1]?=! 012:=by
     conv=>lhs;rw[l]
     rw[Uv (by rw[List.length_dropLast,];simp),];simp
    rw[(m,(L.nm,λk x e=>?_,L.g1,L.g12,by let:=L.h0;show 2*⇑s.ps<=_;lia,λ_=>by let:=L.h1 c.2.1;show 2*⇑s.ps+1<=_;lia,by let:=L.sz;simp;lia,λk r b=>?_),B.ll)]
    .rw[L.th k x ?_];rw[<-e]
     congr 1
     show s.q.givens++s.q.rows.map (·.1)=s.q.givens++_
     congr 1
     conv=>lhs;rw[l]
     simp
    .let b:(s.q.rows.dropLast++[%[(012).1,(JT s.q.rows).2.1|(JT s.q.rows).2.2++[Ka a (JR s.q-1)]]])[k]?=!r:=b;obtain z|z:=US k ⇑s.q.rows.dropLast
     .rw[Uj z]at b;rw[(L.rw_ k r ?_).mono () λ_ y=>y]
      conv=>lhs;rw[l]
      rw[Uj z,];rw[b]
     .rw[Uv z]at b;let t:k-⇑s.q.rows.dropLast=0:=by
       let:=(Jc.mp b).1;simp at this;lia
      rw[t]at b;let b:%[(012).1,(JT s.q.rows).2.1|(JT s.q.rows).2.2++[Ka a (JR s.q-1)]]=r:=Zqi b;let R:=L.rw_ _ _ j;let C:((⇑s.q.rows-1:5):3)=(k:3):=()
      rw[C]at R;rw[<-b];let E:JR s.q-1=(⇑s.q.givens:3)+(k:3):=by ext JR;lia
      rw[(.inl (c.2.2,?_),(),λp u=>?_,λp u=>?_)]
      .rcases R.how with ⟨_,y⟩|⟨y,_⟩
       .simp;lia
       .rw[c.2.2]at y;cases y
      .rcases Jb.mp u with y|y
       .rw[R.its.rng p y]
       .rw[Jd.mp y,E];rw[Gv<|by let:=L.g1;lia]
      .rcases Jb.mp u with y|y
       .rw[R.its.far p y]
       .rw[Jd.mp y,];rw[Gq _]
   .rw[OK B W (h/08) a _]
def OL(b:Yf):∃a:Yi,YQ [.lst (b.map .int),.int 26]=.ok (.lst<|a.map .str)/\⇑a=26/\a.Nodup/\∀w∈a,wH w:=b7 (many:=26) ()
def y0(a:Yf):Yi:=Classical.choose<|OL a
def XN(a:Yf):YQ [.lst (a.map .int),.int 26]=.ok (.lst<|(y0 a).map .str)/\WsOk (y0 a):=by
 let(!b,c,e,f):=Wd (OL a);rw[(b,c,e,f)]
def xA(a:Yf):Bst:=([],(jU (y0 a) 0,((y0 a).drop 1).take (1+JU a 1/05%04).toNat,[]),[],0)
def Qi(a:Yf):5->Bst
 |0=>xA a
 |j+1=>XM (y0 a) (Qi a j) (JU a ((2+j*2:5):3)) (JU a ((2+j*2+1:5):3))
noncomputable def JW(a:Yf):5:=((min (⇑a:3) 38-2+1)/2).toNat
def uM(a:Yf)(s:Bst):Bst:=if s.q.rows=[]then(s.ps,(s.q.name,s.q.givens,s.q.rows++[(qA (y0 a) s.ps s.q s.ld s.x 0 0).1]),s.ld,(qA (y0 a) s.ps s.q s.ld s.x 0 0).2)else s
def Ku(a:Yf):Bst:=uM a<|Qi a<|JW a
def Kp(a:Yf):List Pl:=(Ku a).ps++[(Ku a).q]
def eW(a:Yf):⇑(((y0 a).drop 1).take (1+JU a 1/05%04).toNat)=(1+JU a 1/05%04).toNat:=by
 rw[Uq,VJ,(XN a).2.len];lia
def az(a:Yf):BW (y0 a) 0 (xA a):=by
 let f:=eW a;rw[(λi q c=>by simp[xA]at c,(9,λk x b=>?_,?_,?_,by simp[xA],λz=>Zn 9 z,?_,λk r e=>by simp[xA]at e),9)]
 .let b:(((y0 a).drop 1).take (1+JU a 1/05%04).toNat++[])[k]?=!x:=b;rw[ZA]at b;rw[OJ b]
 .show 1<=⇑((List.drop _ _).take _);lia
 .show((List.drop _ _).take _).length<=12;lia
 .show 2*0+⇑((List.drop _ _).take _)+0<=_;lia
theorem DC(a:Yf):∀j,j<=18->BW (y0 a) j (Qi a j)
 |0,_=>az a
 |j+1,h=>lP (DC a j ()) (XN a).2 () _ _
def BD(a:Yf):JW a<=18:=by
 ext JW;lia
def OM(a:Yf):BW (y0 a) 19 (Ku a)/\(Ku a).q.rows ≠[]:=by
 let h:=DC a (JW a)<|BD a;let e:=BD a;ext Ku uM
 split
 .let:=OK h (XN a).2 0 0 (qA (y0 a) (Qi a<|JW a).ps (Qi a<|JW a).q (Qi a<|JW a).ld (Qi a<|JW a).x 0 0).2;rw[((λi q b=>((this.all i q b).1.mono (),(this.all i q b).2),this.last.mono (),this.ll),())]
 .rename_i c;rw[((λi q b=>((h.all i q b).1.mono (),(h.all i q b).2),h.last.mono (),h.ll),c)]
open Classical in
def XO:YC->Res D:=λa=>if h:∃b:Yf,a=[.lst (b.map .int)]then .ok (qY<|Kp<|choose h)else .no
theorem ON:∀{a b:Yf},a.map D.int=b.map D.int->a=b
 |[],[],_=>9
 |[],_::_,h=>by cases h
 |_::_,[],h=>by cases h
 |x::a,y::b,h=>by
  injection h with c h2
  injection c with c
  rw[c,ON h2]
def b4(a:Yf):XO [.lst (a.map .int)]=.ok (qY<|Kp a):=by
 ext XO;let e:∃b:Yf,[D.lst (a.map .int)]=[.lst (b.map .int)]:=(a,9)
 grind[Classical.choose_spec,ON]
def kq:∀a,∀c fs,XO a ≠ .ex c fs:=λa c fs h=>by
 unfold XO at h
 split at h<;>cases h
def DD:xu:=CY<|XC BA<|JJ (vL<|ja 2)<|JJ (vL<|ja 03)<|JJ (vL<|ja 1)<|JJ (vL<|jh ju 015<|ja 04)<|JJ (vL<|JB QC<|J2 015<|J2 (jh j6 (ja 04)<|005) jb) qb
def uI:xu:=v3 (fA<|J2 023<|J2 (jj Y2<|J2 007<|J2 (dC<|.int 38) jb)<|J2 023 jb) (.one 04) DD
def kg:xu:=Wp (y8 05 [2]<|J9<|jh xI (jh ju (jh ju (ja 2)<|jZ qc<|005)<|023)<|qI jb) (xz (zG (zG (vL<|ja 2)<|vL<|jZ qc<|005)<|vL<|023)<|XC Au<|JJ (vL<|ja 2)<|JJ (vL<|ja 03)<|JJ (vL<|ja 1)<|JJ (vL<|022)<|JJ (vL<|022) qb) Ag
def g0:BC=(jV (zL<|jA 1<|JB YQ<|J2 015<|J2 (dC<|.int 26) jb)<|jV (xK 2<|qH<|JJ (qH<|JJ (vL<|jh ju (ja 1)<|022)<|JJ (yG 05 []<|zW (ja 1) (Q8<|005) (Q8<|jh j6 023<|jh jP (jh Kk (JB QC<|J2 015<|J2 005 jb)<|dC<|.int 05)<|dC<|.int 04) Kl)<|JJ (qH qb) qb) qb)<|jV (xK 03<|qH<|JJ (vL<|022) qb)<|jV uI<|jV kg<|zw<|vL<|ja 2):=rfl
abbrev wb(ns:Yf)(p l:Addr)(y:02 SV):SD:=[~~~(.lst<|ns.map .int),~~~(.lst<|(y0 ns).map .str),~~~.adr p,~~~.adr l,y]
def aj    (G:StB hp p l [] a (xA c).ps (xA c).q ((xA c).ld++[(xA c).x])):(uI (wb c p l 8) hp).need (λo=>∃y f m n,o=.next (wb c p l y) f/\StB f p l m n (Qi c<|JW c).ps (Qi c<|JW c).q ((Qi c<|JW c).ld++[(Qi c<|JW c).x])) λ_ _=>False:=by
 let(R,W):=XN c;let S:=BD c;let t:fA (J2 023<|J2 (jj Y2<|J2 007<|J2 (dC<|.int 38) jb)<|J2 023 jb) (wb c p l 8)=.ok (W7 2 2<|JW c):=by
  let H:Y2 [.int (⇑c:3),.int 38]=!(.int<|min (⇑c:3) 38):=by
   rw[T9,]
   congr 2
   split<;>lia
  let u:jy [.lst (c.map .int)]=! .int (⇑c:3):=by rw[AT,Zql]
  let I:Wo (min (⇑c:3) 38)=6:=EJ () ();let v:Wo 2=6:=EJ () ();ext fA;simp[wb,H,u,I,v,JW]
 ext uI v3;rw[t,];let w:=NN (tg:=.one 04) (b:=DD) (Q:=λ_ _=>False) (λj sd hp=>j<=JW c->∃y m n,sd=wb c p l y/\StB hp p l m n (Qi c j).ps (Qi c j).q ((Qi c j).ld++[(Qi c j).x])) (ds:=W7 2 2<|JW c) (sd:=wb c p l 8) (hp:=hp) 0 (λ_=>(8,[],a,9,G)) λi x sd hp s q=>by
  let E:i<JW c:=by
   let:=(Jc.mp s).1;unfold W7 at this;simpa using this
  let J:x=.int ((2+i*2:5):3):=by
   unfold W7 at s;rw[Zv,Vu E]at s;let:=(Zqi s).symm;rw[this,];simp
  subst J;rw[Vw]at q ⊢;let(y m n,rfl,h):=q ();let B:=DC c i ();let g:2+i*2<⇑c:=by unfold JW at E;lia
  let F:ju (.lst<|c.map .int) (.int ((2+i*2:5):3))=!(.int<|JU c ((2+i*2:5):3)):=by
   show qa (c.map D.int) ((2+i*2:5):3)=_;rw[Kt (by rw[Zql,];rw[g]),];ext JU;rw[Uy,Ue,Zv,Zqg g];rfl
  let A:=DB c<|2+i*2+1;let L:=B.last.sz;let T:=B.last.g1;let M:=cZ (ws:=y0 c) h (B.sz W ()) (by rw[W.len,];lia) (JU c ((2+i*2:5):3))<|JU c ((2+i*2+1:5):3);let e:Y8 (.one 04) DD (.int ((2+i*2:5):3)) (wb c p l y) hp=(BA [.adr p,.adr l,.lst ((y0 c).map .str),.int (JU c ((2+i*2:5):3)),.int (JU c ((2+i*2+1:5):3))] hp).bind λr=>.ok<|.next (wb c p l<|~~~.int ((2+i*2:5):3)) r.2:=by
   rw[show((2+i*2+1:5):3)=((2+i*2:5):3)+1 by lia]at A ⊢;generalize((2+i*2:5):3)=k at F A ⊢;ext Y8 DD;simp[wb,F,A]
  rw[e,];rw[Wr.need_bind.mpr<|M.mono (λr t=>?_) λ_ _ z=>z];let(C N,O):=t;rw[jR _ _ (9,λ_=>jg _ C N (9,O))]
 rw[w.mono (λo P=>?_) λ_ _ z=>z];let(sd,f,rfl,q):=P;let u:⇑(W7 2 2<|JW c)=JW c:=by ext W7;simp
 rw[u,Vw]at q;let(y m n,rfl,h):=q (Zf _);rw[jW y f m n (9,h)]
def pp      (h:StB i p l j a (Qi f<|JW f).ps (Qi f<|JW f).q ((Qi f<|JW f).ld++[(Qi f<|JW f).x])):∃g,kg (wb f p l y) i=.ok (.next (wb f p l y) g)/\StB g p l j a (Ku f).ps (Ku f).q ((Ku f).ld++[(Ku f).x]):=by
 let(x,W):=XN f;let A:=BD f;let z:=(DC f (JW f)<|BD f).sz W ();let q:=h.dp;let m:=N0<|OD λy n=>((z.ta y n).1,(z.ta y n).2.1);let s:ju (qY<|(Qi f<|JW f).ps++[(Qi f<|JW f).q]) (.int<|-1)=! Qu (Qi f<|JW f).q:=by
  show qa (((Qi f<|JW f).ps++[(Qi f<|JW f).q]).map Qu) (-1)=_;rw[Uc,List.map_singleton,Xm]
 let t:yN (.adr p) %[.int (-1)|i]=.ok %[.adr a.1|i]:=by
  rw[Da h.hp_,];show(Wr.of<|.ofO<|qa ((j++[a]).map λb=>D.adr b.1)<|-1).bind _=_;rw[Uc,List.map_singleton,Xm];rfl
 ext Ku uM;cases c:(Qi f<|JW f).q.rows=[]
 .rw[Zd c,];let B:=z.g1;let C:=z.ga (Qi f<|JW f).q ();let E:=z.ra;let(-g,e,k,o):=OC h z.ll (by rw[W.len,];lia) (by ext JR;lia) (by ext JR;lia) 0 0 λr u=>by let:=z.ga r (by simp[u]);lia
  let v:⇑((Qi f<|JW f).q.rows.map jB)<00:=by rw[Zql,];rw[Qb ()]
  rw[(Qo g a.2.2<|.lst<|((Qi f<|JW f).q.rows++[(qA (y0 f) (Qi f<|JW f).ps (Qi f<|JW f).q (Qi f<|JW f).ld (Qi f<|JW f).x 0 0).1]).map jB,?_,o.rows _)];let w:(Qi f<|JW f).q.rows.isEmpty=6:=by rw[c,];rfl
  rw[w]at m;ext kg;simp[q,s,m,t,(D8 h).2,Bi h.at_.rw_,e,Bj o.at_.rw_ v]
 simp_all[kg]
def iJ(f:Yf):((BC [~~~(.lst<|f.map .int),8,8,8,8] []).bind zf).need (λp=>dr p.2 05 p.1=qY (Kp f)) λ_ _=>False:=by
 let(F,W):=XN f;let G:ju (.lst<|(y0 f).map .str) (.int 0)=!(.str<|jU (y0 f) 0):=OG (ws:=y0 f) (k:=0) (by rw[W.len,];lia);let(n,hgs):∃n,n=((y0 f).drop 1).take (1+JU f 1/05%04).toNat:=(_,9);let R:=()
 let H:QC [.lst (f.map .int),.int 1]=.ok (.int<|JU f 1):=DB f 1;let I:Q1 ((y0 f).map D.str) (!1) (! 2+JU f 1/05%04) 8=n.map .str:=by
  rw[OE _ () (),hgs,List.map_take,List.map_drop,show(1:3).toNat=1 from 9,show(2+JU f 1/05%04).toNat-1=(1+JU f 1/05%04).toNat by lia]
 rw[g0,];simp[yG,F,G,H,I,OF];intro g S r J a q p j l i;let split:∀{c b:Addr}{d:D}{h:HP},je (%[c|d]::h) b=8->b≠c/\je h b=8:=λ{c b d h}e=>by
  rw[Qj]at e;cases z:b=c
  .rw[Zd z]at e;cases e
  .rw[Ze z]at e;rw[(z,e)]
 let(u,_):=split J;let(ar,q):=split q;let(v,_):=split q;let(w,j):=split j;let(x,j):=split j;let(A,_):=split j;let(s,i):=split i;let(B,i):=split i;let(C,i):=split i;let(E,_):=split i;let L:StB [%[l|D.lst [D.int 0]],%[p|D.lst [D.adr a]],%[a|D.lst [D.str (jU (y0 f) 0),D.adr g,D.adr r]],%[r|D.lst []],%[g|D.lst (n.map D.str)]] p l [] %[a,g|r] (xA f).ps (xA f).q ((xA f).ld++[(xA f).x]):=by
  rw[(?_,?_,9,(?_,?_,?_),?_)]
  .simp[Qj,s.symm]
  .simp[Qj,xA]
  .simp[Qj,B.symm,w.symm,xA]
  .simp[Qj,E.symm,A.symm,v.symm,u.symm,xA,hgs]
  .simp[Qj,C.symm,x.symm,ar.symm,xA]
  .simp[qE,s,w,x,A,B,C,E,ar,v,s.symm,u.symm]
 rw[Wr.need_bind.mpr<|Wr.need_bind.mpr<|(aj L).mono (λo M=>?_) λ_ _ z=>z];let(y m T U,rfl,N):=M;let(t,O,P):=pp N;let Q:zK (jV kg<|zw<|vL<|ja 2) (.next (wb f p l y) m)=.ok (.ret (.adr p) t):=by
  show(jV kg<|zw<|vL<|ja 2) (wb f p l y) m=_;rw[F7,O];simp
 rw[Q,];rw[P.dp]
def k9:∀a d,XO a=.ok d->⇑a=1/\((BC (Qt 05 a) []).bind zf).need (λp=>dr p.2 05 p.1=d) λ_ _=>False:=λa d h=>by
 unfold XO at h
 split at h
 .rename_i e;let b:=Wd e;generalize Classical.choose e=c at b h;cases h;subst b;rw[(9,iJ _)]
 .cases h
def YR(a:YC->Res D):FS:=jp (xx (xN (J9<|jj qd<|J2 (ja 1)<|J2 (dC<|.ty "tuple") jb)<|J9<|jj qd<|J2 (ja 1)<|J2 (dC<|.ty 013) jb) (jp (xx (xN (J9<|jh zr (jj qd<|J2 015<|J2 (dC<|.ty "tuple") jb)<|jj qd<|J2 (ja 1)<|J2 (dC<|.ty "tuple") jb)<|J9<|jh zr (jj qd<|J2 015<|J2 (dC<|.ty 013) jb)<|jj qd<|J2 (ja 1)<|J2 (dC<|.ty 013) jb) (j0<|dC<|.bl 7) Qa)<|jp (xx (J9<|jh zr 007<|jj jy<|018) (j0<|dC<|.bl 7) Qa)<|j0<|jj zM<|J2 (Q6 [8,!0,!1] (wX<|J2 (jj jy<|018) jb) (.one 0)<|JB a<|J2 (jh ju (ja 1)<|015)<|J2 (jh ju (ja 2)<|015) jb) jb) Qa)<|j0<|ZJ (Cm<|jj qd<|J2 015<|J2 (dC<|.ty "bool") jb)<|jh xI 015<|ja 1
def K4:5->YC->Res D
 |0=>λ_=>.no
 |n+1=>jJ 2 2 (YR<|K4 n)
def Gw:5->D->4
 |0,_=>False
 |n+1,d=>(∃x,d=.str x/\asc x)\/(∃i,d=.int i)\/∃a,(d=.lst a\/d=.tup a)/\⇑a<=1000/\∀e∈a,Gw n e
def iN {P:5->Bool}(h:∀i,i<n->P i=6):zM [.lst ((List.range n).map λi=>.bl<|P i)]=! .bl 6:=by
 let e:((List.range n).map λi=>D.bl<|P i)=((List.range n).map P).map .bl:=by rw[Zw,];rfl
 grind[Ly]
def OO(n:5):zM [.lst ((List.range n).map λ_=>.bl 6)]=! .bl 6:=iN (P:=λ_=>6) 002
theorem OP:∀(n:5)(d:D),Gw n d->K4 n [d,d]=.ok (.bl 6)
 |0,d,h=>h.elim
 |n+1,d,h=>by
  obtain⟨x,rfl,f⟩|⟨i,rfl⟩|⟨a,o,p,s⟩:=h
  .let e:xI (.str x) (.str x)=! .bl 6:=by rw[Cw (Xk f) (Xk f),ZP]
   simp[K4,YR,e]
  .simp[K4,YR]
  .let g:W2 [.int (⇑a:3)]=.ok (Qn 0 ⇑a):=by rw[X7 () (),Uy]
   let j:⇑(Qn 0 ⇑a)<00:=by rw[ZU,];rw[Qb p]
   let l:∀b:YC->D,b=.lst\/b=.tup->qg (.one 0) (JB (K4 n)<|J2 (jh ju (ja 1)<|015)<|J2 (jh ju (ja 2)<|015) jb) [8,~~~b a,~~~b a] (Qn 0 ⇑a)=.ok ((List.range ⇑a).map λ_=>.bl 6):=λb q=>C9 λk c=>by
    let r:ju (b a) (.int (k:3))=!a[k]:=by
     obtain rfl|rfl:=q
     .show qa a (k:3)=_;rw[Kt c,Zqg c]
     .show qa a (k:3)=_;rw[Kt c,Zqg c]
    simp[r,OP n a[k] ()]
   obtain rfl|rfl:=o
   .let m:=l D.lst<|006;simp[K4,YR,g,j,m,OO]
   .let m:=l D.tup<|.inr 9;simp[K4,YR,g,j,m,OO]
def DE:FS:=jp (xx (xN (Kj<|J9<|jj (Xi "Book")<|J2 015<|J2 (dC<|.ucl "Book") jb)<|xN (Kj<|J9<|jj qd<|J2 (jZ (qw "Book" "plans")<|015)<|J2 (dC<|.ty 013) jb)<|J9<|jh zr (jj jy<|J2 (jZ (qw "Book" "plans")<|015) jb)<|jj jy<|018) (j0<|dC<|.bl 7) Qa)<|jp (qS (wX<|J2 (jj jy<|018) jb) (.one 2)<|jp (jA 03<|jh ju (jZ (qw "Book" "plans")<|015)<|ja 2)<|xx (xN (Kj<|J9<|jj (Xi "Plan")<|J2 (ja 03)<|J2 (dC<|.ucl "Plan") jb)<|Kj<|J9<|JB (K4 08)<|J2 (qI<|J2 (jZ (qw "Plan" "name")<|ja 03)<|J2 (jZ (qw "Plan" "givens")<|ja 03)<|J2 (jZ (qw "Plan" "rows")<|ja 03) jb)<|J2 (jh ju (ja 1)<|ja 2) jb) (j0<|dC<|.bl 7) Qa)<|j0<|dC<|.bl 6
def DF:YC->Res D:=jJ 04 2 DE
def iA (h:PlT p):Gw 08 (Qu p):=by
 let i:=h.gl;let j:=h.rl;rw[.inr<|.inr (_,006,(),λe f=>?_)];let:e=020\/e=.lst (p.givens.map .str)\/e=.lst (p.rows.map jB):=by simpa using f
 obtain rfl|rfl|rfl:=this
 .rw[.inl (_,9,h.nm.asc)]
 .rw[.inr<|.inr (_,006,(),λe f=>?_)];let(g,i,rfl):=Ja.mp f;rw[.inl (_,9,(h.gs g i).asc)]
 .rw[.inr<|.inr (_,006,(),λe f=>?_)];let(-r,j,rfl):=Ja.mp f;let(!a,b,c,d):=h.rs r j;rw[.inr<|.inr (_,.inr 9,(),λe f=>?_)];let:e=.str r.1\/e=.str r.2.1\/e=j3 r.2.2:=by simpa using f
  obtain rfl|rfl|rfl:=this
  .rw[.inl (_,9,a.asc)]
  .rw[.inl (_,9,b.asc)]
  .rw[.inr<|.inr (_,.inr 9,(),λe f=>?_)];let(-q,l,rfl):=Ja.mp f;rw[.inr<|.inr (_,.inr 9,(),λe f=>?_)];let:e=.int q.1\/e=.int q.2:=by simpa using f
   obtain rfl|rfl:=this
   .rw[.inr<|.inl (_,9)]
   .rw[.inr<|.inl (_,9)]
def bu (h:∀p∈c,PlT p)(u:⇑c<=32):DF [Qz c,qY c]=.ok (.bl 6):=by
 let m:Xi "Book" [Qz c,.ucl "Book"]=! .bl 6:=by ext Qz Xi;simp
 let n:jy [qY c]=! .int (⇑c:3):=by show some (D.int (⇑(c.map Qu):3))=_;rw[Zql,]
 let o:W2 [.int (⇑c:3)]=.ok (Qn 0 ⇑c):=by rw[X7 () (),Uy]
 let(-sd,e,(g,j,l)):=Xc (tg:=.one 2) (b:=jp (jA 03<|jh ju (jZ (qw "Book" "plans")<|015)<|ja 2)<|xx (xN (Kj<|J9<|jj (Xi "Plan")<|J2 (ja 03)<|J2 (dC<|.ucl "Plan") jb)<|Kj<|J9<|JB (K4 08)<|J2 (qI<|J2 (jZ (qw "Plan" "name")<|ja 03)<|J2 (jZ (qw "Plan" "givens")<|ja 03)<|J2 (jZ (qw "Plan" "rows")<|ja 03) jb)<|J2 (jh ju (ja 1)<|ja 2) jb) (j0<|dC<|.bl 7) Qa) (ds:=Qn 0 ⇑c) (sd:=[~~~Qz c,~~~qY c,8,8])
  (P:=λi sd=>∃g j:02 SV,sd=[~~~Qz c,~~~qY c,g,j]) (8,8,9) (by
   rintro i x sd q ⟨g,j,rfl⟩;let(rfl,f):=C8 q;let r:ju (.lst<|c.map Qy) (.int (i:3))=! Qy c[i]:=by
    show qa (c.map Qy) (i:3)=_;rw[Kt (by rw[Zql,];rw[f]),Zv,Zqg f];rfl
   let s:ju (qY c) (.int (i:3))=! Qu c[i]:=by
    show qa (c.map Qu) (i:3)=_;rw[Kt (by rw[Zql,];rw[f]),Zv,Zqg f];rfl
   let t:Xi "Plan" [Qy c[i],.ucl "Plan"]=! .bl 6:=by ext Qy Xi;simp
   let a:=OP 08 _<|iA<|h _<|UA f;let a:K4 08 [.lst [.str c[i].name,.lst (c[i].givens.map .str),.lst (c[i].rows.map jB)],Qu c[i]]=.ok (.bl 6):=a;rw[([~~~Qz c,~~~qY c,~~~(.int<|0+(i:3)),~~~Qy c[i]],by simp[r,s,t,a],_,_,9)])
 subst l;simp[DF,DE,m,n,o,e]
def YS:FS:=jp (jA 1<|jh j6 005<|jh jP (JB QC<|J2 015<|J2 (dC<|.int 03) jb)<|dC<|.int 08)<|jp (jA 2<|JB XO<|J2 (jh j6 (zW 015 Kl (Q8<|023) Kl)<|zW 015 (Q8<|dC<|.int 07) (Q8<|dC<|.int 43) Kl) jb)<|jp (jA 03<|JB Dj<|J2 (ja 2) jb)<|jp (jA 04<|jj jy<|J2 (jh ju (jh ju (ja 2)<|jZ qc<|005)<|005) jb)<|jp (jA 05<|X4 [8,!04] (iS<|ja 2) (.one 0) (J9<|jh xI (jj jy<|J2 (jh ju 015<|005) jb)<|ja 1)<|jh ju 015<|022)<|jp (jA 06<|xi<|J2 (jh ju (jh ju (ja 2)<|jZ qc<|005)<|022)<|J2 (jh ju (ja 05)<|jh jP (JB QC<|J2 015<|J2 023 jb)<|jj jy<|J2 (ja 05) jb) jb)<|jp (qX 07<|qI<|J2 (JB YP<|J2 (ja 03)<|J2 (jh ju (ja 06)<|022)<|018)<|J2 (JB YP<|J2 (ja 03)<|J2 (jh ju (ja 06)<|005)<|018) jb)<|jp (xx (E1 [07]<|J9<|jh (yE 7) (dC .non)<|ja 07) (j0<|dC<|.bl 6) Qa)<|jp (xx (Kj<|J9<|yB [07]<|JB Am<|J2 015<|J2 (ja 03)<|J2 (ja 06)<|J2 (ja 07)<|J2 (ja 04) jb) (j0<|dC<|.bl 7) Qa)<|jp (wO 07)<|j0<|ZJ (yB [07]<|JB Am<|J2 015<|J2 (ja 03)<|J2 (xi<|J2 (jh ju (ja 06)<|005)<|J2 (jh ju (ja 06)<|022) jb)<|J2 (ja 07)<|J2 (ja 04) jb)<|JB DF<|J2 (ja 03)<|J2 (ja 2) jb
def vo:YC->Res D:=jJ 08 1 YS
def wH.no2 (h:wH x):x ≠"all"/\x ≠"first":=by
 let e:=h.noHow;unfold KJ at e;rw[Bool.or_eq_false_iff,decide_eq_false_iff_not,decide_eq_false_iff_not]at e;rw[e]
def aq (W:WsOk a){i j:5}(b:i<26)(c:j<26)(h:jU a (i:3)=jU a (j:3)):i=j:=by
 let l:=W.len;unfold jU at h;rw[We () (),We () (),Uy,Uy,Ue,Ue,Zqg (),Zqg ()]at h;rw[(List.getElem?_inj () W.nd).mp ?_]
 ext
def ml(c:Yf):BkP (Kp c):=by
 let(B,f):=OM c;let W:=(XN c).2;let m:=B.names W;let at_:∀(i:5)(p:Pl),(Kp c)[i]?=!p->i<=09/\PlW (y0 c) i ((Kp c).take i) 19 p/\p.rows ≠[]:=λi p h=>by
  unfold Kp at h ⊢;obtain z|z:=US i (Ku c).ps.length
  .rw[Uj z]at h;let(!a,b):=B.all i p h;rw[VU (),];rw[(by let:=a.h0;lia,a,b)]
  .let l:=(Jc.mp h).1;rw[Ua,Ug]at l;let e:i=(Ku c).ps.length:=()
   subst e;rw[Uv (Zf _),VF]at h;let h:(Ku c).q=p:=Zqi h;subst h;rw[VU (Zf _),Vg];rw[(by let:=B.last.h0;lia,B.last,f)]
 let mem:∀(i:5)(p:Pl),p∈(Kp c).take i->p∈(Ku c).ps++[(Ku c).q]:=λi p h=>List.mem_of_mem_take h;rw[(?_,λi p h=>?_,λi j p q s t e=>?_,λi p h=>?_)]
 .simp_all[Kp,Ua,Ug]
 .let(!_,P,_):=at_ i p h;let w:=W.ok _<|W.at_ (i:3);rw[<-P.nm]at w;rw[(w.ok.asc,w.no2)]
 .let(!u,P,_):=at_ i p s;let(!F,Q,_):=at_ j q t;rw[P.nm,Q.nm]at e;rw[aq W () () e]
 .let(!u,P,ne):=at_ i p h;let sz:=P.sz;let v:=P.g1;rw[(v,P.g12,Jn.mpr ne,(),λk r n=>?_)];let R:=P.rw_ k r n;let(!x,G,_,_):=P.rowTxt W (λp A=>m p<|mem i p A) r (Uf n);rw[(x.ok.asc,?_,?_,?_,R.its.rng,λy C=>?_)]
  .rcases R.how with ⟨a,_⟩|⟨_,q,g,E,o⟩
   .unfold KJ at a;rw[UU,decide_eq_true_eq,decide_eq_true_eq]at a;obtain a|a:=a
    .rw[.inl a]
    .rw[.inr<|.inl a]
   .rw[.inr<|.inr (q,g,E,o)]
  .let:=R.low;rw[λz=>by rw[z]at this;simp at this]
  .rcases R.how with ⟨_,a⟩|⟨_,q,g,_,o⟩
   .omega
   .let:=(m q<|mem i q g).2.2;lia
  .let:=R.its.far y C;lia
def ii(e:Yf):(∀p∈Kp e,PlT p)/\⇑(Kp e)<=32:=by
 let(B,_):=OM e;let W:=(XN e).2;let s:=B.names W;let one:∀(i:5)(l:List Pl)(q:Pl),(∀p∈l,p∈(Ku e).ps)->PlW (y0 e) i l 19 q->PlT q:=λi l q t P=>by
  let sz:=P.sz;rw[(by rw[P.nm,];rw[(W.ok _<|W.at_ _).ok],λg u=>?_,P.g12,(),λr o=>?_)]
  .let(k,h):=VA u;let:(q.givens++q.rows.map (·.1))[k]?=!g:=by rwa[Uj (Jc.mp h).1,]
   rw[P.th k g this,];rw[(W.ok _<|W.at_ _).ok]
  .let(!a,b,c,d):=(P.rowTxt W λp m=>s p<|U9 _<|t p m) r o;let(k,h):=VA o;let v:=(Jc.mp h).1;let R:=P.rw_ k r h;rw[(a.ok,b,(),λi j=>?_)];let:=R.its.rng i j;let f:=R.its.far i j;rw[(this.1,(),f.1,f.2)]
 ext Kp;rw[(λp m=>?_,?_)]
 .rcases Jb.mp m with z|z
  .have(i,j):=VA z;rw[one i _ p (λx n=>List.mem_of_mem_take n) (B.all i p j).1]
  .rw[Jd.mp z,];rw[one _ _ _ (λx n=>n) B.last]
 .let:=B.last.h0
  grind
def DG (c:jY 12 a=6)(f:jY 12 b=6):yE 7 .non (.lst [a,b])=!(.bl<|jF a .non||jF b .non):=by
 show(if jY 12 .non&&[a,b].all (jY 12)then !(D.bl<|[a,b].any λe=>jF e .non)else 8)=_;rw[Zd,]
 .simp
 .rw[show jY 12 .non=6 from 9,UG,UG,c,f];rfl
def Tf.fm   (T:Tf n W t):m8 n t:=(T.cn.ne,T.len,λr c=>(T.cn.rows r c,λp e=>(T.th r c p e).1))
def wW(c:Yf)(h:⇑c<=63):vo [.scr c]=.ok (.bl 6):=by
 let(m,hms):∃m,m=Q1 c 8 (!2) 8++Q1 c (!07) (!43) 8:=(_,9);let N:j6 (.lst<|(Q1 c 8 (!2) 8).map .int) (.lst<|(Q1 c (!07) (!43) 8).map .int)=!(.lst<|m.map .int):=by
  rw[hms,Uc];rw[Zd<|small ?_]
  grind[Zql,Lv]
 let B:=ml m;let(t,l):=ii m;let O:=b4 m;let P:=bw (ps:=Kp m) ();let e5:=bu t l;let(rs,p,hp):∃rs p,Kp m=rs++[p]:=jR _ _ 9;let x:(Kp m)[⇑rs]?=!p:=by ext
 let A:qa ((Kp m).map Qu) (-1)=! Qu p:=by rw[hp,Uc,List.map_singleton,Xm]
 generalize Kp m=ps at*;let A:ju (qY ps) (.int<|-1)=! Qu p:=A;let(n,hn):∃n,n=⇑p.givens:=(_,9);let I:n<=12:=by rw[hn,];rw[(B.ok _ p x).g2]
 let(mo,hmo):∃mo,mo=1+JU c 03%08:=(_,9)
 haveI:Mo mo:=((),())
 let Q:QC [.scr c,.int 03]=.ok (.int<|JU c 03):=Dk c 03;let R:QC [.scr c,.int 2]=.ok (.int<|JU c 2):=Dk c 2;let(e,hss):∃e,e=ps.filter λq=>decide<|(⇑q.givens:3)=(n:3):=(_,9);let pm:p∈e:=by
  ext
 let r:W1 (.one 0) (J9<|jh xI (jj jy<|J2 (jh ju 015<|005) jb)<|ja 1) (jh ju 015<|022) [8,~~~.int n] (ps.map Qu)=.ok (e.map λq=>.str q.name):=by
  rw[hss,];rw[CA (s:=λq=>[~~~Qu q,~~~.int n]) (λq _=>9) (λq _=>?_) λq _ _=>?_]
  .let C:ju (Qu q) (.int 1)=!(.lst<|q.givens.map .str):=9;let E:jy [.lst (q.givens.map D.str)]=! .int (⇑q.givens:3):=by rw[AT,Zql]
   simp[C,E]
  rfl
 let sl:0<⇑e:=List.length_pos_of_mem pm;let sz:⇑e<=10:=by rw[hss,];rw[Zh (VB _ _) B.len]
 let(k,hk,k1):∃k:5,JU c 2%(⇑e:3)=(k:3)/\k<⇑e:=by
  let a:=Vh (JU c 2) (show(⇑e:3)≠0 by lia);let b:=Vn (JU c 2) (show(0:3)<(⇑e:3)by lia);rw[((JU c 2%(⇑e:3)).toNat,(),())]
 let S:jP (.int<|JU c 2) (.int (⇑e:3))=! .int (k:3):=by rw[AS (),hk]
 let qm:e[k]∈e:=UA k1;let J:qa (e.map λq=>D.str q.name) (k:3)=! .str e[k].name:=by
  rw[Kt (by rw[Zql,];rw[k1]),Zv,Zqg k1];rfl
 generalize e[k]=q at qm J;let L:=qm;rw[hss,List.mem_filter,decide_eq_true_eq]at L;let T:⇑q.givens=n:=()
 let(j,H):=Jm.mp L.1;let u:jy [.lst (e.map λq=>D.str q.name)]=! .int (⇑e:3):=by rw[AT,Zql]
 let U:⇑ps<00:=Qb ();let C:ju (Qu p) (.int 1)=!(.lst<|p.givens.map .str):=9;let X:ju (Qu p) (.int 0)=! 020:=9;let E:jy [.lst (p.givens.map D.str)]=! .int (n:3):=by rw[AT,Zql,hn]
 let Y:jY 12 .non=6:=9;let Z:qa [D.str p.name,D.str q.name] 0=! 020:=9;let t1:qa [D.str p.name,D.str q.name] 1=! .str q.name:=9;let sn:jF .non .non=6:=by let:=NU 8;rw[this]
 let sf:∀f:J1,jF (jm f) .non=7:=λ_=>@decide_eq_false _ (Classical.propDecidable _) (by intro z;cases z);let w:Xa (qY ps)=! ps.map Qu:=9;obtain z|⟨f,z,T1,c1⟩:=Gn (mo:=mo) B x
 .let M:=Go z;obtain y|⟨g,y,_⟩:=Gn (mo:=mo) B H
  .let v:=Go y;let o:=DG Y Y;rw[sn]at o;simp[vo,YS,Q,<-hmo,N,O,P,A,C,X,E,r,U,u,R,S,J,Z,t1,M,v,o,w,qp]
  .let v:=Gp y;let o:=DG Y<|Dc 08 g;rw[sn]at o;simp[vo,YS,Q,<-hmo,N,O,P,A,C,X,E,r,U,u,R,S,J,Z,t1,M,v,o,w,qp]
 .let M:=Gp z;obtain y|⟨g,y,T2,c2'⟩:=Gn (mo:=mo) B H
  .let v:=Go y;let o:=DG (Dc 08 f) Y;rw[sn,Bool.or_true]at o;simp[vo,YS,Q,<-hmo,N,O,P,A,C,X,E,r,U,u,R,S,J,Z,t1,M,v,o,w,qp]
  .let v:=Gp y;let o:=DG (Dc 08 f)<|Dc 08 g;let bp:=(B.at x).2.1;let bq:=(B.at H).2.1;let ef:∀i:Yf,⇑i=n->JG f i=xp ps 20 p.name i:=λi hh=>by rw[c1 i (hh.trans hn),];rw[(B.rc (n:=20) x () i).symm]
   let eg:∀i:Yf,⇑i=n->JG g i=xp ps 20 q.name i:=λi hh=>by rw[c2' i (hh.trans T.symm),];rw[(B.rc (n:=20) H () i).symm]
   let F:m8 n f:=by rw[hn,];rw[T1.fm]
   let G:m8 n g:=by rw[<-T];rw[T2.fm]
   let x3:=NV c B x H I hn.symm T F G ef eg;let x4:=NV c B H x I T hn.symm G F eg ef;rw[sf,sf]at o;simp[vo,YS,Q,<-hmo,N,O,P,A,C,X,E,r,U,u,R,S,J,Z,t1,M,v,o,w,qp,x3,x4,e5]
end My
set_option maxHeartbeats 4000000
namespace My
open PySem L2 L2.DL
noncomputable def vr(i:5):Stmt:=PySem.Challenge.pw_allfirst_k69_whole_lag_by_runs.main.body.getD i<|.Pass (0,0,0,0)
noncomputable abbrev tbl:List (Str×5):=List.zip (List.map Str.ofString ["_law_book_by","_law_cell_at","told_hour","made_hour","plan_by","hours_of","_law_apart","_law_whole","hours_done_at_nought","least_wait","lag_of_row","nearest_row","later_by","_law_hours_told","_law_hours","_law_never_more","nearest_rows","lag","_law_exact","fits_in","is_covered","joined","each_joined","lowest","form_within","all_of","first_of","shifted","waited","put_into_row","put_into","made_form","thing_form","forms_knowing","forms_of","told_form","_law_form","_law_number_by","_law_item","_law_row_by","_law_grow","_law_name_by","_law_names_by","_law_plans_by","_law_alike","_law_same"]) [50,41,38,39,15,37,55,42,06,07,05,04,2,56,53,57,03,1,58,17,21,18,29,20,30,26,25,19,24,28,27,35,23,34,32,33,54,45,46,47,48,43,44,49,51,52]
noncomputable abbrev bl:Yi:=List.map Str.ofString ["all","bool","dict","enumerate","int","isinstance","len",013,"max","min","range","set","sorted","tuple"]
structure All(e:Ev):4 extends Al e vr tbl bl where
 x_TooMany:Exc e.K e.mg "TooMany" (e.C 0)
 z_Book:Bh e.K "Book"
 z_Plan:Bh e.K "Plan"
 k_Book:ClsD e.K e.mg "Book" (e.C 1) ["plans"]
 l_Book:∃f fd,Mk e.K (e.C 1) f/\Fun e.K "__init__" "Book.__init__" (BQ (vr 14) 0) f fd
 k_Plan:ClsD e.K e.mg "Plan" (e.C 2) ["name","givens","rows"]
 l_Plan:∃f fd,Mk e.K (e.C 2) f/\Fun e.K "__init__" "Plan.__init__" (BQ (vr 13) 0) f fd
def pR(a:All e):dG e.P e.w e.K e.mg e.base "Book" ["plans"] 1 ["self","plans"] FZ:=by
 let(f,h,c,b):=a.l_Book;let m:=a.m;let k:=a.k_Book;rw[(_,_,_,k,c,bd (k:=0) (N:=["plans"]) (g:=J2 (jj Q2<|018) jb) b (JP (N:=["self","plans"])) 008 008 λ_ _ _ _ _ _ i=>CP k 008 (pv 0) (jr<|Kd (x:=013) Kz 9 017 QL<|J3 (qv 1) J5) MJ,b.binds λ_ _ _ _ _ _=>rW 002)]
def lD(a:All e):dG e.P e.w e.K e.mg e.base "Plan" ["name","givens","rows"] 1 ["self","name","givens","rows"] Dh:=by
 let(f,h,c,b):=a.l_Plan;let m:=a.m;let k:=a.k_Plan;rw[(_,_,_,k,c,bd (k:=0) (N:=["name","givens","rows"]) (g:=J2 (ja 1)<|J2 (jj Q2<|J2 (ja 2) jb)<|J2 (jj Q2<|J2 (ja 03) jb) jb) b (JP (N:=["self","name","givens","rows"])) 008 008 λ_ _ _ _ _ _ i=>CP k 008 (pv 0) (qv 1)<|CP k 008 (pv 0) (jr<|Kd (x:=013) Kz 9 017 QL<|J3 (qv 2) J5)<|CP k 008 (pv 0) (jr<|Kd (x:=013) Kz 9 017 QL<|J3 (qv 03) J5) MJ,b.binds λ_ _ _ _ _ _=>rV λ_ _ _ _=>9)]
def pQ(a:All e):Ca e "_law_book_by" 03 ["plans"] (zY e.K Dj):=
 qW a.toAl 0 50 λF=>zk (N:=["plans"]) (g:=Di) F JP λ_ _ _ _ _ _ f=>by
 let m:=a.m;let b:=pR a;let c:=lD a;ext Di;rw[JC<|ZK<|MK b (f.mono ()) 9<|J3 (jr<|Ky ["plan"] [8] 9 9 (Qm<|024) (λ_ _ _ _ _=>Qx<|xV 0 j7)<|λ_ _ _ _ _=>jr<|MK c (f.mono ()) 9<|J3 (JF (JE f) 024 J6 002<|002)<|J3 (jr<|Kd (x:=013) Kz 9 017 QL<|J3 (JF (JE f) 024 J6 002<|002) J5)<|J3 (jr<|Kd (x:=013) Kz 9 017 QL<|J3 (JF (JE f) 024 J6 002<|002) J5) J5) J5]
def BE(a:All e):Ca e "_law_cell_at" 1 ["script","k"] (qJ e.K QC):=
 qW a.toAl 1 41 λF=>qq (N:=["script","k"]) (g:=YJ) F JP λ_ _ _ _ _ _ b=>by
 let m:=a.m;ext YJ;rw[JD (Qw (Qg uL (qv 1) (JM (x:="len") Qh 9 017 Qf<|J3 024 J5)<|Qc _) (JC<|JN<|JF (JE b) 024 (qv 1) 002<|002) Qv)<|JC<|JN J6]
def OQ(a:All e):Ca e "plan_by" 1 ["book","name"] (qJ e.K wv):=
 qW a.toAl 04 15 λF=>qq (N:=["book","name","plan"]) (g:=vV) F JP λ_ _ _ _ _ _ f=>by
 let b:=a.k_Book;let c:=a.k_Plan;ext vV;rw[JD (Ke PassesOwn.never 9 (Qm<|W5 b 008<|024) (Qx<|Qk j7 9<|006)<|JC<|Qw (Qg (xL f.units) (W5 c 008<|qv 2) (qv 1)<|Qc _) (JC<|JN<|qv 2) Qv)<|JC gk]
def OR(a:All e)(b:Ca e "hours_of" (1+k) ["book","name","hours"] (qJ e.K<|XG j)):Ca e "told_hour" (1+k+1) ["book","name","hours"] (qJ e.K<|W8 j):=
 qW a.toAl 2 38 λF=>qq (N:=["book","name","hours"]) (g:=Bt<|XG j) F JP λ_ _ _ _ _ _ c=>by
 ext Bt;rw[JC<|JN<|JF (JE c) (jH b c 9<|J3 024<|J3 (qv 1)<|J3 (qv 2) J5) (xq Kf J6) 002<|002]
def OS(a:All e)(b:Ca e "told_hour" (1+k) ["book","name","hours"] (qJ e.K<|W8 j)):Ca e "made_hour" (1+k+1) ["book","how","hours"] (qJ e.K<|W9 j):=
 qW a.toAl 03 39 λF=>qq (N:=["book","how","hours"]) (g:=YK<|W8 j) F JP λ_ _ _ _ _ _ c=>by
 let m:=a.m;ext YK;rw[JD (Qw (Qg (xL c.units) (qv 1) Kw<|Qc _) (JC<|JN<|JM (x:="max") (ED 9) 9 017 A7<|J3 (qv 2) J5) Qv)<|JD (Qw (Qg (xL c.units) (qv 1) Kw<|Qc _) (JC<|JN<|JM (x:="min") (EE 9) 9 017 BT<|J3 (qv 2) J5) Qv)<|JC<|JN<|jH b c 9<|J3 024<|J3 (qv 1)<|J3 (qv 2) J5]
def lK(a:All e)(c:Ca e "made_hour" (1+k) ["book","how","hours"] (qJ e.K<|W9 j)):Ca e "hours_of" (1+k+1) ["book","name","hours"] (qJ e.K<|XG<|j+1):=
 qW a.toAl 05 37 λF=>qq (N:=["book","name","hours","told","made","how","items"]) (g:=Bu<|W9 j) F JP λ_ _ _ _ _ _ h=>by
 let m:=a.m;let f:=(OQ a).mono (k:=1+k) ();let b:=a.k_Plan;ext Bu;rw[JD (Ux j7 9 (.inr 9)<|Kd (x:=013) Kz 9 017 QL<|J3 (qv 2) J5)<|JD (Ke PassesOwn.never 9 (Qm<|W5 b 008<|jH f h 9<|J3 024<|J3 (qv 1) J5) (KB [04,05,06]<|K7 9<|Qq (Qk j7 9<|006)<|Qq (Qk j7 9<|006)<|Qq (Qk j7 9<|006) K6)<|JC<|AH (pv 03) (Xy [03]<|jH c h 9<|J3 024<|J3 (qv 05)<|J3 (jr<|Ky ["thing","wait","told"] [8,8,!03] 9 9 (Qm<|qv 06) (λ_ _ _ _ _=>KB [0,1]<|K7 9<|Qq (xV 0 j7)<|Qq (xV 1 j7) K6)<|λ_ _ _ _ _=>jq Ql (JF (JE h) (qv 2) 024 002<|002)<|qv 1) J5)<|λi l=>KY Yv Yw Yx Wu i l)<|JC<|Cr [03]<|JN<|qv 03]
theorem OT(a:All e):∀j,Ca e "hours_of" (1+03*j) ["book","name","hours"] (qJ e.K<|XG j)
 |0=>qW a.toAl 05 37 λ_=>Ld
 |j+1=>lK (k:=03*j+2) a (OS (k:=03*j+1) a<|OR (k:=03*j+0) a<|OT a j)
def OU(a:All e):Ca e "told_hour" 62 ["book","name","hours"] (qJ e.K<|W8 20):=OR (k:=60) a<|OT a 20
def sT(a:All e):Ca e "made_hour" 63 ["book","how","hours"] (qJ e.K<|W9 20):=OS (k:=61) a<|OU a
def OV(a:All e):Ca e "_law_apart" 63 ["book","pair","hours"] (qJ e.K XH):=
 qW a.toAl 06 55 λF=>qq (N:=["book","pair","hours"]) (g:=Dl) F JP λ_ _ _ _ _ _ c=>by
 let m:=a.m;let b:=(OU a).mono (k:=62) ();ext Dl;rw[JC<|JN<|jq X0 (jH b c 9<|J3 024<|J3 (JF (JE c) (qv 1) J6 002<|002)<|J3 (jr<|Kd (x:=013) Kz 9 017 QL<|J3 (qv 2) J5) J5)<|jH b c 9<|J3 024<|J3 (JF (JE c) (qv 1) J6 002<|002)<|J3 (jr<|Kd (x:=013) Kz 9 017 QL<|J3 (qv 2) J5) J5]
def OW(a:All e):Ca e "_law_whole" 1 ["found"] (qJ e.K Bv):=
 qW a.toAl 07 42 λF=>qq (N:=["found"]) (g:=Ga) F JP λ_ _ _ _ _ _ b=>by
 let m:=a.m;ext Ga;rw[JC<|JN<|Cp (JM (x:="isinstance") Wz 9 017 KL<|J3 024<|J3 (W0 (n:="int") (x:="int") 9 017 RP 9) J5)<|Co<|IA<|JM (x:="isinstance") Wz 9 017 KL<|J3 024<|J3 (W0 (n:="bool") (x:="bool") 9 017 Hs 9) J5]
def gO(a:All e):Ca e "hours_done_at_nought" 1 ["row","late","many"] (zY e.K uq):=
 qW a.toAl 08 06 λF=>zk (N:=["row","late","many","hours","thing","wait"]) (g:=vX) F JP λ_ _ _ _ _ _ b=>by
 ext vX;rw[JD (Ux j7 9 006<|Iy gV (jr<|Kx<|J3 (qv 1) J5)<|qv 2)<|JD (Ke PassesOwn.never 9 (Qm<|024) (KB [04,05]<|K7 9<|Qq (Qk j7 9<|006)<|Qq (Qk j7 9<|006) K6)<|JC<|Lw (pv 03) (qv 04)<|xq Kf<|qv 05)<|JC<|ZL<|pv 03]
def gN(a:All e):Ca e "least_wait" 1 ["form"] (qJ e.K uj):=
 qW a.toAl 09 07 λF=>qq (N:=["form"]) (g:=vW) F JP λ_ _ _ _ _ _ b=>by
 let m:=a.m;ext vW;rw[JC<|JN<|JM (x:="min") (EE 9) 9 017 BT<|J3 (jr<|Ky ["row"] [8] 9 9 (Qm<|024) (λ_ _ _ _ _=>Qx<|xV 0 j7)<|λ_ _ _ _ _=>JM (x:="min") (EE 9) 9 017 BT<|J3 (jr<|Ky ["thing","wait"] [8,8] 9 9 (Qm<|024) (λ_ _ _ _ _=>KB [0,1]<|K7 9<|Qq (xV 0 j7)<|Qq (xV 1 j7) K6)<|λ_ _ _ _ _=>qv 1) J5) J5]
def gP(a:All e):Ca e "lag_of_row" 1 ["row","other"] (qJ e.K ur):=
 qW a.toAl 10 05 λF=>qq (N:=["row","other","waits","thing","wait"]) (g:=vY) F JP λ_ _ _ _ _ _ b=>by
 let m:=a.m;ext vY;rw[JD (JX j7 9 (.inr 9)<|jr<|Kd (x:="dict") (EG 9) 9 017 Eg<|J3 (qv 1) J5)<|JD (Ke PassesOwn.never 9 (Qm<|024) (KB [03,04]<|K7 9<|Qq (Qk j7 9<|006)<|Qq (Qk j7 9<|006) K6)<|JC<|Qw (AN b.units (qv 03)<|qv 2) (JC<|JN WV) Qv)<|JC<|JN<|JM (x:="max") (ED 9) 9 017 A7<|J3 (jr<|Ky ["thing","wait","waits"] [8,8,!2] 9 9 (Qm<|024) (λ_ _ _ _ _=>KB [0,1]<|K7 9<|Qq (xV 0 j7)<|Qq (xV 1 j7) K6)<|λ_ _ _ _ _=>jq X0 (qv 1)<|JF (JE b) (qv 2) 024 002<|002) J5]
def OX(a:All e):Ca e "nearest_row" 2 ["one","row"] (qJ e.K zR):=
 qW a.toAl 11 04 λF=>qq (N:=["one","row","told","number","own","more"]) (g:=vZ) F JP λ_ _ _ _ _ _ c=>by
 let m:=a.m;let b:=(gP a).mono (k:=1) ();ext vZ;rw[JD (JX j7 9 006 WV)<|JD (Ke PassesOwn.never 9 (aO 9 017<|J3 024 J5) (KB [03,04]<|K7 9<|Qq (Qk j7 9<|006)<|Qq (Qk j7 9<|006) K6)<|JD (JX j7 9 006<|jH b c 9<|J3 (qv 04)<|J3 (qv 1) J5)<|JC<|Qw (qF<|Xx (Lg<|qv 05)<|ZI<|qF<|Uk (C5<|qv 2)<|WW<|Qg uL (qv 05) (JF (JE c) (qv 2) J6 002<|002)<|Qc _) (JC<|JX j7 9 006<|KN<|J3 (qv 05)<|J3 (qv 03) J5) Qv)<|JC<|JN<|qv 2]
def OY(a:All e):Ca e "later_by" 03 ["one","other","turns","many"] (qJ e.K vj):=
 qW a.toAl 12 2 λF=>qq (N:=["one","other","turns","many","row","nearest"]) (g:=ug) F JP λ_ _ _ _ _ _ h=>by
 let b:=(gO a).mono (k:=2) ();let c:=(gN a).mono (k:=2) ();let f:=(OX a).mono (k:=2) ();ext ug;rw[JD (Ke PassesOwn.never 9 (Qm<|qv 1) (Qx<|Qk j7 9<|006)<|JD (JX j7 9 006<|jH f h 9<|J3 024<|J3 (qv 04) J5)<|JC<|Qw (qF<|Uk (C5<|qv 05)<|WW<|Qg gW (JF (JE h) (qv 05) J6 002<|002) (qv 2)<|Qc _) (JC<|JN<|jr<|AG b h 9<|J3 (qv 04)<|J3 (jq X0 (qv 2)<|jH c h 9<|J3 024 J5)<|J3 (qv 03) J5) Qv)<|JC<|JN WV]
def pI(a:All e):Ca e "_law_hours_told" 04 ["one","other","turns","many"] (qJ e.K Bw):=
 qW a.toAl 13 56 λF=>qq (N:=["one","other","turns","many","hours"]) (g:=Dm) F JP λ_ _ _ _ _ _ f=>by
 let m:=a.m;let b:=(OW a).mono (k:=03) ();let c:=(OY a).mono (k:=03) ();ext Dm;rw[JD (JX j7 9 006<|jH c f 9<|J3 (jr<|Kd (x:=013) Kz 9 017 QL<|J3 024 J5)<|J3 (jr<|Kd (x:=013) Kz 9 017 QL<|J3 (qv 1) J5)<|J3 (qv 2)<|J3 (qv 03) J5)<|JD (Qw (qF<|Uk (Wx<|Kq<|JM (x:="isinstance") Wz 9 017 KL<|J3 (qv 04)<|J3 (W0 (n:=013) (x:=013) 9 017 QL 9) J5)<|Uk (Qg (z7 f.units) (JM (x:="len") Qh 9 017 Qf<|J3 (qv 04) J5) (qv 03)<|Qc _)<|WW<|Wx<|Kq<|JM (x:="all") (Lx 9) 9 017 Lz<|J3 (jr<|Ky ["hour"] [8] 9 9 (Qm<|qv 04) (λ_ _ _ _ _=>Qx<|xV 0 j7)<|λ_ _ _ _ _=>jH b f 9<|J3 024 J5) J5) (JC<|JN WV) Qv)<|JC<|JN<|qv 04]
def pf(a:All e):Ca e "_law_hours" 2 ["script","many","turn"] (zY e.K Aj):=
 qW a.toAl 14 53 λF=>zk (N:=["script","many","turn","hours","thing","cell","mixed"]) (g:=Dn) F JP λ_ _ _ _ _ _ c=>by
 let m:=a.m;let b:=(BE a).mono (k:=1) ();ext Dn;rw[JD (Ux j7 9 006<|Kx J5)<|JD (Ke PassesOwn.never 9 (Xb 9 017<|J3 (qv 1) J5) (Qx<|Qk j7 9<|006)<|JD (JX j7 9 006<|jH b c 9<|J3 024<|J3 (jq Q4 (jq Ql (jq WH (qv 2) J6)<|qv 04)<|JM (x:="max") (IU 9) 9 017 A7<|J3 J6<|J3 (JM (x:="len") Qh 9 017 Qf<|J3 024 J5) J5) J5)<|JD (JX j7 9 006<|jq Ql (jq Ql (jq WH (jq Q4 (jq WH (qv 05) J6) J6)<|jq Ql (qv 2) J6)<|jq WI (qv 05) J6)<|jq WH (qv 04)<|qv 04)<|JC<|AH (pv 03) (JF (JE c) (jr<|Kx<|J3 (jq Q4 (qv 06) J6)<|J3 (jq Q4 (qv 06)<|jq AM J6 J6)<|J3 (jq X0 J6<|jq Q4 (qv 06)<|jq AM J6 J6) J5) (jq Q4 (qv 2) J6) 002<|002)<|λf h=>KY Yv Yw Yx Wu f h)<|JC<|ZL<|pv 03]
def lq(a:All e):Ca e "_law_never_more" 64 ["script","book","pair","many","hours","most"] (qJ e.K Dq):=
 qW a.toAl 15 57 λF=>qq (N:=["script","book","pair","many","hours","most","tries","k","some"]) (g:=Dp) F JP λ_ _ _ _ _ _ f=>by
 let m:=a.m;let b:=(OV a).mono (k:=63) ();let c:=(pf a).mono (k:=63) ();ext Dp;rw[JD (T5 ["turn","script","many"] [8,!0,!03] j7 9 006 9 9 (Xb 9 017<|J3 J6 J5) (λ_ _ _ _ _=>Qx<|xV 0 j7)<|λ_ _ _ _ _=>jr<|AG c f 9<|J3 (qv 1)<|J3 (qv 2)<|J3 024 J5)<|JD (Ke PassesOwn.never 9 (Xb 9 017<|J3 (jq WH J6<|qv 03) J5) (Qx<|Qk j7 9<|006)<|JD (Ux j7 9 006<|Kd (x:=013) Kz 9 017 QL<|J3 (qv 04) J5)<|JD (Lw (pv 08) (jq WI (qv 07) J6)<|jq X0 (jq Ql (Lh (JE f) (pv 08) (jq WI (qv 07) J6) 002<|002) J6)<|jq WH J6<|jq Q4 (qv 07) J6)<|JC<|Cr [08]<|AH (pv 06) (qv 08)<|λh i=>KY Yv Yw Yx Wu h i)<|JD (SK PassesOwn.never 9 (pv 06) (Qx<|Qk j7 9<|006)<|JC<|Qw (Qg wc (Xy [08]<|jH b f 9<|J3 (qv 1)<|J3 (qv 2)<|J3 (qv 08) J5) (qv 05)<|Qc _) (JC<|JN Kv) Qv)<|JC<|JN Kv]
def gQ(a:All e):Ca e "nearest_rows" 03 ["one","other"] (zY e.K ut):=
 qW a.toAl 16 03 λF=>zk (N:=["one","other"]) (g:=uf) F JP λ_ _ _ _ _ _ c=>by
 let b:=(OX a).mono (k:=2) ();ext uf;rw[JC<|ZK<|Ky ["row","one"] [8,!0] 9 9 (Qm<|qv 1) (λ_ _ _ _ _=>Qx<|xV 0 j7)<|λ_ _ _ _ _=>jH b c 9<|J3 (qv 1)<|J3 024 J5]
def gR(a:All e):Ca e "lag" 04 ["one","other"] (qJ e.K ww):=
 qW a.toAl 17 1 λF=>qq (N:=["one","other","nearest"]) (g:=vi) F JP λ_ _ _ _ _ _ c=>by
 let m:=a.m;let b:=(gQ a).mono (k:=03) ();ext vi;rw[JD (JX j7 9 006<|jr<|AG b c 9<|J3 024<|J3 (qv 1) J5)<|JD (Qw (EC c.units WV<|qv 2) (JC<|JN WV) Qv)<|JC<|JN<|JM (x:="max") (ED 9) 9 017 A7<|J3 (jr<|Ky ["more","number"] [8,8] 9 9 (Qm<|qv 2) (λ_ _ _ _ _=>KB [0,1]<|K7 9<|Qq (xV 0 j7)<|Qq (xV 1 j7) K6)<|λ_ _ _ _ _=>024) J5]
def pJ(a:All e):Ca e "_law_exact" 65 ["script","book","pair","forms","many"] (qJ e.K Am):=
 qW a.toAl 18 58 λF=>qq (N:=["script","book","pair","forms","many","most","far","hours"]) (g:=Bx) F JP λ_ _ _ _ _ _ b=>by
 let m:=a.m;let c:=(OV a).mono (k:=64) ();let h:=(BE a).mono (k:=64) ();let f:=(pI a).mono (k:=64) ();let i:=(lq a).mono (k:=64) ();let j:=(OW a).mono (k:=64) ();let l:=(gR a).mono (k:=64) ();let n:=(OY a).mono (k:=64) ();ext Bx
 rw[JD (JX j7 9 006<|jH l b 9<|J3 (jr<|Kd (x:=013) Kz 9 017 QL<|J3 (JF (JE b) (qv 03) J6 002<|002) J5)<|J3 (jr<|Kd (x:=013) Kz 9 017 QL<|J3 (JF (JE b) (qv 03) J6 002<|002) J5) J5)<|JD (JX j7 9 006<|jq Q4 (jH h b 9<|J3 024<|J3 J6 J5)<|jq AM J6 J6)<|JD (Qw (C5<|qv 05) (JD (JX j7 9 006<|jH f b 9<|J3 (JF (JE b) (qv 03) J6 002<|002)<|J3 (JF (JE b) (qv 03) J6 002<|002)<|J3 (qv 06)<|J3 (qv 04) J5)<|JC<|JN<|Cp (T3<|qv 07)<|Co<|Iz gW (jH c b 9<|J3 (qv 1)<|J3 (qv 2)<|J3 (qv 07) J5) (qv 06)<|Qc _) Qv)<|JD (JX j7 9 006<|jH f b 9<|J3 (JF (JE b) (qv 03) J6 002<|002)<|J3 (JF (JE b) (qv 03) J6 002<|002)<|J3 (qv 05)<|J3 (qv 04) J5)<|JD (Qw (qF<|Uk (Wx<|Kq<|jH j b 9<|J3 (qv 05) J5)<|Uk (C5<|qv 07)<|WW<|Qg (z7 b.units) (jH c b 9<|J3 (qv 1)<|J3 (qv 2)<|J3 (qv 07) J5) (qv 05)<|Qc _) (JC<|JN Kv) Qv)<|JD (Qw (Lg<|jH n b 9<|J3 (jr<|Kd (x:=013) Kz 9 017 QL<|J3 (JF (JE b) (qv 03) J6 002<|002) J5)<|J3 (jr<|Kd (x:=013) Kz 9 017 QL<|J3 (JF (JE b) (qv 03) J6 002<|002) J5)<|J3 (jq Ql (qv 05) J6)<|J3 (qv 04) J5) (JC<|JN Kv) Qv)<|JC<|JN<|jH i b 9<|J3 024<|J3 (qv 1)<|J3 (qv 2)<|J3 (qv 04)<|J3 (qv 07)<|J3 (qv 05) J5]
def gM(a:All e):Ca e "fits_in" 1 ["row","waits"] (qJ e.K uW):=
 qW a.toAl 19 17 λF=>qq (N:=["row","waits","thing","wait"]) (g:=uV) F JP λ_ _ _ _ _ _ b=>by
 ext uV;rw[JD (Ke PassesOwn.never 9 (Qm<|024) (KB [2,03]<|K7 9<|Qq (Qk j7 9<|006)<|Qq (Qk j7 9<|006) K6)<|JC<|Qw (qF<|Uk (AN b.units (qv 2)<|qv 1)<|WW<|Qg wc (qv 03) (JF (JE b) (qv 1) (qv 2) 002<|002)<|Qc _) (JC<|JN Kv) Qv)<|JC<|JN Kv]
def OZ(a:All e):Ca e "is_covered" 2 ["row","kept"] (qJ e.K KG):=
 qW a.toAl 20 21 λF=>qq (N:=["row","kept","waits","other"]) (g:=Dr) F JP λ_ _ _ _ _ _ c=>by
 let m:=a.m;let b:=(gM a).mono (k:=1) ();ext Dr;rw[JD (JX j7 9 006<|jr<|Kd (x:="dict") (EG 9) 9 017 Eg<|J3 024 J5)<|JD (Ke PassesOwn.never 9 (Qm<|qv 1) (Qx<|Qk j7 9<|006)<|JC<|Qw (Kq<|jH b c 9<|J3 (qv 03)<|J3 (qv 2) J5) (JC<|JN Kv) Qv)<|JC<|JN Kv]
def gL(a:All e):Ca e "joined" 1 ["row","other"] (qJ e.K wu):=
 qW a.toAl 21 18 λF=>qq (N:=["row","other","waits","thing","wait"]) (g:=vU) F JP λ_ _ _ _ _ _ b=>by
 let m:=a.m;ext vU;rw[JD (Ux j7 9 006<|Kd (x:="dict") (EG 9) 9 017 Eg<|J3 024 J5)<|JD (Ke PassesOwn.never 9 (Qm<|qv 1) (KB [03,04]<|K7 9<|Qq (Qk j7 9<|006)<|Qq (Qk j7 9<|006) K6)<|JC<|Tq (JE b) (pv 2) (qv 03)<|JM (x:="max") (IU 9) 9 017 A7<|J3 (qv 04)<|J3 (Xy [2]<|Tp (JE b) (qv 2) (qv 03) (qv 04) (9,9,9,9)) J5)<|JC<|Cr [2]<|JN<|Ez (x:="tuple") EF 9 017 Z3<|J3 (Tx (λh=>BN (S4 9) 9 017 Ef<|WF (GV PySem.F.plainAttrs_dict PySem.F.slot_dict_items PySem.F.type_dict_items S3 h) WQ)<|qv 2) J5]
def pK(a:All e):Ca e "each_joined" 03 ["form","other"] (zY e.K Bz):=
 qW a.toAl 22 29 λF=>zk (N:=["form","other","rows","rest","row"]) (g:=Ds) F JP λ_ _ _ _ _ _ c=>by
 let m:=a.m;let b:=(OZ a).mono (k:=2) ();let f:=(gL a).mono (k:=2) ();ext Ds;rw[JD (Ux j7 9 006<|Iy lj (jr<|Lc ["row","other"] [8,!1] 9 9 (Qm<|024) (λ_ _ _ _ _=>Qx<|xV 0 j7) (λ_ _ _ _ _=>Kq<|jH b c 9<|J3 024<|J3 (qv 1) J5)<|λ_ _ _ _ _=>024)<|jr<|Lc ["row","form"] [8,!0] 9 9 (Qm<|qv 1) (λ_ _ _ _ _=>Qx<|xV 0 j7) (λ_ _ _ _ _=>Kq<|jH b c 9<|J3 024<|J3 (qv 1) J5)<|λ_ _ _ _ _=>024)<|JD (Ll ["row","form"] [8,!0] j7 9 006 9 9 (Qm<|qv 1) (λ_ _ _ _ _=>Qx<|xV 0 j7) (λ_ _ _ _ _=>Wx<|Kq<|jH b c 9<|J3 024<|J3 (qv 1) J5)<|λ_ _ _ _ _=>024)<|JD (Ke PassesOwn.never 9 (Qm<|024) (Qx<|Qk j7 9<|.inr 9)<|JC<|Qw (Wx<|Kq<|jH b c 9<|J3 (qv 04)<|J3 (qv 1) J5) (JC<|SJ (pv 2) (Ky ["other_row","row"] [8,!04] 9 9 (Qm<|qv 03) (λ_ _ _ _ _=>Qx<|xV 0 j7)<|λ_ _ _ _ _=>jH f c 9<|J3 (qv 1)<|J3 024 J5)<|λh i=>KY Yv PySem.F.slot_list_extend PySem.F.type_list_extend Rl h i) Qv)<|JC<|ZL<|pv 2]
def pe(a:All e):Ca e "lowest" 03 ["rows","enough"] (zY e.K Dw):=
 qW a.toAl 23 20 λF=>zk (N:=["rows","enough","kept","row"]) (g:=Dv) F JP λ_ _ _ _ _ _ c=>by
 let m:=a.m;let b:=(OZ a).mono (k:=2) ();ext Dv;rw[JD (Ux j7 9 006<|Kx J5)<|JD (Ke PassesOwn.never 9 (Qm<|jr<|iG (λh=>L2.ST.pe_sortLen 9 017 9 017 h)<|J3 (jr<|ig (λh=>BN (L2.ST.call_sortedSet 9 c.units) 9 017 Ef<|WF (DO (L2.ST.call_setRows 9 c.units) 9 017 L2.bt_set h) WQ)<|J3 024 J5) J5) (Qx<|Qk j7 9<|006)<|JD (Qw (Qg (xL c.units) (Xy [2]<|JM (x:="len") Qh 9 017 Qf<|J3 (qv 2) J5) (qv 1)<|Qc _) (JC SI) Qv)<|JC<|Qw (Wx<|Kq<|Xy [2]<|jH b c 9<|J3 (qv 03)<|J3 (qv 2) J5) (JC<|AH (pv 2) (qv 03)<|λf i=>KY Yv Yw Yx Wu f i) Qv)<|JC<|ZL<|pv 2]
def Pa(a:All e):zS e "form_within" 04 ["rows","most"] (yY e.K QZ):=
 yQ a.toAl 24 30 λF=>Fn (N:=["rows","most","kept"]) (g:=B0) F JP λ_ _ _ _ _ _ f=>by
 let m:=a.m;let c:=(pe a).mono (k:=03) ();let b:=a.x_TooMany;ext B0;rw[JD (JX j7 9 006<|jr<|Ba c f 9<|J3 024<|J3 (jq Ql (qv 1) J6) J5)<|JD (Qw (Qg wc (JM (x:="len") Qh 9 017 Qf<|J3 (qv 2) J5) (qv 1)<|Qc _) (JC<|aZ oy b 9 9<|gu 008<|qv 1) Qv)<|JC<|ZK<|SG (x:="sorted") (TJ f.units) 9 017 Ef<|J3 (qv 2) J5]
def Pb(a:All e):zS e "all_of" 05 ["forms","most"] (yt e.K WC):=
 yQ a.toAl 25 26 λF=>CN (N:=["forms","most","told","form"]) (g:=B4) F JP λ_ _ _ _ _ _ f=>by
 let c:=(pK a).mono (k:=04) ();let b:=(Pa a).mono (k:=04) ();ext B4;rw[JD (JX j7 9 006<|jr<|Ab b KR f 9<|J3 (JF (JE f) 024 J6 002<|002)<|J3 (qv 1) J5)<|JD (Ke Fo 9 (Qm<|jr<|ZW 024 (Xe J6) Xd Xd) (Qx<|Qk j7 9<|006)<|JC<|JX j7 9 006<|jr<|Ab b KR f 9<|J3 (jr<|Ba c f 9<|J3 (qv 2)<|J3 (qv 03) J5)<|J3 (qv 1) J5)<|JC<|JN<|qv 2]
def Pc(a:All e):zS e "first_of" 05 ["forms","most"] (yY e.K WN):=
 yQ a.toAl 26 25 λF=>Fn (N:=["forms","most","told","form"]) (g:=B5) F JP λ_ _ _ _ _ _ c=>by
 let b:=(Pa a).mono (k:=04) ();ext B5;rw[JD (Ux j7 9 006<|Ab b KR c 9<|J3 (JF (JE c) 024 J6 002<|002)<|J3 (qv 1) J5)<|JD (Ke Fo 9 (Qm<|jr<|ZW 024 (Xe J6) Xd Xd) (Qx<|Qk j7 9<|006)<|JC<|Cr [2]<|Ux j7 9 006<|Ab b KR c 9<|J3 (jq Ql (qv 2)<|qv 03)<|J3 (qv 1) J5)<|JC<|ZL<|pv 2]
def pO(a:All e):Ca e "shifted" 1 ["row","wait"] (qJ e.K B6):=
 qW a.toAl 27 19 λF=>qq (N:=["row","wait"]) (g:=Dy) F JP λ_ _ _ _ _ _ b=>by
 let m:=a.m;ext Dy;rw[JC<|JN<|Ez (x:="tuple") EF 9 017 Z3<|J3 (jr<|Ky ["thing","own","wait"] [8,8,!1] 9 9 (Qm<|024) (λ_ _ _ _ _=>KB [0,1]<|K7 9<|Qq (xV 0 j7)<|Qq (xV 1 j7) K6)<|λ_ _ _ _ _=>KN<|J3 024<|J3 (jq Ql (qv 1)<|qv 2) J5) J5]
def Pd(a:All e):Ca e "waited" 2 ["form","wait"] (zY e.K XI):=
 qW a.toAl 28 24 λF=>zk (N:=["form","wait"]) (g:=Dz) F JP λ_ _ _ _ _ _ c=>by
 let b:=(pO a).mono (k:=1) ();ext Dz;rw[JC<|ZK<|Ky ["row","wait"] [8,!1] 9 9 (Qm<|024) (λ_ _ _ _ _=>Qx<|xV 0 j7)<|λ_ _ _ _ _=>jH b c 9<|J3 024<|J3 (qv 1) J5]
def ls(a:All e):zS e "put_into_row" 06 ["row","forms","most"] (yt e.K KH):=
 yQ a.toAl 29 28 λF=>CN (N:=["row","forms","most"]) (g:=D0) F JP λ_ _ _ _ _ _ f=>by
 let b:=(Pb a).mono (k:=05) ();let c:=(Pd a).mono (k:=05) ();ext D0;rw[JC<|JN<|CM b KR f 9<|J3 (jr<|Ky ["thing","wait","forms"] [8,8,!1] 9 9 (Qm<|024) (λ_ _ _ _ _=>KB [0,1]<|K7 9<|Qq (xV 0 j7)<|Qq (xV 1 j7) K6)<|λ_ _ _ _ _=>jr<|Ba c f 9<|J3 (JF (JE f) (qv 2) 024 002<|002)<|J3 (qv 1) J5)<|J3 (qv 2) J5]
def pL(a:All e):zS e "put_into" 07 ["form","forms","most"] (yY e.K Wt):=
 yQ a.toAl 30 27 λF=>Fn (N:=["form","forms","most"]) (g:=Ao) F JP λ_ _ _ _ _ _ f=>by
 let b:=(Pc a).mono (k:=06) ();let c:=(ls a).mono (k:=06) ();ext Ao;rw[JC<|ZK<|Ab b KR f 9<|J3 (jr<|aG ["row","forms","most"] [8,!1,!2] 9 9 (Qm<|024) (λ_ _ _ _ _=>Qx<|xV 0 j7)<|λ_ _ _ _ _ h=>CM c (oP 9 9 9 oZ h) f 9<|J3 024<|J3 (qv 1)<|J3 (qv 2) J5)<|J3 (qv 2) J5]
def ln(a:All e):Ca e "thing_form" 1 ["thing"] (zY e.K D3):=
 qW a.toAl 32 23 λF=>zk (N:=["thing"]) (g:=Gj) F JP λ_ _ _ _ _ _ b=>by
 ext Gj;rw[JC<|ZK<|Kx<|J3 (KN<|J3 (KN<|J3 024<|J3 J6 J5) J5) J5]
def Pe(a:All e)(c:zS e "forms_knowing" (07+k) ["book","name","most","known"] (KS e.K<|Ko j)):zS e "made_form" (07+k+1) ["book","how","forms","most","known"] (KS e.K<|QH j):=
 yQ a.toAl 31 35 λF=>MX (N:=["book","how","forms","most","known"]) (g:=Xo<|Ko j) F JP λ_ _ _ _ _ _ b=>by
 let f:=(Pb a).mono (k:=07+k) ();let h:=(Pc a).mono (k:=07+k) ();let i:=(pL a).mono (k:=07+k) ();ext Xo;rw[MV (MZ<|Qg (xL b.units) (qv 1) Kw<|Qc _) (CT<|Ad<|CM f KR b 9<|J3 (qv 2)<|J3 (qv 03) J5)<|MV (MZ<|Qg (xL b.units) (qv 1) Kw<|Qc _) (CT<|Ad<|jr<|Ab h KR b 9<|J3 (qv 2)<|J3 (qv 03) J5)<|CU (m:=8) (gw (p0 [04]<|AN b.units (qv 1)<|qv 04) (MQ<|aJ (JE b) (qv 04) (qv 1)<|lY f5 (MY c KR b 9<|J3 024<|J3 (qv 1)<|J3 (qv 03)<|J3 (qv 04) J5) (Ad<|xq Kf J6)<|002) pC)<|CT<|am (zv.d i) KR b 9<|Fs (pZ (JE b) (qv 04) (qv 1)<|002)<|Fs (Ad<|qv 2)<|Fs (Ad<|qv 03) ei]
def ay(a:All e)(c:zS e "made_form" (07+k) ["book","how","forms","most","known"] (KS e.K<|QH j)):zS e "forms_knowing" (07+k+1) ["book","name","most","known"] (KS e.K<|Ko<|j+1):=
 yQ a.toAl 33 34 λF=>MX (N:=["book","name","most","known","plan","told","made","how","items","forms"]) (g:=YO<|QH j) F JP λ_ _ _ _ _ _ i=>by
 let m:=a.m;let l:=(OQ a).mono (k:=07+k) ();let f:=(ln a).mono (k:=07+k) ();let h:=(Pd a).mono (k:=07+k) ();let b:=a.k_Plan;ext YO;rw[CU (m:=8) (Fq<|JX j7 9 006<|gr l i 9<|J3 024<|J3 (qv 1) J5)<|CU (m:=8) (Fq<|Ux j7 9 (.inr 9)<|Ky ["thing"] [8] 9 9 (Xb 9 017<|J3 (JM (x:="len") Qh 9 017 Qf<|J3 (W5 b 008<|qv 04) J5) J5) (λ_ _ _ _ _=>Qx<|xV 0 j7)<|λ_ _ _ _ _=>jr<|Ba f i 9<|J3 024 J5)<|CU (m:=8) (pt Fo 9 (Qm<|W5 b 008<|qv 04) (KB [06,07,08]<|K7 9<|Qq (Qk j7 9<|006)<|Qq (Qk j7 9<|006)<|Qq (Qk j7 9<|006) K6)<|av (Fq<|oN ["thing","wait","told"] [8,8,!05] 2 j7 9 006 9 9 (Qm<|qv 08) (λ_ _ _ _ _=>KB [0,1]<|K7 9<|Qq (xV 0 j7)<|Qq (xV 1 j7) K6)<|λ_ _ _ _ _=>jr<|Ba h i 9<|J3 (Lh (JE i) (pv 2) 024 002<|002)<|J3 (qv 1) J5)<|MQ<|ah (pv 05) (MY c KR i 9<|J3 024<|J3 (qv 07)<|J3 (qv 09)<|J3 (qv 2)<|J3 (qv 03) J5)<|λn o=>KY Yv Yw Yx Wu n o)<|p7<|CT<|Ad<|qv 05]
theorem Pf(a:All e):∀j,zS e "forms_knowing" (07+2*j) ["book","name","most","known"] (KS e.K<|Ko j)
 |0=>yQ a.toAl 33 34 λ_=>pE
 |j+1=>ay (k:=2*j+1) a (Pe (k:=2*j+0) a<|Pf a j)
def Pg(a:All e):zS e "forms_knowing" 47 ["book","name","most","known"] (KS e.K<|Ko 20):=Pf a 20
def sU(a:All e):zS e "made_form" 48 ["book","how","forms","most","known"] (KS e.K<|QH 20):=Pe (k:=40) a<|Pg a
def li(a:All e):zS e "forms_of" 48 ["book","name","most"] (yt e.K D6):=
 yQ a.toAl 34 32 λF=>CN (N:=["book","name","most"]) (g:=D5) F JP λ_ _ _ _ _ _ c=>by
 let b:=(Pg a).mono (k:=47) ();ext D5;rw[JC<|JN<|gn b KR c 9<|Fu 024<|Fu (qv 1)<|Fu (qv 2)<|e6 (d0:=.dct [] []) Tn]
def pP(a:All e):zS e "told_form" 49 ["book","name","most"] (yt e.K WO):=
 yQ a.toAl 35 33 λF=>CN (N:=["book","name","most"]) (g:=B8) F JP λ_ _ _ _ _ _ c=>by
 let b:=(li a).mono (k:=48) ();ext B8;rw[JC<|JN<|JF (JE c) (CM b KR c 9<|J3 024<|J3 (qv 1)<|J3 (qv 2) J5) (xq Kf J6) 002<|002]
def pB(a:All e):Ca e "_law_form" 50 ["book","name","most"] (qJ e.K YP):=
 qW a.toAl 36 54 λF=>qq (N:=["book","name","most","form"]) (g:=B9) F JP λ_ _ _ _ _ _ f=>by
 let c:=(pP a).mono (k:=49) ();let b:=a.x_TooMany;ext B9;rw[JD (JX j7 9 006 WV)<|JD (pA 9 9 j7 9 006 c f 9 (J3 024<|J3 (qv 1)<|J3 (qv 2) J5) b 9<|λ_=>JC<|JX j7 9 006 WV)<|JC<|JN<|qv 03]
def pc(a:All e):Ca e "_law_number_by" 1 ["cell"] (qJ e.K Ar):=
 qW a.toAl 37 45 λF=>qq (N:=["cell","size"]) (g:=Aq) F JP λ_ _ _ _ _ _ b=>by
 ext Aq;rw[JD (JX j7 9 006<|jq Q4 (jq WI 024 J6)<|jq AM J6 J6)<|JD (Qw (Qg (xL b.units) (jq Q4 024 J6) J6<|Qc _) (JC<|JN J6) Qv)<|JD (Qw (Qg (xL b.units) (jq Q4 024 J6) J6<|Qc _) (JC<|JN<|qv 1) Qv)<|JC<|JN<|jq X0 J6<|qv 1]
def Ph(a:All e):Ca e "_law_item" 2 ["cell","ahead"] (qJ e.K XJ):=
 qW a.toAl 38 46 λF=>qq (N:=["cell","ahead"]) (g:=D7) F JP λ_ _ _ _ _ _ c=>by
 let b:=(pc a).mono (k:=1) ();ext D7;rw[JC<|JN<|KN<|J3 (jq Q4 024<|qv 1)<|J3 (jH b c 9<|J3 (jq WI 024<|qv 1) J5) J5]
def Pi(a:All e):Ca e "_law_row_by" 03 ["plans","loads","names","what","cell"] (mw e.K Au):=
 qW a.toAl 39 47 λF=>bb (N:=["plans","loads","names","what","cell","plan","ahead","name","part","many"]) (g:=XL) F JP λ_ _ _ _ _ _ b=>by
 let m:=a.m;let c:=(Ph a).mono (k:=2) ();ext XL
 rw[Kh (Xh j7 9 006<|Y6 (JV<|024) (JV<|xq Kf J6)<|002)<|Kh (Xh j7 9 (.inr 9)<|W6 05 [05]<|jq Ql (JM (x:="len") Qh 9 017 Qf<|J3 (JF (JE b) (qv 05) J6 002<|002) J5)<|JM (x:="len") Qh 9 017 Qf<|J3 (JF (JE b) (qv 05) J6 002<|002) J5)<|Kh (Xh j7 9 006<|W6 05 [0]<|JF (JE b) (qv 2) (jq Q4 (jq Ql (JM (x:="len") Qh 9 017 Qf<|J3 024 J5)<|qv 06)<|JM (x:="len") Qh 9 017 Qf<|J3 (qv 2) J5) 002<|002)<|Kh (F6 (JV<|qv 1) (JV<|xq Kf J6)<|W6 05 [1]<|jq Ql (JF (JE b) (qv 1) (xq Kf J6) 002<|002) J6)<|Kh (Ah (Ae 05 [0]<|qF<|Xx (Qg (xL b.units) (jq Q4 (qv 03) J6) J6<|Qc _)<|ZI<|Qg wc (JM (x:="len") Qh 9 017 Qf<|J3 024 J5) J6<|Qc _) (Kh (Xh j7 9 006<|W6 05 [0]<|jq Q4 (jq WI (qv 03) J6)<|jq X0 (JM (x:="len") Qh 9 017 Qf<|J3 024 J5) J6)<|KU<|Ah (Ae 05 [1]<|Qg sX (jq Ql (JF (JE b) (qv 1) (xq Kf J6) 002<|002)<|JF (JE b) (qv 1) (qv 08) 002<|002) J6<|Qc _) (Kh (F6 (JV<|qv 1) (JV<|xq Kf J6)<|W6 05 [1]<|jq Ql (JF (JE b) (qv 1) (xq Kf J6) 002<|002)<|JF (JE b) (qv 1) (qv 08) 002<|002)<|Kh (Xh j7 9 006<|W6 05 [0]<|JM (x:="len") Qh 9 017 Qf<|J3 (JF (JE b) (JF (JE b) 024 (qv 08) 002<|002) J6 002<|002) J5)<|KU<|Fz<|W6 05 [0]<|KN<|J3 (qv 07)<|J3 (JF (JE b) (JF (JE b) 024 (qv 08) 002<|002) J6 002<|002)<|J3 (Ez (x:="tuple") EF 9 017 Z3<|J3 (jr<|Ky ["j","cell","ahead"] [8,!04,!06] 9 9 (Xb 9 017<|J3 (qv 09) J5) (λ_ _ _ _ _=>Qx<|xV 0 j7)<|λ_ _ _ _ _=>jH c b 9<|J3 (jq Ql (qv 1)<|jq WH (jq WH J6<|024)<|024)<|J3 (qv 2) J5) J5) J5) Fy) Fy)<|KU<|Fz<|JV<|KN<|J3 (qv 07)<|J3 (JF (JE b) (jr<|Kx<|J3 Kw<|J3 Kw J5) (jq Q4 (qv 03) J6) 002<|002)<|J3 (KN<|J3 (jH c b 9<|J3 (qv 04)<|J3 (qv 06) J5) J5) J5]
def lf(a:All e):Ca e "_law_grow" 04 ["plans","loads","names","what","cell"] (mw e.K BA):=
 qW a.toAl 40 48 λF=>bb (N:=["plans","loads","names","what","cell","plan","kind","many","row"]) (g:=Av) F JP λ_ _ _ _ _ _ b=>by
 let m:=a.m;let c:=(Ph a).mono (k:=03) ();let f:=(Pi a).mono (k:=03) ();ext Av
 rw[Kh (Xh j7 9 006<|Y6 (JV<|024) (JV<|xq Kf J6)<|002)<|Kh (Fx (m:=!7)<|JX j7 9 006<|jq Q4 (qv 03) J6)<|KU<|Ah (Ae 05 [05]<|qF<|Xx (Qg (xL b.units) (qv 06) J6<|Qc _)<|ZI<|Qg (z7 b.units) (JF (JE b) (qv 05) J6 002<|002) (jr<|Kx J5)<|Qc _) (Kh (Fx (m:=!7)<|JX j7 9 006<|jq Ql J6<|jq Q4 (qv 04) J6)<|Kh (Bg (JV<|024) (Af<|Q9 (W6 05 [0]<|JF (JE b) (qv 2) (JM (x:="len") Qh 9 017 Qf<|J3 024 J5) 002<|002)<|Q9 (Nh 05 [0]<|ZW (qv 2) (Xe<|jq Ql (JM (x:="len") Qh 9 017 Qf<|J3 024 J5) J6) (Xe<|jq Ql (jq Ql (JM (x:="len") Qh 9 017 Qf<|J3 024 J5) J6)<|qv 07) Xd)<|Q9 (Af Xg) Xg)<|λh i=>KY Yv Yw Yx Wu h i)<|KU<|Bg (JV<|qv 1) (JV J6)<|λh i=>KY Yv Yw Yx Wu h i)<|KU<|Ah (Ae 05 [05]<|qF<|Xx (Qg (xL b.units) (qv 06) J6<|Qc _)<|Xx (Qg (xL b.units) (JF (JE b) (qv 05) J6 002<|002) (jr<|Kx J5)<|Qc _)<|ZI<|Qg uL (JM (x:="len") Qh 9 017 Qf<|J3 (JF (JE b) (qv 05) J6 002<|002) J5) J6<|Qc _) (KU<|Bg (Y6 (JV<|qv 05) (JV J6)<|002) (W6 05 [0,05]<|JF (JE b) (qv 2) (jq Q4 (jq Ql (JM (x:="len") Qh 9 017 Qf<|J3 024 J5)<|JM (x:="len") Qh 9 017 Qf<|J3 (JF (JE b) (qv 05) J6 002<|002) J5)<|JM (x:="len") Qh 9 017 Qf<|J3 (qv 2) J5) 002<|002)<|λh i=>KY Yv Yw Yx Wu h i)<|KU<|Ah (Ae 05 [05]<|qF<|Xx (Qg wc (qv 06) J6<|Qc _)<|Xx (Qg (z7 b.units) (JF (JE b) (qv 05) J6 002<|002) (jr<|Kx J5)<|Qc _)<|ZI<|EC b.units (JF (JE b) (JF (JE b) (JF (JE b) (qv 05) J6 002<|002) (xq Kf J6) 002<|002) J6 002<|002)<|KN<|J3 Kw<|J3 Kw J5) (Kh (Xh j7 9 006<|W6 05 [05]<|JF (JE b) (JF (JE b) (qv 05) J6 002<|002) (xq Kf J6) 002<|002)<|KU<|F6 (Y6 (JV<|qv 05) (JV J6)<|002) (JV<|xq Kf J6)<|W6 05 [05]<|KN<|J3 (JF (JE b) (qv 08) J6 002<|002)<|J3 (JF (JE b) (qv 08) J6 002<|002)<|J3 (jq TV (JF (JE b) (qv 08) J6 002<|002)<|KN<|J3 (jH c b 9<|J3 (qv 04)<|J3 (jq X0 (jq Ql (JM (x:="len") Qh 9 017 Qf<|J3 (JF (JE b) (qv 05) J6 002<|002) J5)<|JM (x:="len") Qh 9 017 Qf<|J3 (JF (JE b) (qv 05) J6 002<|002) J5) J6) J5) J5) J5)<|KU<|Bg (Y6 (JV<|qv 05) (JV J6)<|002) (Fw f b 9<|Q9 (JV<|024)<|Q9 (JV<|qv 1)<|Q9 (JV<|qv 2)<|Q9 (JV<|jq WI (qv 03) J6)<|Q9 (JV<|qv 04) Xg)<|λh i=>KY Yv Yw Yx Wu h i]
def l9(a:All e):Ca e "_law_name_by" 1 ["number","used"] (qJ e.K BB):=
 qW a.toAl 41 43 λF=>qq (N:=["number","used","letters","words","more","name","rest"]) (g:=D9) F JP λ_ _ _ _ _ _ b=>by
 let m:=a.m;ext D9;rw[JD (JX j7 9 006 Kw)<|JD (JX j7 9 006<|jr<|Kx<|J3 Kw<|J3 Kw<|J3 Kw<|J3 Kw<|J3 Kw J5)<|JD (Ke PassesOwn.never 9 (Xb 9 017<|J3 (jq Ql (JM (x:="len") Qh 9 017 Qf<|J3 (qv 1) J5) J6) J5) (Qx<|Qk j7 9<|006)<|JD (JX j7 9 006<|JF (JE b) (qv 2) (jq Q4 (jq Ql 024<|qv 04) J6) 002<|002)<|JD (JX j7 9 006<|jq WI (jq Ql 024<|qv 04) J6)<|JD (eE 60 PassesOwn.never (Qg wc (qv 06) J6<|Qc _)<|JD (JX j7 9 006<|jq Ql (qv 05)<|JF (JE b) (qv 2) (jq Q4 (qv 06) J6) 002<|002)<|JC<|JX j7 9 006<|jq WI (qv 06) J6)<|JC<|Qw (qF<|Xx (AN b.units (qv 05)<|qv 1)<|ZI<|AN b.units (qv 05)<|qv 03) (JC<|JN<|qv 05) Qv)<|JC<|JN Kw]
def pF(a:All e):Ca e "_law_names_by" 2 ["script","many"] (zY e.K YQ):=
 qW a.toAl 42 44 λF=>zk (N:=["script","many","base","step","found","k"]) (g:=DA) F JP λ_ _ _ _ _ _ f=>by
 let m:=a.m;let b:=(BE a).mono (k:=1) ();let c:=(l9 a).mono (k:=1) ();ext DA;rw[JD (JX j7 9 006<|jq Q4 (jH b f 9<|J3 024<|J3 J6 J5)<|jq WH J6<|jq AM J6 J6)<|JD (JX j7 9 006<|JF (JE f) (jr<|Kx<|J3 J6<|J3 J6<|J3 J6<|J3 J6<|J3 J6 J5) (jq Q4 (jH b f 9<|J3 024<|J3 J6 J5) J6) 002<|002)<|JD (Ux j7 9 006<|Kx J5)<|JD (Ke PassesOwn.never 9 (Xb 9 017<|J3 (qv 1) J5) (Qx<|Qk j7 9<|006)<|JC<|AH (pv 04) (Xy [04]<|jH c f 9<|J3 (jq Ql (qv 2)<|jq WH (qv 05)<|qv 03)<|J3 (qv 04) J5)<|λh i=>KY Yv Yw Yx Wu h i)<|JC<|ZL<|pv 04]
def pz(a:All e):Ca e "_law_plans_by" 05 ["script"] (qJ e.K XO):=
 qW a.toAl 43 49 λF=>ba (kk:=05) (hw:=k9) (hx:=kq) (N:=["script","names","plans","loads","k"]) (g:=BC) F JP λ_ _ _ _ _ _ c=>by
 let m:=a.m;let b:=(BE a).mono (k:=04) ();let f:=(lf a).mono (k:=04) ();let h:=(pF a).mono (k:=04) ();let i:=(Pi a).mono (k:=04) ();ext BC
 rw[Kh (Fx (m:=!7)<|JX j7 9 006<|jr<|AG h c 9<|J3 024<|J3 J6 J5)<|Kh (Xh j7 9 006<|Af<|Q9 (Af<|Q9 (JV<|JF (JE c) (qv 1) J6 002<|002)<|Q9 (Nh 05 []<|ZW (qv 1) (Xe J6) (Xe<|jq Ql J6<|jq Q4 (jq WI (jH b c 9<|J3 024<|J3 J6 J5) J6) J6) Xd)<|Q9 (Af Xg) Xg) Xg)<|Kh (Xh j7 9 006<|Af<|Q9 (JV J6) Xg)<|Kh (pX PassesOwn.never 9 (iQ 9 017<|J3 J6<|J3 (JM (x:="min") (Tc 9) 9 017 BT<|J3 (JM (x:="len") Qh 9 017 Qf<|J3 024 J5)<|J3 J6 J5)<|J3 J6 J5) (Qx<|Qk j7 9<|006)<|KU<|aH<|Fw f c 9<|Q9 (JV<|qv 2)<|Q9 (JV<|qv 03)<|Q9 (JV<|qv 1)<|Q9 (JV<|JF (JE c) 024 (qv 04) 002<|002)<|Q9 (JV<|jH b c 9<|J3 024<|J3 (jq Ql (qv 04) J6) J5) Xg)<|Kh (Ah (Ae 05 [2]<|Qg (xL c.units) (JF (JE c) (JF (JE c) (qv 2) (xq Kf J6) 002<|002) J6 002<|002) (jr<|Kx J5)<|Qc _) (KU<|Bg (Y6 (Y6 (JV<|qv 2) (JV<|xq Kf J6)<|002) (JV J6)<|002) (Fw i c 9<|Q9 (JV<|qv 2)<|Q9 (JV<|qv 03)<|Q9 (JV<|qv 1)<|Q9 (JV J6)<|Q9 (JV J6) Xg)<|λj l=>KY Yv Yw Yx Wu j l) Fy)<|KU<|Fz<|JV<|qv 2]
def l0(a:All e)(b:Ca e "_law_alike" (0+k) ["found","due"] (qJ e.K<|K4 j)):Ca e "_law_alike" (0+k+1) ["found","due"] (qJ e.K<|K4<|j+1):=
 qW a.toAl 44 51 λF=>qq (N:=["found","due"]) (g:=YR<|K4 j) F JP λ_ _ _ _ _ _ c=>by
 let m:=a.m;ext YR
 rw[JD (Qw (qF<|Uk (Kq<|JM (x:="isinstance") Wz 9 017 KL<|J3 (qv 1)<|J3 (W0 (n:="tuple") (x:="tuple") 9 017 Z3 9) J5)<|WW<|Kq<|JM (x:="isinstance") Wz 9 017 KL<|J3 (qv 1)<|J3 (W0 (n:=013) (x:=013) 9 017 QL 9) J5) (JD (Qw (qF<|Uk (Qg (z7 c.units) (JM (x:="isinstance") Wz 9 017 KL<|J3 024<|J3 (W0 (n:="tuple") (x:="tuple") 9 017 Z3 9) J5) (JM (x:="isinstance") Wz 9 017 KL<|J3 (qv 1)<|J3 (W0 (n:="tuple") (x:="tuple") 9 017 Z3 9) J5)<|Qc _)<|WW<|Qg (z7 c.units) (JM (x:="isinstance") Wz 9 017 KL<|J3 024<|J3 (W0 (n:=013) (x:=013) 9 017 QL 9) J5) (JM (x:="isinstance") Wz 9 017 KL<|J3 (qv 1)<|J3 (W0 (n:=013) (x:=013) 9 017 QL 9) J5)<|Qc _) (JC<|JN Kv) Qv)<|JD (Qw (Qg (z7 c.units) (JM (x:="len") Qh 9 017 Qf<|J3 024 J5) (JM (x:="len") Qh 9 017 Qf<|J3 (qv 1) J5)<|Qc _) (JC<|JN Kv) Qv)<|JC<|JN<|JM (x:="all") (Lx 9) 9 017 Lz<|J3 (jr<|Ky ["k","found","due"] [8,!0,!1] 9 9 (Xb 9 017<|J3 (JM (x:="len") Qh 9 017 Qf<|J3 (qv 1) J5) J5) (λ_ _ _ _ _=>Qx<|xV 0 j7)<|λ_ _ _ _ _=>jH b c 9<|J3 (JF (JE c) (qv 1) 024 002<|002)<|J3 (JF (JE c) (qv 2) 024 002<|002) J5) J5) Qv)<|JC<|JN<|Cp (IA<|JM (x:="isinstance") Wz 9 017 KL<|J3 024<|J3 (W0 (n:="bool") (x:="bool") 9 017 Hs 9) J5)<|Co<|Iz (xL c.units) 024 (qv 1)<|Qc _]
theorem Pj(a:All e):∀j,Ca e "_law_alike" (0+j) ["found","due"] (qJ e.K<|K4 j)
 |0=>qW a.toAl 44 51 λ_=>Ld
 |j+1=>l0 (k:=j) a (Pj a j)
def lA(a:All e):Ca e "_law_alike" 08 ["found","due"] (qJ e.K<|K4 08):=Pj a 08
def p3(a:All e):Ca e "_law_same" 09 ["book","plans"] (qJ e.K DF):=
 qW a.toAl 45 52 λF=>qq (N:=["book","plans","k","plan"]) (g:=DE) F JP λ_ _ _ _ _ _ j=>by
 let m:=a.m;let i:=(lA a).mono (k:=08) ();let f:=a.z_Book;let h:=a.z_Plan;let b:=a.k_Book;let c:=a.k_Plan;ext DE;rw[JD (Qw (qF<|Uk (Wx<|Kq<|JM (x:="isinstance") (Nf b f) 9 017 KL<|J3 024<|J3 (MF b.ns b.mgc 9) J5)<|Uk (Wx<|Kq<|JM (x:="isinstance") Wz 9 017 KL<|J3 (W5 b 008<|024)<|J3 (W0 (n:=013) (x:=013) 9 017 QL 9) J5)<|WW<|Qg (z7 j.units) (JM (x:="len") Qh 9 017 Qf<|J3 (W5 b 008<|024) J5) (JM (x:="len") Qh 9 017 Qf<|J3 (qv 1) J5)<|Qc _) (JC<|JN Kv) Qv)<|JD (Ke PassesOwn.never 9 (Xb 9 017<|J3 (JM (x:="len") Qh 9 017 Qf<|J3 (qv 1) J5) J5) (Qx<|Qk j7 9<|006)<|JD (JX j7 9 006<|JF (JE j) (W5 b 008<|024) (qv 2) 002<|002)<|JC<|Qw (qF<|Uk (Wx<|Kq<|JM (x:="isinstance") (Nf c h) 9 017 KL<|J3 (qv 03)<|J3 (MF c.ns c.mgc 9) J5)<|WW<|Wx<|Kq<|jH i j 9<|J3 (jr<|Kx<|J3 (W5 c 008<|qv 03)<|J3 (W5 c 008<|qv 03)<|J3 (W5 c 008<|qv 03) J5)<|J3 (JF (JE j) (qv 1) (qv 2) 002<|002) J5) (JC<|JN Kv) Qv)<|JC<|JN Kv]
def cY(a:All e)  (F:Fun e.K "law" "law" (vr 59) f o):FnOk e.P e.w e.K e.mg e.base yL 66 f o ["script"] (qJ e.K vo):=
 qq (N:=["script","most","plans","book","many","some","pair","forms"]) (g:=YS) F JP λ_ _ _ _ _ _ b=>by
 let m:=a.m;let j:=(pQ a).mono (k:=65) ();let c:=(BE a).mono (k:=65) ();let h:=(pJ a).mono (k:=65) ();let i:=(pB a).mono (k:=65) ();let l:=(pz a).mono (k:=65) ();let n:=(p3 a).mono (k:=65) ();ext YS
 rw[JD (JX j7 9 006<|jq Ql J6<|jq Q4 (jH c b 9<|J3 024<|J3 J6 J5) J6)<|JD (JX j7 9 006<|jH l b 9<|J3 (jq Ql (jr<|ZW 024 Xd (Xe J6) Xd)<|jr<|ZW 024 (Xe J6) (Xe J6) Xd) J5)<|JD (JX j7 9 006<|jr<|AG j b 9<|J3 (qv 2) J5)<|JD (JX j7 9 (.inr 9)<|JM (x:="len") Qh 9 017 Qf<|J3 (JF (JE b) (JF (JE b) (qv 2) (xq Kf J6) 002<|002) J6 002<|002) J5)<|JD (Ll ["plan","many"] [8,!04] j7 9 006 9 9 (Qm<|qv 2) (λ_ _ _ _ _=>Qx<|xV 0 j7) (λ_ _ _ _ _=>Qg (xL b.units) (JM (x:="len") Qh 9 017 Qf<|J3 (JF (JE b) 024 J6 002<|002) J5) (qv 1)<|Qc _)<|λ_ _ _ _ _=>JF (JE b) 024 J6 002<|002)<|JD (JX j7 9 006<|KN<|J3 (JF (JE b) (JF (JE b) (qv 2) (xq Kf J6) 002<|002) J6 002<|002)<|J3 (JF (JE b) (qv 05) (jq Q4 (jH c b 9<|J3 024<|J3 J6 J5)<|JM (x:="len") Qh 9 017 Qf<|J3 (qv 05) J5) 002<|002) J5)<|JD (Ux j7 9 006<|Kx<|J3 (jH i b 9<|J3 (qv 03)<|J3 (JF (JE b) (qv 06) J6 002<|002)<|J3 (qv 1) J5)<|J3 (jH i b 9<|J3 (qv 03)<|J3 (JF (JE b) (qv 06) J6 002<|002)<|J3 (qv 1) J5) J5)<|JD (Qw (SH [07]<|EC b.units WV<|qv 07) (JC<|JN Kv) Qv)<|JD (Qw (Wx<|Kq<|Xy [07]<|jH h b 9<|J3 024<|J3 (qv 03)<|J3 (qv 06)<|J3 (qv 07)<|J3 (qv 04) J5) (JC<|JN Kv) Qv)<|JD (p6<|pv 07)<|JC<|JN<|Cp (Xy [07]<|jH h b 9<|J3 024<|J3 (qv 03)<|J3 (KN<|J3 (JF (JE b) (qv 06) J6 002<|002)<|J3 (JF (JE b) (qv 06) J6 002<|002) J5)<|J3 (qv 07)<|J3 (qv 04) J5)<|Co<|jH n b 9<|J3 (qv 03)<|J3 (qv 2) J5]
def DH(K:f'):Sp:=λc H Q _=>∃(a:Addr)(b:Yf),c=[016]/\qP K H a (b.map V.int)/\⇑b<=63/\∀e,Q (.bl 6) e
def aA(K:f')(b:YB)(H:Hp)(Q:VK)(E:XK)(h:DH K b H Q E):qJ K vo b H Q E:=by
 let(a c,rfl,f,g,q):=h;rw[(H,[.scr c],jk.refl _,jc.mk (qK.mpr (a,9,f)) .nil,?_)];rw[wW c g,];intro v l j e i;rw[jt.mp i,];rw[q j]
def all_mk{l:W.OpenLaw} {K:f'}   (X:K.In h)(G:h.Ns 000 N)(O:N "law"=! .ref R)
 (d:km K vr tbl)(z:Nn K bl)(dl:uu K "law" (vr 59))
 (a:W.nsIn K 000 "TooMany"=! ! .ref b)(i:W.excIn K b [.type "ValueError",.type "Exception",.type "BaseException",.type "object"] "ValueError.__new__"=6)
 (x:Bh K "Book")
 (y:Bh K "Plan")
 (A:ML K "Book" "Book.__init__" ["plans"] (BQ (vr 14) 0))
 (B:ML K "Plan" "Plan.__init__" ["name","givens","rows"] (BQ (vr 13) 0)):
 ∃Q:FuncData,(∀(s:Shared)(v:Value),BindsTo s Q ([v],[]) [%["script"|v]])/\∀c:Heap,K.In c->c.Ns 000 N->FnOk l.prog w K N c yL 66 R Q ["script"] (DH K):=by
 let(P,C,H,vo):=dl;cases O.symm.trans (W.mg_of X G H);let(E,L,I,f,j,m,o,p):=A;let(F,M,J,g,q,r,t,u):=B;rw[(C,by let(_,_,_,_,_,_,_,_,_,rfl,_,_):=id vo.ex;rw[λs v=>.of_eq 9],λc _ _=>(cY (e:=(l.prog,w,K,N,c,λn=>[b,E,F].getD n 0,λn=>[].getD n default)) (((h,X,G),d,Nb X G z),(a,W.mg_of X G a,i),x,y,(f,W.mg_of X G f,j,m),(_,_,o,p),(g,W.mg_of X G g,q,r),(_,_,t,u)) vo).imp<|aA K)]
def walk{l:W.OpenLaw}     {K:Params->f'}(m:l.most=!63)(e:d.params.defaults=[])
 (o:∀(w:World)(h:Heap),p w h->(K w.params).In h)
 (F:∀(w:World)(c:Yd)(i:Addr)(h:Heap),(K w.params).In h->h.Ns 000 c->c d.name=! .ref i->
  ∃j:FuncData,(∀(s:Shared)(u:Value),BindsTo s j ([u],[]) [%["script"|u]])/\∀b:Heap,(K w.params).In b->b.Ns 000 c->FnOk l.prog w (K w.params) c b yL 66 i j ["script"] (DH<|K w.params)):
 W.WalkO q g A p l.row.toRowW d [] λf r=>PySem.call f r:=
 L2.walk_of (n:=63) (k:=66) (x:="script") (CX:=λ_=>yL) (sp:=λw=>DH<|K w.params) m 008 e (9,008,008) o F (λ_ _ a t v _ y=>(a,t,9,y,v,λ_=>9)) λ_ _ _ _ _ z=>z
end My
end
open PySem PySem.W PyProof.Rows
structure PySem.W.Fast:Prop where(tw9027494538159443844 tw17601052384203538778 tw10569487724729660140 tw12504786787812485119 tw10144117264455873601 tw10481771195432856003 tw10083957749800258919 tw14441535466698226402 tw13098579435428066391 tw4620291343040971940 tw1698967576264251087 tw14667283414016574912 tw12652628742559622791 tw4212587685083452497 tw9375647444342990915 tw4113896933823623125 tw2213989183773047083 tw887965689595314893 tw14749327872006369302 tw7202514061525763406 tw978427124976623219 tw14661349780053933423 tw17531471722554219857 tw3736839935859214323 tw2033262278338275876 tw13137354697228127150 tw6556642970687987608 tw15309119374747495277 tw5113637449069406328 tw13326739915377879855 tw10480184746471444584 tw11601867139204486660 tw17477557939843936491 tw1458315734914896061 tw16999189202925112571 tw852626542198663073 tw11461375612940315050 tw16435271536622199163 tw1942734966372995296 tw14236779486102536444 tw17489626545248225027 tw9951957042036637767 tw17711881133507484238 tw15838118148813424256 tw194001354813617277 tw10824684542042016068 tw17775362016724172098 tw14286857291591901634 tw3390975474536354248 tw162440079373456709 tw4295251180387138839 tw15345624979125058551 tw10090122631535437769 tw16045301432989018710 tw14382129751793892388 tw5216686535972026083 tw16966021225173459704 tw4835101413091671229 tw17687162579002899227 tw10972419835432141193 tw8711529727842428894 tw5516530570892479857 tw10768549806763027383 tw10515857639287505369 tw6573907527732980071 tw9466851399354312660 tw10732461559797375907 tw8999481176849238978 tw2622628458948930374 tw11710855571280954637 tw9909359635741803087 tw13591621581933760476 tw7431499113644927457 tw16758355321165210414 tw12606641161836804306 tw14808789828448279446 tw3068933080218669885 tw8085503856804500900 tw18421003972866489384 tw11345143729981438012 tw3705232810970097248 tw12128562298299634959 tw1141539294335804871 tw3067206568820515566 tw14188725537806717769 tw767121207103053873 tw14052102213483144933 tw14967377594043604592 tw2894498553569690088 tw12840611431647843570 tw16581647275588031936 tw6088722457758823110 tw13525681848835274062 tw8977801045770201863 tw7659112096943508149 tw14140465843050359227 tw10817278240008820290 tw9221271340769340867 tw10332275790944993169 tw13484576043998040431 tw15923635751151911809 tw7539025763318212242 tw5349952763154683289 tw6355628570866918875 tw9623335104892030410 tw12627917379805104036 tw13884860430318801903 tw17289303386906978761 tw8111781717271537673 tw1608885901847022477 tw7814599015630579919 tw616355802620810814 tw17755489050257274436 tw8342566932867946540 tw3061258230120637670 tw4450392009543853706 tw7794405436082223797 tw17393740036166252967 tw12249321855659975679 tw15671840834420253021 tw5655558070232139263 tw6554597967460055966 tw14538972251267455534 tw6921491179726753942 tw15695334248514118169 tw3738278967797241448 tw16051676378213655784 tw17023858584893836342 tw15689687084364010525 tw5970824204597015659 tw1240933597100617543 tw10799257076148949210 tw1597122108028130525 tw6923049419679122174 tw16771767246121616206 tw3339745345589261290 tw14290634337163291023 tw14094999548097307215 tw8750648117784665789 tw9500002588482742669 tw5951664691018148721 tw6405449143876930207 tw1543131830548310137 tw9740203509312928474 tw1584743154872512646 tw5283833692931059415 tw4635586014800262839 tw17933309648433935513 tw15698834516727796089 tw4915759656527318491 tw9895729309380830470 tw11724858237388017139 tw2332180018980981986 tw14313528046886176478 tw3903652991189366936 tw5812934372528697411 tw4234554994363205984 tw14871117059663626421 tw7853127827960663299 tw9711593028389315805 tw5381324789783773940 tw9160023819810995324 tw14556362201093506927 tw1919982098617036707 tw9446188993138092303 tw17383591695114307853 tw13359059903046432092 tw2404434426497638815 tw10824113458293891559 tw13078534585921437880 tw8155517843274414799 tw9868673132882156303 tw13080167069587235992 tw12681793522967851401 tw10667874914393936027 tw6651547208300678019 tw7899031916907681570 tw578675232480413146 tw9615472339338327939 tw14621270287012392791 tw10284979842652061487 tw15705795983616122820 tw17664274082903373210 tw7080332645883614742 tw16448033661769110082 tw2514218684858143793 tw6999233092306774838 tw17572652489526784698 tw13213361618905533231 tw1756427217702333801 tw11761836778407448857 tw12925535798402091622 tw15104519403157544150 tw1272807377769762294 tw5417037259910671469 tw1147842038177755797 tw10571625060279452650 tw5767177038469468769 tw17937406669908370910 tw3229090180329041638 tw14110723794622184641 tw250782661664521571 tw10184349079490842365 tw12156778536633938425 tw10400737540238603050 tw12796370782492036523 tw8543616275145227521 tw166714189687150935 tw2008224923746351597 tw12349445780311094916 tw16688689406076351241 tw952379253569940427 tw10214545309659314475 tw18323864718644180853 tw5281855644936585970 tw11632405980846695529:True)
set_option maxRecDepth 100000 in
set_option maxHeartbeats 0 in
theorem PySem.Challenge.cw_allfirst_k69_whole_lag_by_runs_holds : PySem.Challenge.rw_allfirst_k69_whole_lag_by_runs.Holds := by
 w_on;o_law;k_head;(case hw=>w_witness2)
 k_fill
 refine My.walk (l:=PySem.Challenge.rw_allfirst_k69_whole_lag_by_runs) rfl rfl (fun w h Y=>PySem.W.kIn_of Y) ?F
 case F =>
  intro w mg fa h KX G hmg;refine' My.all_mk KX G hmg ?d ?z ?dl ?a_TooMany ?q_TooMany ?z_Book ?z_Plan ?l_Book ?l_Plan
  (case d =>
   repeat (apply L2.DL.dfs_cons;focus (refine' ⟨_,_,?a,L2.fun_mk ?l ?c ?k⟩;(case a=>k_is);(case l=>k_is);(case c=>k_is);(case k=>k_is)))
   exact True.intro)
  (case z =>
   repeat (apply L2.DL.nn_cons;focus k_is)
   exact True.intro)
  (case dl=>refine' ⟨_,_,?a,L2.fun_mk ?l ?c ?k⟩;(case a=>k_is);(case l=>k_is);(case c=>k_is);(case k=>k_is))
  (case a_TooMany=>k_is)
  (case q_TooMany=>k_exc)
  (case z_Book=>refine' ⟨_,?ua,⟨?ub,?uc,?ud,?ue⟩⟩;(case ua=>k_is);(case ub=>k_is);(case uc=>k_is);(case ud=>k_is);(case ue=>k_is))
  (case z_Plan=>refine' ⟨_,?ua,⟨?ub,?uc,?ud,?ue⟩⟩;(case ua=>k_is);(case ub=>k_is);(case uc=>k_is);(case ud=>k_is);(case ue=>k_is))
  (case l_Book=>refine' ⟨_,_,_,?ua,⟨?up,?uh,?uo,?us⟩,List.forall_mem_cons.mpr ⟨?uf0,List.forall_mem_nil _⟩,⟨?um,?ui,?un,?ue⟩,L2.fun_mk ?ul ?uc ?uk⟩;(case ua=>k_is);(case ui=>k_is);(case ul=>k_is);(case uc=>k_is);(case uk=>k_is);(case up=>k_is);(case uh=>k_is);(case uo=>k_is);(case us=>k_is);(case um=>k_is);(case un=>k_is);(case ue=>k_is);(case uf0=>show PySem.W.findIn _ _ _=_;k_is))
  (case l_Plan=>refine' ⟨_,_,_,?ua,⟨?up,?uh,?uo,?us⟩,List.forall_mem_cons.mpr ⟨?uf0,List.forall_mem_cons.mpr ⟨?uf1,List.forall_mem_cons.mpr ⟨?uf2,List.forall_mem_nil _⟩⟩⟩,⟨?um,?ui,?un,?ue⟩,L2.fun_mk ?ul ?uc ?uk⟩;(case ua=>k_is);(case ui=>k_is);(case ul=>k_is);(case uc=>k_is);(case uk=>k_is);(case up=>k_is);(case uh=>k_is);(case uo=>k_is);(case us=>k_is);(case um=>k_is);(case un=>k_is);(case ue=>k_is);(case uf0=>show PySem.W.findIn _ _ _=_;k_is);(case uf1=>show PySem.W.findIn _ _ _=_;k_is);(case uf2=>show PySem.W.findIn _ _ _=_;k_is))
