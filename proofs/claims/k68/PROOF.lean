import PyProof.Rows.All
import Wide.All
import OpenK.AllK
import Wide.FinOn
import Lean
import PyProof.EqAt
import PyProof.EqKinds
import PyProof.TupleCall
import PyProof.P3Eq
import PyProof.NeData
import PySem.Challenge.RW_allfirst_k68_whole_parts_put_in
set_option autoImplicit true
set_option relaxedAutoImplicit true
set_option Elab.async false
set_option linter.all false
set_option maxRecDepth 100000
open PySem PySem.Spec PyProof.Rows
noncomputable section
local macro_rules | `(tactic| trivial) => `(tactic| first|exact .inl rfl|exact .inr rfl|assumption)
local macro_rules | `(()) => `(by first|lia|omega|(simp;done)|grind|simp_all)
local macro_rules | `(~~~$x) => `(some (.val $x))
set_option compiler.extract_closed false
set_option bootstrap.genMatcherCode false
def zPat:Nat->Lean.Syntax->Lean.MacroM (Lean.TSyntax `rcasesPat)
 |0,_=>Lean.Macro.throwUnsupported
 |f+1,s=>match s with
  |`(_)=>`(rcasesPat|_)
  |`($x:ident)=>`(rcasesPat|$x:ident)
  |`(($x,$xs,*))=>do
   let y<-(#[x]++xs.getElems).mapM λt=>zPat f t
   `(rcasesPat|⟨$[$y],*⟩)
  |_=>Lean.Macro.throwUnsupported
local macro_rules
|`(tactic|let ($x,$xs,*) : $t := $e)=>do
 let y<-(#[x]++xs.getElems).mapM λt=>zPat 9 t
 `(tactic|obtain ⟨$[$y],*⟩ : $t := $e)
|`(tactic|let ($x,$xs,*) := $e)=>do
 let y<-(#[x]++xs.getElems).mapM λt=>zPat 9 t
 `(tactic|obtain ⟨$[$y],*⟩ := $e)
|`(tactic|let $d:letDecl)=>`(tactic|have $d:letDecl)
local macro_rules|`(tactic|let ($x,$xs,*) := $e)=>do
 let(k,v)<-match x with
  |`(-$a)=>pure (1,#[a])
  |`(!$a)=>pure (0,#[a])
  |`($f $a*)=>pure (a.size+1,#[f]++a)
  |_=>Lean.Macro.throwUnsupported
 let v:=v++xs.getElems
 let mut b:Array Lean.Term:=#[]
 let mut p:=#[]
 for y in v do
  let z:=Lean.mkIdent (.mkSimple s!"z{(y.raw.getPos?.getD 0).1}")
  match y with
  |`(_)=>b:=b.push y
  |`($i:ident)=>
   if i.getId=`rfl then
    p:=p.push (<-`(tactic|subst $z:ident))
    b:=b.push z
   else b:=b.push y
  |`(($c,$d,*))=>
   p:=p.push (<-`(tactic|let ($c,$d,*) := $z))
   b:=b.push z
  |_=>Lean.Macro.throwUnsupported
 let n:=v.size-k
 let g(s:String)(i:Nat):=Lean.mkIdent (.mkSimple s!"{s}{i}")
 let A:=g "qa" n
 let X:=g "qx" k
 let u:=b.extract 0 k
 let w:=b.extract k v.size
 let mut t<-if k=0 then `(tactic|refine $A (fun $b* => ?_) $e) else if n=1 then `(tactic|refine $X $e fun $b* => ?_) else `(tactic|refine $X $e fun $u* => $A fun $w* => ?_)
 for q in p do t<-`(tactic|($t:tactic; $q:tactic))
 return t
local macro_rules|`(tactic|calc $e:term)=>`(tactic|refine $e)
local macro_rules|`(%[$x,*|$y])=>do
 if y.raw.getId.hasMacroScopes then Lean.Macro.throwUnsupported
 let r:Lean.Term<-x.getElems.foldrM (λa b=>`(Prod.mk $a $b)) y
 return r
local macro_rules|`(($x,$xs,*))=>`(⟨$x,$xs,*⟩)
local macro_rules|`(!$x)=>`(some $x)
local macro_rules|`(9)=>`(rfl)|`(8)=>`(none)|`(7)=>`(false)|`(6)=>`(true)|`(5)=>`(Nat)|`(4)=>`(Prop)|`(3)=>`(Int)
abbrev f':=PySem.W.Frag
local macro_rules|`($x⁻¹)=>`(($x).heap.objs.size)
local macro_rules|`(⇑$x)=>`(($x).givens.length)
local macro_rules|`(↥$x)=>`(($x).heap.get?)
local macro_rules|`(tactic|ext)=>`(tactic|simp_all)
theorem qx1{P:a->Prop}{G:Prop}(e:∃x,P x)(c:∀x,P x->G):G:=e.elim c
theorem qx2{P:a->b->Prop}{G:Prop}(e:∃x y,P x y)(c:∀x y,P x y->G):G:=e.elim λx h=>qx1 h (c x)
theorem qx3{P:a->b->d->Prop}{G:Prop}(e:∃x y z,P x y z)(c:∀x y z,P x y z->G):G:=e.elim λx h=>qx2 h (c x)
theorem qx4{P:a->b->d->f->Prop}{G:Prop}(e:∃x y z u,P x y z u)(c:∀x y z u,P x y z u->G):G:=e.elim λx h=>qx3 h (c x)
theorem qx5{P:a->b->d->f->g->Prop}{G:Prop}(e:∃x y z u v,P x y z u v)(c:∀x y z u v,P x y z u v->G):G:=e.elim λx h=>qx4 h (c x)
theorem qx6{P:a->b->d->f->g->h->Prop}{G:Prop}(e:∃x y z u v w,P x y z u v w)(c:∀x y z u v w,P x y z u v w->G):G:=e.elim λx h=>qx5 h (c x)
theorem qa2{p q G:Prop}(c:p->q->G)(e:p/\q):G:=c e.1 e.2
theorem qa3{p q r G:Prop}(c:p->q->r->G)(e:p/\q/\r):G:=qa2 (c e.1) e.2
theorem qa4{p q r s G:Prop}(c:p->q->r->s->G)(e:p/\q/\r/\s):G:=qa3 (c e.1) e.2
theorem qa5{p q r s t G:Prop}(c:p->q->r->s->t->G)(e:p/\q/\r/\s/\t):G:=qa4 (c e.1) e.2
theorem qa6{p q r s t u G:Prop}(c:p->q->r->s->t->u->G)(e:p/\q/\r/\s/\t/\u):G:=qa5 (c e.1) e.2
theorem qa7{p q r s t u v G:Prop}(c:p->q->r->s->t->u->v->G)(e:p/\q/\r/\s/\t/\u/\v):G:=qa6 (c e.1) e.2
theorem qa8{p q r s t u v w G:Prop}(c:p->q->r->s->t->u->v->w->G)(e:p/\q/\r/\s/\t/\u/\v/\w):G:=qa7 (c e.1) e.2
theorem Zqi.{u}{α:Type u}{a b:α}(h:some a=!b):a=b:=Option.some.inj h
theorem Zqg.{u}{α:Type u}{l:List α}{i:5}(h:i<l.length):l[i]?=!l[i]:=List.getElem?_eq_getElem h
theorem Zqs.{u}{α:Type u}{a:α}{l:List α}:a∈a::l:=List.mem_cons_self
theorem Zqm.{u}{α:Type u}(y:α){a:α}{l:List α}(h:a∈l):a∈y::l:=List.mem_cons_of_mem y h
theorem Zql.{u,v}{α:Type u}{β:Type v}{l:List α}(f:α->β):(l.map f).length=l.length:=List.length_map f
abbrev Za:=@wpAny_bind
abbrev Zb:=@wpAny_pure
abbrev Zc:=@wpAny_mono
abbrev Zd:=@if_pos
abbrev Ze:=@if_neg
abbrev Zf:=@Nat.le_refl
abbrev Zg:=@Nat.lt_of_lt_of_le
abbrev Zh:=@Nat.le_trans
abbrev Zi:=@Nat.ne_of_lt
abbrev Zj:=@Bool.false_ne_true
abbrev Zk:=@Heap.lt_size
abbrev Zl:=@List.map_cons
abbrev Zm:=@List.size_toArray
abbrev Zn:=@absurd
abbrev Zo:=@decide_eq_false
abbrev Zp:=@decide_eq_true
abbrev Zq:=@Heap.get?_push_of_some
abbrev Zr:=@Heap.get?_push_size
abbrev Zs:=@iff_of_false
abbrev Zt:=@congrArg
abbrev Zu:=@List.length_cons
abbrev Zv:=@List.getElem?_map
abbrev Zw:=@List.map_map
abbrev Zx:=@List.getElem?_set_ne
abbrev Zy:=@Nat.lt_irrefl
abbrev Zz:=@Nat.le_of_lt
abbrev ZA:=@List.append_nil
abbrev ZB:=@List.length_range
abbrev ZC:=@List.length_nil
set_option maxHeartbeats 4000000
abbrev Ya:=PySem.Value->PySem.Shared->4
abbrev Yb:=List<|PySem.Addr×PySem.Obj
abbrev Yc:=5->5->Bool
abbrev Yd:=PySem.Str->Option PySem.Value
abbrev Ye:=List PySem.Value
abbrev Yf:=List 3
abbrev Yg:=Array 5
abbrev Yh:=List 5
abbrev Yi:=List PySem.Str
abbrev Yj:=List PySem.Addr
abbrev Yk:=Array PySem.Value
abbrev Yl:=@PyProof.Rows.wpS_bind
abbrev Ym:=@PyProof.Rows.wpS_pure
abbrev Yn:=@PyProof.Rows.wpS_mono
abbrev Yo:=@PyProof.Rows.wpS_forRange
abbrev Yp:=@beq_iff_eq
abbrev Yq:=@Unit.unit
abbrev Yr:=@Bool.eq_false_iff
abbrev Ys:=@Nat.lt_of_not_le
abbrev Yt:=@Nat.one_pos
abbrev Yu:=@Nat.le_of_eq
abbrev Yv:=@PySem.F.plainAttrs_list
abbrev Yw:=@PySem.F.slot_list_append
abbrev Yx:=@PySem.F.type_list_append
abbrev Yy:=PyProof.Rows.SortSt->4
abbrev Yz:=PySem.Shared->4
abbrev YA:=PySem.SetTable
abbrev Ua:=@List.length_append
abbrev Ub:=@List.map_append
abbrev Uc:=@Nat.zero_le
abbrev Ud:=@Bool.and_eq_true
abbrev Ue:=@List.mem_of_getElem?
abbrev Uf:=@List.length_singleton
abbrev Ug:=@List.append_assoc
abbrev Uh:=@List.getD_eq_getElem?_getD
abbrev Ui:=@Array.length_toList
abbrev Uj:=@Sum.inl
abbrev Ul:=@Nat.lt_trans
abbrev Uo:=@List.mem_append_right
abbrev Uq:=@Sum.inr
abbrev Ur:=@Nat.le_of_lt_succ
abbrev Us:=@Array.size_map
abbrev Ut:=@Nat.le_add_right
abbrev Uu:=@List.length_take
abbrev Uv:=@List.all_cons
abbrev Uw:=@Nat.blt
abbrev Uy:=@List.all_eq_true
abbrev Uz:=@List.drop_eq_getElem_cons
abbrev UA:=@Nat.lt_succ_of_lt
abbrev UB:=@List.getElem_mem
abbrev UC:=@List.getElem_of_mem
abbrev UD:=@Nat.le_of_succ_le
abbrev UE:=@Array.getElem?_eq_getElem
abbrev UF:=@List.getElem?_append_right
abbrev UG:=@Nat.lt_succ_self
abbrev UH:=@List.take_of_length_le
abbrev UI:=@Nat.mod_lt
abbrev UJ:=@Nat.lt_of_le_of_ne
abbrev UK:=@List.take_append_drop
abbrev UL:=@Nat.succ.inj
abbrev UM:=@Bool.false_eq_true
abbrev UN:=@List.getElem?_append_left
abbrev UO:=@List.map_congr_left
abbrev UP:=@Nat.blt_eq
abbrev UQ:=@List.pairwise_map
abbrev UR:=@List.foldl_append
abbrev US:=@Nat.lt_of_le_of_lt
abbrev UT:=@List.filterMap_cons
abbrev UU:=@Nat.ne_of_gt
abbrev UV:=@List.take_succ
abbrev UW:=@Array.getElem?_map
abbrev UX:=@Nat.lt_of_succ_lt
abbrev UY:=@Nat.mod_eq_of_lt
abbrev UZ:=@Nat.lt_trichotomy
abbrev U0:=@List.mem_cons
abbrev U4:=@Nat.lt_or_ge
abbrev U5:=@List.getLastD_concat
abbrev U6:=@List.getElem?_set_self
abbrev U7:=@Bool.or_eq_true
abbrev U8:=@List.foldl_cons
abbrev U9:=@Nat.not_lt_zero
abbrev Va:=@List.length_set
abbrev Vb:=@Int.toNat_natCast
abbrev Vc:=@Int.le_refl
abbrev Vd:=@Bool.eq_iff_iff
abbrev Ve:=@Nat.le_succ
abbrev Vf:=@Nat.sub_le
abbrev Vg:=@Nat.exists_eq_add_of_le
abbrev Vh:=@List.drop_length
abbrev Vi:=@List.getElem?_eq_none
abbrev Vj:=@Nat.succ_pos
abbrev Vk:=@List.not_mem_nil
abbrev Vl:=@List.take_length
abbrev Vm:=@List.filter_append
abbrev Vn:=@List.mem_append_left
abbrev Vo:=@List.drop_eq_nil_of_le
abbrev Vp:=@Nat.sub_self
abbrev Vq:=@Nat.min_eq_left
abbrev Vr:=@Array.ext'
abbrev Vs:=@Nat.le_succ_of_le
abbrev Vt:=@Array.getElem?_toList
abbrev Vu:=@List.nodup_nil
abbrev Vv:=@Nat.eq_zero_or_pos
abbrev Vw:=@Array.forIn_toList
abbrev Vx:=@Nat.mul_le_mul
abbrev Vy:=@List.length_filter_le
abbrev Vz:=@List.zip_cons_cons
abbrev VA:=@Nat.add_sub_of_le
abbrev VB:=@List.Perm.trans
abbrev VC:=@Nat.succ_le_succ
abbrev VD:=@List.Perm.refl
abbrev VE:=@Nat.lt_of_add_lt_add_left
abbrev VF:=@Array.size_extract
abbrev VG:=@Nat.le_of_ble_eq_true
abbrev VH:=@Nat.zero_add
abbrev VI:=@Array.getD_eq_getD_getElem?
abbrev VJ:=@List.any_eq_false
abbrev VL:=@Nat.add_le_add_left
abbrev VM:=@List.getElem?_zip_eq_some
abbrev VN:=@Array.swapIfInBounds_def
abbrev VO:=@List.pairwise_append
abbrev VP:=@Nat.eq_zero_of_not_pos
abbrev VQ:=@Nat.pos_of_ne_zero
abbrev VR:=@Nat.add_sub_cancel_left
abbrev VS:=@Array.getElem?_eq_none
abbrev VT:=@List.getElem_map
abbrev VU:=@List.any_eq_true
abbrev VV:=@Array.mem_toList_iff
abbrev VW:=@Array.getElem_mem
abbrev VX:=@List.ext_getElem?
abbrev VY:=@Int.emod_lt_of_pos
abbrev VZ:=@List.getElem?_take_of_lt
abbrev V0:=@Array.getElem?_extract
abbrev V1:=@List.extract_eq_drop_take
abbrev V2:=@List.pairwise_iff_getElem
abbrev V3:=@Nat.le_of_add_le_add_left
abbrev V4:=@List.pairwise_singleton
abbrev V5:=@List.Nodup.length_le_of_subset
abbrev V6:=@List.filter_cons_of_pos
abbrev V7:=@List.filter_cons_of_neg
abbrev Ja:=@List.mem_map
abbrev Jb:=@List.getElem?_eq_some_iff
abbrev Jc:=@List.mem_append
abbrev Jd:=@List.mem_singleton
abbrev Je:=@List.mem_range
abbrev Jf:=@List.mem_filter
abbrev Jg:=@Option.bind_eq_some_iff
abbrev Jh:=@List.map_eq_nil_iff
abbrev Ji:=@List.mem_iff_getElem?
abbrev Jj:=@Option.map_eq_some_iff
abbrev Jk:=@List.pairwise_cons
abbrev Jl:=@List.nodup_cons
abbrev Jm:=@List.length_pos_iff
abbrev Jn:=@List.length_eq_zero_iff
abbrev Jo:=@Array.getElem?_eq_some_iff
abbrev Jp:=@Nat.lt_succ_iff
abbrev Jq:=@Option.isSome_iff_exists
abbrev Jr:=@Bool.and_eq_true_iff
abbrev Js:=@Array.perm_iff_toList_perm
abbrev Jt:=@List.mem_filterMap
abbrev Ju:=@List.mem_iff_getElem
abbrev Jv:=@List.append_eq_nil_iff
abbrev Jw:=@List.getElem?_eq_none_iff
abbrev Jx:=@List.find?_range_eq_none
abbrev Jy:=@List.nodup_iff_pairwise_ne
abbrev Jz:=List<|3×3
abbrev J0:=List Jz
namespace L2
def qS {P:b->4}{G:4}(e:∃a,P a)(c:∀a,P a->G):G:=match e with|(a,h)=>c a h
def y9 {P:b->4}{G:4}(c:∀a,P a->G)(e:∃a,P a):G:=match e with|(a,h)=>c a h
def j7  {P:f->g->4}{G:4}(c:∀a b,P a b->G)(e:∃a b,P a b):G:=match e with|(a,b,h)=>c a b h
def qA  {P:c->e->4}(a:c)(b:e)(h:P a b):∃a b,P a b:=(a,b,h)
def gM   {P:g->i->j->4}{G:4}(e:∃a b f,P a b f)(c:∀a b f,P a b f->G):G:=match e with|(a,b,f,h)=>c a b f h
def qj   {P:g->i->j->4}{G:4}(c:∀a b f,P a b f->G)(e:∃a b f,P a b f):G:=match e with|(a,b,f,h)=>c a b f h
def je   {P:e->f->g->4}(a:e)(b:f)(c:g)(h:P a b c):∃a b c,P a b c:=(a,b,c,h)
def vU    {P:i->j->l->m->4}{G:4}(c:∀a b f g,P a b f g->G)(e:∃a b f g,P a b f g):G:=match e with|(a,b,f,g,h)=>c a b f g h
def jX    {P:f->g->i->j->4}(a:f)(b:g)(c:i)(e:j)(h:P a b c e):∃a b c e,P a b c e:=(a,b,c,e,h)
def xK     {P:j->l->m->n->o->4}{G:4}(c:∀a b f g i,P a b f g i->G)(e:∃a b f g i,P a b f g i):G:=match e with|(a,b,f,g,i,h)=>c a b f g i h
def jF     {P:g->i->j->l->m->4}(a:g)(b:i)(c:j)(e:l)(f:m)(h:P a b c e f):∃a b c e f,P a b c e f:=(a,b,c,e,f,h)
def uK      {P:l->m->n->o->p->q->4}{G:4}(c:∀a b f g i j,P a b f g i j->G)(e:∃a b f g i j,P a b f g i j):G:=match e with|(a,b,f,g,i,j,h)=>c a b f g i j h
def vd      {P:i->j->l->m->n->o->4}(a:i)(b:j)(c:l)(e:m)(f:n)(g:o)(h:P a b c e f g):∃a b c e f g,P a b c e f g:=(a,b,c,e,f,g,h)
def vc       {P:j->l->m->n->o->p->q->4}(a:j)(b:l)(c:m)(e:n)(f:o)(g:p)(i:q)(h:P a b c e f g i):∃a b c e f g i,P a b c e f g i:=(a,b,c,e,f,g,i,h)
def jB{a b G:4}(c:a->b->G)(e:a/\b):G:=match e with|(h0,f)=>c h0 f
def rP{a b G:4}(e:a/\b)(c:a->b->G):G:=match e with|(h0,f)=>c h0 f
def jA{a b f G:4}(c:a->b->f->G)(e:a/\b/\f):G:=match e with|(h0,g,h2)=>c h0 g h2
def gN{a b f G:4}(e:a/\b/\f)(c:a->b->f->G):G:=match e with|(h0,g,h2)=>c h0 g h2
def qW{a b f g G:4}(c:a->b->f->g->G)(e:a/\b/\f/\g):G:=match e with|(h0,h,h2,h3)=>c h0 h h2 h3
def ve{a b f g h G:4}(c:a->b->f->g->h->G)(e:a/\b/\f/\g/\h):G:=match e with|(h0,i,h2,h3,h4)=>c h0 i h2 h3 h4
def vV{a b f g h i j G:4}(c:a->b->f->g->h->i->j->G)(e:a/\b/\f/\g/\h/\i/\j):G:=match e with|(h0,l,h2,h3,h4,h5,h6)=>c h0 l h2 h3 h4 h5 h6
abbrev jI:=Sum 3 Str
noncomputable def KP:jI->Value->Bool
 |.inl k,v=>Value.isInt k v
 |.inr x,v=>Value.isStrOf x v
def sg(w:World):jI->3
 |.inl k=>hashInt k
 |.inr x=>hashStr w x
def KH:∀{k:jI}{v:Value},KP k v=6->(∃i t,k=Uj i/\v=Value.int i t)\/∃x t,k=Uq x/\v=Value.str x t
 |.inl i,v,h=>by
  let(t,e):=Value.isInt_shape h;calc .inl (i,t,9,e)
 |.inr x,v,h=>by
  let(t,e):=Value.isStrOf_shape h;exact .inr (x,t,9,e)
def FZ(i)(t):KP (.inl i) (.int i t)=6:=by simp[KP,Value.isInt]
def OL(x)(t):KP (.inr x) (.str x t)=6:=by simp[KP,Value.isStrOf]
def OM(a b):decide ((Uj a:jI)=Uj b)=(a==b):=()
def ON(a b):decide ((Uq a:jI)=Uq b)=decide (a=b):=()
def OO(a)(b):decide ((Uj a:jI)=Uq b)=7:=rfl
def OP(a)(b):decide ((Uq a:jI)=Uj b)=7:=rfl
def Qk(c:Program)(w:World):PySem.KeyKind c w jI where
 is:=KP
 hash:=sg w
 inj:=λv a b m l=>by
  rcases KH m with ⟨i,t,rfl,rfl⟩|⟨x,t,rfl,rfl⟩
  .rcases KH l with ⟨j,u,rfl,e⟩|⟨y,u,rfl,e⟩
   .injection e with f _;rw[f]
   .exact nomatch e
  .rcases KH l with ⟨j,u,rfl,e⟩|⟨y,u,rfl,e⟩
   .exact nomatch e
   .injection e with f _;rw[f]
 byValue:=λk v h=>by
  rcases KH h with ⟨i,t,rfl,rfl⟩|⟨x,t,rfl,rfl⟩<;>rfl
 pyHash:=λg h=>by
  rcases KH g with ⟨i,t,rfl,rfl⟩|⟨x,t,rfl,rfl⟩
  .exact wpAny_pyHash_int h
  .exact wpAny_pyHash_str h
 eqBool:=λn g h=>by
  rcases KH n with ⟨i,t,rfl,rfl⟩|⟨x,t,rfl,rfl⟩
  .rcases KH g with ⟨j,u,rfl,rfl⟩|⟨y,u,rfl,rfl⟩
   .rw[OM]at h;exact wpAny_eqBool_int h
   .rw[OO]at h;exact SeqAt.EqAt.int_str i t y u _ _ _ _ h
  .rcases KH g with ⟨j,u,rfl,rfl⟩|⟨y,u,rfl,rfl⟩
   .rw[OP]at h;exact SeqAt.EqAt.str_int x t j u _ _ _ _ h
   .rw[ON]at h;exact wpAny_eqBool_str h
 «strs»:=λk x t v h=>by
  rcases KH h with ⟨i,u,rfl,e⟩|⟨y,u,rfl,e⟩
  .exact nomatch e
  .injection e with f _
   subst f;cases v<;>rfl
inductive V where
 |non|bl(b:Bool)|int(i:Int)|str(x:Str)|byt(b:Array UInt8)|flt(b:UInt64)|ref(a:Addr)|ty(n:String)
 deriving DecidableEq
abbrev _root_.YB:=List V
def jv:V->Value->4
 |.non,u=>u=Value.none
 |.bl b,u=>u=Value.bool b
 |.int i,u=>∃t,u=Value.int i t
 |.str x,u=>∃t,u=Value.str x t
 |.byt b,u=>∃t,u=Value.bytes b t
 |.flt b,u=>∃t,u=Value.float b t
 |.ref a,u=>u=Value.ref a
 |.ty n,u=>u=Value.type n
abbrev j5:YB->List Value->4:=Paired jv
theorem j5.length  (r:j5 c e):c.length=e.length:=Paired.length r
theorem j5.get:∀{c:YB}{f:Ye}{i:5}{x:V},j5 c f->c[i]?=!x->∃u,f[i]?=!u/\jv x u
 |_,_,_,_,.nil,e=>by simp at e
 |_,_,0,_,.cons r _,e=>by ext
 |_,_,i+1,x,.cons _ t,e=>by
  let(-u,j,l):=j5.get t (by simpa using e)
  ext
theorem j5.set  (r:jv x u):∀{c:YB}{e:Ye}i,j5 c e->j5 (c.set i x) (e.set i u)
 |_,_,_,.nil=>.nil
 |_,_,0,.cons _ t=>.cons r t
 |_,_,i+1,.cons q t=>.cons q (j5.set r i t)
def j5.append:∀{c e:YB}{f i:Ye},j5 c f->j5 e i->j5 (c++e) (f++i):=λh s=>by
 induction h with
 |nil=>calc s
 |cons r _ j=>exact .cons r j
def j5.none_of:∀{c:YB}{f:Ye}{i:5},j5 c f->c[i]?=8->f[i]?=8:=λ{c f i}r e=>by
 let j:=r.length
 ext
def xX:Option V->Option Value->4
 |some v,some u=>jv v u
 |none,none=>True
 |_,_=>False
def KV{κ:Type}:List (κ × V)->List (κ × Value)->4:=Paired λ(p:κ × V)(q:κ × Value)=>p.1=q.1/\jv p.2 q.2
def kV:jI->V
 |.inl i=>.int i
 |.inr x=>.str x
inductive HO where
 |lst(xs:YB)
 |tup(xs:YB)
 |dK(kvs:List (jI×V))|dT(kvs:List (List jI×V))
 |set(S:Int->Bool)(n:Nat)
 |ins(C dx:Addr)(fs:List (Str×V))
 |own(x:Addr)
 |xd(fs:List (Str×V))
 |met(f x:Addr)
 |rng(lo hi:Int)
 |frz(o:Obj)(u:HO)
 |tbl(ps:Yk)
 |ext(φ:Heap->Prop)
abbrev Hp:=Addr->Option HO
def upd(H:Hp)(a:Addr)(o:HO):Hp:=λb=>if b=a then !o else H b
def JK   :upd H a o a=!o:=by simp_all[upd]
def JF   (h:b≠a):upd H a o b=H b:=by simp_all[upd]
def tY{H:Hp}  (h:H a=!o)(c:H b=!u)(d:o≠u):a≠b:=()
def Kw{H:Hp}  (h:H a=!o)(c:H b=8):a≠b:=()
section
variable (P:Program)(w:World)
def yq(H:Hp)(h:Heap)(a:Addr):HO->4
 |.lst e=>e.length<=sizeLine/\∃(b:Ye)(n:5),j5 e b/\h.get? a=!{cls:=.type "list",data:=.seq b.toArray n}
 |.tup e=>(e.length<=sizeLine/\∃o,h.get? a=!o/\o.dict=8)/\∃b:Ye,j5 e b/\IsTup h a b.toArray
 |.dK c=>c.length<=sizeLine/\(a==sysModules)=7/\∃i,KV c i/\h.DictOf (Qk P w) a i
 |.dT c=>c.length<=sizeLine/\(a==sysModules)=7/\∃e:List (List jI×Addr×Value),
  Paired (λ(p:List jI×V)(q:List jI×Addr×Value)=>p.1=q.1/\H q.2.1=!(.tup<|p.1.map kV)/\jv p.2 q.2.2) c e/\
  ∃o j r,h.get? a=!o/\o.ExactDict/\o.data=.dict j r/\j.toList=e.map (entryOfKey<|tupleKind<|Qk P w)/\(e.map (·.1)).Nodup
 |.set S n=>h.SetOf (intKind P w) a S n
 |.ins C g fs=>H g=! .own a/\fs.length<=1000/\g≠a/\h.get? a=! W.instObj C g/\
  ∃mA,h.Ns1 g mA/\(∀f,xX (fs.lookup f) (mA f))/\PySem.Within mA (fs.map (·.1))
 |.own _=>∃o,h.get? a=!o
 |.xd fs=>∃mA,h.Ns1 a mA/\∀f,xX (fs.lookup f) (mA f)
 |.rng lo s=>∃t u v,h.get? a=!{cls:=.type "range",data:=.fields #[.int lo t,.int s u,.int 1 v]}
 |.frz o u=>h.get? a=!o/\yq H h a u
 |.tbl y=>h.get? a=!{cls:=.none,data:=.fields y}
 |.met f x=>h.get? a=!(W.methodObj (.ref f)<|.ref x)
 |.ext φ=>φ h/\(∃o,h.get? a=!o)/\∀l m:Heap,φ l->(∀o,l.get? a=!o->m.get? a=!o)->φ m
def xr(H:Hp)(h:Heap):4:=∀a o,H a=!o->yq P w H h a o
end
section
variable     {a:Addr}
theorem yq.lt(x:yq P w H h a o):a<h.objs.size:=by
 induction o with
 |lst i=>let(_,_,_,_,e):=x;calc Zk e
 |tup i=>let(_,_,_,p):=x;calc p.lt
 |dK c=>let(!_,_,(_,_,o,_,_,e,_)):=x;calc Zk e
 |dT c=>let(!_,_,(_,_,o,_,_,e,_)):=x;calc Zk e
 |set S n=>let(o _ _ _,e,_):=x;calc Zk e
 |ins C j fs=>calc Zk x.2.2.2.1
 |own y=>let(_,e):=x;calc Zk e
 |xd fs=>let(-_,(_,_,_,e,_),_):=x;calc Zk e
 |rng lo l=>let(_ _ _,e):=x;calc Zk e
 |frz q u=>calc Zk x.1
 |tbl r=>calc Zk<|x
 |met f y=>calc Zk<|x
 |ext φ=>let(!_,(_,e),_):=x;exact Zk e
def yr  :∀{l₁:List α}{l₂:List β},Paired F l₁ l₂->(∀a b,F a b->G a b)->Paired G l₁ l₂:=λh f=>by
 induction h with
 |nil=>calc .nil
 |cons r _ c=>exact .cons (f _ _ r) c
def yq.stay(x:yq P w H h a o)(k:∀b u,b=a\/H b=! .own a->h.get? b=!u->F.get? b=!u)
 (O:∀b,H b=! .own a->I b=! .own a)(Q:∀b B,H b=! .tup B->I b=! .tup B):yq P w I F a o:=by
 induction o with
 |lst B=>let(z,s,n,r,e):=x;calc(z,s,n,r,k _ _ (.inl 9) e)
 |tup B=>let((z,E,R,T),s,r,i,e,c):=x;calc((z,E,k _ _ (.inl 9) R,T),s,r,i,k _ _ (.inl 9) e,c)
 |dK G=>let(z,y,U,r,i,j,l,e,c):=x;calc(z,y,U,r,i,j,l,k _ _ (.inl 9) e,c)
 |dT G=>
  let(!z,y,(B,r,i,j,l,e,c)):=x;calc(z,y,B,yr r λp q z=>(z.1,Q _ _ z.2.1,z.2.2),i,j,l,k _ _ (.inl 9) e,c)
 |set S n=>let(i j l t,e,c):=x;calc jX i j l t (k _ _ (.inl 9) e,c)
 |ins C Z fs=>
  let(!d,z,ne,e,(mA,(E,j,l,X,c),r)):=x;calc(O _ d,z,ne,k _ _ (.inl 9) e,mA,(E,j,l,k _ _ (.inr d) X,c),r)
 |own y=>let(i,e):=x;calc(i,k _ _ (.inl 9) e)
 |xd fs=>let(mA,(E,j,l,e,c),r):=x;calc(mA,je E j l (k _ _ (.inl 9) e,c),r)
 |rng lo hi=>let(t u v,e):=x;calc je t u v<|k _ _ (.inl 9) e
 |frz i u Y=>let(e,q):=x;calc(k _ _ (.inl 9) e,Y q)
 |tbl J=>
  let e:h.get? a=!{cls:=.none,data:=.fields J}:=x;show F.get? a=!{cls:=.none,data:=.fields J};calc k a _ (.inl 9) e
 |met f y=>
  let e:h.get? a=!(W.methodObj (.ref f)<|.ref y):=x;show F.get? a=!(W.methodObj (.ref f)<|.ref y);calc k a _ (.inl 9) e
 |ext φ=>let(!p,(o,e),L):=x;exact(L _ _ p λo q=>k _ _ (.inl 9) q,(o,k _ _ (.inl 9) e),L)
theorem xr.lt(x:xr P w H h)(e:H a=!o):a<h.objs.size:=(x a o e).lt
def xr.fresh(x:xr P w H h)(e:h.objs.size<=a):H a=8:=by
 cases q:H a with
 |none=>rfl
 |some u=>exact Zn (Zg (x.lt q) e)<|Zy _
def xr.kept(x:xr P w H h)(k:∀b u,h.get? b=!u->c.get? b=!u):xr P w H c:=λa o e=>
 (x a o e).stay (λb u _ q=>k b u q) (λ_ q=>q) λ_ _ q=>q
def xr.laid(x:xr P w H h)(k:∀b u,h.get? b=!u->f.get? b=!u)(j:h.objs.size<=a)(new:yq P w (upd H a o) f a o):xr P w (upd H a o) f:=λb u e=>by
 let i:=x.fresh j;by_cases l:b=a
 .simp_all[JK]
 .rw[JF l]at e;exact(x b u e).stay () λc q=>by rwa[JF (Kw q i)] λc n q=>by rwa[JF (Kw q i)]
end
def Rd(H:Hp)(a:Addr)(u:HO):4:=H a=!u\/∃o,H a=! .frz o u
def Rd.ok      (r:Rd H a u)(x:xr P w H h):yq P w H h a u:=by
 rcases r with r|⟨o,r⟩
 .exact x a u r
 .let(_,q):=x a _ r;exact q
def bV:Option HO->4
 |some (.lst _)=>True
 |some (.dK _)=>True
 |some (.dT _)=>True
 |some (.set _ _)=>True
 |some (.ins _ _ _)=>True
 |some (.ext _)=>True
 |_=>False
def xr.write(ok:xr P w H h)(p:bV (H x))(F:e=x\/H e=! .own x)(k:∀b u,b≠e->h.get? b=!u->l.get? b=!u)(n:∃u,l.get? e=!u)
 (new:yq P w (upd H x s) l x s):xr P w (upd H x s) l:=λb u q=>by
 let f:∀c y,H c=! .own y->c≠x:=λc y r z=>by subst z;rwa[r]at p
 let i:∀c j,H c=! .tup j->c≠x:=λc j r z=>by subst z;rwa[r]at p
 by_cases E:b=x
 .simp_all[JK]
 .rw[JF E]at q;by_cases o:b=e
  .let B:H b=! .own x:=by
    ext
   rw[q]at B;cases B;let(v,G):=n;exact(v,by rwa[o])
  .refine(ok b u q).stay (λc v I r=>k c v ?_ r) λc r=>by rwa[JF (f c b r)] λc j r=>by rwa[JF (i c j r)]
   grind
structure Un(fs ex:Yj)(H H':Hp)(h h':Heap):4 where
 keep:∀b o,h.get? b=!o->H b=8->b∉fs->b∉ex->h'.get? b=!o
 slot:∀b o,h.get? b=!o->H b=8->b∈fs->b∉ex->∃sl,h'.get? b=!{o with slots:=sl}
 free:∀b o,h.get? b=!o->H b=8->b∉ex->H' b=8
 there:∀b o,h.get? b=!o->b∉ex->∃o',h'.get? b=!o'
 tups:∀b xs,H b=! .tup xs->H' b=! .tup xs
 frzs:∀b o u,H b=! .frz o u->H' b=! .frz o u
 tbls:∀b ps,H b=! .tbl ps->∃more,H' b=!(.tbl<|ps++more)
section
variable   {h h1 h2 h':Heap}{a x e:Addr}
def Un.any(u:Un fs j H o h h1)  (q:h.get? b=!c)(n:H b=8)(f:b∉j):∃l,h1.get? b=!{c with slots:=l}:=by
 by_cases i:b∈fs
 .exact u.slot b c q n i f
 .exact(c.slots,u.keep b c q n i f)
def Un.kept(k:∀b u,h.get? b=!u->h'.get? b=!u):Un fs f H H h h':=
 (λb c q _ _ _=>k b c q,λb c q _ _ _=>(c.slots,k b c q),λ_ _ _ n _=>n,λb c q _=>(c,k b c q),λ_ _ q=>q,λ_ _ _ q=>q,λ_ i q=>(#[],by rw[q];simp))
theorem Un.refl:Un fs c H H h h:=Un.kept λ_ _ q=>q
def Un.laid(k:∀b u,h.get? b=!u->h'.get? b=!u)(f:h.objs.size<=a)(c:H a=8):Un fs j H (upd H a o) h h' where
 keep:=by grind
 slot:=λb u q _ _ _=>(u.slots,k b u q)
 free:=λb u q n _=>by rwa[JF (Zi<|Zg (Zk q) f)]
 there:=by grind
 tups:=λb i q=>by rwa[JF (Kw q c)]
 frzs:=λb u i q=>by rwa[JF (Kw q c)]
 tbls:=λb l q=>(#[],by rw[JF (Kw q c),q];simp)
def Un.write(f:bV (H x))(r:e=x\/H e=! .own x)(k:∀b u,b≠e->h.get? b=!u->h'.get? b=!u)(i:∃u,h'.get? e=!u):Un fs s H (upd H x o) h h':=by
 let j:∀b,H b=8->b≠x:=λb n z=>by subst z;rwa[n]at f
 let l:∀b,H b=8->b≠e:=by grind
 let c:∀b u,H b=!u->¬bV !u->b≠x:=by grind
 refine((),λb u q n _ _=>(u.slots,k b u (l b n) q),λb u q n _=>by rwa[JF (j b n)],λb u q _=>?_,
  λb p q=>by rwa[JF (c b _ q λz=>z)],λb u p q=>by rwa[JF (c b _ q λz=>z)],λb v q=>(#[],by rw[JF (c b _ q λz=>z),q];simp))
 grind
end
def trk(h:Heap)(H:Hp):Yj:=(List.range h.objs.size).filter λa=>(H a).isSome
def ww(h:Heap)(H:Hp):Heap:=W.hideAll h<|trk h H
structure Mod(K:f')(mg:Yd)(base:Heap):4 where
 kin:K.In base
 glob:base.Ns mainGlobals mg
 blt:∃mb,base.Ns builtinsNs mb/\∀x:Str,x ≠"__name__"->mb x=bootBuiltins x
 nolimit:base.NoLimit
structure Cx where
 prog:Program
 w:World
 K:f'
 mg:Yd
 base:Heap
 A:Around
 N:Yi
 s₀:Shared
 H₀:Hp
 env:Env
 outer:List Env
 stack:List Env
 ex:Yj
 fn:Str->Bool
 calm:Bool
 pn:Yb
 xe:Ya
abbrev _root_.YE(X:Cx){α:Type}(m:Sem α):=wpAny (model X.prog X.w) X.A m
abbrev _root_.YF(P:Program)(w:World)(A:Around){α:Type}(m:Sem α):=wpAny (model P w) A m
abbrev _root_.YG(P:Program)(w:World)(A:Around)(E:Value->Shared->4)(s:Shared){α:Type}(m:StateT PyProof.Rows.SortSt Sem α):=PyProof.Rows.wpS (model P w) A E s m
def xH(l:List Env):Yj:=l.filterMap (·.frame)
abbrev Cx.fs(X:Cx):Yj:=xH X.outer
def nF(a:Scope)(x:Str):4:=a.names.lookup x=!.local\/a.names.lookup x=!.cell\/a.names.lookup x=!.free
def yZ(a:Scope)(x:Str):4:=a.names.lookup x=!.local\/a.names.lookup x=!.cell
def t8(a:Env)(h:Heap)(m:Yd)(x:Str)(u:Value):4:=
 a.kindOf x=!.local/\m x=!u\/(a.kindOf x=!.cell\/a.kindOf x=!.free)/\∃c,a.cells.lookup x=!c/\h.IsCell c !u
structure Cx.Ok(X:Cx):4 where
 mod:Mod X.K X.mg X.base
 kind:X.env.scope.kind=.function
 glob:X.env.globals=mainGlobals
 blt:X.env.builtins=builtinsNs
 above:X.s₀.heap.objs.size<=X.env.locals
 inj:∀x y c,X.env.cells.lookup x=!c->X.env.cells.lookup y=!c->x=y
 has:∀x,X.env.kindOf x=!.cell\/X.env.kindOf x=!.free->∃c,X.env.cells.lookup x=!c
 cab:∀x c,X.fn x=6->X.env.cells.lookup x=!c->X.s₀.heap.objs.size<=c
 hd:X.calm=6->X.A.handled=8
 frames:X.A.frames=!X.stack
 stk:X.stack=X.outer\/X.stack=X.env::X.outer/\X.env.frame=!X.env.locals
 exf:∀b∈X.ex,b≠X.env.locals/\∀x c,X.env.cells.lookup x=!c->c≠b
 bs:∀b o,X.base.get? b=!o->X.s₀.heap.get? b=!o/\X.H₀ b=8
 bsz:X.base.objs.size<=X.s₀.heap.objs.size
 noex:∀b o,X.base.get? b=!o->b∉X.ex
 exfs:∀b∈X.ex,b∉X.fs
 funs:X.s₀.heap.FunFrames X.base X.outer
 frf:∀b∈X.fs,X.H₀ b=8
structure Inv(X:Cx)(Y:Yb)(Z:List (Option V))(H:Hp)(s:Shared):4 where
 ok:X.Ok
 os:s.os=X.s₀.os
 bare:AllBare s.gens
 base:Un X.fs X.ex X.H₀ H X.s₀.heap s.heap
 loc:∃m,s.heap.Ns X.env.locals m/\∀(i:5)(x:Str)(v:V),X.N[i]?=!x->Z[i]?=! !v->nF X.env.scope x->∃u,jv v u/\t8 X.env s.heap m x u
 cell:∀x c,X.env.cells.lookup x=!c->∃v,s.heap.IsCell c v
 free:H X.env.locals=8
 freeC:∀x c,X.env.cells.lookup x=!c->H c=8
 pin:∀p∈X.pn++Y,↥s p.1=!p.2/\H p.1=8/\p.1≠X.env.locals/\p.1∉X.fs/\∀v,p.2.data ≠ .cell v
 hok:xr X.prog X.w H s.heap
 len:Z.length=X.N.length
section
variable {X:Cx}
def Cx.Ok.nofr(ok:X.Ok)  (e:X.base.get? b=!o):b∉X.fs:=λc=>by
 let:=(ok.funs.mem c).1
 ext
theorem Inv.bs(I:Inv X Y Z H s):∀b o,X.base.get? b=!o->↥s b=!o/\H b=8:=λb o e=>
 (I.base.keep b o (I.ok.bs b o e).1 (I.ok.bs b o e).2 (I.ok.nofr e)<|I.ok.noex b o e,I.base.free b o (I.ok.bs b o e).1 (I.ok.bs b o e).2<|I.ok.noex b o e)
def Inv.bk(I:Inv X Y Z H s):∀b o,X.base.get? b=!o->↥s b=!o:=λb o e=>(I.bs b o e).1
theorem Inv.mod(I:Inv X Y Z H s):Mod X.K X.mg X.base:=I.ok.mod
def Inv.kIn(I:Inv X Y Z H s):X.K.In s.heap:=I.ok.mod.kin.keeps I.bk
theorem Inv.lt(I:Inv X Y Z H s):X.env.locals<s⁻¹:=qS I.loc λ_=>jB λc _=>c.lt
theorem Inv.sz(I:Inv X Y Z H s):X.s₀.heap.objs.size<=s⁻¹:=Zh I.ok.above<|Zz I.lt
def Inv.nofs(I:Inv X Y Z H s){a:Addr}(h:s⁻¹<=a):a∉X.fs:=λc=>by
 let(_,o,e,_):=I.ok.funs.mem c;exact Zn (Zg (Zk e)<|Zh I.sz h)<|Zy _
def Inv.cne(I:Inv X Y Z H s):∀x c,X.env.cells.lookup x=!c->c≠X.env.locals:=λx c e z=>by
 let(v o,j,l):=I.cell x c e;let(-m,(n,p,q,f,i,_),_):=I.loc
 ext
theorem Inv.funs(I:Inv X Y Z H s):s.heap.FunFrames X.base X.outer:=by
 let all:∀l,(∀b∈xH l,b∈X.fs)->X.s₀.heap.FunFrames X.base l->s.heap.FunFrames X.base l:=by
  intro l
  induction l with
  |nil=>intro _ _;trivial
  |cons j r n=>
   intro f p;let(!q,(L,o,u,v,x,y),B):=p;let c:L∈X.fs:=f L (by simp_all[xH,UT]);let(E,e):=I.base.slot L o x (I.ok.frf L c) c λz=>I.ok.exfs L z c;exact(q,(L,_,u,v,e,y),n λb i=>f b<|by simp_all[xH,UT] B)
 exact all X.outer (λ_ i=>i) I.ok.funs
theorem Inv.stack(I:Inv X Y Z H s):s.heap.FunFrames X.base X.stack:=by
 rcases I.ok.stk with e|⟨e,hf⟩
 .rw[e];exact I.funs
 .rw[e];let(-m,c,_):=I.loc;calc .cons (by rw[I.ok.kind];decide) hf c ?_ I.funs;exact Heap.get?_none_of_le<|Zh I.ok.bsz I.ok.above
def Inv.stkSub(I:Inv X Y Z H s):∀b∈xH X.stack,b∈X.env.locals::X.fs:=λb c=>by
 rcases I.ok.stk with e|⟨e,hf⟩
 .ext
 simp_all[xH]
def Inv.stkFree(I:Inv X Y Z H s):∀b∈xH X.stack,H b=8:=λb hb=>by
 rcases U0.mp (I.stkSub b hb)with e|hb
 .rw[e];exact I.free
 .let(_,o,c,_):=I.ok.funs.mem hb;exact I.base.free b o c (I.ok.frf b hb) λz=>I.ok.exfs b z hb
def Inv.step   {ch:Yj}(I:Inv X Y Z H s)
 (J:∀b∈ch,(b∈X.ex\/X.s₀.heap.objs.size<=b)/\b≠X.env.locals/\(∀x c,X.env.cells.lookup x=!c->c≠b)/\∀p∈X.pn++Y,p.1≠b)
 (keep:∀b o,b≠X.env.locals->b∉X.fs->b∉ch->↥s b=!o->H b=8->Q.get? b=!o)
 (E:∀b o,b≠X.env.locals->b∈X.fs->b∉ch->↥s b=!o->H b=8->∃sl,Q.get? b=!{o with slots:=sl})(free:∀b o,b∉ch->↥s b=!o->H b=8->S b=8)
 (L:∀b o,b∉ch->↥s b=!o->∃T,Q.get? b=!T)
 (U:∀b F,H b=! .tup F->S b=! .tup F)(frzs:∀b o u,H b=! .frz o u->S b=! .frz o u)(tbls:∀b ps,H b=! .tbl ps->∃more,S b=!(.tbl<|ps++more))
 (ns:∀m,s.heap.Ns X.env.locals m->Q.Ns X.env.locals m)(hok:xr X.prog X.w S Q)(hg:AllBare g'):
 Inv X Y Z S {s with heap:=Q,gens:=g',drawn:=d',toks:=t'}:=by
 let neL:∀b o,X.s₀.heap.get? b=!o->b≠X.env.locals:=λb o e=>Zi<|Zg (Zk e) I.ok.above;let B:∀b o,X.s₀.heap.get? b=!o->b∉X.ex->b∉ch:=λb o e f O=>by
  rcases(J b O).1 with z|z
  .exact f z
  .exact Zn (Zg (Zk e) z)<|Zy _
 let j:∀x c,X.env.cells.lookup x=!c->∀v,s.heap.IsCell c v->Q.IsCell c v:=λx c e v zh=>by
  let(-o,R,hd):=zh;let y:c∉ch:=by grind
  by_cases hc:c∈X.fs
  .let(sl,q):=E c o (I.cne x c e) hc y R (I.freeC x c e);exact(_,q,hd)
  .exact(o,keep c o (I.cne x c e) hc y R<|I.freeC x c e,hd)
 refine(I.ok,I.os,hg,(λb o e n O f=>?_,λb o e n O f=>?_,λb o e n f=>?_,λb o e f=>?_,λb F e=>U b F<|I.base.tups b F e,λb o F e=>frzs b o F<|I.base.frzs b o F e,λb ps e=>?_),?_,λx c e=>?_,?_,λx c e=>?_,λp hp=>?_,hok,I.len)
 .exact keep b o (neL b o e) O (B b o e f) (I.base.keep b o e n O f)<|I.base.free b o e n f
 .let(sl,G):=I.base.slot b o e n O f;let(sl',e2):=E b _ (neL b o e) O (B b o e f) G (I.base.free b o e n f);exact(sl',e2)
 .let(T,G):=I.base.there b o e f;exact free b T (B b o e f) G<|I.base.free b o e n f
 .let(T,G):=I.base.there b o e f;exact L b T (B b o e f) G
 .let(m1,G):=I.base.tbls b ps e
  grind
 .let(-m,hn,hl):=I.loc;calc(m,ns m hn,λi x v G e2 e3=>?_);let(-u,r,l):=hl i x v G e2 e3;calc(u,r,?_);rcases l with l|⟨k,c,e,z⟩
  .exact .inl l
  .exact .inr (k,c,e,j x c e _ z)
 .let(v,z):=I.cell x c e;exact(v,j x c e v z)
 .let(-m,(o,_,_,R,_),_):=I.loc;exact free _ o (λz=>(J _ z).2.1 9) R I.free
 .let(v o,R,hd):=I.cell x c e;exact free c o () R<|I.freeC x c e
 .let(!e,n,ne,nf,d):=I.pin p hp;let y:=λz=>(J p.1 z).2.2.2 p hp 9;exact(keep p.1 p.2 ne nf y e n,free p.1 p.2 y e n,ne,nf,d)
def Inv.un (I:Inv X Y Z H s)(u:Un X.fs [] H p s.heap q)(f:xr X.prog X.w p q):Inv X Y Z p {s with heap:=q,toks:=E}:=by
 let(-m,(o,F,G,v,r),_):=id I.loc;let(J,x):=u.any v I.free ();exact I.step (g':=s.gens) (d':=s.drawn) (ch:=[]) (λ_ z=>nomatch z) (λb o _ i _ e n=>u.keep b o e n i ()) (λb o _ i _ e n=>u.slot b o e n i ()) (λb o _ e n=>u.free b o e n ()) (λb o _ e=>u.there b o e ()) u.tups u.frzs u.tbls (λL y=>by
  let(O j l,c,B):=y;rw[v]at c;cases c;calc je _ j l (x,B)) f I.bare
def Inv.call    (I:Inv X Y Z H s)(u:Un (xH X.stack) G H B s.heap E)(j:xr X.prog X.w B E)(J:AllBare L)
 (l:∀b∈G,(b∈X.ex\/X.s₀.heap.objs.size<=b)/\b≠X.env.locals/\(∀x c,X.env.cells.lookup x=!c->c≠b)/\∀p∈X.pn++Y,p.1≠b):
 Inv X Y Z B {s with heap:=E,gens:=L,drawn:=S,toks:=T}:=have(m,(o,U,ep,F,r),_):=id I.loc;have(sl,q):=u.any F I.free ();I.step l (λb o q O f e n=>u.keep b o e n (λz=>(U0.mp<|I.stkSub b z).elim q O) f) (λb o _ _ f e n=>u.any e n f) (λb o f e n=>u.free b o e n f) (λb o f e=>u.there b o e f) u.tups u.frzs u.tbls (λm' Q=>by
 let(o' v y,i,R):=Q;rw[F]at i;cases i;calc je _ v y (q,R)) j J
def Inv.turned  (I:Inv X Y Z H s)(k:∀b o,b≠it->↥s b=!o->i.get? b=!o)(F:H it=8)(j:it≠X.env.locals)
 (G:it∈X.ex\/X.s₀.heap.objs.size<=it)(J:∀x c,X.env.cells.lookup x=!c->c≠it)(L:∀p∈X.pn++Y,p.1≠it):Inv X Y Z H {s with heap:=i,toks:=t'}:=by
 refine I.step (ch:=[it]) (λb O=>?_) () (λb o _ _ f e _=>(o.slots,k b o λz=>f<|by simp[z] e)) (λ_ _ _ _ n=>n)
  () (λ_ _ e=>e) (λ_ _ _ e=>e) (λb Q e=>(#[],by rw[e];simp)) (λm l=>?_) (λb u e=>?_) I.bare
 .grind
 .have(o,y,B,E,r):=l;exact je o y B (k _ o (Ne.symm j) E,r)
 .refine(I.hok b u e).stay (λc v f q=>k c v ?_ q) (λ_ q=>q) λ_ _ q=>q
  grind
def Inv.tok(I:Inv X Y Z H s)(t):Inv X Y Z H {s with toks:=t}:=I.un Un.refl I.hok
theorem Inv.kept (I:Inv X Y Z H s)(k:∀b u,↥s b=!u->c.get? b=!u):Inv X Y Z H {s with heap:=c,toks:=e}:=I.un (Un.kept k)<|I.hok.kept k
theorem Inv.laid{a:Addr}  (I:Inv X Y Z H s)(k:∀b u,↥s b=!u->e.get? b=!u)(c:s⁻¹<=a)(new:yq X.prog X.w (upd H a o) e a o):
 Inv X Y Z (upd H a o) {s with heap:=e,toks:=t'}:=I.un (Un.laid k c<|I.hok.fresh c)<|I.hok.laid k c new
theorem Inv.write   (I:Inv X Y Z H s)(i:bV (H x))(j:e=x\/H e=! .own x)(k:∀b u,b≠e->↥s b=!u->f.get? b=!u)(c:∃u,f.get? e=!u)
 (new:yq X.prog X.w (upd H x o) f x o):Inv X Y Z (upd H x o) {s with heap:=f,toks:=l}:=I.un (Un.write i j k c)<|I.hok.write i j k c new
def Inv.pins_of (I:Inv X Y Z H s)(h:∀p∈Y',↥s p.1=!p.2/\H p.1=8/\p.1≠X.env.locals/\p.1∉X.fs/\∀v,p.2.data ≠ .cell v):Inv X Y' Z H s:=
 (I.ok,I.os,I.bare,I.base,I.loc,I.cell,I.free,I.freeC,λp c=>(Jc.mp c).elim (λz=>I.pin p<|Vn _ z)<|h p,I.hok,I.len)
def Ga{N:Yi}(c:N.Nodup){i j:5} (a:N[i]?=!x)(b:N[j]?=!x):i=j:=by
 let(g,e):=Jb.mp a;let(h,f):=Jb.mp b;exact(List.getElem_inj c).mp<|e.trans f.symm
def OQ        (I:Inv X Y Z H s)(hN:X.N.Nodup)(C:X.N[i]?=!x)(t:yZ X.env.scope x)(r:jv v u)
 (h:∀U,Inv X Y (Z.set i<|!v) H U->(∃a,Heap.SameBut a s.heap U.heap/\(a=X.env.locals\/X.env.cells.lookup x=!a))->Q Yq U)(hf:X.fn x=6\/X.env.scope.names.lookup x=!.local:=by trivial):wpAny M A (storeName X.env x u) Q E s:=by
 let(-m,hn,hl):=id I.loc;let N:(X.env.scope.kind==.class||X.env.scope.kind==.module&&X.env.locals !=X.env.globals)=7:=by rw[I.ok.kind];rfl
 let hiσ:i<Z.length:=by rw[I.len];exact(Jb.mp C).1
 let cne:=I.cne;let g:∀{a:Addr}{L:Heap},(∃o,↥s a=!o/\H a=8)->Heap.SameBut a s.heap L->xr X.prog X.w H L:=λ{a L}ha f b ob e=>by
  let(_,_,hfree):=ha;refine(I.hok b ob e).stay (λc S w q=>(f.2 c ?_).trans q) (λ_ q=>q) λ_ _ q=>q
  grind
 rcases t with hk|hk
 .calc wpAny_storeName_local hk hn (λL hn' f=>?_) N;let(oL _ _,hoL,_):=id hn;refine h _ (I.ok,I.os,I.bare,(λb o e n F t=>?_,λb o e n F t=>?_,I.base.free,λb o e t=>?_,I.base.tups,I.base.frzs,I.base.tbls),(_,hn',λj y v' l B e3=>?_),λy c e=>?_,I.free,I.freeC,λp hp=>?_,g (oL,hoL,I.free) f,by simpa using I.len) (_,f,.inl 9)
  .exact(f.2 b<|Zi<|Zg (Zk e) I.ok.above).trans<|I.base.keep b o e n F t
  .let(sl,l):=I.base.slot b o e n F t;exact(sl,(f.2 b<|Zi<|Zg (Zk e) I.ok.above).trans l)
  .let(o',l):=I.base.there b o e t;exact(o',(f.2 b<|Zi<|Zg (Zk e) I.ok.above).trans l)
  .by_cases G:j=i
   .subst G;rw[C]at l;cases l;rw[U6 hiσ]at B;cases B;exact(u,r,.inl (hk,()))
   .rw[Zx (Ne.symm G)]at B;let(u',r',q):=hl j y v' l B e3;calc(u',r',?_);rcases q with ⟨k,e⟩|⟨k,c,e,z⟩
    .calc .inl (k,?_);let:y≠x:=λe=>G<|Ga hN l<|e ▸ C;simp[this,e]
    .exact .inr (k,c,e,z.sameBut f<|cne y c e)
  .let(S,z):=I.cell y c e;exact(S,z.sameBut f<|cne y c e)
  .let(!e,n,ne,nf,d):=I.pin p hp;exact((f.2 p.1 ne).trans e,n,ne,nf,d)
 .let J:X.fn x=6:=by
   rcases hf with z|z
   .exact z
   .rw[z]at hk;cases hk
  let(c,w):=I.ok.has x (.inl hk);let(S,z):=I.cell x c w;calc wpAny_storeName_cell I.ok.kind hk w z<|λL O f=>?_;let(-oc,P,hocd):=id z;refine h {s with heap:=L} (I.ok,I.os,I.bare,(λb o e n F t=>?_,λb o e n F t=>?_,I.base.free,λb o e t=>?_,I.base.tups,I.base.frzs,I.base.tbls),(m,hn.sameBut f<|Ne.symm<|cne x c w,λj y v' l B e3=>?_),λy T e=>?_,I.free,I.freeC,λp hp=>?_,g (oc,P,I.freeC x c w) f,by simpa using I.len) (c,f,.inr w)
  .exact(f.2 b<|Zi<|Zg (Zk e)<|I.ok.cab x c J w).trans<|I.base.keep b o e n F t
  .let(sl,l):=I.base.slot b o e n F t;exact(sl,(f.2 b<|Zi<|Zg (Zk e)<|I.ok.cab x c J w).trans l)
  .let(o',l):=I.base.there b o e t;exact(o',(f.2 b<|Zi<|Zg (Zk e)<|I.ok.cab x c J w).trans l)
  .by_cases G:j=i
   .subst G;rw[C]at l;cases l;rw[U6 hiσ]at B;cases B;exact(u,r,.inr (.inl hk,c,w,O))
   .rw[Zx (Ne.symm G)]at B;let(-u',r',q):=hl j y v' l B e3;calc(u',r',?_);rcases q with q|⟨k,T,e,z'⟩
    .exact .inl q
    .calc .inr (k,T,e,z'.sameBut f ?_);rintro rfl;exact G<|Ga hN l<|I.ok.inj _ _ _ e w ▸ C
  .by_cases R:T=c
   .subst R;exact(_,O)
   .let(w2,z2):=I.cell y T e;exact(w2,z2.sameBut f R)
  .let(!e,n,ne,nf,d):=I.pin p hp;calc((f.2 p.1 ?_).trans e,n,ne,nf,d);intro q;rw[q,P]at e;let q':=Zqi e;exact d S<|by rwa[<-q']
def ZD        (I:Inv X Y Z H s)(b:X.N.Nodup)(c:X.N[i]?=!x)(e:yZ X.env.scope x)(r:jv v u)
 (h:∀a,Inv X Y (Z.set i<|!v) H a->Q Yq a)(f:X.fn x=6\/X.env.scope.names.lookup x=!.local:=by trivial):wpAny M A (storeName X.env x u) Q E s:=
 OQ I b c e r (λa g _=>h a g) f
def Inv.call'  (I:Inv X Y Z H s)(j:s'.os=s.os)(u:Un (xH X.stack) ch H i s.heap s'.heap)(e:xr X.prog X.w i s'.heap)(l:AllBare s'.gens)
 (f:∀b∈ch,(b∈X.ex\/X.s₀.heap.objs.size<=b)/\b≠X.env.locals/\(∀x c,X.env.cells.lookup x=!c->c≠b)/\∀p∈X.pn++Y,p.1≠b):Inv X Y Z i s':=by
 let(n,o,q,r,v):=s';subst j;exact I.call u e l f
end
abbrev XK:=Value->Option Addr->Hp->4
abbrev St:=List<|Option V
abbrev VK:=V->Hp->4
abbrev TE:=St->Hp->VK->4
abbrev TT:=St->Hp->(Bool->Hp->4)->4
abbrev TA:=St->Hp->(YB->Hp->4)->4
structure Ends where
 nx:St->Hp->4
 rt:VK
 bk:St->Hp->4:=λ_ _=>False
 ct:St->Hp->4:=λ_ _=>False
abbrev TS:=Ends->St->Hp->4
def EP(X:Cx)(Y:Yb)(Z:St)(Q:VK)(u:Value)(b:Shared):4:=∃v a,Inv X Y Z a b/\jv v u/\Q v a
def TP(X:Cx)(Y:Yb)(Z:St)(Q:Bool->Hp->4)(b:Bool)(c:Shared):4:=∃a,Inv X Y Z a c/\Q b a
def AP(X:Cx)(Y:Yb)(Z:St)(Q:YB->Hp->4)(c:Ye)(e:Shared):4:=∃a b,Inv X Y Z b e/\j5 a c/\Q a b
def SP(X:Cx)(Y:Yb)(D:Ends)(f:Flow)(c:Shared):4:=
 match f with
 |.next=>∃b a,Inv X Y b a c/\D.nx b a
 |.brk=>∃b a,Inv X Y b a c/\D.bk b a
 |.cont=>∃b a,Inv X Y b a c/\D.ct b a
 |.ret u=>∃v b a,Inv X Y b a c/\jv v u/\D.rt v a
def PE(X:Cx)(e:Expr)(t:TE):4:=
 ∀(Y:Yb)(s:Shared)(Z:St)(H:Hp)(Q:VK),Inv X Y Z H s->t Z H Q->YE X (eval e X.env) (EP X Y Z Q) X.xe s
def PT(X:Cx)(e:Expr)(t:TT):4:=
 ∀(Y:Yb)(s:Shared)(Z:St)(H:Hp)(Q:Bool->Hp->4),Inv X Y Z H s->t Z H Q->YE X (isTrue e X.env<|eval e X.env) (TP X Y Z Q) X.xe s
def PW(X:Cx)(e:Expr)(t:TT):4:=
 ∀(a:Sem Value)(Y:Yb)(s:Shared)(Z:St)(H:Hp)(Q:Bool->Hp->4),Inv X Y Z H s->t Z H Q->YE X (isTrue e X.env a) (TP X Y Z Q) X.xe s
def bS   (h:PW X e t):PT X e t:=h _
def PA(X:Cx)(b:List Expr)(t:TA):4:=
 ∀(a:Pos)(Y:Yb)(s:Shared)(Z:St)(H:Hp)(Q:YB->Hp->4),Inv X Y Z H s->t Z H Q->YE X (spliced<|backTo a<|starEach b X.env) (AP X Y Z Q) X.xe s
def PS(X:Cx)(a:Stmt)(t:TS):4:=
 ∀(Y:Yb)(s:Shared)(Z:St)(H:Hp)(D:Ends),Inv X Y Z H s->t D Z H->YE X (exec a X.env) (SP X Y D) X.xe s
def xq(X:Cx)(a:List Stmt)(t:TS):4:=
 ∀(Y:Yb)(s:Shared)(Z:St)(H:Hp)(D:Ends),Inv X Y Z H s->t D Z H->YE X (execs a X.env) (SP X Y D) X.xe s
def jO       (h:wpAny M A t Q E s)(b:∀a s,Q a s->c a s):wpAny M A t c E s:=Zc h b λ_ _ x=>x
section
variable {X:Cx}
def yL(i:5):TE:=λZ H Q=>∃v,Z[i]?=! !v/\Q v H
def tC(v:V):TE:=λ_ H Q=>Q v H
def Dr :PE X (.Constant (.str x) j a) (tC<|.str x):=λ_ _ _ H _ I h=>Calls.Constant_str (.str x,H,I.tok _,(_,9),h)
def Gl(X:Cx)(x:Str):4:=X.env.kindOf x=!.globalImplicit
def XQ   {Z:St}     (I:Inv X Y Z H s)(a:Gl X x)(b:X.mg x=!u)(h:Q u s)
 (c:(x==("__debug__":Str))=7:=by decide):YE X (eval (.Name x e) X.env) Q E s:=
 Calls.Name_function_global I.ok.kind a (Calls.loadGlobal_global (by rw[I.ok.glob];calc I.mod.glob.keeps I.bk) b h) c
def ZE   {Z:St}     (I:Inv X Y Z H s)(a:Gl X x)(b:X.mg x=8)(c:bootBuiltins x=!u)(h:Q u s)
 (e:x ≠"__name__":=by decide)(f:(x==("__debug__":Str))=7:=by decide):YE X (eval (.Name x g) X.env) Q E s:=by
 let(-l,i,j):=I.mod.blt;exact Calls.Name_function_global I.ok.kind a (Calls.loadGlobal_builtin (by rw[I.ok.glob];calc I.mod.glob.keeps I.bk) b (by rw[I.ok.blt];calc i.keeps I.bk) ((j x e).trans c) h) f
def Gb    (a:Gl X x)(b:X.mg x=!u)(r:jv v u)(c:(x==("__debug__":Str))=7:=by decide):PE X (.Name x e) (tC v):=
 λ_ _ _ H _ I h=>XQ I a b (v,H,I,r,h) c
variable {a b:Expr}{ta tb:TE}
def PC(X:Cx)(c:CmpOp)(a b:Expr)(t:TE):4:=
 ∀(Y:Yb)(s:Shared)(Z:St)(H:Hp)(Q:VK),Inv X Y Z H s->t Z H Q->
  YE X (eval a X.env) (λv s₁=>YE X (eval b X.env) (λu s₂=>YE X (compareOp c v u) (EP X Y Z Q) X.xe s₂) X.xe s₁) X.xe s
def Gc(b) (h:c ≠ .In)(e:c ≠ .NotIn):behindInMarks c b=7:=by
 cases b<;>first|rfl|(show(_&&(_||_)&&_)=7;ext)
def kK(ta:TE):TE:=λZ H Q=>ta Z H λx c=>Q (.bl<|decide<|x=.non) c
def Gd(ta:TE):TE:=λZ H Q=>ta Z H λx c=>Q (.bl<|not<|decide<|x=.non) c
def jv.none_iff  (r:jv x v):(v==Value.none)=decide (x=.non):=by
 induction x with
 |non=>cases r;rfl
 |bl _=>cases r;rfl
 |int _=>let(t,rfl):=r;rfl
 |str _=>let(t,rfl):=r;rfl
 |byt _=>let(t,rfl):=r;rfl
 |flt _=>let(t,rfl):=r;rfl
 |ref _=>cases r;rfl
 |ty _=>cases r;rfl
def Ge (e:PE X a ta):PC X .Is a (.Constant .none j c) (kK ta):=λY s Z H Q I h=>jO (e Y s Z H _ I h) λv m=>j7 λx f=>jA λg i l=>Constant_none<|is_none_gen (.bl _,f,g,by rw[i.none_iff];rfl,l)
def OR (e:PE X a ta):PC X .IsNot a (.Constant .none j c) (Gd ta):=λY s Z H Q I h=>jO (e Y s Z H _ I h) λv m=>j7 λx f=>jA λg i l=>Constant_none<|isnot_none_gen (.bl _,f,g,by rw[i.none_iff];rfl,l)
def tB(t:TE):TT:=λZ H Q=>t Z H λx e=>∃c,x=.bl c/\Q c e
def Gf  (h:PC X c a b t)(e:behindInMarks c b=7:=by first|calc Gc _ (by decide)<|by decide|rfl):PE X (.Compare a [c] [b] f) t:=λY s Z H Q I g=>wpAny_Compare1 (h Y s Z H Q I g) e
def Ds  (h:PC X f a b t)(e:behindInMarks f b=7:=by first|calc Gc _ (by decide)<|by decide|rfl):PT X (.Compare a [f] [b] g) (tB t):=by
 intro Y s Z H Q I i;calc wpAny_isTrue_Compare1 (jO (h Y s Z H _ I i) λv p e=>jO e λu r j=>jO j λc w=>j7 λx l=>jA λm n o=>?_) e;let(d,rfl,q):=o;cases n;exact wpAny_truthy_bool (l,m,q)
def rn(t u:TT):TT:=λZ H Q=>t Z H λc e=>if c=6 then u Z e Q else Q 7 e
def ou(t u:TT):TT:=λZ H Q=>t Z H λc e=>if c=6 then Q 6 e else u Z e Q
def ow(t:TT):TT:=λZ H Q=>t Z H λc e=>Q (not c) e
def OS(l:PT X a m)(n:PW X (.BoolOp .And (b::rest) e) f):PW X (.BoolOp .And (a::b::rest) e) (rn m f):=by
 intro o Y s Z H Q I h;refine isTrue_and<|jO (l Y s Z H _ I h) λc p=>y9 λg=>jB λi j=>?_
 induction c with
 |true=>calc n o Y p Z g Q i j
 |false=>exact(g,i,j)
def gv(l:PT X a m)(n:PW X (.BoolOp .Or (b::rest) e) f):PW X (.BoolOp .Or (a::b::rest) e) (ou m f):=by
 intro o Y s Z H Q I h;refine isTrue_or<|jO (l Y s Z H _ I h) λc p=>y9 λg=>jB λi j=>?_
 induction c with
 |true=>calc(g,i,j)
 |false=>exact n o Y p Z g Q i j
def kQ(ta tb:TE):TE:=λZ H Q=>ta Z H λx e=>∃c,x=.bl c/\if c=6 then tb Z e Q else Q (.bl 7) e
def nZ(ta tb:TE):TE:=λZ H Q=>ta Z H λx e=>∃c,x=.bl c/\if c=6 then Q (.bl 6) e else tb Z e Q
def OT(j:PE X a ta)(l:PE X (.BoolOp .And (b::rest) f) tb):PE X (.BoolOp .And (a::b::rest) f) (kQ ta tb):=by
 intro Y s Z H Q I h;calc BoolOp_and<|jO (j Y s Z H _ I h) λv m=>j7 λx g=>jA λi n e=>?_;let(c,rfl,e):=e;cases n;refine wpAny_truthy_bool ?_
 induction c with
 |true=>calc l Y m Z g Q i e
 |false=>exact(.bl 7,g,i,9,e)
def gy(j:PE X a ta)(l:PE X (.BoolOp .Or (b::rest) f) tb):PE X (.BoolOp .Or (a::b::rest) f) (nZ ta tb):=by
 intro Y s Z H Q I h;calc BoolOp_or<|jO (j Y s Z H _ I h) λv m=>j7 λx g=>jA λi n e=>?_;let(c,rfl,e):=e;cases n;refine wpAny_truthy_bool ?_
 induction c with
 |false=>calc l Y m Z g Q i e
 |true=>exact(.bl 6,g,i,9,e)
end
def xx(K:f')(H:Hp)(a:Addr)(c:YB):4:=
 Rd H a (.lst c)\/
  ∃(o:Obj)(b:Yk)(n:5),K.lookup a=!o/\o.cls=.type "list"/\o.dict=8/\o.data=.seq b n/\b.size<=sizeLine/\j5 c b.toList
def yF(K:f')(H:Hp)(a:Addr)(c:YB):4:=
 Rd H a (.tup c)\/
  ∃(o:Obj)(b:Yk)(n:5),K.lookup a=!o/\o.cls=.type "tuple"/\o.data=.seq b n/\b.size<=sizeLine/\j5 c b.toList
def tw:Value->Option V
 |.none=>!.non
 |.bool b=>! .bl b
 |.int i _=>! .int i
 |.str x _=>! .str x
 |.bytes b _=>! .byt b
 |.float b _=>! .flt b
 |.ref a=>! .ref a
 |.type n=>! .ty n
 |_=>8
def jv.abs  (r:jv x u):tw u=!x:=by
 induction x with
 |non=>cases r;rfl
 |bl _=>cases r;rfl
 |int _=>let(t,rfl):=r;rfl
 |str _=>let(t,rfl):=r;rfl
 |byt _=>let(t,rfl):=r;rfl
 |flt _=>let(t,rfl):=r;rfl
 |ref _=>cases r;rfl
 |ty _=>cases r;rfl
def jv.inj  (r:jv x u)(q:jv y u):x=y:=Zqi<|r.abs.symm.trans q.abs
theorem j5.inj:∀{e c:YB}{f:Ye},j5 e f->j5 c f->e=c:=λ{e c f}g h=>by
 induction g generalizing c with
 |nil=>cases h;rfl
 |cons r _ i=>
  cases h with
  |cons j l=>rw[r.inj j,i l]
section
variable   {Z: St}
def xx.of{K:f'}(h:H a=! .lst c):xx K H a c:=.inl<|.inl h
def yF.of{K:f'}(h:H a=! .tup c):yF K H a c:=.inl<|.inl h
def Inv.list(I:Inv X Y Z H s)(h:xx X.K H a f):∃c:Ye,j5 f c/\PlainL s.heap a c.toArray/\f.length<=sizeLine:=by
 rcases h with h|⟨o,c,n,hk,hc,hd,i,hz,r⟩
 .let(z,c,n,r,e):=h.ok I.hok;exact(c,r,(_,n,e,9,9,9),z)
 .calc(c.toList,r,(o,n,I.kIn a o hk,hc,hd,()),?_);let e:=r.length
  ext
def Inv.tuple(I:Inv X Y Z H s)(h:yF X.K H a f):∃c:Ye,j5 f c/\IsTup s.heap a c.toArray/\f.length<=sizeLine:=by
 rcases h with h|⟨o,c,n,hk,hc,i,hz,r⟩
 .let(z,c,r,p):=h.ok I.hok;exact(c,r,p,z.1)
 .calc(c.toList,r,(o,I.kIn a o hk,hc,n,()),?_);let e:=r.length
  ext
def Inv.list_inj(I:Inv X Y Z H s)(h:xx X.K H a i)(j:xx X.K H a l):i=l:=by
 let(f,r,(o,n,e,_,_,d),_):=I.list h;let(c,p,(q,u,v,_,_,x),_):=I.list j;let:f=c:=by ext
 subst this;exact r.inj p
def Inv.tuple_inj(I:Inv X Y Z H s)(h:yF X.K H a i)(j:yF X.K H a l):i=l:=by
 let(-f,r,(o,e,_,n,d),_):=I.tuple h;let(-c,p,(q,u,_,v,x),_):=I.tuple j;let:f=c:=by ext
 subst this;exact r.inj p
end
abbrev Cx.wish(X:Cx)(E:Ya):Cx:={X with xe:=E}
abbrev Cx.nox(X:Cx):Cx:=X.wish λ_ _=>False
theorem Cx.Ok.wish{X:Cx}(ok:X.Ok)(E:Ya):(X.wish E).Ok:=
 (ok.mod,ok.kind,ok.glob,ok.blt,ok.above,ok.inj,ok.has,ok.cab,ok.hd,ok.frames,ok.stk,ok.exf,ok.bs,ok.bsz,ok.noex,ok.exfs,ok.funs,ok.frf)
def Cx.Ok.unwish{X:Cx} (ok:(X.wish E).Ok):X.Ok:=
 (ok.mod,ok.kind,ok.glob,ok.blt,ok.above,ok.inj,ok.has,ok.cab,ok.hd,ok.frames,ok.stk,ok.exf,ok.bs,ok.bsz,ok.noex,ok.exfs,ok.funs,ok.frf)
section
variable   {Z: St}
theorem Inv.wish(I:Inv X Y Z H s)(E):Inv (X.wish E) Y Z H s:=(I.ok.wish E,I.os,I.bare,I.base,I.loc,I.cell,I.free,I.freeC,I.pin,I.hok,I.len)
theorem Inv.unwish(I:Inv (X.wish E) Y Z H s):Inv X Y Z H s:=(I.ok.unwish,I.os,I.bare,I.base,I.loc,I.cell,I.free,I.freeC,I.pin,I.hok,I.len)
theorem SP.unwish   (h:SP (X.wish E) Y D f i):SP X Y D f i:=by
 induction f with
 |next=>let(c,e,I,q):=h;calc(c,e,I.unwish,q)
 |brk=>let(c,e,I,q):=h;calc(c,e,I.unwish,q)
 |cont=>let(c,e,I,q):=h;calc(c,e,I.unwish,q)
 |ret u=>let(v c e,I,r,q):=h;exact je v c e (I.unwish,r,q)
theorem xq.nox{c:List Stmt} (h:xq X.nox c t):xq X c t:=λY s Z H D I e=>
 Zc (h Y s Z H D (I.wish _) e) (λ_ _ q=>q.unwish) ()
end
section
variable  {st:Stmt}  {t u:TS}  {te:TE}
def kJ:TS:=λD Z H=>D.nx Z H
def nX(t u:TS):TS:=λD Z H=>t {D with nx:=u D} Z H
def Ba:xq X [] kJ:=λ_ _ Z H _ I h=>wpAny_execs_nil (Z,H,I,h)
def ZF(a:PS X st t)(b:xq X rest u):xq X (st::rest) (nX t u):=by
 intro Y s Z H D I h;refine wpAny_execs_cons<|jO (a Y s Z H {D with nx:=u D} I h) λf c q=>?_
 induction f with
 |next=>
  let(e g,i,q):=q;calc b Y c e g D i q
 |ret v=>calc q
 |brk=>calc q
 |cont=>exact q
def Dt(a:PS X st t):xq X [st] t:=by
 intro Y s Z H D I h;refine wpAny_execs_cons<|jO (a Y s Z H D I h) λf b q=>?_
 grind[wpAny_execs_nil]
def rl:TS:=λD Z H=>D.bk Z H
def Inv.quiet {Z:St}  (I:Inv X Y Z H s):interactive X.env=7:=by simp[interactive,I.ok.kind]
def kL(te:TE):TS:=λD Z H=>te Z H λ_ a=>D.nx Z a
def ZG(b:PE X e te)(c:swapsWith e 8 a.line X.env=pure 7:=by rfl):PS X (.Expr e a) (kL te):=λY s Z H D I h=>wpAny_Expr_any (jO (b Y s Z H _ I h) λv j=>j7 λx f=>jA λg l i=>(Z,f,g,i)) I.quiet c
def nY(te:TE):TS:=λD Z H=>te Z H D.rt
def Bb(a:PE X e te):PS X (.Return (!e) b) (nY te):=λY s Z H D I h=>wpAny_Return_some<|jO (a Y s Z H _ I h) λv j=>j7 λx c=>jA λf g i=>je x Z c (f,g,i)
def rb(c:TT)(t u:TS):TS:=λD Z H=>c Z H λb a=>if b=6 then t D Z a else u D Z a
def Du   (j:PT X c l)(m:xq X a t)(n:xq X b u):PS X (.If c a b o) (rb l t u):=by
 intro Y s Z H D I h;refine wpAny_If<|jO (j Y s Z H _ I h) λd e=>y9 λf=>jB λg i=>?_
 induction d with
 |true=>calc m Y e Z f D g i
 |false=>exact n Y e Z f D g i
end
abbrev TG:=V->St->Hp->(St->Hp->4)->4
abbrev kr:=YB->St->Hp->(St->Hp->4)->4
def PG(X:Cx)(a:Expr)(t:TG):4:=
 ∀(Y:Yb)(s:Shared)(Z:St)(H:Hp)(v:V)(u:Value)(Q:St->Hp->4),Inv X Y Z H s->jv v u->t v Z H Q->
  YE X (assign a X.env u) (λ_ e=>∃b c,Inv X Y b c e/\Q b c) X.xe s
def nG(X:Cx)(f:List Expr)(t:kr):4:=
 ∀(Y:Yb)(s:Shared)(Z:St)(H:Hp)(a:YB)(b:Ye)(Q:St->Hp->4),Inv X Y Z H s->j5 a b->t a Z H Q->
  YE X (assignInOrder ((assignEach f X.env).map (·.2)) b) (λ_ g=>∃c e,Inv X Y c e g/\Q c e) X.xe s
abbrev bR:=V->V->V->Hp->(Hp->4)->4
def bT(X:Cx)(t:bR):4:=
 ∀(Y:Yb)(s:Shared)(Z:St)(H:Hp)(o i v:V)(a b u:Value)(Q:Hp->4),Inv X Y Z H s->jv o a->jv i b->jv v u->t o i v H Q->
  YE X (setItem a b u) (λ_ e=>∃c,Inv X Y Z c e/\Q c) X.xe s
abbrev tz:=V->V->Hp->VK->4
def dA(X:Cx)(a:Operator)(t:tz):4:=
 ∀(Y:Yb)(s:Shared)(Z:St)(H:Hp)(x y:V)(v u:Value)(Q:VK),Inv X Y Z H s->jv x v->jv y u->t x y H Q->
  YE X (inplaceOp a v u) (EP X Y Z Q) X.xe s
def We(i:5):TG:=λv Z H Q=>Q (Z.set i<|!v) H
def JP  (a:X.N.Nodup)(b:X.N[i]?=!x)(c:yZ X.env.scope x)(e:X.fn x=6\/X.env.scope.names.lookup x=!.local:=by trivial):PG X (.Name x f) (We i):=λY s Z H v u Q I r h=>wpAny_assign_Name<|ZD I a b c r (λj g=>(_,H,g,h)) e
def fE:kr:=λa Z H Q=>a=[]/\Q Z H
def Gg(t:TG)(u:kr):kr:=λa Z H Q=>∃v r,a=v::r/\t v Z H λb c=>u r b c Q
def Kg:nG X [] fE:=λY s Z H a b Q I r h=>rP h λe h=>assignInOrder_nil (Z,H,I,h)
def JO    (b:PG X e t)(c:nG X a u)
 (f:(assignEach (e::a) X.env).map (·.2)=assign e X.env::(assignEach a X.env).map (·.2):=by rfl):nG X (e::a) (Gg t u):=by
 intro Y s Z H p q Q I r h;let(v,w,g,h):=h;subst g;cases r with
 |cons r i=>
  rw[f];exact assignInOrder_cons<|jO (b Y s Z H _ _ _ I r h) λ_ j=>j7 λl m=>jB λn o=>c Y j l m _ _ Q n i o
def fA(K:f')(n:5)(t:kr):TG:=λv Z H Q=>∃a b,v=.ref a/\yF K H a b/\b.length=n/\t b Z H Q
def Kh    (i:X.calm=6)(h:nG X c t)
 (j:(assignEach c X.env).length=n:=by rfl)(f:(assignEach c X.env).findIdx? (·.1)=8:=by rfl):PG X (.Tuple c k l) (fA X.K n t):=by
 intro Y s Z H v u Q I r g;let(a,m,p,q,w,g):=g;subst p;cases r;let(-x,y,z,E):=I.tuple q;calc assign_Tuple_tuple (I.ok.hd i) z (by simp[j,<-w,y.length]) f λA B=>?_;let C:Inv X Y Z H {s with heap:=A}:=I.kept λb o e=>B b o (Zi<|Zk e) e;exact h Y _ Z H m _ Q C () g
def yC(a b:TE)(t:bR):TG:=λv Z H Q=>a Z H λo c=>b Z c λi e=>t o i v e λf=>Q Z f
def Gh   (e:PE X o f)(g:PE X i j)(l:bT X t)
 (L:∀v,assign (.Subscript o i b) X.env v=(do
  let a<-holding [v] (eval o X.env)
  let c<-holding [v,a] (eval i X.env)
  standAt b
  holding [v,a,c] (setItem a c v)
  release [v,a,c] []):=by intro _;rfl):PG X (.Subscript o i b) (yC f j t):=λY s Z H v u Q I r h=>Za<|wpAny_holding<|jO (e Y s Z H _ I h) λa m=>j7 λx n=>jA λp q w=>Za<|wpAny_holding<|jO (g Y m Z n _ p w) λc z=>j7 λy A=>jA λB C E=>Za<|wpAny_standAt<|Za<|wpAny_holding<|jO (l Y z Z A x y v a c u _ B q C r E) λ_ M=>y9 λF=>jB λG J=>wpAny_release (Z,F,G,J)
def wn(a:TE)(g:TG):TS:=λD Z H=>a Z H λx b=>g x Z b D.nx
def Gi   (c:PE X e f)(i:PG X a g)(j:swapsWithSole [a] e b.line X.env=pure 7:=by rfl)(l:swappedStores [a] e X.env=pure 8:=by rfl)
 (m:(assignEach [a] X.env).map (·.2)=[assign a X.env]:=by rfl):PS X (.Assign [a] e b) (wn f g):=by
 intro Y s Z H D I h;calc wpAny_Assign_stores (jO (c Y s Z H _ I h) λv n=>j7 λx o=>jA λp r t=>?_) j l;rw[m];exact jO (i Y n Z o x v _ p r t) λ_ u q=>q
def ZH     (c:X.N.Nodup)(f:X.N[i]?=!x)(g:yZ X.env.scope x)(j:PE X e l)(m:swapsWith e (! .Name x a) b.line X.env=pure 7:=by rfl)(n:X.fn x=6\/X.env.scope.names.lookup x=!.local:=by trivial):
 PS X (.Assign [.Name x a] e b) (wn l<|We i):=λY s Z H D I h=>wpAny_Assign_Name (jO (j Y s Z H _ I h) λv u=>j7 λy o=>jA λp q r=>ZD p c f g q (λw t=>(_,o,t,r)) n) m
def rm(i:5)(a:TE)(b:tz):TS:=λD Z H=>∃x,Z[i]?=! !x/\a Z H λy c=>b x y c λz e=>D.nx (Z.set i<|!z) e
def OU       (o:X.N.Nodup)(g:X.N[i]?=!x)(b:yZ X.env.scope x)(p:PE X e q)(t:dA X j A)(B:X.fn x=6\/X.env.scope.names.lookup x=!.local:=by trivial):
 PS X (.AugAssign (.Name x n) j e C) (rm i q A):=by
 intro Y s Z H D I h;let(-v,E,h):=h;let(-m,F,G):=I.loc;let f:nF X.env.scope x:=by rcases b with k|k;calc .inl k;exact .inr<|.inl k
 let(-u,r,l):=G i x v g E f;calc wpAny_AugAssign_Name ?_;let go:YE X (eval e X.env) (λw s₂=>YE X (inplaceOp j u w) (λr s₃=>YE X (storeName X.env x r) (λ_=>SP X Y D .next) X.xe s₃) X.xe s₂) X.xe s:=by
  calc jO (p Y s Z H _ I h) λw J=>j7 λy L=>jA λM N O=>?_;calc jO (t Y J Z L v y u w _ M r N O) λz s2=>j7 λzv P=>jA λQ R S=>?_;exact ZD Q o g b R (λs3 T=>(_,P,T,S)) B
 rcases l with ⟨hk,U⟩|⟨hk,c,hc,a⟩
 .exact wpAny_loadName_local I.ok.kind hk F U go
 .rcases hk with hk|hk
  .exact wpAny_loadName_cell I.ok.kind hk hc a go
  .rcases b with k|k
   .let:X.env.scope.names.lookup x=!.free:=hk;rw[k]at this;cases this
   .let:X.env.scope.names.lookup x=!.free:=hk;rw[k]at this;cases this
def oG(f:3->3->3):tz:=λx y H Q=>∃i j,x=.int i/\y=.int j/\Q (.int<|f i j) H
def OV:dA X .Add (oG λi j=>i+j):=by
 intro Y s Z H x y v u Q I a b h;let(i j,c,e,q):=h;subst c;subst e;let(t,rfl):=a;let(f,rfl):=b;exact iadd_int (.int _,H,I.tok _,(_,9),q)
structure It where
 go:5->Hp->4
 yld:5->Hp->V->Hp->4
 stop:5->Hp->4
def xR(X:Cx)(Y:Yb)(H:Hp)(b:Addr):4:=
 H b=8/\b≠X.env.locals/\b∉X.fs/\(b∈X.ex\/X.s₀.heap.objs.size<=b)/\(∀x c,X.env.cells.lookup x=!c->c≠b)/\∀p∈X.pn++Y,p.1≠b
def Inv.fpOk  {Z:St}  {b:Addr}(I:Inv X Y Z H s)(f:s⁻¹<=b)(i:j b=8):xR X Y j b:=by
 refine(i,UU<|Zg I.lt f,I.nofs f,.inr<|Zh I.sz f,λx c e z=>?_,λp l z=>?_)
 .let(v,q):=I.cell x c e;exact Zn (Zg q.lt<|by rwa[z])<|Zy _
 .exact Zn (Zg (Zk (I.pin p l).1)<|by rwa[z])<|Zy _
structure Turn(P:Program)(w:World)(K:f')(tg:Expr)(J:It)(fp:Yj)(it:Addr)(tn:5->Heap->4):4 where
 mem:it∈fp
 obj:∀i h,tn i h->∀b∈fp,∃o,h.get? b=!o/\∀v,o.data ≠ .cell v
 keep:∀i h h',tn i h->(∀b∈fp,∀o,h.get? b=!o->h'.get? b=!o)->tn i h'
 item:∀(X:Cx),X.prog=P->X.w=w->X.K=K->X.calm=6->∀(i:5)(Y:Yb)(s:Shared)(Z:St)(H:Hp)(E:Ya),Inv X Y Z H s->(∀b∈fp,xR X Y H b)->tn i s.heap->J.go i H->
  wpAny (model P w) X.A (pyNext<|.ref it) (λr s1=>∃u,r=!u/\
   wpAny (model P w) X.A (letOwnedTupleGo tg (.ref it) u) (λ_ s2=>∃x H',Inv X Y Z H' s2/\jv x u/\J.yld i H x H'/\tn (i+1) s2.heap/\∀b∈fp,H' b=8) E s1) E s
 done:∀(X:Cx),X.prog=P->X.w=w->X.K=K->X.calm=6->∀(i:5)(Y:Yb)(s:Shared)(Z:St)(H:Hp)(E:Ya),Inv X Y Z H s->(∀b∈fp,xR X Y H b)->tn i s.heap->J.stop i H->
  wpAny (model P w) X.A (pyNext<|.ref it) (λr s1=>r=8/\Inv X Y Z H s1) E s
 self:∀(A:Around)(i:5)(s:Shared)(Q:Ya)(E:Ya),tn i s.heap->Q (.ref it) s->wpAny (model P w) A (pyIter<|.ref it) Q E s
abbrev TI:=St->Hp->(It->Hp->4)->4
def oU(X:Cx)(Y:Yb)(Z:St)(i:Expr)(R:It->Hp->4)(a:Value)(e:Shared):4:=
 ∃(f:Addr)(g:Yj)(h:5->Heap->4)(J:It)(c:Hp),a=.ref f/\Inv X Y Z c e/\Turn X.prog X.w X.K i J g f h/\h 0 e.heap/\(∀b∈g,xR X Y c b)/\R J c
def PI(X:Cx)(b a:Expr)(wi:TI):4:=
 ∀(Y:Yb)(s:Shared)(Z:St)(H:Hp)(R:It->Hp->4),Inv X Y Z H s->wi Z H R->
  YE X (eval a X.env) (λv c=>YE X (pyIter v) (oU X Y Z b R) X.xe c) X.xe s
def Bc           (b:↥s c=!o)(e:o.cls=.type n)(f:o.data=.fields g)
 (i:["enumerate","zip","dict_itemiterator","dict_reverseitemiterator","odict_iterator","itertools.zip_longest","itertools.pairwise"].contains n=7)(a:Q Yq s):wpAny M A (letOwnedTupleGo j (.ref c) u) Q E s:=by
 cases j<;>first
  |calc Zb a
  |(induction u<;>first
   |calc Zb a
   |(
    calc Za<|wpAny_load b ?_;rw[e,f];show wpAny M A (if(["enumerate","zip","dict_itemiterator","dict_reverseitemiterator","odict_iterator","itertools.zip_longest","itertools.pairwise"].contains n&&g[0]?==! rawInt _)=6 then _ else _) Q E s;rw[Ze (by intro h;rw[i,Bool.false_and]at h;cases h)];calc Zb a))
def dF(K:f')(a:Addr):It:=
 (λi H=>∃b x,xx K H a b/\b[i]?=!x,λi H x c=>c=H/\∀b,xx K H a b->b[i]?=!x,λi H=>∃b,xx K H a b/\b.length<=i)
def dE(K:f')(a:Addr):It:=
 (λi H=>∃b x,yF K H a b/\b[i]?=!x,λi H x c=>c=H/\∀b,yF K H a b->b[i]?=!x,λi H=>∃b,yF K H a b/\b.length<=i)
def tE(lo:3)(n:5):It:=(λi _=>i<n,λi H x a=>a=H/\x=.int (lo+i),λi _=>n<=i)
def OW  {K:f'} (a g):Turn P w K tg (dF K a) [g] g λi h=>h.IsListIter g a i where
 mem:=by simp
 obj:=λi h f b j=>by
  let(-o,e,c,d):=f
  ext
 keep:=λi h q f k=>f.at λo e=>k g () o e
 item:=by
  intro X r t v L i Y s Z H E I m f y;subst r t v;let(N x,n,M):=y;let(-z,A,p,O):=I.list n;let(-u,hu,Q):=A.get M;let(!B,C,R,F,G,J):=m g ();calc wpAny_pyNext_list_item f p.isList (x:=u) () λq l S=>?_;let T:Inv X Y Z H {s with heap:=q}:=I.turned (λb o j e=>(S.2 b j).trans e) B C F G J;let(-o,e,c,d):=id l;exact(u,9,Bc e c d (by decide) (x,H,T,Q,(9,λys U=>by rwa[I.list_inj U n]),l,λb j=>(m b j).1))
 done:=by
  intro X r t v L i Y s Z H E I m f y;subst r t v;let(N,n,M):=y;let(-z,A,p,O):=I.list n;let(!B,C,R,F,G,J):=m g ();let hl:=A.length;exact wpAny_pyNext_list_end (I.ok.hd L) f p.isList (by simp;lia) λq eb=>(9,I.turned (λb o j e=>eb b o j e) B C F G J)
 self:=λ_ _ _ _ _ f h=>wpAny_pyIter_listiter f h
def OX  {K:f'} (a g:Addr):Turn P w K tg (dE K a) [g] g λi h=>h.IsTupleIter g a i where
 mem:=by simp
 obj:=λi h f b j=>by
  let e:b=g:=by simpa using j
  subst e;let(-o,e,c,d):=f;exact(o,e,λv z=>by rw[d]at z;cases z)
 keep:=λi h n f k=>f.at λo e=>k g () o e
 item:=by
  intro X t y A O i Y s Z H E I q f B;subst t y A;let(Q x,r,C):=B;let(-l,F,p,R):=I.tuple r;let(-u,S,T):=F.get C;let(!G,J,U,L,M,N):=q g ();calc wpAny_pyNext_tuple_item f (show s.heap.IsTuple a l.toArray from p) (x:=u) (by simpa using S) λn m sb=>?_;let I1:Inv X Y Z H {s with heap:=n}:=I.turned (t':=s.toks) (λb o j e=>(sb.2 b j).trans e) G J L M N;let(-o,e,c,d):=id m;exact(u,9,Bc (s:={s with heap:=n}) e c d (by decide) (x,H,I1,T,(9,λys hy=>by rw[I.tuple_inj hy r];calc C),m,λb j=>(q b j).1))
 done:=by
  intro X t y A O i Y s Z H E I q f B;subst t y A;let(Q,r,C):=B;let(-l,F,p,R):=I.tuple r;let(!G,J,U,L,M,N):=q g ();let hl:=F.length;exact wpAny_pyNext_tuple_end (I.ok.hd O) f (show s.heap.IsTuple a l.toArray from p) (by simp;lia) λn eb=>(9,I.turned (t':=s.toks) (λb o j e=>eb b o j e) G J L M N)
 self:=λ_ _ _ _ _ f h=>wpAny_pyIter_tupleiter f h
def OY  {K:f'} (a)(lo)(n):Turn P w K M (tE lo n) [a] a λi h=>IsRangeIter h a (lo+(i:5)*1) ((n:3)-(i:5)) 1 where
 mem:=by simp
 obj:=by grind
 keep:=by grind
 item:=by
  intro X y z A g i Y s Z H E I j c l;let(!m,p,B,q,r,u):=j a ();calc(Walks.range (I.ok.hd g) a lo 1 n).item i s _ _ l c λv x C F f N=>?_;let(t,rfl):=F;let G:Inv X Y Z H {s with heap:=x,toks:=C}:=I.turned () m p q r u;calc(_,9,Bc f 9 9 (by decide) (.int<|lo+i,H,G,(t,?_),(9,9),f,()));simp
 done:=by
  intro X y z A g i Y s Z H E I j c l;let(!m,p,B,q,r,u):=j a ();exact wpAny_pyNext_range_end (I.ok.hd g) c (by let:n<=i:=l;lia) λx J=>(9,I.turned (λb o L e=>J b o L e) m p q r u)
 self:=λ_ _ _ _ _ c h=>wpAny_pyIter_rangeiter c h
def fy(K:f')(c:TE):TI:=λZ H R=>c Z H λx b=>∃a,x=.ref a/\(∃e,xx K b a e)/\R (dF K a) b
def sj(K:f')(c:TE):TI:=λZ H R=>c Z H λx b=>∃a,x=.ref a/\(∃e,yF K b a e)/\R (dE K a) b
def OZ  (g:PE X l i):PI X w l (fy X.K i):=by
 intro Y s Z H R I h;calc jO (g Y s Z H _ I h) λv f=>j7 λx j=>jA λc m n=>?_;let(-a,e,(y,r),q):=n;subst e;cases m;let(-t,z,p,A):=c.list r;calc wpAny_pyIter_list p.isList<|jF f⁻¹ [f⁻¹] _ _ j (9,c.kept λb o e=>Zq _ e,OW a _,(_,Zr _ 9,9,9),λb u=>?_,q);let e:b=f⁻¹:=by simpa using u
 subst e;exact c.fpOk (Zf _)<|c.hok.fresh<|Zf _
def Pa  (g:PE X l i):PI X w l (sj X.K i):=by
 intro Y s Z H R I h;calc jO (g Y s Z H _ I h) λv f=>j7 λx j=>jA λc m n=>?_;let(-a,e,(y,r),q):=n;subst e;cases m;let(-t,z,p,A):=c.tuple r;calc wpAny_pyIter_tuple p<|jF f⁻¹ [f⁻¹] _ _ j (9,c.kept λb o e=>Zq _ e,OX a _,(_,Zr _ 9,9,9),λb u=>?_,q);let e:b=f⁻¹:=by simpa using u
 subst e;exact c.fpOk (Zf _)<|c.hok.fresh<|Zf _
def fu(a:TA):TI:=λZ H R=>a Z H λb c=>∃j:3,b=[.int j]/\-2^62<=j/\j<2^62/\R (tE 0 j.toNat) c
def Gj   (m:Gl X "range")(n:X.mg "range"=8)(u:PA X [a] v)(w:starEach [a] X.env=[%[7|eval a X.env]]:=by rfl):PI X C (.Call (.Name "range" p) [a] [] g) (fu v):=by
 intro Y s Z H R I h;calc Call_<|ZE I m n boot_range<|PyProof.Rows.callWith_type1 (jO (u g Y s Z H _ I h) λE c=>j7 λF l=>jA λf x i=>?_) w 9;let(j,e,i,y,q):=i;subst e;cases x with
 |cons r z=>
  cases z;let(t,rfl):=r;exact call_range_1<|by
   calc wpAny_pyIter_range (IsRange.new ..) (small_one () () i y) ?_;let f:Inv X Y Z l {c with heap:=c.heap.push {cls:=.type "range",data:=.fields #[.int 0 c.toks,.int j t,.int 1 (c.toks+1)]},toks:=c.toks+1+1}:=f.kept λb o e=>Zq _ e;refine jF (c.heap.push {cls:=.type "range",data:=.fields #[.int 0 c.toks,.int j t,.int 1 (c.toks+1)]}).objs.size [(c.heap.push {cls:=.type "range",data:=.fields #[.int 0 c.toks,.int j t,.int 1 (c.toks+1)]}).objs.size] _ _ l (9,
    f.kept λb o e=>Zq _ e,OY _ 0 (j-0).toNat,?_,λb G=>?_,by simpa using q)
   .let A:0+((0:5):3)*1=0:=by simp
    let B:(((j-0).toNat:5):3)-((0:5):3)=Builtin.Range.rangeSize 0 j 1:=by grind[rangeSize_one]
    rw[A,B];exact Zr _ 9
   .let e:b=(c.heap.push {cls:=.type "range",data:=.fields #[.int 0 c.toks,.int j t,.int 1 (c.toks+1)]}).objs.size:=by ext
    subst e;exact f.fpOk (Zf _)<|f.hok.fresh<|Zf _
def re(wi:TI)(g:TG)(e:TS):TS:=λD Z H=>wi Z H λJ f=>∃W:5->5->St->Hp->4,(∃m,W 0 m Z f)/\∀i m Z H,W i m Z H->
 J.stop i H/\D.nx Z H\/J.go i H/\∃N:St->Hp->4,(∀b a,N b a->∃c,c<m/\W (i+1) c b a)/\∀x a,J.yld i H x a->g x Z a λh j=>e {D with nx:=N,ct:=N,bk:=D.nx} h j
def ZI(a:Yj)(h:Heap):Yb:=a.filterMap λb=>(h.get? b).map λo=>%[b|o]
def Bd    (a:b∈c)(e:h.get? b=!o):%[b|o]∈ZI c h:=Jt.mpr (b,a,by rw[e];rfl)
def Pb   (a:p∈ZI c h):p.1∈c/\h.get? p.1=!p.2:=by
 let(-b,f,e):=Jt.mp a
 induction q:h.get? b with
 |none=>ext
 |some o=>
  grind
def Inv.pinned {Z:St}   (I:Inv X Y Z H s)(f:∀b∈c,xR X Y H b)(l:∀b∈c,∃o,↥s b=!o/\∀v,o.data ≠ .cell v):Inv X (Y++ZI c s.heap) Z H s:=
 I.pins_of λp i=>(Jc.mp i).elim (λz=>I.pin p ()) λz=>by
  let(j,e):=Pb z;let(!n,q,r,_):=f p.1 j
  grind
def Inv.unpinned {Z:St}  (I:Inv X (Y++c) Z H s):Inv X Y Z H s:=I.pins_of λp e=>I.pin p ()
def Dv  {wi:TI}   (w:PassesOwn (model X.prog X.w) X.A X.env X.xe)(U:X.calm=6)(hi:PI X tg q wi)(hg:PG X tg g)(a:xq X y tb)
 (hs:∀x,foldedSetIterable q X.env x=pure x:=by intro _;rfl):PS X (.For tg q y [] pos) (re wi g tb):=by
 intro Y s Z H D I h;calc wpAny_For (jO (hi Y s Z H _ I h) λv s1 h1=>jO h1 λitv s2 h2=>?_) hs;let(it z tn J H2,e,I2,T,O,f2,(W,(m0,w0),A)):=h2;subst e;let c:∀{p:Hp},(∀b∈z,p b=8)->∀b∈z,xR X Y p b:=λhn b a=>(hn b a,(f2 b a).2);calc codeAny_forLoop_any (λn s'=>∃i B p,Inv X Y B p s'/\tn i s'.heap/\(∀b∈z,p b=8)/\W i n B p) ?_ m0<|je 0 Z H2 (I2,O,λb a=>(f2 b a).1,w0);intro n s3;calc qj λi C M=>qW λI3 E F w3=>?_;rcases A i n C M w3 with ⟨G,qn⟩|⟨go,N,hN,step⟩
 .calc wpAny_passesOwn w<|jO (T.done X 9 9 9 U i Y s3 C M X.xe I3 (c F) E G) λr s4=>jB λP I4=>?_;subst P;exact wpAny_execs_nil (C,M,I4,qn)
 .calc wpAny_passesOwn w<|jO (T.item X 9 9 9 U i Y s3 C M X.xe I3 (c F) E go) λr s4=>y9 λu=>jB λP h4=>?_;subst P;calc wpAny_passesOwn w<|jO h4 λ_ s5=>j7 λx H5=>ve λI5 r5 y5 vP Q=>?_;let R:=I5.pinned (c Q)<|T.obj _ _ vP;calc wpAny_passesOwn w<|jO (hg _ s5 C H5 x u _ R r5<|step x H5 y5) λ_ s6=>j7 λZ6 H6=>jB λI6 q6=>?_;calc wpAny_passesOwn w<|jO (a _ s6 Z6 H6 _ I6 q6) λf S t=>?_;let again:∀{j:St}{H7:Hp},Inv X (Y++ZI z s5.heap) j H7 S->N j H7->∃m,m<n/\∃i B p,Inv X Y B p S/\tn i S.heap/\(∀b∈z,p b=8)/\W i m B p:=λ{j H7}l L=>by
   let(-m',hm,w7):=hN j H7 L;calc(m',hm,i+1,j,H7,l.unpinned,T.keep _ _ _ vP λb a o e=>(l.pin %[b|o]<|Uo _<|Uo _<|Bd a e).1,λb a=>?_,w7);let(-o,e,d):=T.obj _ _ vP b a;exact(l.pin %[b|o]<|Uo _<|Uo _<|Bd a e).2.1
  induction f with
  |next=>let(j H7,l,L):=t;calc again l L
  |cont=>let(j H7,l,L):=t;calc again l L
  |brk=>let(j H7,l,t):=t;calc(j,H7,l.unpinned,t)
  |ret v=>let(x7 j H7,l,r7,t):=t;exact(x7,j,H7,l.unpinned,r7,t)
abbrev R2:=V->V->Hp->VK->4
def xF(X:Cx)(f:Value->Value->Sem Value)(r:R2):4:=
 ∀(Y:Yb)(s:Shared)(Z:St)(H:Hp)(x y:V)(v u:Value)(Q:VK),Inv X Y Z H s->jv x v->jv y u->r x y H Q->
  YE X (f v u) (EP X Y Z Q) X.xe s
def uU(X:Cx)(f:Value->Sem Value)(r:V->Hp->VK->4):4:=
 ∀(Y:Yb)(s:Shared)(Z:St)(H:Hp)(x:V)(v:Value)(Q:VK),Inv X Y Z H s->jv x v->r x H Q->
  YE X (f v) (EP X Y Z Q) X.xe s
def qf(X:Cx)(f:Value)(r:YB->Hp->VK->4):4:=
 ∀(Y:Yb)(s:Shared)(Z:St)(H:Hp)(a:YB)(b:Ye)(Q:VK),Inv X Y Z H s->j5 a b->r a H Q->
  YE X (call f b) (EP X Y Z Q) X.xe s
def u3(r:R2)(a b:TE):TE:=λZ H Q=>a Z H λx c=>b Z c λy e=>r x y e Q
def tUn(r:V->Hp->VK->4)(a:TE):TE:=λZ H Q=>a Z H λx b=>r x b Q
def rI(C:3->3->4)(g:3->3->V):R2:=λx y H Q=>∃i j,x=.int i/\y=.int j/\C i j/\Q (g i j) H
def rJ(g:3->3->V):R2:=λx y H Q=>∃i j,x=.int i/\y=.int j/\Q (g i j) H
def rU(g:3->V):V->Hp->VK->4:=λx H Q=>∃i,x=.int i/\Q (g i) H
def uS(i:PE X a j)(l:PE X b m)  {Z:St} {R:V->V->Hp->4}(I:Inv X Y Z H s)
 (h:j Z H λx g=>m Z g λy c=>R x y c) {f:Value->Value->Sem Value}
 (n:∀v u e x y c,Inv X Y Z c e->jv x v->jv y u->R x y c->YE X (f v u) Q X.xe e):
 YE X (eval a X.env) (λv s₁=>YE X (eval b X.env) (λu s₂=>YE X (f v u) Q X.xe s₂) X.xe s₁) X.xe s:=jO (i Y s Z H _ I h) λv o=>j7 λx g=>jA λp q r=>jO (l Y o Z g _ p r) λu e=>j7 λy c=>jA λt w z=>n v u e x y c t q w z
def Dw  (c:xF X (binaryOp e) r)(f:PE X a g)(i:PE X b j):PE X (.BinOp a e b l) (u3 r g j):=λY s Z H Q I h=>wpAny_BinOp<|uS f i I h λv u m x y n o p t q=>c Y m Z n x y v u Q o p t q
def gG  {g:3->3->3}
 (rule:∀i j t u s Q E,C i j->Q (.int (g i j) s.toks) {s with toks:=s.toks+1}->YE X (f (.int i t)<|.int j u) Q E s):
 xF X f (rI C λi j=>.int<|g i j):=by
 intro Y s Z H x y v u Q I a b h;let(i j,rfl,rfl,c,q):=h;let(t,rfl):=a;let(e,rfl):=b;exact rule i j t e s _ _ c (.int<|g i j,H,I.tok _,(_,9),q)
def gF {g:3->3->3}
 (rule:∀i j t u s Q E,Q (.int (g i j) s.toks) {s with toks:=s.toks+1}->YE X (f (.int i t)<|.int j u) Q E s):
 xF X f (rJ λi j=>.int<|g i j):=by
 intro Y s Z H x y v u Q I a b h;let(i j,rfl,rfl,q):=h;let(t,rfl):=a;let(c,rfl):=b;exact rule i j t c s _ _ (.int<|g i j,H,I.tok _,(_,9),q)
def vT {g:3->3->Bool}
 (rule:∀i j t u s Q E,Q (.bool<|g i j) s->YE X (f (.int i t)<|.int j u) Q E s):
 xF X f (rJ λi j=>.bl<|g i j):=by
 intro Y s Z H x y v u Q I a b h;let(i j,rfl,rfl,q):=h;let(t,rfl):=a;let(c,rfl):=b;exact rule i j t c s _ _ (.bl<|g i j,H,I,9,q)
def mf(i j:3):4:=0<j/\j<1073741824
def me(i j:3):4:=0<=j/\j<=1000000/\i.natAbs<2^64
def Pc:xF X (binaryOp .FloorDiv) (rI mf λi j=>.int<|i/j):=gG λi j _ _ _ _ _ a q=>have b:=a.1;have c:=a.2;floordiv_int () (by rwa[Int.fdiv_eq_ediv_of_nonneg i ()]) (.inl<|PyProof.noPylong_small ())
def Pd:xF X (binaryOp .Mod) (rI (λ_ j=>0<j) λi j=>.int<|i%j):=gG λi j _ _ _ _ _ a q=>mod_int' ()<|by rwa[Int.fmod_eq_emod_of_nonneg i ()]
def Pe:xF X (binaryOp .Pow) (rI me λi j=>.int<|i^j.toNat):=gG λ_ _ _ _ _ _ _ a q=>pow_int_small a.1 a.2.1 a.2.2 q
def om {g:3->3}
 (rule:∀i t s Q E,Q (.int (g i) s.toks) {s with toks:=s.toks+1}->YE X (f<|.int i t) Q E s):
 uU X f (rU λi=>.int<|g i):=by
 intro Y s Z H x v Q I a h;let(i,rfl,q):=h;let(t,rfl):=a;exact rule i t s _ _ (.int<|g i,H,I.tok _,(_,9),q)
def scal:V->V->Bool
 |.non,.non=>6|.non,.int _=>6|.int _,.non=>6|.non,.bl _=>6|.bl _,.non=>6|.non,.str _=>6|.str _,.non=>6
 |.int _,.int _=>6|.bl _,.bl _=>6|.str _,.str _=>6|.byt _,.byt _=>6
 |.int _,.str _=>6|.str _,.int _=>6|.bl _,.str _=>6|.str _,.bl _=>6
 |_,_=>7
def oD:R2:=λx y H Q=>scal x y=6/\Q (.bl<|decide<|x=y) H
def oA:R2:=λx y H Q=>scal x y=6/\Q (.bl<|not<|decide<|x=y) H
def Gk :decide (V.int i=V.int j)=(i==j):=by
 rw[Vd];simp
def Gm :decide (V.bl i=V.bl j)=(i==j):=by
 rw[Vd];simp
def Gn :decide (V.str i=V.str j)=(i==j):=by
 rw[Vd];simp
def Go :decide (V.byt i=V.byt j)=(i.toList==j.toList):=by
 rw[Vd];simp
section
variable   {ta tb tc:TE}
def Qa {Z:St}    (I:Inv X Y Z H s)(q:Q (.bl k) H)(e:k=a):EP X Y Z Q (.bool a) s:=by
 subst e;exact(.bl k,H,I,9,q)
def gE:xF X (compareOp .Eq) oD:=by
 intro Y s Z H x y v u Q I e a h;let(c,q):=h
 induction x with
 |non=>
  cases e
  induction y with
  |non=>cases a;calc PySem.EqNone.eq_none_none<|Qa I q ()
  |bl j=>cases a;calc PySem.EqNone.eq_none_bool<|Qa I q ()
  |int j=>let(b,rfl):=a;calc PySem.EqNone.eq_none_int<|Qa I q ()
  |str j=>let(b,rfl):=a;calc PySem.EqNone.eq_none_str<|Qa I q ()
  |_=>calc Zn (show 7=6 from c) Zj
 |bl i=>
  cases e
  induction y with
  |non=>cases a;calc PySem.EqNone.eq_bool_none<|Qa I q ()
  |bl j=>cases a;calc eq_bool<|Qa I q Gm
  |str j=>let(b,rfl):=a;calc PySem.EqMixed.eq_bool_str<|Qa I q ()
  |_=>calc Zn (show 7=6 from c) Zj
 |int i=>
  let(t,rfl):=e
  induction y with
  |non=>cases a;calc PySem.EqNone.eq_int_none<|Qa I q ()
  |int j=>let(b,rfl):=a;calc eq_int<|Qa I q Gk
  |str j=>let(b,rfl):=a;calc PySem.EqMixed.eq_int_str<|Qa I q ()
  |_=>calc Zn (show 7=6 from c) Zj
 |str i=>
  let(t,rfl):=e
  induction y with
  |non=>cases a;calc PySem.EqNone.eq_str_none<|Qa I q ()
  |bl j=>cases a;calc PySem.EqMixed.eq_str_bool<|Qa I q ()
  |int j=>let(b,rfl):=a;calc PySem.EqMixed.eq_str_int<|Qa I q ()
  |str j=>let(b,rfl):=a;calc eq_str<|Qa I q Gn
  |_=>calc Zn c Zj
 |byt i=>
  let(t,rfl):=e
  induction y with
  |byt j=>let(b,rfl):=a;calc W.eq_bytes<|Qa I q Go
  |_=>calc Zn (show 7=6 from c) Zj
 |_=>induction y<;>exact Zn (show 7=6 from c) Zj
def gD:xF X (compareOp .NotEq) oA:=by
 intro Y s Z H x y v u Q I e a h;let(c,q):=h
 induction x with
 |non=>
  cases e
  induction y with
  |non=>cases a;calc PySem.EqNone.ne_none_none<|Qa I q ()
  |bl j=>cases a;calc PySem.EqNone.ne_none_bool<|Qa I q ()
  |int j=>let(b,rfl):=a;calc PySem.EqNone.ne_none_int<|Qa I q ()
  |str j=>let(b,rfl):=a;calc PySem.EqNone.ne_none_str<|Qa I q ()
  |_=>calc Zn (show 7=6 from c) Zj
 |bl i=>
  cases e
  induction y with
  |non=>cases a;calc PySem.EqNone.ne_bool_none<|Qa I q ()
  |bl j=>cases a;calc ne_bool<|Qa I q<|Zt not Gm
  |str j=>let(b,rfl):=a;calc PySem.EqMixed.ne_bool_str<|Qa I q ()
  |_=>calc Zn (show 7=6 from c) Zj
 |int i=>
  let(t,rfl):=e
  induction y with
  |non=>cases a;calc PySem.EqNone.ne_int_none<|Qa I q ()
  |int j=>let(b,rfl):=a;calc ne_int<|Qa I q<|Zt not Gk
  |str j=>let(b,rfl):=a;calc PySem.EqMixed.ne_int_str<|Qa I q ()
  |_=>calc Zn (show 7=6 from c) Zj
 |str i=>
  let(t,rfl):=e
  induction y with
  |non=>cases a;calc PySem.EqNone.ne_str_none<|Qa I q ()
  |bl j=>cases a;calc PySem.EqMixed.ne_str_bool<|Qa I q ()
  |int j=>let(b,rfl):=a;calc PySem.EqMixed.ne_str_int<|Qa I q ()
  |str j=>let(b,rfl):=a;calc ne_str<|Qa I q<|Zt not Gn
  |_=>calc Zn (show 7=6 from c) Zj
 |byt i=>
  let(t,rfl):=e
  induction y with
  |byt j=>let(b,rfl):=a;calc W.ne_bytes<|Qa I q<|Zt not Go
  |_=>calc Zn c Zj
 |_=>induction y<;>exact Zn (show 7=6 from c) Zj
def Pf:xF X (compareOp .In) λx y H Q=>∃i j,x=.str i/\y=.str j/\Q (.bl<|not<|(Builtin.Str.occurrences j i 0 j.length 1).isEmpty) H:=by
 intro Y s Z H x y v u Q I a b h;let(i j,rfl,rfl,q):=h;let(t,rfl):=a;let(c,rfl):=b;exact in_str<|Qa I q 9
def Pg:xF X (compareOp .NotIn) λx y H Q=>∃i j,x=.str i/\y=.str j/\Q (.bl<|not<|not<|(Builtin.Str.occurrences j i 0 j.length 1).isEmpty) H:=by
 intro Y s Z H x y v u Q I a b h;let(i j,rfl,rfl,q):=h;let(t,rfl):=a;let(c,rfl):=b;exact notIn_str<|Qa I q 9
def Qv(b) (h:a ≠ .In:=by decide)(c:a ≠ .NotIn:=by decide):behindInMarks a b=7:=by
 cases b<;>first|rfl|(show(_&&(_||_)&&_)=7;ext)
def Gp  (e:xF X (compareOp c) r)(f:PE X a ta)(g:PE X b tb)(i:behindInMarks c b=7):PE X (.Compare a [c] [b] j) (u3 r ta tb):=λY s Z H Q I h=>wpAny_Compare1 (uS f g I h λv u l x y m n o p q=>e Y l Z m x y v u Q n o p q) i
def Gq(t:TE):TT:=λZ H Q=>t Z H λx a=>∃k,x=.bl k/\Q k a
def Be  (g:xF X (compareOp f) r)(i:PE X a ta)(j:PE X b tb)(l:behindInMarks f b=7):PT X (.Compare a [f] [b] m) (Gq<|u3 r ta tb):=by
 intro Y s Z H Q I h;refine wpAny_isTrue_Compare1 (jO (i Y s Z H _ I h) λv n=>j7 λx o=>jA λp q t=>jO (j Y n Z o _ p t) λu w=>j7 λy A=>jA λB C E=>
  jO (g Y w Z A x y v u _ B q C E) λc M(z,F,G,J,k,e,L)=>?_) l
 subst e;cases J;exact wpAny_truthy_bool (F,G,L)
def Ph(r b:R2)(ta tb tc:TE):TE:=λZ H Q=>ta Z H λx c=>tb Z c λy e=>r x y e λz a=>∃k,z=.bl k/\
 if k=6 then tc Z a λf g=>b y f g Q else Q (.bl 7) a
def Pi  (o:xF X (compareOp i) r)(g:xF X (compareOp f) p)(q:PE X a ta)(t:PE X b tb)(w:PE X c tc)
 (A:lastMarks [i,f] [b,c]=7:=by with_unfolding_all rfl):PT X (.Compare a [i,f] [b,c] B) (Gq<|Ph r p ta tb tc):=by
 intro Y s Z H Q I h;refine isTrue_chain (jO (q Y s Z H _ I h) λv C=>j7 λx E=>jA λF G J=>test_link<|jO (t Y C Z E _ F J) λu L=>j7 λy M=>jA λN j O=>
  jO (o Y L Z M x y v u _ N G j O) λd P(z,l,m,R,k,e,n)=>?_) A
 subst e;cases R;refine wpAny_truthy_bool ?_
 induction k with
 |false=>
  let(-k',S,T):=n;cases S;calc ite_ff (l,m,T)
 |true=>
  calc ite_tt<|test_last<|jO (w Y P Z l _ m n) λU s4=>j7 λz' H4=>jA λI4 r4 q4=>jO (g Y s4 Z H4 y z' u U _ I4 j r4 q4) λd' s5(z2,H5,I5,r5,k2,e2,q5)=>?_;subst e2;cases r5;exact wpAny_truthy_bool (H5,I5,q5)
def XR:(sizeLine:5)<2^63:=by decide
def Pj:xF X (binaryOp .Add) λx y H Q=>∃i j,x=.str i/\y=.str j/\i.length+j.length<=sizeLine/\Q (.str<|i++j) H:=by
 intro Y s Z H x y v u Q I a b h;let(i j,rfl,rfl,c,q):=h;let(t,rfl):=a;let(e,rfl):=b;exact add_str (λe f=>(.str<|i++j,H,I.tok _,(_,9),q)) c
def QP  (r:j5 [x] a):∃u,a=[u]/\jv x u:=by
 cases r with
 |cons b c=>cases c;exact(_,9,b)
def Bf  (r:j5 [x,y] b):∃u a,b=[u,a]/\jv x u/\jv y a:=by
 cases r with
 |cons c e=>
  cases e with
  |cons f g=>cases g;exact(_,_,9,c,f)
def Pk:qf X (.builtin "abs") λa H Q=>∃i,a=[.int i]/\Q (.int<|if i<0 then-i else i) H:=by
 intro Y s Z H a b Q I r h;let(i,rfl,q):=h;let(-u,rfl,(t,rfl)):=QP r;exact call_abs_int λu c=>(.int<|if i<0 then-i else i,H,I.tok _,(_,9),q)
def Pm(c:X.calm=6):qf X (.builtin "max") λb H Q=>∃i j,b=[.int i,.int j]/\Q (.int<|if j>i then j else i) H:=by
 intro Y s Z H b e Q I r h;let(i j,rfl,q):=h;let(u f,rfl,(t,rfl),(g,rfl)):=Bf r;calc max_two_ints (I.ok.hd c) λl m k=>(_,H,I.kept k,?_,q);by_cases a:j>i
 .rw[Zd a,Zd a];exact(_,9)
 .rw[Ze a,Ze a];exact(_,9)
def Pn(c:X.calm=6):qf X (.builtin "min") λb H Q=>∃i j,b=[.int i,.int j]/\Q (.int<|if j<i then j else i) H:=by
 intro Y s Z H b e Q I r h;let(i j,rfl,q):=h;let(u f,rfl,(t,rfl),(g,rfl)):=Bf r;calc min_two_ints (I.ok.hd c) λl m k=>(_,H,I.kept k,?_,q);by_cases a:j<i
 .rw[Zd a,Zd a];exact(_,9)
 .rw[Ze a,Ze a];exact(_,9)
def Po:qf X (.type "str") λa H Q=>∃i,a=[.int i]/\i.natAbs.log2<1920/\Q (.str<|toString i) H:=by
 intro Y s Z H a c Q I r h;let(-i,rfl,b,q):=h;let(-u,rfl,(t,rfl)):=QP r;exact PySem.P.str_of_int b (.str _,H,I.tok _,(_,9),q)
end
structure ObjM(h:Heap)(x dx C:Addr)(mA:Yd):4 where
 obj:h.get? x=! W.instObj C dx
 ns:h.Ns1 dx mA
 ne:dx≠x
def Pp{h:Heap} {mA:Yd}(n:h.Ns1 g mA):∃f,h.get? g=!f/\∀b,W.lookIn b f=! mA b:=by
 let(o i q,j,l,m,_,p):=n;calc(o,j,λb=>?_);let e:=p b;unfold nsFind findBy at e;rw[<-Array.find?_toList]at e;unfold W.lookIn;rw[l];dsimp only
 split
 .ext
 .let a:i.toList.any (·.refKey)=7:=by
   rw[VJ];intro y r;have(z,t,c):=m y ();simp[DictEntry.refKey,c]
  ext
def ObjM.look  {mA:Yd}(I:ObjM h x f C mA):∃e,W.InstAt h x (W.instObj C f) C !e/\∀c,W.lookIn c e=! mA c:=
 qS (Pp I.ns) λe=>jB λi j=>(e,(I.obj,9,9,i),j)
section
variable      {K:f'}  {mA:Yd}
def Pq  (X:K.In s.heap)(I:ObjM s.heap x l C mA)
 (n:W.findIn K (.ref C) "__setattr__"=! ! .builtin "object.__setattr__")(o:W.plainOver K C=6)(p:W.takerIn K C a=!8)(q:W.hasDictIn K C=6)
 (r:PySem.Within mA t)(u:t.length<=sizeLine)
 (h:∀f,ObjM f x l C (λy=>if y=a then !v else mA y)->Heap.SameBut l s.heap f->Q Yq {s with heap:=f,toks:=s.toks+2}):
 YF m w A (setAttr (.ref x) a v) Q E s:=by
 let(-H,J,L):=I.look;calc W.set_plain X J n<|W.osa_open X J o p λb=>?_;let(-M,z,g):=W.any_some q;calc Za<|Zb<|Za<|Za<|wpAny_loadPart I.obj<|Za<|W.Looks.here (W.looks_clsIn X z) ?_;rw[g];calc Zb<|Za<|Zb<|Za<|wpAny_nsSet1 I.ns λf c e=>?_;let(N B F,i,j,G):=c.count (PySem.Within.cons a v r);exact Za<|wpAny_lookBehind i (by rw[j];calc pastItsLine_dict ())<|Zb<|h _ ((e.2 _<|Ne.symm I.ne).trans I.obj,c,I.ne) e
end
noncomputable def xt(f:Str)(v:V):List (Str×V)->List (Str×V)
 |[]=>[%[f|v]]
 |%[g|x]::r=>if g=f then%[g|v]::r else%[g|x]::xt f v r
theorem Gr(f g)(v):∀fs:List (Str×V),(xt f v fs).lookup g=if g=f then !v else fs.lookup g
 |[]=>by
  show List.lookup g [%[f|v]]=_
  grind
 |%[k|x]::r=>by
  let a:=Gr f g v r;rw[show xt f v (%[k|x]::r)=if k=f then%[k|v]::r else%[k|x]::xt f v r from 9]
  grind
theorem Dx(f)(v):∀fs:List (Str×V),f∈(xt f v fs).map (·.1)/\∀g,g∈fs.map (·.1)->g∈(xt f v fs).map (·.1)
 |[]=>(by simp[xt],())
 |%[k|x]::r=>by
  have(a,b):=Dx f v r;rw[show xt f v (%[k|x]::r)=if k=f then%[k|v]::r else%[k|x]::xt f v r from 9]
  grind
theorem Gs(f)(v):∀fs:List (Str×V),(xt f v fs).length<=fs.length+1
 |[]=>by simp[xt]
 |%[k|x]::r=>by
  let a:=Gs f v r;rw[show xt f v (%[k|x]::r)=if k=f then%[k|v]::r else%[k|x]::xt f v r from 9]
  grind
def xg  (r:xX (!v) o):∃u,o=!u/\jv v u:=by
 cases o with
 |none=>calc(r).elim
 |some u=>exact(u,9,r)
def Gu(b:xr P w H h)(e:H a=! .ins C c fs):∃mA,ObjM h a c C mA/\(∀f,xX (fs.lookup f) (mA f))/\PySem.Within mA (fs.map (·.1))/\fs.length<=1000/\H c=! .own a:=by
 let(!d,z,ne,g,(mA,n,r,q)):=show yq P w H h a (.ins C c fs)from b a _ e;exact(mA,(g,n,ne),r,q,z,d)
structure Cls(K:f')(C:Addr):4 where
 pg:W.plainGet K C Str.empty=6
 hd:W.hasDictIn K C=6
 po:W.plainOver K C=6
 sa:W.findIn K (.ref C) "__setattr__"=! ! .builtin "object.__setattr__"
def Cls.get{K:f'} (c:Cls K C)(f):W.plainGet K C f=6:=c.pg
def u0(K:f')(C:Addr)(f:Str):4:=W.findIn K (.ref C) f=!8
def u0.taker{K:f'}  (n:u0 K C f):W.takerIn K C f=!8:=by
 unfold W.takerIn;rw[n];rfl
section
variable   {Z: St}
def Pr  (I:Inv X Y Z H s)(e:H a=! .ins C p fs)(c:Cls X.K C)(n:u0 X.K C f)(l:fs.lookup f=!v)
 (h:∀u j,Inv X Y Z H j->jv v u->Q u j):wpAny (model X.prog X.w) A (getAttr (.ref a) f b) Q E s:=by
 let(-mA,O,r,_,_,_):=Gu I.hok e;let(-u,m,g):=xg (by rw[<-l];calc r f);let(-q,J,o):=O.look;exact W.get_value I.kIn J (W.plainGet_of<|c.get f).1 (W.findObj_own c.hd n 9<|by rw[o,m]) (by
  induction v with
  |non=>cases g;rfl
  |bl b=>cases g;rfl
  |int i=>let(t,e):=g;cases e;rfl
  |str x=>let(t,e):=g;cases e;rfl
  |byt b=>let(t,e):=g;cases e;rfl
  |flt b=>let(t,e):=g;cases e;rfl
  |ref a=>cases g;rfl
  |ty n=>cases g;rfl)<|h u _ (I.tok _) g
def Ps   (I:Inv X Y Z H s)(e:H a=! .ins C j fs)(c:Cls X.K C)(n:u0 X.K C f)(G:fs.length<1000)(J:jv y u)
 (h:∀l,Inv X Y Z (upd H a<|.ins C j<|xt f y fs) l->Q Yq l):wpAny (model X.prog X.w) A (setAttr (.ref a) f u) Q E s:=by
 let(-mA,O,r,wi,_,m):=Gu I.hok e;let p:(fs.map (·.1)).length<=sizeLine:=by rw[Zql,sizeLine_eq];lia
 calc Pq I.kIn O c.sa c.po n.taker c.hd wi p λt i v=>h _ ?_;let w:∃o,t.get? j=!o:=gM i.ns λo _ _=>jB λx _=>(o,x);refine I.write (by rw[e];calc True.intro) (.inr m) (λb q B z=>(v.2 b B).trans z) w (by rwa[JF O.ne],?_,O.ne,i.obj,_,i.ns,λg=>?_,λg F=>?_)
 .let:=Gs f y fs;lia
 .rw[Gr];by_cases q:g=f
  .rwa[Zd q,Zd q]
  ext
 .by_cases q:g=f
  .rw[q];exact(Dx f y fs).1
  .refine(Dx f y fs).2 g<|wi g λz=>F ?_
   ext
def Inv.made(I:Inv X Y Z H s):Inv X Y Z (upd (upd H s⁻¹<|.own<|s⁻¹+1) (s⁻¹+1)<|.ins C s⁻¹ [])
 {s with heap:=(s.heap.push W.emptyDict).push (W.instObj C s⁻¹)}:=by
 let c:(s.heap.push W.emptyDict).get? s⁻¹=!W.emptyDict:=Zr s.heap 9;let f:((s.heap.push W.emptyDict).push<|W.instObj C s⁻¹).get? (s⁻¹+1)=! W.instObj C s⁻¹:=by
  let:=Zr (s.heap.push W.emptyDict) (o:=W.instObj C s⁻¹) 9
  ext
 let i:(s.heap.push W.emptyDict).Ns s⁻¹ λ_=>8:=(W.emptyDict,#[],_,c,9,λe j=>Zn j (),λ_=>9);calc(I.laid (o:=.own<|s⁻¹+1) (t':=s.toks) (λb u q=>Zq _ q) (Zf _) (_,c)).laid (λb u q=>Zq _ q) () ?_;let ne:s⁻¹≠s⁻¹+1:=()
 refine(by rw[JF ne,JK],Uc _,ne,f,λ_=>8,(Heap.Ns1.of_empty i).at λo q=>Zq _ q,λ_=>True.intro,λy l=>Zn 9 l)
end
def rg(K:f')(c:TE)(f:Str):TE:=λZ H Q=>c Z H λx b=>∃a C e fs v,x=.ref a/\b a=! .ins C e fs/\Cls K C/\u0 K C f/\fs.lookup f=!v/\Q v b
def rx(K:f')(e g:TE)(f:Str):TS:=λD Z H=>g Z H λy h=>e Z h λx b=>∃a C c fs,x=.ref a/\b a=! .ins C c fs/\Cls K C/\u0 K C f/\fs.length<1000/\
 D.nx Z (upd b a<|.ins C c<|xt f y fs)
def Pt(b:PE X e g)(i:attributeBase e f X.env (eval e X.env)=eval e X.env):PE X (.Attribute e f j) (rg X.K g f):=by
 intro Y s Z H Q I h;calc(Attribute_any_ (jO (b Y s Z H _ I h) λu z(x,m,o,p,a,C,A,fs,v,r,t,c,n,l,q)=>?_)<|by rw[arm_eval_Attribute,i]);subst r;obtain rfl:=p;exact Pr o t c n l λB E w y=>(v,m,w,y,q)
def Pu(i:PE X o j)(m:PE X b p)(r:swapsWith b (! .Attribute o f e) g.line X.env=pure 7):PS X (.Assign [.Attribute o f e] b g) (rx X.K j p f):=by
 intro Y s Z H D I h;calc plainObj_wpAny_Assign_Attribute (jO (m Y s Z H _ I h) λu t=>j7 λy v=>jA λw z q=>jO (i Y t Z v _ w q) λL M(x,N,A,B,a,C,O,fs,E,F,c,n,l,G)=>?_) r;subst E;obtain rfl:=B;exact Ps A F c n l z λP J=>(Z,_,J,G)
structure Room(k:5)(A:Around):4 where
 hd:A.handled=8
 dp:A.depth+03*k+05<recursionLimit
 un:A.units+16*k+200<cLine
def Room.mono  (r:Room k A)(h:j<=k):Room j A:=(r.hd,by let:=r.dp;lia,by let:=r.un;lia)
theorem Room.deeper  (r:Room (k+1) A)(c):Room k (A.deeper c):=
 (r.hd,by let:=r.dp;show A.depth+1+03*k+05<_;lia,by let:=r.un;show A.units+03+16*k+200<_;lia)
def Pv{A:Around}   :(A.under<|.builtin "type.__call__" (.ref C::a,b)).depth=A.depth+1:=by
 rfl
def Pw{A:Around}   :(A.under<|.builtin "type.__call__" (.ref C::a,b)).units=A.units+1:=by
 rfl
def Room.make  (r:Room (k+1) A)(C)(c)(e):Room k (A.under<|.builtin "type.__call__" (.ref C::c,e)):=
 (r.hd,by let:=r.dp;rw[Pv];lia,by let:=r.un;rw[Pw];lia)
theorem Room.depth  (r:Room k A):A.depth<recursionLimit:=by let:=r.dp;lia
theorem Room.units  (r:Room k A):A.units+64<cLine:=by let:=r.un;lia
def vK:TA:=λ_ H Q=>Q [] H
def Bg(a:TE)(b:TA):TA:=λZ H Q=>a Z H λx c=>b Z c λe f=>Q (x::e) f
section
variable     {t:TA}
def Wf:PA X [] vK:=λ_ _ _ _ H Q I h=>Calls.spliced_nil ([],H,I,.nil,h)
def KQ(c:PE X e f)(g:PA X a t)(i:starEach (e::a) X.env=%[7|eval e X.env]::starEach a X.env:=by rfl):PA X (e::a) (Bg f t):=by
 intro b Y s Z H Q I h;rw[i];exact Calls.spliced_cons<|jO (c Y s Z H _ I h) λu j=>j7 λx l=>jA λm n o=>jO (g b Y j Z l _ m o) λy z=>j7 λp q=>jA λr v w=>(x::p,q,r,.cons n v,w)
def nV(t:TA):TE:=λZ H Q=>t Z H λa b=>a.length<=sizeLine/\∀p,b p=8->Q (.ref p) (upd b p<|.tup a)
def ra(t:TA):TE:=λZ H Q=>t Z H λa b=>a.length<=sizeLine/\∀p,b p=8->Q (.ref p) (upd b p<|.lst a)
def Gv (h:PA X g t):PE X (.Tuple g n a) (nV t):=λY s Z H Q I i=>wpAny_Tuple_spliced<|jO (h a Y s Z H _ I i) λj c=>j7 λl m=>qW λf r z q=>(by rwa[<-r.length],(.ref c⁻¹,upd m c⁻¹<|.tup l,f.laid (λb u e=>Zq _ e) (Zf _)<|((z,(_,Zr _ 9,9)),j,r,(_,Zr _ 9,9,_,9)),9,q _<|f.hok.fresh<|Zf _))
def Px(h:PA X g t):PE X (.List g a) (ra t):=λY s Z H Q I i=>wpAny_List_spliced<|jO (h a Y s Z H _ I i) λj c=>j7 λl m=>qW λf r z q=>(by rwa[<-r.length],(.ref c⁻¹,upd m c⁻¹<|.lst l,f.laid (λb u e=>Zq _ e) (Zf _) (z,j,0,r,Zr _ 9),9,q _<|f.hok.fresh<|Zf _))
end
abbrev Sp:=YB->Hp->VK->XK->4
abbrev kc:=List Env->Hp->Shared->XK->Ya
structure Env0(P:Program)(w:World)(K:f')(mg:Yd)(base:Heap)(A:Around)(outer:List Env)(s:Shared)(H:Hp):4 where
 frames:A.frames=!outer
 mod:Mod K mg base
 bs:∀b o,base.get? b=!o->↥s b=!o/\H b=8
 bsz:base.objs.size<=s⁻¹
 funs:s.heap.FunFrames base outer
 frf:∀b∈xH outer,H b=8
 hok:xr P w H s.heap
 bare:AllBare s.gens
def CE(a:List Env)(P:Program)(w:World)(H:Hp)(s:Shared)(Q:VK)(u:Value)(b:Shared):4:=
 ∃v c,b.os=s.os/\AllBare b.gens/\Un (xH a) [] H c s.heap b.heap/\xr P w c b.heap/\jv v u/\Q v c
def CR(c:kc)(a:List Env)(P:Program)(w:World)(H:Hp)(s:Shared)(Q:VK)(E:XK)(r:Result)(b:Shared):4:=
 match r with
 |.ok (.ret u)=>CE a P w H s Q u b
 |.ok _=>False
 |.error e=>c a H s E e b
structure FnOk(P:Program)(w:World)(K:f')(mg:Yd)(base:Heap)(CX:kc)(k:5)(f:Addr)(fd:FuncData)(ps:Yi)(sp:Sp):4 where
 len:∀vs H Q E,sp vs H Q E->vs.length=ps.length
 run:∀(A:Around)(outer:List Env)(s:Shared)(H:Hp)(args:Args)(us:Ye)(vs:YB)(Q:VK)(E:XK),Room k A->Env0 P w K mg base A outer s H->BindsTo s fd args (ps.zip us)->j5 vs us->sp vs H Q E->
  codeAny (model P w) A (.call (.ref f) args) (CR CX outer P w H s Q E) s
theorem FnOk.mono  {K:f'}        (F:FnOk P w K l e n j f o p q)(h:j<=k):
 FnOk P w K l e n k f o p q:=(F.len,λA c s H i r u Q E v=>F.run A c s H i r u Q E<|v.mono h)
def FnOk.imp  {K:f'}        (F:FnOk P w K n i o k f p r u)
 (h:∀e H Q E,l e H Q E->u e H Q E):FnOk P w K n i o k f p r l:=
 (λe H Q E q=>F.len e H Q E<|h _ _ _ _ q,λA c s H j v e Q E x y z B G=>F.run A c s H j v e Q E x y z B<|h _ _ _ _ G)
def Env0.make  {K:f'}      (e:Env0 P w K i f A c s H)(C)(j)(l):
 Env0 P w K i f (A.under<|.builtin "type.__call__" (.ref C::j,l)) c s H:=(by first|calc e.frames|(simpa using e.frames),e.mod,e.bs,e.bsz,e.funs,e.frf,e.hok,e.bare)
section
variable   {Z: St}
def Inv.env0(I:Inv X Y Z H s):Env0 X.prog X.w X.K X.mg X.base X.A X.stack s H:=
 (I.ok.frames,I.ok.mod,I.bs,Zh I.ok.bsz I.sz,I.stack,I.stkFree,I.hok,I.bare)
def Inv.after  (I:Inv X Y Z H s)(h:CE X.stack X.prog X.w H s Q u e):EP X Y Z Q u e:=by
 let(v f,os,bare,un,c,r,q):=h;let(j,g,d,t,i):=e;obtain rfl:=os;exact(v,f,I.call un c bare<|λb z=>Zn z (),r,q)
end
def Dy(b:Sp)(a:YB)(E:XK)(t:TA):TE:=λZ H Q=>t Z H λc e=>b (c++a) e Q E
def tO(C:Addr)(e:Sp)(b:YB)(E:XK)(t:TA):TE:=λZ H Q=>t Z H λf c=>∀x a,c x=8->c a=8->a≠x->
 e (.ref x::(f++b)) (upd (upd c a<|.own x) x<|.ins C a []) (λv g=>v=.non/\Q (.ref x) g) E
def vy(K:f')(e:FuncData)(b:Yi)(c:Ye):4:=
 ∀(s:Shared)(a:Ye),K.In s.heap->(a++c).length=b.length->BindsTo s e (a,[]) (b.zip<|a++c)
def vy.all{K:f'}  (h:∀c:Ye,c.length=e.length->bindArgs i (c,[])=pure (e.zip c)):vy K i e []:=λs c _ f=>by
 rw[ZA]at f ⊢;exact .of_eq<|h c f
def ZJ(b:kc)(X:Cx)(E:XK):4:=∀(Y:Yb)(Z:St)(H:Hp)(s:Shared)(e:Value)(a:Shared),Inv X Y Z H s->b X.stack H s E e a->X.xe e a
def Py {Z:St}     (F:FnOk X.prog X.w X.K X.mg X.base m k f n i o)(p:Room k X.A)(q:vy X.K n i g)(t:j5 a g)(v:ZJ m X E)
 (I:Inv X Y Z H s)(r:j5 j b)(h:o (j++a) H Q E):YE X (call (.ref f) b) (EP X Y Z Q) X.xe s:=by
 let l:=r.append t;let w:(b++g).length=i.length:=by rw[<-l.length];exact F.len _ _ _ _ h
 refine wpAny_call<|codeAny_mono (F.run X.A X.stack s H (b,[]) (b++g) (j++a) Q E p I.env0 (q s b I.kIn w) l h) λr x c=>?_
 induction r with
 |error e=>calc v Y Z H s e x I c
 |ok y=>
  induction y with
  |ret u=>calc I.after c
  |next=>calc False.elim c
  |brk=>calc False.elim c
  |cont=>exact False.elim c
def Gw(F:FnOk X.prog X.w X.K X.mg X.base l k f m n o)(u:Room k X.A)(v:Gl X x)(w:X.mg x=! .ref f)(y:W.keepIn X.K (.ref f)=6)(z:vy X.K m n A)(B:j5 c A)(C:ZJ l X E)
 (G:PA X (e::b) t)(g:(x==("__debug__":Str))=7:=by decide)(J:starEach (e::b) X.env=%[7|eval e X.env]::starEach b X.env:=by rfl)(i:(backTo a<|starEach b X.env).any (·.1)=7:=by rfl):
 PE X (.Call (.Name x p) (e::b) [] a) (Dy o c E t):=by
 intro Y s Z H Q I h;exact wpAny_Call_Name_kw<|XQ I v w (W.callWith_K I.ok.mod.kin y (jO (G a Y s Z H _ I h) λL M=>j7 λN O=>jA λj r q=>(j.kIn,Py F u z B C j r q)) J i) g
structure Mk(K:f')(C f:Addr):4 where
 makes:W.makesIn K C=6
 init:W.findIn K (.ref C) "__init__"=! ! .ref f
 fn:W.isFn K (.ref f)=6
 kp:W.keepIn K (.ref C)=6
def Pz {Z:St}     (M:Mk X.K C f)(F:FnOk X.prog X.w X.K X.mg X.base q k f t m w)(y:Room (k+1) X.A)(z:vy X.K t m i)(A:j5 c i)
 (B:ZJ q X E)(I:Inv X Y Z H s)(r:j5 n b)
 (h:∀x j,H x=8->H j=8->j≠x->w (.ref x::(n++c)) (upd (upd H j<|.own x) x<|.ins C j []) (λv G=>v=.non/\Q (.ref x) G) E):
 YE X (call (.ref C) b) (EP X Y Z Q) X.xe s:=by
 let o:=h (s⁻¹+1) s⁻¹ (I.hok.fresh<|Ve _) (I.hok.fresh<|Zf _)<|Zi<|UG _;let l:=Inv.made (C:=C) I;let p:j5 (V.ref (s⁻¹+1)::(n++c)) (Value.ref (s⁻¹+1)::(b++i)):=.cons 9<|r.append A;let J:(Value.ref (s⁻¹+1)::b++i).length=m.length:=by
  let e:=p.length;rw[F.len _ _ _ _ o]at e;exact e.symm
 refine wpAny_call<|W.make_core (W.makes_of I.kIn M.makes) (W.looks_findIn I.kIn M.init) (λg=>W.bind_fn I.kIn g<|Yp.mp M.fn) (.inl 9)<|codeAny_mono (F.run _ X.stack _ _ (Value.ref (s⁻¹+1)::b,[]) (Value.ref (s⁻¹+1)::(b++i)) _ _ E (y.make C b [])
  (l.env0.make C b []) (z _ (Value.ref (s⁻¹+1)::b) l.kIn J) p o) λr L a=>?_
 induction r with
 |error e=>calc B Y Z _ _ e L l a
 |ok N=>
  induction N with
  |ret u=>
   let(v O,P,R,S,T):=l.after a;subst S;calc(R,(V.ref<|s⁻¹+1,O,P,9,T))
  |next=>calc False.elim a
  |brk=>calc False.elim a
  |cont=>exact False.elim a
structure FnScope(N P:Yi)(sc:Scope):4 where
 kind:sc.kind=.function
 co:sc.isCoroutine=7
 gen:sc.isGenerator=7
 nd:N.Nodup
 pre:N.take P.length=P
 par:∀x∈P,sc.names.lookup x=!.local\/sc.names.lookup x=!.cell
 nofree:∀y∈sc.names,y.2 ≠ .free
theorem Gx{kindOf:Str->Option NameKind} :∀{binds:List (Str×Value)}{m:Yd},(∀v,%[x|v]∉binds)->bindL kindOf binds m x=m x
 |[],_,_=>9
 |%[n|v]::r,m,h=>by
  unfold bindL;rw[Gx ()]
  split
  .grind
  .rfl
theorem Gy{kindOf:Str->Option NameKind} :∀{binds:List (Str×Value)}{m:Yd},(∀v,%[x|v]∉binds)->bindC kindOf binds m x=m x
 |[],_,_=>9
 |%[n|v]::r,m,h=>by
  unfold bindC;rw[Gy ()]
  split
  .rfl
  grind
theorem Gz{kindOf:Str->Option NameKind}  :∀{P:Yi}{a:Ye}{i:5}{m:Yd},P.Nodup->P[i]?=!x->a[i]?=!v->kindOf x=!.local->
 bindL kindOf (P.zip a) m x=!v
 |[],_,_,_,_,h,_,_=>by simp at h
 |_::_,[],_,_,_,_,h,_=>by simp at h
 |p::P,w::a,0,m,nd,b,h2,hk=>by
  simp at b h2;subst b;subst h2;show bindL kindOf (%[p|w]::P.zip a) m p=_;unfold bindL;rw[Gx λv c=>(Jl.mp nd).1 (List.of_mem_zip c).1,Zd hk];simp
 |p::P,w::a,i+1,m,nd,b,h2,hk=>by
  show bindL kindOf (%[p|w]::P.zip a) m x=_;exact Gz () (by simpa using b) (by simpa using h2) hk
theorem G0{kindOf:Str->Option NameKind}  :∀{P:Yi}{a:Ye}{i:5}{m:Yd},P.Nodup->P[i]?=!x->a[i]?=!v->kindOf x≠!.local->
 bindC kindOf (P.zip a) m x=!v
 |[],_,_,_,_,h,_,_=>by simp at h
 |_::_,[],_,_,_,_,h,_=>by simp at h
 |p::P,w::a,0,m,nd,b,h2,hk=>by
  simp at b h2;subst b;subst h2;show bindC kindOf (%[p|w]::P.zip a) m p=_;unfold bindC;rw[Gy λv c=>(Jl.mp nd).1 (List.of_mem_zip c).1,Ze hk];simp
 |p::P,w::a,i+1,m,nd,b,h2,hk=>by
  show bindC kindOf (%[p|w]::P.zip a) m x=_;exact G0 () (by simpa using b) (by simpa using h2) hk
def start(N:Yi)(a:YB):St:=a.map some++List.replicate (N.length-a.length) 8
noncomputable def qu(h:kc)(P:Program)(w:World)(K:f')(mg:Yd)(base:Heap)(N:Yi)(b:Str)(a:Scope)(f:Addr)(g:Value)(A:Around)(outer:List Env)(s:Shared)(H:Hp)(E:XK):Cx where
 prog:=P
 w:=w
 K:=K
 mg:=mg
 base:=base
 A:=A.deeper (envOfC b a s⁻¹ f g)
 N:=N
 s₀:=s
 H₀:=H
 env:=envOfC b a s⁻¹ f g
 outer:=outer
 stack:=envOfC b a s⁻¹ f g::outer
 ex:=[]
 calm:=6
 fn:=λ_=>6
 pn:=[]
 xe:=λe i=>wpAny (model P w) (A.deeper<|envOfC b a s⁻¹ f g) (leaving (envOfC b a s⁻¹ f g) e) (λ_ c=>h outer H s E e c) (λj c=>h outer H s E j c) i
def G1{a:Scope}  (h:a.names.lookup x=!.cell):∃c,(cellsFrom n a.names []).lookup x=!c:=have q:=W.cellsFrom_some a.names n []<|.inl h;Jq.mp q
def P0   {K:f'}
 (S:FnScope N n a)(Q:A.handled=8)(l:Env0 P w K I m A g s H)(Z:C.length=n.length)(r:j5 C J)
 (x:InCallC s s⁻¹ (bindL (envOfC j a s⁻¹ f F).kindOf (n.zip J) λ_=>8) (cellsFrom (s⁻¹+1) a.names []) (bindC (envOfC j a s⁻¹ f F).kindOf (n.zip J) λ_=>8) R):
 Inv (qu T P w K I m N j a f F A g s H E) [] (start N C) H R:=by
 let U:n.length<=N.length:=by let:=Zt List.length S.pre;grind
 let(G tk,rfl,L):=x.done;let o:∀b:Addr,b∉(qu T P w K I m N j a f F A g s H E).ex:=λb z=>Zn (show b∈([]:Yj)from z) ();refine((l.mod,S.kind,9,9,Zf _,λy z c G M=>?_,λy hy=>?_,λy c _ h=>?_,λ_=>Q,Around.frames_deeper l.frames,.inr (9,9),λb z=>Zn z<|o b,l.bs,l.bsz,λb _ _=>o b,(),l.funs,l.frf),
  9,l.bare,Un.kept L,(_,x.toInCall.ns,λi y v G M h3=>?_),λy c h=>(_,x.cell y c h),l.hok.fresh<|Zf _,λy c h=>?_,λp t=>Zn (show p∈([]:Yb)from t) (),l.hok.kept L,?_)
 .exact name_of_addr x.apart (PySem.mem_of_lookup G)<|PySem.mem_of_lookup M
 .let hy:=hy;rcases hy with hy|hy
  .exact G1 hy
  .exact Zn 9<|S.nofree _<|PySem.mem_of_lookup hy
 .exact Zz<|x.above y c<|PySem.mem_of_lookup h
 .let hi:i<C.length:=by
   grind[start,List.getElem?_replicate]
  let X:C[i]?=!v:=by
   grind[start,List.getElem?_map]
  have(u,O,Y):=r.get X;let t:n[i]?=!y:=by
   rwa[<-S.pre,VZ ()]
  let B:n.Nodup:=by rw[<-S.pre];exact S.nd.sublist<|List.take_sublist _ _
  calc(u,Y,?_);rcases S.par y (Ue t)with k|k
  .exact .inl (k,Gz B t O k)
  .let(c,e):=G1 k;calc .inr (.inl k,c,e,?_);let q:=x.cell y c e
   rwa[G0 B t O (by show a.names.lookup y≠_;ext)]at q
 .exact l.hok.fresh<|Zz<|x.above y c<|PySem.mem_of_lookup h
 .unfold start;show _=N.length
  ext
def G2   {K:f'}        {dV kV F pm h ct oc:Value}
 (lk:K.lookup f=!(oc,od,.func<|W.fnOf G g j m a dV kV F pm an h ct,osl))(T:W.codeIn K h g=6)(S:FnScope N U a)
 (len:∀l H Q E,sp l H Q E->l.length=U.length)
 (z:∀A c s H l Q E,Room k (A.deeper<|envOfC g a s⁻¹ f h)->sp l H Q E->
  ∃t,xq (qu X P w K Y i N g a f h A c s H E) m t/\t {nx:=λ_ p=>Q .non p,rt:=Q} (start N l) H):
 FnOk P w K Y i X (k+1) f (W.fnOf G g j m a dV kV F pm an h ct) U sp:=by
 calc(len,λA c s H args us l Q E Z L hb r M=>?_);let KX:=L.mod.kin.keeps λb o e=>(L.bs b o e).1;let B:∀y∈U.zip us,a.names.lookup y.1=!.local\/a.names.lookup y.1=!.cell/\((cellsFrom (s⁻¹+1) a.names []).lookup y.1).isSome=6:=λ(n,v)hy=>by
  rcases S.par n (List.of_mem_zip hy).1 with q|q
  .exact .inl q
  .exact .inr (q,W.cellsFrom_some _ _ _<|.inl q)
 calc codeAny_call_function Z.depth (KX _ _ lk) 9 S.co S.gen 9 (W.codeRec_of KX T)<|hb _ _ _ _<|wpAny_newFunctionEnv_cells S.kind B λenv he s1 x=>?_;subst he;calc((L.mod.nolimit.keeps λb o e=>(L.bs b o e).1).keeps x.toInCall.keep,codeAny_func ?_);let(t,ht,hq):=z A c s H l Q E (Z.deeper _) M;let I:Inv (qu X P w K Y i N g a f h A c s H E) [] (start N l) H s1:=P0 S Z.hd L (len _ _ _ _ M) r x;calc Zc (ht [] s1 (start N l) H _ I hq) (λfl s' C=>?_) λe s' C=>C;let O:∀{R:St}{p:Hp}{v:V}{u:Value},Inv (qu X P w K Y i N g a f h A c s H E) [] R p s'->jv v u->Q v p->CE c P w H s Q u s':=
  λ{R p v u}J rv q=>(v,p,J.os,J.bare,J.base,J.hok,rv,q)
 induction fl with
 |ret u=>
  let(v R p,J,rv,q):=C;calc O J rv q
 |next=>
  let(R p,J,q):=C;calc O (v:=V.non) J 9 q
 |brk=>
  let(_ _,_,q):=C;calc False.elim q
 |cont=>
  let(_ _,_,q):=C;exact False.elim q
section
variable      {t:TA}{id T:String}{r:YB->Hp->VK->Prop}
def vN(r:YB->Hp->VK->4)(t:TA):TE:=λZ H Q=>t Z H λa b=>r a b Q
def ZK(g:qf X (.builtin id) r)(i:Gl X x)(j:X.mg x=8)(l:bootBuiltins x=! .builtin id)(m:PA X (e::b) t)(n:x ≠"__name__":=by decide)(c:(x==("__debug__":Str))=7:=by decide)
 (o:starEach (e::b) X.env=%[7|eval e X.env]::starEach b X.env:=by rfl)(f:(backTo a<|starEach b X.env).any (·.1)=7:=by rfl):PE X (.Call (.Name x p) (e::b) [] a) (vN r t):=λY s Z H Q I h=>wpAny_Call_Name_kw<|ZE I i j l (PyProof.Rows.callWith_builtin1 (jO (m a Y s Z H _ I h) λq u=>j7 λv w=>jA λy z A=>g Y u Z w v q Q y z A) o f) n c
def Bh(g:qf X (.type T) r)(i:Gl X x)(j:X.mg x=8)(l:bootBuiltins x=! .type T)(m:PA X (e::b) t)(n:x ≠"__name__":=by decide)(c:(x==("__debug__":Str))=7:=by decide)
 (o:starEach (e::b) X.env=%[7|eval e X.env]::starEach b X.env:=by rfl)(f:(backTo a<|starEach b X.env).any (·.1)=7:=by rfl):PE X (.Call (.Name x p) (e::b) [] a) (vN r t):=λY s Z H Q I h=>wpAny_Call_Name_kw<|ZE I i j l (PyProof.Rows.callWith_type1 (jO (m a Y s Z H _ I h) λq u=>j7 λv w=>jA λy z A=>g Y u Z w v q Q y z A) o f) n c
end
end L2
namespace HT
open PySem PyProof.Rows
def lexLt:Yf->List 3->Bool
 |[],[]=>7
 |[],_::_=>6
 |_::_,[]=>7
 |x::a,y::b=>if x=y then lexLt a b else decide (x<y)
theorem lexLt_cons(x y)(a b):lexLt (x::a) (y::b)=if x=y then lexLt a b else decide (x<y):=rfl
theorem lexLt_nil_nil:lexLt [] []=7:=rfl
def P1(y)(a):lexLt [] (y::a)=6:=rfl
def P3(x)(a):lexLt (x::a) []=7:=rfl
def P4(A)(s)(a)(t)(c)(u):∃e,SeqAt.EqAt A s (.int a t) (.int c u) e/\(e=6↔a=c):=
 (a==c,SeqAt.EqAt.int_int a t c u,())
def P5(A)(s)(a)(t)(c)(u)(b)(w)(E)(Q)(h:Q (.bool<|decide<|a<c) s):
 YF b w A (richCompare .Lt (.int a t)<|.int c u) Q E s:=
 (PyProof.Rows.lt_int h:YF b w A (compareOp .Lt (.int a t)<|.int c u) Q E s)
section
open PySem.SeqAt
open PySem.AutoSeq1 (wpAny_loadPart')
open PySem.MeetsSeq PySem.MeetsSeq2 PySem.MeetsSeq3
def P6(l b:Addr)(i f:Yk)(n M:5)(N C:Option Addr)(O E:Array (Option Value))(F G:Yf)(P:IntsAre i.toList F)(Q:IntsAre f.toList G):
 Meets (Builtin.«tuple.__lt__» ([.ref l,.ref b],[]))
  λ_ R s=>↥s l=!{cls:=.type "tuple",dict:=N,data:=.seq i n,slots:=O}/\↥s b=!{cls:=.type "tuple",dict:=C,data:=.seq f M,slots:=E}/\
   R (.ok<|.ret<|.bool<|lexLt F G) s:=
 .of_wp λo w A R s h=>by
  let(r,g,d,v,os):=s;let(S,T,h):=h;let Z:=AutoSeq1.sub_tuple_tuple;let z1:i.size=F.length:=by rw[<-P.length];simp
  let z2:f.size=G.length:=by rw[<-Q.length];simp
  wp_walk using wpAny_loadPart' S,wpAny_loadPart' T,wpAny_forIn_list _ (λrest b H=>b.1=8/\H=(r,g,d,v,os)/\∃(z B:Ye)(j m:Yf),rest=z.zip B/\
   IntsAre z j/\IntsAre B m/\j.length+f.size=m.length+i.size/\R (.ok<|.ret<|.bool<|lexLt j m) (r,g,d,v,os)) _
  case turn=>
   rintro⟨y,x⟩ rest b H ⟨hb',rfl,z,B,j,m,hz,hvi,hwi,hlen,hR⟩
   induction hvi with
   |nil=>rw[List.zip_nil_left]at hz;cases hz
   |cons a t J=>
    induction hwi with
    |nil=>rw[List.zip_nil_right]at hz;cases hz
    |cons c u L=>
     rw[Vz]at hz;injection hz with hyx hrest
     injection hyx with hy hx
     subst hy hx;rw[lexLt_cons]at hR;simp only[Zu]at hlen;let(e,U,p):=P4 A.in1 (r,g,d,v,os) a t c u;refine Za<|U o w _ _ ?_
     induction e with
     |true=>
      rw[Zd (p.mp 9)]at hR
      wp_walk
      calc()
     |false=>
      rw[Ze λq=>Zn (p.mpr q) Zj]at hR;let I:=P5 A.in1 (r,g,d,v,os) a t c u o w
      wp_walk using I
      exact()
  case fin=>
   rintro⟨b1,b2⟩ H ⟨hb',rfl,z,B,j,m,hz,hvi,hwi,hlen,hR⟩;simp only at hb';subst hb';let X:lexLt j m=decide (i.size<f.size):=by
    cases hvi with
    |nil=>
     induction hwi with
     |nil=>
      simp only[ZC]at hlen;rw[lexLt_nil_nil];calc()
     |cons c u Y=>
      simp only[ZC,Zu]at hlen;rw[P1];calc()
    |cons a t X=>
     induction hwi with
     |nil=>
      simp only[ZC]at hlen;rw[P3];calc()
     |cons c u Y=>
      cases hz
   wp_walk
   grind[Builtin.Tuple.tupleCompareSizes]
  grind
end
def lt_tupInts    (t:IsTup s.heap l c)(u:IsTup s.heap b a)(v:IntsAre c.toList m)(x:IntsAre a.toList o)
 (y:A.units<cLine)(h:Q (.bool<|lexLt m o) s):YF p w A (compareOp .Lt (.ref l)<|.ref b) Q E s:=by
 let((z,B,q,C),F,G,n,H):=id t;let((r,e,data2,f),g,i,I,j):=id u;subst G H i j;exact richCompare_meets_room (op:=.Lt) (_,F,9) (_,g,9) PySem.F.slot_tuple_lt PySem.F.entry_tuple_lt (PySem.F.args_tuple_lt_2 _ _) (P6 l b c a n I B e C f m o v x)
  () y
def cat_tup   (v:IsTup s.heap t f.toArray)(x:IsTup s.heap b a.toArray)(y:f ≠[])
 (z:a=[]->Q (.ref t) s)(B:a ≠[]->Q (.ref s⁻¹) {s with heap:=s.heap.push {cls:=.type "tuple",data:=.seq (f++a).toArray}})
 (C:f.length+a.length<=sizeLine):YF o w A (binaryOp .Add (.ref t)<|.ref b) Q E s:=by
 let((cls,p,data,q),i,F,n,G):=id v;let((r,g,data2,h),c,l,u,m):=id x;subst F G l m;let e:f.toArray++a.toArray=(f++a).toArray:=by simp
 by_cases j:a=[]
 .exact concat_meets (_,i,9) (_,c,9) noFill_tuple_add seq_tuple_add PySem.F.slot_tuple_add PySem.F.entry_tuple_add (PySem.F.args_tuple_add_2 _ _)
   (tuple_addW1 t b f.toArray a.toArray n u p g q h ()<|by simp[j]) (i,c,z j)
 .refine concat_meets (_,i,9) (_,c,9) noFill_tuple_add seq_tuple_add PySem.F.slot_tuple_add PySem.F.entry_tuple_add (PySem.F.args_tuple_add_2 _ _)
   (tuple_addW2 t b f.toArray a.toArray n u p g q h (by simpa using y) (by simpa using j) ()) (i,c,?_)
  rw[e];exact B j
end HT
namespace L2
abbrev TO:=St->Hp->(Option 3->Hp->4)->4
def PO(X:Cx)(e:Option Expr)(t:TO):4:=
 ∀(Y:Yb)(s:Shared)(Z:St)(H:Hp)(Q:Option 3->Hp->4),Inv X Y Z H s->t Z H Q->
  YE X (evalPart e X.env) (λu b=>∃o a,Inv X Y Z a b/\IsPart u o/\Q o a) X.xe s
def mr:TO:=λ_ H Q=>Q 8 H
def kI(t:TE):TO:=λZ H Q=>t Z H λx a=>∃i,x=.int i/\Q (!i) a
def Dz :∀{a:Ye},j5 (b.map V.int) a->IntsAre a b:=by
 induction b with
 |nil=>intro a r;cases r;calc .nil
 |cons n b c=>
  intro a r;cases r with
  |cons f g=>
   let(t,e):=f;subst e;exact .cons n t<|c g
def P7(h:PE X e a):PO X (!e) (kI a):=by
 intro Y s Z H Q I b;calc jO (h Y s Z H _ I b) λu l=>j7 λx c=>jA λf g j=>?_;let(i,rfl,q):=j;let(t,rfl):=g;exact(!i,c,f,.int i t,q)
def gg(K:f'):R2:=λx y H Q=>∃a b e c,x=.ref a/\y=.ref b/\yF K H a e/\yF K H b c/\e ≠[]/\e.length+c.length<=sizeLine/\
 (c=[]->Q (.ref a) H)/\(c ≠[]->∀p,H p=8->Q (.ref p) (upd H p<|.tup<|e++c))
def j5.nil_iff  (r:j5 c e):e=[]↔c=[]:=by
 induction r with
 |nil=>simp
 |cons _ _=>simp
def P8:xF X (binaryOp .Add) (gg X.K):=by
 intro Y s Z H x y v u Q I g i h;let(a b A B,rfl,rfl,j,l,m,C,n,o):=h;cases g;cases i;let(-p,e,r,_):=I.tuple j;let(-f,c,t,_):=I.tuple l;calc HT.cat_tup r t (λz=>m<|e.nil_iff.mp z) (λz=>(.ref a,H,I,9,n<|c.nil_iff.mp z)) (λz=>(.ref s⁻¹,_,I.laid (λb E q=>Zq _ q) (Zf _) ?_,9,o (λw=>z<|c.nil_iff.mpr w) _<|I.hok.fresh<|Zf _)) (by rwa[<-e.length,<-c.length]);exact(((),(_,Zr _ 9,9)),_,e.append c,IsTup.new _ _)
noncomputable def ze(n:5)(i:3):Option 5:=if 0<=i then if i<n then !i.toNat else 8 else if-(n:3)<=i then !(i+n).toNat else 8
def xh{α:Type}(a:List α)(i:3):Option α:=(ze a.length i).bind λj=>a[j]?
def G3   (h:ze n i=!j):seqIndex? i n=!j/\j<n/\-(n:3)<=i/\i<n:=by
 grind[ze,Zqi,seqIndex_of,seqIndex_neg]
def D0    (h:xh a i=!v):∃j,seqIndex? i a.length=!j/\a[j]?=!v/\j<a.length/\-(a.length:3)<=i/\i<a.length:=by
 unfold xh at h
 induction e:ze a.length i with
 |none=>ext
 |some j=>
  rw[e]at h;let(!b,c,f,g):=G3 e;exact(j,b,h,c,f,g)
def XS(b:Expr):4:=∀o i,subscripted b 7 o i=operate [o,i] (getItem o i)
def zV(X:Cx)(r:R2):4:=
 ∀(b a:Expr)(Y:Yb)(s:Shared)(Z:St)(H:Hp)(x y:V)(v u:Value)(Q:VK),Inv X Y Z H s->jv x v->jv y u->r x y H Q->
  subscripted a 7 v u=operate [v,u] (getItem v u)->YE X (subscriptTail b a v u) (EP X Y Z Q) X.xe s
def t6(X:Cx)(id:String)(r:V->YB->Hp->VK->4):4:=
 ∀(Y:Yb)(s:Shared)(Z:St)(H:Hp)(x:V)(a:YB)(v:Value)(b:Ye)(Q:VK),Inv X Y Z H s->jv x v->j5 a b->r x a H Q->
  YE X (call (.builtin id)<|v::b) (EP X Y Z Q) X.xe s
section
def zV.or (h:zV X r)(l:zV X n):zV X λx y H Q=>r x y H Q\/n x y H Q:=by
 intro c e Y s Z H x y v u Q I f i q j;rcases q with q|q
 .exact h c e Y s Z H x y v u Q I f i q j
 .exact l c e Y s Z H x y v u Q I f i q j
def ZL (c:zV X r)(e:PE X a f)(g:PE X b i)(j:XS b):PE X (.Subscript a b l) (u3 r f i):=λY s Z H Q I h=>Subscript_<|uS e g I h λv u m x y n o p t q=>c a b Y m Z n x y v u Q o p t q<|j _ _
def gf(K:f'):R2:=λx y H Q=>∃p a i v,x=.ref p/\y=.int i/\xx K H p a/\xh a i=!v/\Q v H
def gd(K:f'):R2:=λx y H Q=>∃p a i v,x=.ref p/\y=.int i/\yF K H p a/\xh a i=!v/\Q v H
def rH:R2:=λx y H Q=>∃z i c,x=.str z/\y=.int i/\z.length<=sizeLine/\xh z.cps.toList i=!c/\Q (.str ⟨#[c]⟩) H
def mi:zV X (gf X.K):=by
 intro b c Y s Z H x y v u Q I B C h m;let(p M i z,rfl,rfl,E,F,q):=h;cases B;let(t,rfl):=C;let(-e,r,f,N):=I.list E;let(-j,n,G,O,J,L):=D0 F;let(-w,o,g):=r.get G;let P:=r.length;let R:=XR;let a:EP X Y Z Q w s:=(z,H,I,g,q);by_cases A:0<=i
 .let l:i.toNat=j:=by
   rw[seqIndex_of A L]at n
   ext
  exact item_listR f.isList A () (by rw[l];simpa using o) a m
 .let l:(i+(e.toArray.size:3)).toNat=j:=by
   rw[seqIndex_neg () J]at n
   ext
  exact subscriptTail_builtinR f.isList.typeIs slot_list_getitem.lookup
   (wpAny_getItem_list_neg f.isList () () () (by rw[l];simpa using o) (9,a)) m
def dP:zV X (gd X.K):=by
 intro a b Y s Z H x y v u Q I g l h m;let(p E i z,rfl,rfl,n,o,q):=h;cases g;let(t,rfl):=l;let(-A,r,f,F):=I.tuple n;let(-j,G,B,J,L,M):=D0 o;let(-w,C,c):=r.get B;let N:=r.length;let O:=XR;let e:EP X Y Z Q w s:=(z,H,I,c,q);exact subscriptTail_builtinR f.typeIs slot_tuple_getitem.lookup
  (getItem_tuple (j:=j) f () () () (by simpa using C) (9,e)) m
def oB(K:f'):R2:=λx y H Q=>gf K x y H Q\/gd K x y H Q\/rH x y H Q
def P9:zV X (oB X.K):=mi.or<|dP.or<|by
 intro a b Y s Z H x y v u Q I f g h l;let(z i c,rfl,rfl,w,m,q):=h;let(t,rfl):=f;let(A,rfl):=g;let(-j,e,n,B,o,p):=D0 m;let r:z.cps.toList.length=z.length:=by rfl
 rw[r]at e o p;let C:=XR;exact tail_any (typeIs_str s z t) slot_str_getitem.lookup (getItem_str (by
  grind) (by rw[e];simpa using n) (.str ⟨#[c]⟩,H,I.tok _,(_,9),q)) l
def PB(a:Ye)(n j)(u):Obj.mapSeq (·.setIfInBounds j u) {cls:=.type "list",data:=.seq a.toArray n}={cls:=.type "list",data:=.seq (a.set j u).toArray n}:=by
 simp[Obj.mapSeq]
theorem Inv.lst {Z:St}    (I:Inv X Y Z H s)(h:H p=! .lst f):
 ∃(c:Ye)(n:5),j5 f c/\↥s p=!{cls:=.type "list",data:=.seq c.toArray n}/\f.length<=sizeLine:=by
 let(z,c,n,r,e):=I.hok p _ h;exact(c,n,r,e,z)
def Inv.lstUpd {Z:St}    {i c:Ye}  (I:Inv X Y Z H s)(h:H p=! .lst z)
 (v:↥s p=!{cls:=.type "list",data:=.seq i.toArray n})(j:f {cls:=.type "list",data:=.seq i.toArray n}={cls:=.type "list",data:=.seq c.toArray l})(r:j5 o c)(x:o.length<=sizeLine)(t):
 Inv X Y Z (upd H p<|.lst o) {s with heap:=s.heap.update p f,toks:=t}:=by
 let e:(s.heap.update p f).get? p=!{cls:=.type "list",data:=.seq c.toArray l}:=by
  rw[Heap.get?_update_self f v (by rw[j]<;>rfl),j]
 exact I.write (by rw[h];trivial) (.inl 9) (λb u y q=>(Heap.get?_update_other _ _<|Ne.symm y).trans q) (_,e) (x,c,l,r,e)
def gc:V->V->V->Hp->(Hp->4)->4:=λo i v H Q=>∃p a k j,o=.ref p/\i=.int k/\H p=! .lst a/\ze a.length k=!j/\Q (upd H p<|.lst<|a.set j v)
def G4:bT X gc:=by
 intro Y s Z H o i v l m u Q I c ri e h;let(p w k j,rfl,rfl,b,f,q):=h;cases c;let(t,rfl):=ri;let(a n,r,g,x):=I.lst b;let(!y,z,A,B):=G3 f;let C:=r.length;let E:=XR;let F:=
  I.lstUpd b g (PB a n j u) (r.set e j) () s.toks
 grind[seqIndex_of,Zqi,W.ki_setAt,seqIndex_neg,W.ki_setBack]
def PF:qf X (.builtin "len") λg H Q=>∃p a,g=[.ref p]/\(xx X.K H p a\/yF X.K H p a)/\Q (.int a.length) H:=by
 intro Y s Z H g l Q I r h;let(p a,rfl,hq,q):=h;let(-u,rfl,i):=QP r;cases i;let m:=XR;rcases hq with hq|hq
 .let(c,e,f,j):=I.list hq;let b:=e.length;exact Calls.call_len_list f.isList () (.int a.length,H,I.tok _,(s.toks+1,()),q)
 .let(c,e,f,j):=I.tuple hq;let b:=e.length;exact len_tuple f () (.int a.length,H,I.tok _,(s.toks+1,()),q)
def PH:qf X (.builtin "len") λa H Q=>∃z,a=[.str z]/\z.length<=sizeLine/\Q (.int z.length) H:=by
 intro Y s Z H a b Q I r h;let(z,rfl,c,q):=h;let(-u,rfl,(t,rfl)):=QP r;let e:=XR;exact len_str () (.int z.length,H,I.tok _,(_,9),q)
def qf.or  (h:qf X f r)(j:qf X f l):qf X f λc H Q=>r c H Q\/l c H Q:=by
 intro Y s Z H c e Q I i q;rcases q with q|q
 .exact h Y s Z H c e Q I i q
 .exact j Y s Z H c e Q I i q
def PJ:qf X (.type "list") λA H Q=>∃p f,A=[.ref p]/\(xx X.K H p f\/yF X.K H p f)/\∀l,H l=8->Q (.ref l) (upd H l<|.lst f):=by
 intro Y s Z H A E Q I r h;let(p f,rfl,hq,q):=h;let(-u,rfl,C):=QP r;cases C;let j:∀a,j5 f a->f.length<=sizeLine->∀c g,(∀b B,↥s b=!B->c.get? b=!B)->
  c.get? s⁻¹=!{cls:=.type "list",dict:=8,data:=.seq a.toArray g,slots:=#[]}->EP X Y Z Q (.ref s⁻¹) {s with heap:=c}:=λa i m c g t e=>
  (.ref s⁻¹,_,I.laid t (Zf _)<|show yq X.prog X.w _ c _ (.lst f)from(m,a,g,i,e),9,q _<|I.hok.fresh<|Zf _)
 rcases hq with hq|hq
 .let(a,i,w,m):=I.list hq;let v:=i.length;let(o,x,y,n,z):=w.isList;exact call_list_seq p (.inl 9) x y z (λc g t e=>j a i m c g t e)<|by simp<;>lia
 .let(a,i,w,m):=I.tuple hq;let v:=i.length;let(o,x,y,n,z):=w;exact call_list_seq p (.inr 9) x y z (λc g t e=>j a i m c g t e)<|by simp<;>lia
def PK:qf X (.type "tuple") λm H Q=>∃p c,m=[.ref p]/\((xx X.K H p c/\∀l,H l=8->Q (.ref l) (upd H l<|.tup c))\/yF X.K H p c/\Q (.ref p) H):=by
 intro Y s Z H m z Q I r h;let(p,c,rfl,h):=h;let(-u,rfl,w):=QP r;cases w;rcases h with ⟨g,q⟩|⟨g,q⟩
 .let(-a,i,j,n):=I.list g;let t:=i.length;calc call_tuple_list j.isList (λf x=>?_) ();let v:Inv X Y Z H {s with heap:=f}:=I.kept x;let y:Inv X Y Z (upd H f.objs.size<|.tup c) {s with heap:=f.push {cls:=.type "tuple",data:=.seq a.toArray}}:=
   v.laid (λb o e=>Zq _ e) (Zf _)<|((n,(_,Zr _ 9,9)),a,i,IsTup.new _ _)
  exact(.ref f.objs.size,_,y,9,q _<|v.hok.fresh<|Zf _)
 .let(-a,i,j,n):=I.tuple g;exact call_tuple_same j (.ref p,H,I,9,q)
def nS(K:f')(T:String)(x:V)(H:Hp):4:=match x with
 |.str _=>T="str"
 |.int _=>T="int"
 |.ref p=>(T="list"/\∃b,xx K H p b)\/(T="tuple"/\∃o,K.lookup p=!o/\o.cls=.type "tuple"/\o.dict=8)\/
  T="dict"/\((∃a,H p=! .dK a)\/∃a,H p=! .dT a)\/T="set"/\∃S n,H p=! .set S n
 |_=>False
def G8 {Z:St}     (I:Inv X Y Z H s)(r:jv x v)(g:nS X.K T x H):
 s.TypeIs v T/\∀a,v=.ref a->∃m,↥s a=!m/\m.dict=8:=by
 induction x with
 |str z=>
  let(t,rfl):=r;cases g;calc(typeIs_str s z t,λ_ e=>nomatch e)
 |int i=>
  let(t,rfl):=r;cases g;calc(typeIs_int s i t,λ_ e=>nomatch e)
 |ref p=>
  cases r;rcases g with ⟨rfl,A,u⟩|⟨rfl,o,b,w,h⟩|⟨rfl,b⟩|⟨rfl,S,n,b⟩
  .let(-y,_,q,_):=I.list u;calc(q.isList.typeIs,λa e=>?_);cases e;let(o n,e,c,h,_):=q;exact(o,e,h)
  .calc((o,I.kIn p o b,w),λa e=>?_);cases e;exact(o,I.kIn _ o b,h)
  .let z:∃o,↥s p=!o/\o.ExactDict:=by
    rcases b with ⟨j,b⟩|⟨j,b⟩
    .let(_,_,_,_,o,_,_,e,f,_):=I.hok p _ b;exact(o,e,f)
    .let(!_,_,(_,_,o,_,_,e,f,_)):=I.hok p _ b;exact(o,e,f)
   let(o,e,f):=z;calc((o,e,f.1),λa l=>?_);cases l;exact(o,e,f.2.1)
  .let(o _ _ _,e,f,_):=I.hok p _ b;calc((o,e,f.1),λa l=>?_);cases l;calc(o,e,f.2.1)
 |_=>exact False.elim g
def uG(K:f')(T:String)(r:V->YB->Hp->VK->4)(b:TE):TE:=λZ H Q=>b Z H λx a=>nS K T x a/\r x [] a Q
def kP(K:f')(T:String)(r:V->YB->Hp->VK->4)(b:TE)(t:TA):TE:=λZ H Q=>b Z H λx a=>nS K T x a/\t Z a λc e=>r x c e Q
variable       {T id:String}
def G9(m:PlainAttrs T)(e:Slot T a id)(i:typeOf (.builtin id)=pure (.type "method_descriptor"))(n:t6 X id r)(p:PE X o q)
 (b:attributeBase o a X.env (eval o X.env)=eval o X.env:=by rfl)(c:(f.endLine==g.line)=6:=by rfl):PE X (.Call (.Attribute o a f) [] [] g) (uG X.K T r q):=by
 intro Y s Z H Q I h;calc wpAny_Call_method0_late b c<|jO (p Y s Z H _ I h) λv t=>j7 λx u=>qW λj l w y=>?_;let(z,A):=G8 j l w;exact qA T id (m,e,i,z,A,Calls.callWith_builtin 9<|PySem.evalArgs_none<|n Y t Z u x [] v [] Q j l .nil y)
def KR(w:PlainAttrs T)(j:Slot T c id)(n:typeOf (.builtin id)=pure (.type "method_descriptor"))(y:t6 X id r)(z:PE X o A)(B:PA X (e::f) t)
 (g:attributeBase o c X.env (eval o X.env)=eval o X.env:=by rfl)
 (l:((backTo a<|starEach (e::f) X.env).all (λx=>not<|x.1)&&(backToKw a<|keywordEach [] X.env).all (λx=>x.1.isSome)
  &&decide ((e::f).length+([]:List Keyword).length+(if([]:List Keyword).isEmpty then 0 else 1)<30))=6:=by rfl)
 (i:(m.endLine==a.line)=6:=by rfl)(C:starEach (e::f) X.env=%[7|eval e X.env]::starEach f X.env:=by rfl)(b:(backTo a<|starEach f X.env).any (·.1)=7:=by rfl):
 PE X (.Call (.Attribute o c m) (e::f) [] a) (kP X.K T r A t):=by
 intro Y s Z H Q I h;calc wpAny_Call_method_late g l i 9<|jO (z Y s Z H _ I h) λv E=>j7 λx F=>qW λp q G J=>?_;let(L,M):=G8 p q G;calc qA T id (w,j,n,L,M,?_);let u:=B a Y E Z F _ p J;rw[C]at u ⊢;exact Calls.callWith_builtin (by show(7||(backTo a<|starEach f X.env).any (·.1))=7;rw[b]<;>rfl)<|Calls.evalArgs_plain<|jO u λN O=>j7 λP R=>jA λS U q2=>y Y O Z R x P v N Q S q U q2
end
def dB(X:Cx)(id:String)(r:V->YB->Hp->VK->4):4:=
 ∀(Y:Yb)(s:Shared)(Z:St)(H:Hp)(x:V)(a:YB)(v:Value)(b:Ye)(Q:VK),Inv X Y Z H s->jv x v->j5 a b->r x a H Q->
  YE X (call (.builtin id)<|v::b) (EP X Y Z Q) X.xe s
def j5.one:∀{x:V}{c:Ye},j5 [x] c->∃u,c=[u]/\jv x u:=λh=>by
 cases h with
 |cons r t=>cases t;exact(_,9,r)
def wD:∀{c:Ye},j5 [] c->c=[]
 |_,.nil=>9
section
variable   {Z: St}
def Inv.lset{i c:Ye}   (I:Inv X Y Z H s)(o:H l=! .lst z)
 (e:↥s l=!{cls:=.type "list",data:=.seq i.toArray n})(p:f i.toArray=c.toArray)(r:j5 j c)(v:j.length<=sizeLine):
 Inv X Y Z (upd H l<|.lst j) {s with heap:=s.heap.update l (Obj.mapSeq f),toks:=B}:=by
 let q:=PySem.IsL.update e f;rw[p]at q;exact I.write (by rw[o];calc trivial) (.inl 9) (λE u x y=>(Heap.get?_update_other s.heap (Obj.mapSeq f)<|Ne.symm x).trans y) (_,q) (v,c,_,r,q)
def Inv.lnew  (I:Inv X Y Z H s)(f:j5 e c)(i:e.length<=sizeLine):
 Inv X Y Z (upd H s⁻¹<|.lst e) {s with heap:=s.heap.push {cls:=.type "list",data:=.seq c.toArray},toks:=j}:=
 I.laid (λ_ _ q=>Zq _ q) (Zf _) (i,c,0,f,Zr _ 9)
theorem Inv.fresh(I:Inv X Y Z H s):H s⁻¹=8:=I.hok.fresh<|Zf _
def Inv.lstM(I:Inv X Y Z H s)(i:H l=! .lst f):f.length<=sizeLine/\∃(c:Ye)(n:5),j5 f c/\f.length=c.length/\↥s l=!{cls:=.type "list",data:=.seq c.toArray n}:=have(z,c,n,r,e):=I.hok l _ i;(z,c,n,r,r.length,e)
def PM (h:n<=sizeLine):Builtin.List.listTooLong n=7:=by
 simp_all[Builtin.List.listTooLong]
end
def Bi:V->YB->Hp->VK->4:=λx b H Q=>∃l a y,x=.ref l/\b=[y]/\H l=! .lst a/\a.length<sizeLine/\Q .non (upd H l<|.lst<|a++[y])
def W2:dB X "list.append" Bi:=by
 intro Y s Z H x i v j Q I c f h;let(l m y,rfl,rfl,b,o,q):=h;cases c;let(-u,rfl,g):=f.one;let(z,a,n,r,p,e):=I.lstM b;refine call_meets F.slot_list_append (_,e,9) F.entry_list_append (F.args_list_append_2 _ _) (PySem.list_append l a.toArray n u ()) (e,(.non,_,I.lset b e () (r.append<|.cons g .nil) ?_,9,q))
 grind
def GA:V->YB->Hp->VK->4:=λx e H Q=>∃l b a c,x=.ref l/\e=[.ref b]/\H l=! .lst a/\H b=! .lst c/\a.length+c.length<=sizeLine/\Q .non (upd H l<|.lst<|a++c)
def GB:dB X "list.extend" GA:=by
 intro Y s Z H x A v B Q I j m h;let(l b C E,rfl,rfl,i,hB,G,q):=h;cases j;let(-u,rfl,o):=m.one;cases o;let(z,c,n,r,J,e):=I.lstM i;let(L,a,p,t,w,y):=I.lstM hB;let g:c.toArray.size+a.toArray.size<=sizeLine:=by ext
 let f:¬(not c.toArray.isEmpty&&Builtin.List.listTooLong (c.toArray.size+a.toArray.size))=6:=by
  rw[PM g,Bool.and_false];exact Zj
 refine call_meets F.slot_list_extend (_,e,9) F.entry_list_extend (F.args_list_extend_2 _ _)
  (AutoSeq1.list_extend_list_list_0 l c.toArray n b a.toArray p f () ()) (e,y,(.non,_,I.lset i e () (r.append t) ?_,9,q))
 ext
set_option maxRecDepth 100000 in
section
variable {κ: Type}[DecidableEq κ]
def qR(a:List (κ × V))(k:κ):Option V:=(a.find? λb=>decide<|b.1=k).map (·.2)
noncomputable def qV(a:List (κ × V))(k:κ)(v:V):List (κ × V):=
 if a.any λb=>decide<|b.1=k=6 then a.map λb=>if b.1=k then%[b.1|v]else b else a++[%[k|v]]
def D1  {k:κ}(e:p.1=k):qR (p::r) k=!p.2:=by simp[qR,e]
theorem D3  {k:κ}(e:¬p.1=k):qR (p::r) k=qR r k:=by simp[qR,e]
theorem GC(k):∀a:List (κ × V),a.any λb=>decide<|b.1=k=(qR a k).isSome
 |[]=>9
 |p::r=>by
  rw[List.any_cons];by_cases e:p.1=k
  .simp[D1 e,Zp e]
  .rw[D3 e,Zo e,Bool.false_or];exact GC k r
def D4(a:List (κ × V))(k)(v):(qV a k v).length<=a.length+1:=by
 grind[qV,Zql,List.length_append,List.length_cons,List.length_nil]
def xX.isSome_eq  (r:xX o u):o.isSome=u.isSome:=by
 induction o with
 |none=>induction u with
  |none=>rfl
  |some _=>calc(r).elim
 |some _=>induction u with
  |none=>calc(r).elim
  |some _=>rfl
theorem xX.getD    (r:xX o u)(c:jv d e):jv (o.getD d) (u.getD e):=by
 induction o with
 |none=>induction u with
  |none=>calc c
  |some _=>calc(r).elim
 |some _=>induction u with
  |none=>calc(r).elim
  |some _=>exact r
def KV.val {f:List (κ × Value)}(r:KV c f)(k):xX (qR c k) (valueAt f k):=by
 induction r with
 |nil=>calc True.intro
 |@cons p q j i h t l=>
  let(n,o):=h;by_cases e:p.1=k
  .let b:valueAt (q::i) k=!q.2:=by simp_all[valueAt]
   rwa[D1 e,b]
  grind[valueAt,D3]
theorem KV.any {f:List (κ × Value)}(r:KV c f)(k):c.any λe=>decide<|e.1=k=f.any λe=>decide<|e.1=k:=by
 induction r with
 |nil=>rfl
 |cons h t i=>ext
def KV.repl {f:List (κ × Value)}(r:KV e f)(k)  (j:jv y u):
 KV (e.map λc=>if c.1=k then%[c.1|y]else c) (f.map λc=>if c.1=k then%[c.1|u]else c):=by
 induction r with
 |nil=>calc .nil
 |@cons p q l n h t i=>
  refine .cons ?_ i
  grind
def KV.put {c:List (κ × Value)}(r:KV f c)(k)  (i:jv y u):KV (qV f k y) (stored c k u):=by
 unfold qV stored;rw[r.any k];by_cases e:c.any λj=>decide<|j.1=k=6
 .rw[Zd e,Zd e];exact r.repl k i
 .rw[Ze e,Ze e];exact Paired.snoc r (9,i)
theorem KV.length {e:List (κ × Value)}(r:KV c e):c.length=e.length:=Paired.length r
end
def Xt    (r:jv (kV k) u):(Qk P w).is k u=6:=by
 induction k with
 |inl i=>let(t,e):=r;subst e;calc FZ i t
 |inr x=>let(t,e):=r;subst e;exact OL x t
theorem GE  :∀{a:List jI}{b:Ye},j5 (a.map kV) b->ItemsAre (Qk P w) a b
 |[],_,r=>by cases r;calc .nil
 |k::a,_,r=>by
  cases r with
  |cons h t=>exact .cons (Xt h)<|GE t
abbrev KT(H:Hp):List (List jI×V)->List (List jI×Addr×Value)->4:=Paired λp q=>p.1=q.1/\H q.2.1=!(.tup<|p.1.map kV)/\jv p.2 q.2.2
def KT.val   (r:KT H c f)(k):xX (qR c k) ((atKey f k).map (·.2)):=by
 induction r with
 |nil=>calc True.intro
 |@cons p q j i h t l=>
  let(!n,_,o):=h;by_cases e:p.1=k
  .let b:atKey (q::i) k=!q.2:=by simp_all[atKey]
   rwa[D1 e,b]
  grind[atKey,D3]
def KT.repl   (r:KT H c f)(k)  (j:jv y u):
 KT H (c.map λe=>if e.1=k then%[e.1|y]else e) (f.map<|putAt k u):=by
 induction r with
 |nil=>calc .nil
 |@cons p q l n h t i=>
  refine .cons ?_ i
  grind[putAt]
def KT.put   (r:KT H c f)(k)   (j:H b=!(.tup<|k.map kV))(i:jv y u):
 KT H (qV c k y) (storedH f k b u):=by
 let e:c.any λl=>decide<|l.1=k=(atKey f k).isSome:=by
  rw[GC,(r.val k).isSome_eq,Option.isSome_map]
 unfold qV storedH;rw[e];by_cases q:(atKey f k).isSome=6
 .rw[Zd q,Zd q];exact r.repl k i
 .rw[Ze q,Ze q];exact Paired.snoc r (9,j,i)
def KT.keeps   (r:KT H c f)(j:∀b e,H b=! .tup e->i b=! .tup e):KT i c f:=
 yr r ()
def GF (ok:xr P w H h)(e:Rd H a u):yq P w H h a u:=e.ok ok
def WX (ok:xr P w H h)(e:Rd H a (.dK b)):b.length<=sizeLine/\(a==sysModules)=7/\∃c,KV b c/\h.DictOf (Qk P w) a c:=
 GF ok e
def Bj (ok:xr P w H h)(e:H a=! .dK b):b.length<=sizeLine/\(a==sysModules)=7/\∃c,KV b c/\h.DictOf (Qk P w) a c:=WX ok<|.inl e
theorem XT (ok:xr P w H h)(e:H a=!(.tup<|c.map kV)):(tupleKind<|Qk P w).is h c a:=by
 let(_,b,r,o,f,g,n,i):=show yq P w H h a (.tup<|c.map kV)from ok a _ e;exact je o b.toArray n (f,g,i,by simpa using GE r)
def Xu (ok:xr P w H h)(e:Rd H a (.dT b)):b.length<=sizeLine/\(a==sysModules)=7/\
 ∃c,KT H b c/\h.DictOfH (tupleKind<|Qk P w) a c:=by
 let(!z,y,(c,r,o,g,i,j,n,s,u,v)):=GF ok e;calc(z,y,c,r,o,g,i,j,n,s,u,λx f=>?_,v);let all:∀{l:List (List jI×V)}{m:List (List jI×Addr×Value)},KT H l m->∀x∈m,(tupleKind<|Qk P w).is h x.1 x.2.1:=by
  intro l m q
  induction q with
  |nil=>intro x f;calc nomatch f
  |@cons p q A B C t E=>
   grind[XT]
 exact all r x f
def b8 (ok:xr P w H h)(e:H a=! .dT b):b.length<=sizeLine/\(a==sysModules)=7/\
 ∃c,KT H b c/\h.DictOfH (tupleKind<|Qk P w) a c:=Xu ok<|.inl e
def xS(H:Hp)(a:Addr)(y:V)(r:Option V):4:=
 (∃c k,Rd H a (.dK c)/\y=kV k/\r=qR c k)\/∃c k b,Rd H a (.dT c)/\y=.ref b/\H b=!(.tup<|k.map kV)/\r=qR c k
def wK(H:Hp)(a:Addr)(y v:V)(e:Hp):4:=
 (∃c k,H a=! .dK c/\y=kV k/\c.length<sizeLine/\e=upd H a (.dK<|qV c k v))\/
 ∃c k b,H a=! .dT c/\y=.ref b/\H b=!(.tup<|k.map kV)/\c.length<sizeLine/\e=upd H a (.dT<|qV c k v)
theorem xS.k   {k:jI}(e:H a=! .dK c):xS H a (kV k) (qR c k):=.inl (c,k,.inl e,9,9)
theorem wK.k   {k:jI} (e:H a=! .dK c)(f:c.length<sizeLine):wK H a (kV k) v (upd H a<|.dK<|qV c k v):=.inl (c,k,e,9,f,9)
section
variable   {Z: St}
def Inv.big(I:Inv X Y Z H s):sysModules<s⁻¹:=have h:=(I.mod.glob.keeps I.bk).lt;Ul (by decide) h
def PN (w:A.units+1<cLine)(I:Inv X Y Z H s)(g:xS H a y !v)(r:jv y u)(h:∀i t,Inv X Y Z H t->jv v i->Q i t):
 wpAny (model X.prog X.w) A (getItem (.ref a) u) Q E s:=by
 rcases g with ⟨j,k,e,m,l⟩|⟨j,k,b,e,m,x,l⟩
 .subst m;let(!z,B,(F,c,n)):=WX I.hok e;let(i,o,f):=xg (by rw[l];calc c.val k);exact wpAny_getItem_of (Xt r) n.mapOf o<|h i _ (I.tok _) f
 .subst m;cases r;let(!z,B,(G,c,n)):=Xu I.hok e;let(-i,o,f):=xg (by rw[l];calc c.val k);let(-p,C,q):=Jj.mp o;calc wpAny_getItem_heap (tupleKind_room_in1 w) (XT I.hok x) n C ?_;rw[q];exact h i _ (I.tok _) f
def PP (r:A.units+1<cLine)(I:Inv X Y Z H s)(g:xS H a y o)(n:jv y u)(h:∀p,Inv X Y Z H p->Q (.bool<|not o.isSome) p):
 wpAny (model X.prog X.w) A (compareOp .NotIn u<|.ref a) Q E s:=by
 rcases g with ⟨f,k,e,i,l⟩|⟨f,k,b,e,i,t,l⟩
 .subst i;let(!z,j,(v,c,m)):=WX I.hok e;calc wpAny_notIn_of (Xt n) j m.mapOf ?_;rw[<-(c.val k).isSome_eq,<-l];exact h _<|I.tok _
 .subst i;cases n;let(!z,j,(w,c,m)):=Xu I.hok e;calc wpAny_notIn_heap (tupleKind_room_in1 r) (XT I.hok t) j m ?_;let q:=(c.val k).isSome_eq;rw[Option.isSome_map]at q;rw[<-q,<-l];exact h _<|I.tok _
def GG   (I:Inv X Y Z H s)(f:bV (H a))(g:Heap.SameBut a s.heap c)(h:∃q,c.get? a=!q)(new:yq X.prog X.w (upd H a e) c a e):
 Inv X Y Z (upd H a e) {s with heap:=c,toks:=j}:=
 I.write f (.inl 9) (λb q i z=>(g.2 b i).trans z) h new
def GH      (z:b.length<=sizeLine)(f:(a==sysModules)=7)(c:KV b e)(g:h.DictOf (Qk P w) a e):
 yq P w i h a (.dK b):=(z,f,e,c,g)
def PQ  (M:A.units+1<cLine)(I:Inv X Y Z H s)(g:wK H a y v N)(C:jv y u)(F:jv v r)(h:∀G,Inv X Y Z N G->Q Yq G):
 wpAny (model X.prog X.w) A (setItem (.ref a) u r) Q E s:=by
 rcases g with ⟨f,k,e,n,l,o⟩|⟨f,k,b,e,n,J,l,o⟩
 .subst n o;let(!z,p,(O,i,t)):=Bj I.hok e;let w:O.length<=sizeLine:=by rwa[<-i.length]
  let x:(qV f k v).length<=sizeLine:=by let:=D4 f k v;lia
  calc wpAny_setItem_pairs (hsz:=w) (Xt C) t λL j B=>h _ ?_;let P:∃q,L.get? a=!q:=gM j λq _ _=>jB λm _=>(q,m);exact GG I (by rw[e];calc True.intro) B P<|GH x p (i.put k F) j
 .subst n o;cases C;let(!z,p,(R,i,t)):=b8 I.hok e;let w:R.length<=sizeLine:=by rwa[<-Paired.length i]
  let x:(qV f k v).length<=sizeLine:=by let:=D4 f k v;lia
  calc wpAny_setItem_heap (hsz:=w) (tupleKind_room_in1 M) (XT I.hok J) t λL j B=>h _ ?_;let(q S T,m,U,h3,h4,_,h5):=j;refine GG I (by rw[e];calc True.intro) B (q,m) (x,p,_,(i.put k J F).keeps λc ys ec=>?_,q,S,T,m,U,h3,h4,h5)
  rwa[JF ()]
end
section
variable   {Z: St}
def bD (I:Inv X Y Z H s)(e:Rd H a (.dK c))(h:∀t f,Inv X Y Z H f->Q (.int c.length t) f):wpAny (model X.prog X.w) A (call (.builtin "len") [.ref a]) Q E s:=by
 let(!z,g,(j,b,i)):=WX I.hok e;calc call_len_dict g i (by rw[<-b.length];rw[sizeLine_eq]at z;lia) ?_;rw[<-b.length];exact h _ _<|I.tok _
end
def vo(i:Expr):4:=∀a b,subscripted i 7 a b=operate [a,b] (getItem a b)
def PR        {T id:String}
 (f:typeLookup (.type T) "__getitem__"=pure ! .builtin id)(g:vo b)
 (h:YF a w A (eval c e) (λo s₁=>YF a w A (eval b e) (λi s₂=>s₂.TypeIs o T/\YF a w A (getItem o i) Q E s₂) E s₁) E s):
 YF a w A (eval (.Subscript c b j) e) Q E s:=by
 calc Subscript_<|Zc h (λo s₁ h₁=>Zc h₁ (λi s₂ h₂=>?_) λ_ _ x=>x) λ_ _ x=>x;let(l,h₂):=h₂;calc Za<|Za<|wpAny_specialOf l f ?_;let m:YF a w A (subscripted b 7 o i) (λr s₃=>YF a w A (letTemporaryGo c o r>>=λ_=>pure r) Q E s₃) E s₂:=by
  rw[g o i];exact wpAny_operating<|Zc h₂ (λr s₃ h₃=>Za<|wpAny_letTemporaryGo<|Zb h₃) λ_ _ x=>x
 grind[wpAny_pure,wpAny_bind]
def kO(c e:TE):TE:=λZ H Q=>c Z H λx f=>e Z f λy b=>∃a v,x=.ref a/\xS b a y !v/\Q v b
def PU(c e:TE):TE:=λZ H Q=>c Z H λy f=>e Z f λx b=>∃a o,x=.ref a/\xS b a y o/\Q (.bl<|not o.isSome) b
def kY(c e f:TE):TS:=λD Z H=>f Z H λv g=>c Z g λx h=>e Z h λy i=>∃a b,x=.ref a/\wK i a y v b/\D.nx Z b
def D5(m:X.A.units+1<cLine)(n:PE X o p)(q:PE X i r)(t:vo i):PE X (.Subscript o i w) (kO p r):=by
 intro Y s Z H Q I h;calc PR PySem.F.slot_dict_getitem.lookup t<|jO (n Y s Z H _ I h) λu z=>j7 λx A=>jA λB C E=>jO (q Y z Z A _ B E) λN O(y,F,c,G,a,v,J,g,L)=>?_;subst J;obtain rfl:=C;exact(
  by
  rcases g with ⟨f,k,e,_,_⟩|⟨f,k,b,e,_,_,_⟩
  .let(!_,_,(P,_,j)):=WX c.hok e;exact j.typeIs
  .let(!_,_,(R,_,j)):=Xu c.hok e;calc j.typeIs,PN m c g G λS T M l=>(v,F,M,l,L))
def GI(b:X.A.units+1<cLine)(c:PE X i e)(f:PE X o j):PC X .NotIn i o (PU e j):=by
 intro Y s Z H Q I h;calc jO (c Y s Z H _ I h) λC l=>j7 λy m=>jA λn p q=>jO (f Y l Z m _ n q) λu E(x,r,t,v,a,w,z,g,A)=>?_;subst z;obtain rfl:=v;exact PP b t g p λF B=>(.bl<|not w.isSome,r,B,9,A)
def GJ(f:X.A.units+1<cLine)(j:PE X o l)(m:PE X i n)(p:PE X b q)(t:swapsWith b (! .Subscript o i c) e.line X.env=pure 7):
 PS X (.Assign [.Subscript o i c] b e) (kY l n q):=by
 intro Y s Z H D I h;calc wpAny_Assign_Subscript (jO (p Y s Z H _ I h) λr w=>j7 λv z=>jA λA B C=>jO (j Y w Z z _ A C) λu E=>j7 λx F=>jA λG J L=>jO (m Y E Z F _ G L) λS T(y,U,M,N,a,O,P,g,Q)=>?_) t;subst P;obtain rfl:=J;exact PQ f M g N B λs4 R=>(Z,O,R,Q)
def PX   (h:Heap)(a:sysModules<h.objs.size):yq P w H (h.push {cls:=.type "dict",data:=.dict #[]}) h.objs.size (.dK []):=
 (Uc _,beq_eq_false_iff_ne.mpr<|Ne.symm<|Zi a,[],.nil,Heap.DictOf.new h)
def rk:TE:=λ_ H Q=>∀p,H p=8->Q (.ref p) (upd H p<|.dK [])
def Xv(a more:List (jI×V)):List (jI×V):=more.foldl (λb c=>qV b c.1 c.2) a
def vt:∀{more:List (jI×V)}{i:List (jI×Value)}{c:List (jI×V)}{f:List (jI×Value)},KV more i->KV c f->KV (Xv c more) (merged f i):=by
 intro more i c f r
 induction r generalizing c f with
 |nil=>intro q;calc q
 |@cons p q n o h t j=>
  intro l;let e:KV (qV c p.1 p.2) (stored f q.1 q.2):=by
   let:=l.put p.1 h.2
   rwa[<-h.1]
  exact j e
theorem GK:∀more a,(Xv a more).length<=a.length+more.length
 |[],a=>by show a.length<=a.length+0;lia
 |p::r,a=>by
  let b:=GK r<|qV a p.1 p.2;let c:=D4 a p.1 p.2;show(Xv (qV a p.1 p.2) r).length<=_
  grind
structure M1(X:Cx)(o:Expr)(m:Str)(apos:Pos)(e:Expr)(cpos:Pos):4 where
 base:attributeBase o m X.env (eval o X.env)=eval o X.env
 few:((backTo cpos<|starEach [e] X.env).all (λx=>not<|x.1)&&(backToKw cpos<|keywordEach [] X.env).all (λx=>x.1.isSome)
  &&decide (([e]:List Expr).length+([]:List Keyword).length+(if([]:List Keyword).isEmpty then 0 else 1)<30))=6
 line:(apos.endLine==cpos.line)=6
 trees:backTo cpos (starEach [e] X.env)=[%[7|eval e X.env]]
structure M2(X:Cx)(o:Expr)(m:Str)(apos:Pos)(e f:Expr)(cpos:Pos):4 where
 base:attributeBase o m X.env (eval o X.env)=eval o X.env
 few:((backTo cpos<|starEach [e,f] X.env).all (λx=>not<|x.1)&&(backToKw cpos<|keywordEach [] X.env).all (λx=>x.1.isSome)
  &&decide (([e,f]:List Expr).length+([]:List Keyword).length+(if([]:List Keyword).isEmpty then 0 else 1)<30))=6
 line:(apos.endLine==cpos.line)=6
 trees:backTo cpos (starEach [e,f] X.env)=[%[7|eval e X.env],%[7|eval f X.env]]
def IsD(H:Hp)(a:Addr):4:=(∃b,Rd H a (.dK b))\/∃b,Rd H a (.dT b)
def GL  {Z:St}   (I:Inv X Y Z H s)(d:IsD H a):
 s.TypeIs (.ref a) "dict"/\(∀b,Value.ref a=.ref b->∃c,↥s b=!c/\c.dict=8)/\(a==sysModules)=7:=by
 rcases d with ⟨g,e⟩|⟨g,e⟩
 .let(_,h,l,_,f):=WX I.hok e;calc(f.typeIs,λb q=>?_,h);cases q;let(c _ _,i,j,_):=f;exact(c,i,j.2.1)
 .let(_,h,m,_,f):=Xu I.hok e;calc(f.typeIs,λb q=>?_,h);cases q;let(c _ _,i,j,_):=f;exact(c,i,j.2.1)
section
variable   {Z: St}
def PY (r:A.units+1<cLine)(I:Inv X Y Z H s)(g:xS H a y o)(n:jv y u)(h:∀p q,Inv X Y Z H q->jv (o.getD .non) p->Q p q):
 wpAny (model X.prog X.w) A (call (.builtin "dict.get") [.ref a,u]) Q E s:=by
 rcases g with ⟨i,k,e,j,l⟩|⟨i,k,b,e,j,t,l⟩
 .subst j;let(!z,m,(w,c,f)):=WX I.hok e;calc call_meetsIn PySem.F.slot_dict_get f.typeIs PySem.F.entry_dict_get (PySem.F.args_dict_get_2 _ _) (meets_dict_get (Qk X.prog X.w) a (Xt n) m) (_,f.mapOf,h _ _ (I.tok _) ?_);rw[l];exact(c.val k).getD 9
 .subst j;cases show u=Value.ref b from n;let(!z,m,(v,c,f)):=Xu I.hok e;calc call_meetsIn PySem.F.slot_dict_get f.typeIs PySem.F.entry_dict_get (PySem.F.args_dict_get_2 _ _) (meetsH_dict_get (tupleKind<|Qk X.prog X.w) a b m) (tupleKind_room_in1 r,k,v,XT I.hok t,f,h _ _ (I.tok _) ?_);rw[l];exact(c.val k).getD 9
def PZ (v:A.units+1<cLine)(I:Inv X Y Z H s)(g:xS H a y o)(n:jv y u)(p:jv d r)(h:∀q t,Inv X Y Z H t->jv (o.getD d) q->Q q t):
 wpAny (model X.prog X.w) A (call (.builtin "dict.get") [.ref a,u,r]) Q E s:=by
 rcases g with ⟨i,k,e,j,l⟩|⟨i,k,b,e,j,w,l⟩
 .subst j;let(!z,m,(B,c,f)):=WX I.hok e;calc call_meetsIn PySem.F.slot_dict_get f.typeIs PySem.F.entry_dict_get (PySem.F.args_dict_get_3 _ _ _) (meets_dict_get_default (Qk X.prog X.w) a (Xt n) m r) (_,f.mapOf,h _ _ (I.tok _) ?_);rw[l];exact(c.val k).getD p
 .subst j;cases n;let(!z,m,(x,c,f)):=Xu I.hok e;calc call_meetsIn PySem.F.slot_dict_get f.typeIs PySem.F.entry_dict_get (PySem.F.args_dict_get_3 _ _ _) (meetsH_dict_get_default (tupleKind<|Qk X.prog X.w) a b m r) (tupleKind_room_in1 v,k,x,XT I.hok w,f,h _ _ (I.tok _) ?_);rw[l];exact(c.val k).getD p
end
def Ra(e f:TE):TE:=λZ H Q=>e Z H λx b=>∃a,x=.ref a/\IsD b a/\f Z b λy c=>∃o,xS c a y o/\Q (o.getD .non) c
def Rb(e f g:TE):TE:=λZ H Q=>e Z H λx b=>∃a,x=.ref a/\IsD b a/\f Z b λy h=>g Z h λz c=>∃o,xS c a y o/\Q (o.getD z) c
def Rc(j:X.A.units+1<cLine)(l:PE X o n)(p:PE X e q)(m:M1 X o "get" b e c):PE X (.Call (.Attribute o "get" b) [e] [] c) (Ra n q):=by
 intro Y s Z H Q I h;calc wpAny_Call_method m.base m.few m.line PySem.F.plainAttrs_dict PySem.F.slot_dict_get PySem.F.type_dict_get<|jO (l Y s Z H _ I h) λu r(x,t,i,v,a,w,d,z)=>?_;subst w;obtain rfl:u=Value.ref a:=v;let(!A,B,_):=GL i d;calc(A,B,?_);rw[m.trees];calc Calls.callWith_builtin 9<|Calls.evalArgs_plain<|Calls.spliced_cons<|jO (p Y r Z t _ i z) λL M(y,C,E,F,N,g,G)=>Calls.spliced_nil ?_;exact PY j E g F λO P J f=>(_,C,J,f,G)
def Re(l:X.A.units+1<cLine)(n:PE X o p)(q:PE X e r)(t:PE X f v)(m:M2 X o "get" b e f c):PE X (.Call (.Attribute o "get" b) [e,f] [] c) (Rb p r v):=by
 intro Y s Z H Q I h;calc wpAny_Call_method m.base m.few m.line PySem.F.plainAttrs_dict PySem.F.slot_dict_get PySem.F.type_dict_get<|jO (n Y s Z H _ I h) λu w(x,A,j,B,a,C,d,E)=>?_;subst C;obtain rfl:=B;let(!F,G,_):=GL j d;calc(F,G,?_);rw[m.trees];exact Calls.callWith_builtin 9<|Calls.evalArgs_plain<|Calls.spliced_cons<|jO (q Y w Z A _ j E) λiv J=>j7 λy L=>jA λM N O=>
  Calls.spliced_cons<|jO (t Y J Z L _ M O) λfv s3(z,P,R,S,ov,g,T)=>Calls.spliced_nil<|PZ l R g N S λw' s4 U i=>(_,P,U,i,T)
end L2
namespace Att
open PySem PySem.W PySem.Calls PyProof.Rows
theorem Rf  :∀c e,WellAll P h e (c.map WData.int)->IntsAre e c:=by
 intro c
 induction c with
 |nil=>
  intro e w;cases w;calc .nil
 |cons n c f=>
  intro e w;cases w with
  |cons a b=>
   cases a;exact .cons _ _<|f _ b
def Rg{l:OpenLaw} (o:l.most=!n)
 (b:l.row.toRowW.claim.pre args=6)(f:WellAll P h e args):
 ∃a i c,e=[Value.ref a]/\args=[WData.list (c.map WData.int)]/\h.get? a=!{cls:=.type "list",data:=.seq i.toArray}/\IntsAre i c/\c.length<=n:=by
 let(d,r,rfl,p,q):=hasAllW_cons (pre_splitW b).1;obtain rfl:=hasAllW_nil q;let(v,rfl,s):=hasW_list p;let(c,rfl):=items_int s;let j:c.length<=n:=by
  let g:(WTm.not<|.lt (.lit<|.int (n:3))<|.len<|.arg 0).holds [] {args:=[.list (c.map .int)]}=6:=by
   let g:=(holds_andW<|(pre_splitW b).2).1
   rwa[o]at g
  let w:=condW_of g 9
  ext
 cases f with
 |cons t u=>
  cases u;cases t with
  |list x m=>grind[Rf]
def attach_call{l:OpenLaw}
 (J:l.most=!n)(x:d.params.defaults=[])
 (call:∀w s₀ s₁ p y h o z t b a g u,
  Ground q c [] L w s₀ p y s₁.heap->M w s₁.heap->
  ↥s₁ h=!o->o.data=.func (docDef d.name d.params d.body d.scope z t b)->s₁.heap.CodeRec t d.name->p d.name=! .ref h->
  ↥s₁ a=!{cls:=.type "list",data:=.seq g.toArray}->IntsAre g u->u.length<=n->s₁.gens=#[]->
  codeAny (model l.prog w) callerA (.call (.ref h) ([.ref a],[])) (λr v=>r=.ok (.ret<|.bool 6)/\OldK s₁.heap v.heap/\v.os=s₁.os/\AllBare v.gens) s₁):
 WalkO q c L M l.row.toRowW d [] λf g=>PySem.call f g:=by
 intro w s₀ s₁ p y G Yy h o z t b Z kV N O A E B P F H as i I Q C R;obtain rfl:=Dflts.none E x;obtain rfl:=Dflts.noKw E;let(a,g,u,rfl,rfl,j,e,m):=Rg J i C;calc enter_call<|codeAny_mono (call w s₀ s₁ p y h o z t b a g u G Yy N (fd_plain O) A B j e m P) λr v S=>?_;let(rfl,T,U,X):=S;exact(.inl (.bool 6,.bool 6,[],9,λ_=>9,.bool 6,postW_of
  9
  (w_eq_bool (w_res 9) w_lit) 9,λ_=>(List.Pairwise.nil,λ_ Y=>nomatch Y)),T,U,X)
end Att
namespace L2
def Rh:∀{a:Ye}{b:Yf},IntsAre a b->j5 (b.map V.int) a:=λh=>by
 induction h with
 |nil=>calc .nil
 |cons n t _ c=>exact .cons (t,9) c
def uX(H:Hp):4:=∀b,H b=8\/∃o a,H b=!(.frz o<|.lst a)
def Ri  {K:f'}
 (U:K.In s₁.heap)(t:s₁.heap.Ns mainGlobals I)(f:s₁.heap.Ns builtinsNs X)(L:∀x:Str,x ≠"__name__"->X x=bootBuiltins x)(y:s₁.heap.NoLimit)(hg:s₁.gens=#[])
 (M:↥s₁ a=!{cls:=.type "list",data:=.seq A.toArray})(Y:IntsAre A J)(hl:J.length<=sizeLine)(hr:Room k callerA)
 (F:∀g:Heap,K.In g->g.Ns mainGlobals I->FnOk P w K I g CX k Z fd [x] sp)(p:∀s u,BindsTo s fd ([u],[]) [%[x|u]])
 (N:∀H:Hp,uX H->xx K H a (J.map V.int)->sp [.ref a] H (λv _=>v=.bl 6) λ_ _ _=>False)
 (O:∀H e i,CX [] H s₁ (λ_ _ _=>False) e i->False):
 codeAny (model P w) callerA (.call (.ref Z) ([.ref a],[])) (λr i=>r=.ok (.ret<|.bool 6)/\OldK s₁.heap i.heap/\i.os=s₁.os/\AllBare i.gens) s₁:=by
 let rv:=Rh Y;let B:=Y.length;let l:∀H:Hp,uX H->xx K H a (J.map V.int)->xr P w H s₁.heap->(∀b,H b≠8->b=a)->(H a≠8->K.lookup a=8)->
  codeAny (model P w) callerA (.call (.ref Z) ([.ref a],[])) (λr i=>r=.ok (.ret<|.bool 6)/\OldK s₁.heap i.heap/\i.os=s₁.os/\AllBare i.gens) s₁:=by
  intro H hO hS C hA hK;let c:∀{b:Addr}{o:Obj},↥s₁ b=!o->H b=8->(ww s₁.heap H).get? b=!o:=λe n=>W.hideAll_get _ e λQ=>by
   let q:=(Jf.mp Q).2
   ext
  let R:∀{b:Addr}{o:Obj}{S:Array DictEntry}{T:5},↥s₁ b=!o->o.data=.dict S T->H b=8:=by grind
  let j:∀{b:Addr}{m:Yd},s₁.heap.Ns b m->(ww s₁.heap H).Ns b m:=λ{b m}(o,S,T,e,d,r)=>je o S T (c e<|R e d,d,r);let E:K.In (ww s₁.heap H):=λb o e=>c (U b o e)<|by
   grind
  let hM:Mod K I (ww s₁.heap H):=(E,j t,(X,j f,L),qS y λmc=>jB λh1 h2=>(mc,j h1,h2));let e0:Env0 P w K I (ww s₁.heap H) callerA [] s₁ H:=(9,hM,λb o e=>by
   let e':=W.of_hideAll (trk s₁.heap H) e;refine(e',?_)
   induction q:H b with
   |none=>rfl
   |some x=>
    let Q:b∈trk s₁.heap H:=Jf.mpr (Je.mpr<|Zk e',by simp[q]);let z:(ww s₁.heap H).get? b=8:=W.hideAll_none (trk s₁.heap H) Q
    simp_all,Yu<|W.hideAll_size _ _,trivial,λb f=>Zn (show b∈([]:Yj)from f) (),C,.of_eq hg)
  refine codeAny_mono ((F _ E<|j t).run callerA [] s₁ H ([.ref a],[]) [.ref a] [.ref a] _ _ hr e0 (p s₁<|.ref a) (.cons 9 .nil)<|N H hO hS) λr i h=>?_
  induction r with
  |error e=>calc(O H e i h).elim
  |ok fl=>
   induction fl with
   |next=>calc False.elim h
   |brk=>calc False.elim h
   |cont=>calc False.elim h
   |ret u=>
    let(v H',os,bare,un,G,r',q):=h;let q':v=.bl 6:=q;subst q';obtain rfl:=r';refine(9,OldK.of_keep λb o e=>?_,os,bare)
    induction q:H b with
    |none=>calc un.keep b o e q (λz=>Zn (show b∈([]:Yj)from z) ()) ()
    |some u=>
     rcases hO b with z|⟨ob,xs,z⟩
     .rw[q]at z;cases z
     .let(e1,_):=C b _ z;let(e2,_):=G b _ (un.frzs b ob _ z);rw[e]at e1;cases e1;exact e2
 induction hk:K.lookup a with
 |some o=>
  let e:=U a o hk;rw[M]at e;cases e;calc l (λ_=>8) (λ_=>.inl 9) (.inr<|je _ A.toArray _ (hk,9,9,9,by rwa[Zm,B],by simpa using rv)) (λb u z=>by let z':=z;cases z') () λz=>Zn 9 z
 |none=>
  refine l (λb=>if b=a then !(.frz {cls:=.type "list",data:=.seq A.toArray}<|.lst<|J.map V.int)else 8) (λb=>?_) (.inl<|.inr ({cls:=.type "list",data:=.seq A.toArray},Zd 9)) (λb u z=>?_) (λb z=>?_) λ_=>hk
  .by_cases f:b=a
   .exact by grind
   .exact .inl<|Ze f
  .by_cases f:b=a
   .cases(Zd f).symm.trans z;subst f;exact(M,by rwa[Zql],A,_,rv,M)
   .cases(Ze f).symm.trans z
  .by_cases f:b=a
   .exact f
   .exact Zn (Ze f) z
def walk_of{l:W.OpenLaw}      {K:Params->f'}{CX:World->kc}{sp:World->Sp}
 (L:l.most=!n)(r:n<=sizeLine)(t:d.params.defaults=[])(M:Room k callerA)
 (N:∀w h,O w h->(K w.params).In h)
 (F:∀w i m h,(K w.params).In h->h.Ns mainGlobals i->i d.name=! .ref m->
  ∃y:FuncData,(∀s u,BindsTo s y ([u],[]) [%[x|u]])/\
   ∀b:Heap,(K w.params).In b->b.Ns mainGlobals i->FnOk l.prog w (K w.params) i b (CX w) k m y [x] (sp w))
 (z:∀w H a(p:Yf),p.length<=n->uX H->xx (K w.params) H a (p.map V.int)->sp w [.ref a] H (λv _=>v=.bl 6) λ_ _ _=>False)
 (A:∀w H s e B,CX w [] H s (λ_ _ _=>False) e B->False):
 W.WalkO q C Y O l.row.toRowW d [] λf I=>PySem.call f I:=by
 calc Att.attach_call L t λw s₀ s₁ i Z m o pm cd P a I p G Yy ho hd Q E j g c R=>?_;let J:=N w _ Yy;let(-y,S,T):=F w i m _ J G.T.g E;exact Ri J G.T.g G.T.b G.T.builtins G.T.nolimit R j g (Zh c r) M T S (λH U X=>z w H a p c U X) λH e B=>A w H s₁ e B
def Bl(s:Stmt)(j:5):Stmt:=match s with
 |.ClassDef _ _ _ a _ _ _ _ _ _ _=>a.getD j (.Pass (0,0,0,0))
 |_=>.Pass (0,0,0,0)
def Xw(s:Stmt):Arguments:=match s with
 |.FunctionDef _ a _ _ _ _ _ _ _ _=>a
 |_=>{posonlyargs:=[],args:=[],vararg:=8,kwonlyargs:=[],kw_defaults:=[],kwarg:=8,defaults:=[]}
def Ko(s:Stmt):List Stmt:=match s with
 |.FunctionDef _ _ b _ _ _ _ _ _ _=>b
 |_=>[]
def JY(s:Stmt):Scope:=match s with
 |.FunctionDef _ _ _ _ _ _ a _ _ _=>a
 |_=>{kind:=.function,names:=[],isGenerator:=7,isCoroutine:=7}
abbrev zj:kc:=λ_ _ _ _ _ _=>False
abbrev E0:XK:=λ_ _ _=>False
def GM :ZJ zj X E0:=λ_ _ _ _ _ _ _ h=>h.elim
structure Fun(K:f')(x qual:Str)(st:Stmt)(f:Addr)(fd:FuncData):4 where
 ex:∃(oc:Value)(od:Option Addr)(kV doc pm:Value)(an:Option Addr)(cdv ct:Value)(osl:Array (Option Value)),
  fd=W.fnOf x qual (Xw st) (Ko st) (JY st) .none kV doc pm an cdv ct/\K.lookup f=!(oc,od,.func fd,osl)/\W.codeIn K cdv qual=6
 kp:W.keepIn K (.ref f)=6
section
variable   {K:f'}
def Fun.ok {n:Stmt}     (F:Fun K x i n f y)(S:FnScope N u (JY n))(len:∀j H Q E,v j H Q E->j.length=u.length)
 (l:∀e A c s H j Q E,Room k (A.deeper<|envOfC i (JY n) s⁻¹ f e)->v j H Q E->
  ∃t,xq (qu zj P w K z o N i (JY n) f e A c s H E).nox (Ko n) t/\t {nx:=λ_ B=>Q .non B,rt:=Q} (start N j) H):FnOk P w K z o zj (k+1) f y u v:=by
 let(O,R,kV,G,T,U,e,X,I,rfl,J,p):=F.ex;calc G2 J p S len λA c s H j Q E L r=>?_;let(-t,h,q):=l e A c s H j Q E L r;exact(t,h.nox,q)
def Fun.binds {j:Stmt}   (F:Fun K x i j f r)
 (h:∀kV c l n e o p,p.length=q.length->bindArgs (W.fnOf x i (Xw j) (Ko j) (JY j) .none kV c l n e o) (p,[])=pure (q.zip p)):vy K r q []:=by
 let(v,y,kV,c,l,n,e,o,s,rfl,z,u):=F.ex;exact .all<|h kV c l n e o
def fun_mk {e:Stmt}    {kV g h b i:Value}(l:K.lookup f=!(n,o,.func<|W.fnOf x a (Xw e) (Ko e) (JY e) .none kV g h m b i,j))
 (c:W.codeIn K b a=6)(k:W.keepIn K (.ref f)=6):Fun K x a e f (W.fnOf x a (Xw e) (Ko e) (JY e) .none kV g h m b i):=(vc n o kV g h m b (i,j,9,l,c),k)
end
def JR  (a:Room k A):A.units+1<cLine:=US (VL (by decide:1<=64) _) a.units
def GN (h:n<=1000):n<sizeLine:=US h<|by decide
section
variable {X:Cx}
def pv(i){x:Str}{f:Pos}(o:X.N[i]?=!x:=by rfl)(p:nF X.env.scope x:=by first|calc Or.inl 9|calc Or.inr<|Or.inl 9|calc Or.inr<|Or.inr 9)(g:(x==("__debug__":Str))=7:=by decide)
 (j:(
  x==("__classdict__":Str))=7:=by decide):PE X (.Name x f) (yL i):=by
  intro Y s Z H Q I h;let(-v,e,h):=h;let(-m,q,t):=I.loc;let(-u,r,l):=t i x v o e p;let b:EP X Y Z Q u s:=(v,H,I,r,h);rcases l with ⟨hk,w⟩|⟨hk,c,n,a⟩
  .exact wpAny_Name (wpAny_loadName_local I.ok.kind hk q w b) g
  .rcases hk with hk|hk
   .exact wpAny_Name (wpAny_loadName_cell I.ok.kind hk n a b) g
   .exact wpAny_Name (wpAny_loadName_free I.ok.kind hk n a b j) g
end
def jp(H a:Hp):4:=∀b o,H b=!o->a b=!o
theorem jp.refl(H):jp H H:=λ_ _ h=>h
theorem jp.trans (a:jp H e)(b:jp e f):jp H f:=λc o h=>b c o<|a c o h
def jp.free (e:jp H c) (h:c l=Option.none):H l=Option.none:=by
 induction q:H l with
 |none=>rfl
 |some o=>
  rw[e l o q]at h;cases h
def jp.seq{K:f'}   (e:jp H c)(h:xx K H a f):xx K c a f:=by
 rcases h with(h|⟨o,h⟩)|h
 .exact .inl<|.inl<|e _ _ h
 .exact .inl<|.inr (o,e _ _ h)
 .exact .inr h
def Rj:qf X (.builtin "len") λc H Q=>∃a b,c=[V.ref a]/\H a=! .dK b/\Q (.int b.length) H:=by
 intro Y s Z H c i Q I r h;let(a b,rfl,e,q):=h;let(-u,rfl,f):=QP r;cases f;exact bD I (.inl e) λt j g=>(.int b.length,H,g,(t,9),q)
end L2
def J6{P:4}{α:Type}{z:α}(h:8=!z):P:=by cases h
def JG{P:4}(h:7=6):P:=by cases h
namespace L2
theorem D6(g):∀(f:List (Str×NameKind))b,(∀y∈f,y.2=.free->∃c,g.cells.lookup y.1=!c)->
 ∃j,(forIn f b λ(x:Str×NameKind)(r:List (Str×Addr))=>(match x with
  |%[i|l]=>if(l==NameKind.free)=6 then do let a<-cellOf g i;pure (ForInStep.yield<|%[i|a]::r)else pure (ForInStep.yield r):Sem (ForInStep<|List<|Str×Addr)))=(pure j:Sem (List<|Str×Addr))/\
  (∀x c,j.lookup x=!c->g.cells.lookup x=!c\/b.lookup x=!c)/\(∀x c,b.lookup x=!c->∃m,j.lookup x=!m)/\∀y∈f,y.2=.free->∃c,j.lookup y.1=!c
 |[],b,_=>(b,9,λ_ _ h=>.inr h,λx c h=>(c,h),λ_ h=>nomatch h)
 |%[n|k]::r,b,h=>by
  rw[List.forIn_cons]
  induction hk:k==NameKind.free with
  |true=>
   let o:k=.free:=by ext
   let(-c,p):=h %[n|k] Zqs o;let(-j,e,q,s,t):=D6 g r (%[n|c]::b) ();refine(j,?_,λx m u=>?_,λx m u=>?_,λy v w=>?_)
   .simp only[hk,cellOf,p];exact e
   .grind
   .grind
   grind
  |false=>
   have(j,e,q,s,t):=D6 g r b ()
   grind
def Rk(b)(a)(h:∀y∈a.names,y.2=.free->∃c,b.cells.lookup y.1=!c):
 ∃f,closureFor a b=pure f/\(∀x c,f.lookup x=!c->b.cells.lookup x=!c)/\∀y∈a.names,y.2=.free->∃c,f.lookup y.1=!c:=by
 let(-f,e,g,_,i):=D6 b a.names [] h;refine(f,?_,λx c j=>(g x c j).elim id<|λq=>by simp at q,i)
 first
 |(rfl)
 |exact Zt (·>>=λl=>pure l) e
theorem Bm{env:Env}{x:Str}:∀{names:List (Str×NameKind)},
 (names.lookup x=!.free->(names.map λ%[n|k]=>if k==NameKind.free&&env.scope.kind==.function&&env.kindOf n==!.cell then%[n|NameKind.cell]else%[n|k]).lookup x=!.cell\/(names.map λ%[n|k]=>if k==NameKind.free&&env.scope.kind==.function&&env.kindOf n==!.cell then%[n|NameKind.cell]else%[n|k]).lookup x=!.free)/\
 ∀a,(names.map λ%[n|k]=>if k==NameKind.free&&env.scope.kind==.function&&env.kindOf n==!.cell then%[n|NameKind.cell]else%[n|k]).lookup x=!a->a=.cell\/a=.free->names.lookup x=!.free\/names.lookup x=!.cell
 |[]=>by simp
 |%[n|k]::r=>by
  let(b,c):=@Bm env x r
  grind
theorem ZM:∀a n b,cellsFrom n a b=cellsFrom n a []++b
 |[],_,_=>9
 |%[c|e]::r,n,b=>by
  unfold cellsFrom
  split
  .rw[ZM r (n+1) (%[c|n]::b),ZM r (n+1) [%[c|n]],Ug];rfl
  .exact ZM r n b
theorem D7  :∀a n b,%[x|c]∈cellsFrom n a b->%[x|c]∈b\/%[x|NameKind.cell]∈a
 |[],_,_,h=>.inl h
 |%[e|f]::r,n,b,h=>by
  unfold cellsFrom at h
  split at h
  .rcases D7 r (n+1) (%[e|n]::b) h with z|z
   .grind
   ext
  .rcases D7 r n b h with z|z
   .exact .inl z
   ext
noncomputable def GO:Option NameKind->Bool
 |some .cell=>6
 |_=>7
def Rl (h:GO o=6):o=!.cell:=by
 induction o with
 |none=>calc JG h
 |some k=>induction k<;>first|rfl|exact JG h
structure CellsAt(scope:Scope)(env:Env)(cl:List (Str×Addr))(C:Addr)(h1:Heap):4 where
 from_:∀x c,cl.lookup x=!c->env.cells.lookup x=!c/\scope.names.lookup x≠!.cell\/C<c/\h1.IsCell c 8
 free:∀x,scope.names.lookup x=!.free->∃c,cl.lookup x=!c/\env.cells.lookup x=!c
 own:∀x,scope.names.lookup x=!.cell->∃c,cl.lookup x=!c
 inj:∀x y c,cl.lookup x=!c->cl.lookup y=!c->x=y
def Rm   {i:Heap}{C:Addr}(f:∀x c,g.lookup x=!c->b.cells.lookup x=!c)(l:∀y∈a.names,y.2=.free->∃c,g.lookup y.1=!c)
 (inj:∀x y c,b.cells.lookup x=!c->b.cells.lookup y=!c->x=y)(low:∀x c,b.cells.lookup x=!c->c<=C)(j:i.objs.size=C+1)(m:∀y∈a.names,y.2=.cell->a.names.lookup y.1=!.cell):
 CellsAt a b (cellsFrom (C+1) a.names g) C (pushCells i a.names):=by
 let ok:=cellsFrom_ok a.names i (C+1) [] (λ_ _ n=>(nomatch n),List.Pairwise.nil)<|Yu j.symm;rw[j]at ok;let look:∀x c,(cellsFrom (C+1) a.names g).lookup x=!c->%[x|c]∈cellsFrom (C+1) a.names []\/g.lookup x=!c/\a.names.lookup x≠!.cell:=λx c e=>by
  rw[ZM,List.lookup_append]at e
  induction q:(cellsFrom (C+1) a.names []).lookup x with
  |some d=>
   rw[q]at e;let e:some d=!c:=e;obtain rfl:=Zqi e;calc .inl<|PySem.mem_of_lookup q
  |none=>
   rw[q]at e;calc .inr (e,λz=>?_);let:=W.cellsFrom_some a.names (C+1) []<|.inl z;rw[q]at this;exact JG this
 refine(λx c e=>?_,λx e=>?_,λx e=>?_,λx y c o p=>?_)
 .rcases look x c e with z|⟨z1,z2⟩
  .exact .inr ((ok.empty x c z).2,(ok.empty x c z).1)
  .exact .inl (f x c z1,z2)
 .let(c,h):=l %[x|.free] (PySem.mem_of_lookup e) 9;calc(c,?_,f x c h);rw[ZM,List.lookup_append]
  induction q:(cellsFrom (C+1) a.names []).lookup x with
  |some d=>
   rcases D7 _ _ _ (PySem.mem_of_lookup q)with z|z
   .cases z
   .let:=m %[x|.cell] z 9;rw[e]at this;cases this
  |none=>exact h
 .exact Jq.mp<|W.cellsFrom_some a.names (C+1) g<|.inl e
 .rcases look x c o with z|⟨z1,_⟩<;>rcases look y c p with w|⟨w1,_⟩
  .exact PySem.name_of_addr ok.apart z w
  .exact Zn (low y c<|f y c w1)<|Nat.not_le_of_lt (ok.empty x c z).2
  .exact Zn (low x c<|f x c z1)<|Nat.not_le_of_lt (ok.empty y c w).2
  .exact inj x y c (f x c z1)<|f y c w1
def Rn
 (f:Q (newEnv a s⁻¹ b (cellsFrom (s⁻¹+1) a.names g) c 8 .none (!e) builtinsNs) {s with heap:=pushCells (s.heap.push {cls:=.type "dict",data:=.dict #[]}) a.names}):
 wpAny M A (newFunctionEnv a b g [] c 8 .none<|!e) Q E s:=by
 calc Za<|wpAny_alloc<|Za<|wpAny_layCells _ () _ _ _ _ ?_;rw[Heap.size_push ..];exact Za<|Zb<|Zb f
def ZN(X:Cx)(C:Addr):Ya:=λx b=>∃m,b.heap.Ns C m/\∀c,Heap.SameBut C b.heap c->∀a:Env,a.locals=C->YE X (passOn "comprehension.variables-let-go" x a:Sem Value) (λ_ _=>False) X.xe {b with heap:=c}
def JL(X:Cx)(a:Scope)(N:Yi)(b:List (Str×Addr))(C:Addr)(s:Shared)(H:Hp)(ex:Yj):Cx where
 prog:=X.prog
 w:=X.w
 K:=X.K
 mg:=X.mg
 base:=X.base
 A:=X.A
 N:=N
 s₀:=s
 H₀:=H
 env:=compEnvC a b C X.env
 outer:=X.stack
 stack:=X.stack
 ex:=ex
 fn:=λx=>GO<|a.names.lookup x
 calm:=X.calm
 pn:=[]
 xe:=notedBy (model X.prog X.w) X.A (compEnvC a b C X.env) (ZN X C)
def Xx(X:Cx)(C:Addr)(s:Shared)(H:Hp)(a:Yj):4:=∃Y Z,Inv X Y Z H s/\(∀b∈a,xR X Y H b)/\s⁻¹<=C
def Wg(cap:List (Option 5))(Z:St):St:=cap.map λo=>o.bind λj=>(Z[j]?).join
structure CompOk(X:Cx)(scope:Scope)(N:Yi)(cap:List (Option 5)):4 where
 kind:scope.kind=.function
 loc:∀y∈scope.names,y.2=.local->scope.names.lookup y.1=!.local
 cell:∀y∈scope.names,y.2=.cell->scope.names.lookup y.1=!.cell
 free:∀y∈scope.names,y.2=.free->X.env.kindOf y.1=!.cell\/X.env.kindOf y.1=!.free
 len:cap.length=N.length
 cap:∀(i j:5)(x:Str),cap[i]?=! !j->N[i]?=!x->X.N[j]?=!x/\scope.names.lookup x=!.free
noncomputable def Ki(a:Scope)(b:Env)(c N:Yi)(cap:List (Option 5)):Bool:=
 decide (a.kind=.function)&&a.names.all (λy=>(not<|decide<|y.2=.local)||decide (a.names.lookup y.1=!.local))&&a.names.all (λy=>(not<|decide<|y.2=.cell)||decide (a.names.lookup y.1=!.cell))&&
 a.names.all (λy=>(not<|decide<|y.2=.free)||(decide (b.kindOf y.1=!.cell)||decide (b.kindOf y.1=!.free)))&&decide (cap.length=c.length)&&
 (c.zip cap).all λp=>match p.2 with|none=>6|some j=>decide (N[j]?=!p.1)&&decide (a.names.lookup p.1=!.free)
def CompOk.of   {cap:List (Option 5)}(h:Ki c X.env N X.N cap=6):CompOk X c N cap:=by
 unfold Ki at h;simp only[Ud,Uy,decide_eq_true_eq,U7,Bool.not_eq_true',decide_eq_false_iff_not]at h;let(((((l,n),o),p),r),s):=h;refine(l,λy e f=>?_,λy e f=>?_,λy e u=>?_,r,λi j x v B=>?_)
 .rcases n y e with z|z
  .exact Zn f z
  .exact z
 .rcases o y e with z|z
  .exact Zn f z
  .exact z
 .rcases p y e with z|z
  .exact Zn u z
  .exact z
 .let E:%[x|!j]∈N.zip cap:=by
   calc Ue (i:=i) ?_;rw[VM];exact(B,v)
  let q:=s %[x|!j] E;simpa using q
section
variable      {Z: St}    {C D:Addr}{fp:Yj}
def Ro   (ok:CompOk X a N cap)(I:Inv X Y Z H s)(E:∀b∈fp,xR X Y H b)(A:∀b∈fp,b<s⁻¹)
 (f:CellsAt a X.env F C G)
 (y:s⁻¹<=C)(n:∀b o,↥s b=!o->G.get? b=!o)(J:G.Ns C m):
 Inv (JL X a N F C s H fp) [] (Wg cap Z) H {s with heap:=G,toks:=tk}:=by
 let O:∀x,(JL X a N F C s H fp).env.kindOf x=!.cell\/(JL X a N F C s H fp).env.kindOf x=!.free->a.names.lookup x=!.free\/a.names.lookup x=!.cell:=λx h=>by
  rcases h with h|h
  .exact Bm (env:=X.env) (x:=x) (names:=a.names).2 _ h<|.inl 9
  .exact Bm (env:=X.env) (x:=x) (names:=a.names).2 _ h<|.inr 9
 refine((I.ok.mod,ok.kind,I.ok.glob,I.ok.blt,y,f.inj,λx h=>?_,λx c z e=>?_,I.ok.hd,I.ok.frames,.inl 9,λb t=>(?_,λx c e=>?_),I.bs,Zh I.ok.bsz I.sz,
  λb o e t=>?_,λb t z=>?_,I.stack,I.stkFree),9,I.bare,Un.kept n,(m,J,λi x v L g e3=>?_),λx c e=>?_,I.hok.fresh y,λx c e=>?_,λp P=>Zn P<|by show ¬p∈([]:Yb)++[];simp,I.hok.kept n,?_)
 .rcases O x h with q|q
  .let(-c,e,_):=f.free x q;exact(c,e)
  .exact f.own x q
 .rcases f.from_ x c e with ⟨_,q⟩|⟨q,_⟩
  .exact Zn (Rl z) q
  .exact Zh y<|Zz q
 .exact Zi<|Zg (A b t) y
 .rcases f.from_ x c e with ⟨q,_⟩|⟨q,_⟩
  .exact(E b t).2.2.2.2.1 x c q
  .exact UU<|Ul (Zg (A b t) y) q
 .rcases(E b t).2.2.2.1 with z|z
  .exact I.ok.noex b o e z
  .exact Zn (Zg (Zk e)<|Zh I.ok.bsz z)<|Zy _
 .rcases U0.mp (I.stkSub b z)with q|q
  .exact(E b t).2.1 q
  .exact(E b t).2.2.1 q
 .let L:N[i]?=!x:=L;let Q:∃j,cap[i]?=! !j/\Z[j]?=! !v:=by
   let g:(cap.map λo=>o.bind λj=>(Z[j]?).join)[i]?=! !v:=g;rw[Zv]at g
   induction q:cap[i]? with
   |none=>rw[q]at g;calc J6 g
   |some o=>
    rw[q]at g
    induction o with
    |none=>cases g
    |some j=>
     let g:some (Z[j]?).join=! !v:=g
     induction q2:Z[j]? with
     |none=>rw[q2]at g;cases g
     |some w=>rw[q2]at g;exact(j,9,by cases g;calc q2)
  let(-j,R,S):=Q;let(T,M):=ok.cap i j x R L;let(-m0,_,U):=I.loc;let fr:=ok.free %[x|.free] (PySem.mem_of_lookup M) 9;let(u,r,l):=U j x v T S (fr.elim (λz=>.inr<|.inl z) λz=>.inr<|.inr z);calc(u,r,.inr (Bm (x:=x).1 M,?_));rcases l with ⟨k,_⟩|⟨_,c,ec,z⟩
  .ext
  .let(-c',e',B):=f.free x M;rw[ec]at B;obtain rfl:=Zqi B;exact(c,e',z.keeps n)
 .rcases f.from_ x c e with ⟨q,_⟩|⟨_,q⟩
  .let(v,z):=I.cell x c q;exact(v,z.keeps n)
  .exact(8,q)
 .rcases f.from_ x c e with ⟨q,_⟩|⟨q,_⟩
  .exact I.freeC x c q
  .exact I.hok.fresh<|Zh y<|Zz q
 .show(cap.map _).length=N.length;rw[Zql];exact ok.len
def Rp{x:St}       (I:Inv X Y Z H s)(j:∀b∈fp,xR X Y H b)(y:s⁻¹<=C)(A:s⁻¹<=D)(l:D≠C)
 (J:Inv (JL X m N S C s H fp) [] x g p)(E:↥p D=!{cls:=.type "list",data:=.seq h.toArray k})(T:g D=8)(F:j5 r h)(G:r.length<=sizeLine)(i:Heap.SameBut C p.heap L)
 (q:Q (.ref D) (upd g D<|.lst r)):EP X Y Z Q (.ref D) {p with heap:=L}:=by
 let t:∀b o,↥s b=!o->b≠C:=λb o e=>Zi<|Zg (Zk e) y;let M:∀b o,↥s b=!o->b≠D:=λb o e=>Zi<|Zg (Zk e) A;let tD:∀b u,g b=!u->b≠D:=by grind
 let tC:∀b u,g b=!u->b≠C:=λb u e z=>by
  let:=J.free;rw[z,show g C=8 from this]at e;exact J6 e
 let B:=J.base;refine(.ref D,upd g D<|.lst r,I.call' J.os ?_ ?_ J.bare<|λb a=>((j b a).2.2.2.1,(j b a).2.1,(j b a).2.2.2.2.1,(j b a).2.2.2.2.2),9,q)
 .refine(λb o e n a f=>(i.2 b<|t b o e).trans<|B.keep b o e n a f,λb o e n a f=>?_,λb o e n f=>?_,λb o e f=>?_,λb w e=>?_,λb o u e=>?_,λb O e=>?_)
  .let(-P,z):=B.slot b o e n a f;exact(P,(i.2 b<|t b o e).trans z)
  .rw[JF (M b o e)];exact B.free b o e n f
  .let(R,z):=B.there b o e f;exact(R,(i.2 b<|t b o e).trans z)
  .let z:=B.tups b w e
   rwa[JF (tD b _ z)]
  .let z:=B.frzs b o u e
   rwa[JF (tD b _ z)]
  .let(more,z):=B.tbls b O e;exact(more,by rwa[JF (tD b _ z)])
 .intro b u e;by_cases a:b=D
  .subst a;rw[JK]at e;obtain rfl:=Zqi e;exact(G,h,k,F,(i.2 b l).trans E)
  .rw[JF a]at e;refine(J.hok b u e).stay (λc v U z=>(i.2 c ?_).trans z) (λc z=>by rwa[JF (tD c _ z)])<|λc w z=>by rwa[JF (tD c _ z)]
   grind
end
def bH(cap:List (Option 5))(g:TG)(j:TE)(Z:St)(Q:VK):It->Hp->4:=λJ l=>∃W:5->5->YB->St->Hp->4,(∃m,W 0 m [] (Wg cap Z) l)/\∀i m b c a,W i m b c a->b.length<sizeLine/\
 (
  (J.stop i a/\∀D,a D=8->Q (.ref D) (upd a D<|.lst b))\/
  J.go i a/\∀x e,J.yld i a x e->g x c e λf n=>j f n λy o=>∃h,h<m/\W (i+1) h (b++[y]) f o)
def XU(cap:List (Option 5))(wi:TI)(g:TG)(a:TE):TE:=λZ H Q=>wi Z H<|bH cap g a Z Q
def Rq(cap:List (Option 5))(g:TG)(n:TT)(o:TE)(Z:St)(Q:VK):It->Hp->4:=λJ p=>∃W:5->5->YB->St->Hp->4,(∃m,W 0 m [] (Wg cap Z) p)/\∀i m c h a,W i m c h a->c.length<sizeLine/\
 (
  (J.stop i a/\∀D,a D=8->Q (.ref D) (upd a D<|.lst c))\/
  J.go i a/\∀x j,J.yld i a x j->g x h j λf q=>n f q λb l=>if b=6 then o f l λy r=>∃e,e<m/\W (i+1) e (c++[y]) f r else ∃e,e<m/\W (i+1) e c f l)
def Bn(cap:List (Option 5))(wi:TI)(g:TG)(a:TT)(b:TE):TE:=λZ H Q=>wi Z H<|Rq cap g a b Z Q
section
variable {X:Cx}{tg iter elt c:Expr}   {wi:TI}
def ZO(X:Cx)(Y:Yb)(Z:St)(Q:VK)(b:Option (Value->Sem Unit))(R:Ya):4:=
 ∀(C D:Addr)(m:Yd)(a:Shared)(r:Flow),a.heap.Ns C m->¬C=X.env.locals->C∉X.fs->X.s₀.heap.objs.size<=C->(∀x c,X.env.cells.lookup x=!c->c≠C)->(∀p∈X.pn++Y,p.1≠C)->
  (∀e,Heap.SameBut C a.heap e->EP X Y Z (λv f=>f C=8/\Q v f) (.ref D) {a with heap:=e})->compPost (model X.prog X.w) X.A X.xe b R (.ref D) C (.ok r) a
def GP   :ZO X Y Z Q 8 (EP X Y Z Q):=λC D m i r b _ _ _ _ _ k=>(m,b,λe a=>by
 let(v f,g,h,_,q):=k e a;calc(v,f,g,h,q))
def bQ(X:Cx)(tg elt:Expr)(g f:Value)(a:Env)(R:Result->Yz)(I:5->Yz)(b:(Bool->Yz)->Yz)(n:5)(s:Shared):4:=
 let E:Ya:=notedBy (model X.prog X.w) X.A a λe j=>R (.error e) j
 YE X (pyNext g) (λr h=>match r with
  |none=>R (.ok .next) h
  |some v=>YE X (letOwnedTupleGo tg g v) (λ_ l=>YE X (assign tg a v) (λ_ o=>b (λok i=>if ok=6 then YE X (eval elt a) (λx p=>YE X (call (.builtin "list.append") [f,x]) (λ_ q=>∃m,m<n/\I m q) E p) E i else ∃m,m<n/\I m i) o) E l) E h) E s
def GQ (N){test:Env->(Result->Yz)->(Bool->Yz)->Yz}
 (lp:∀{it acc:Value}{env:Env}{R:Result->Yz}{s:Shared}I,(∀n s,I n s->bQ X tg elt it acc env R I (test env R) n s)->∀n,I n s->codeAny (model X.prog X.w) X.A (.compLoop (.ListComp elt [(tg,iter,ifs,0)] a pos) 0 it acc env) R s)
 (ht:∀w C s H ex{Y:Yb}{s7:Shared}{Z7:St}{H7:Hp}{R:Result->Yz}{q:Bool->Hp->4}{Q:Bool->Yz},Xx X C s H ex->(∀e E,ZN X C e E->R (.error e) E)->Inv (JL X a N w C s H ex) Y Z7 H7 s7->tt Z7 H7 q->(∀b s8 H8,Inv (JL X a N w C s H ex) Y Z7 H8 s8->q b H8->Q b s8)->test (compEnvC a w C X.env) R Q s7)
 (cap)(hc:X.calm=6)(okB:Ki a X.env N X.N cap=6)(hi:PI X tg iter wi)(hg:∀w C s H ex,PG (JL X a N w C s H ex) tg g)(he:∀w C s H ex,Xx X C s H ex->PE (JL X a N w C s H ex) elt te)
 (hs:∀x,foldedSetIterable iter X.env x=pure x)     {Z:St}  (I:Inv X Y Z H s)(h:Bn cap wi g tt te Z H Q)(fin:ZO X Y Z Q use R):
 YE X (comprehension (.ListComp elt [(tg,iter,ifs,0)] a pos) a X.env fpos (newList []) 7 (eval iter X.env) use) R X.xe s:=by
 let ok:=CompOk.of okB;let(-cl0,hcl,hcl1,hcl2):=Rk X.env a λy hy hf=>I.ok.has y.1<|ok.free y hy hf;calc wpAny_comprehension_free (use:=use) 9 hs hcl ok.kind ok.loc<|jO (hi Y s Z H _ I h) λxv s1 h1=>jO h1 λitv j h2=>?_;let(it t tn J L,e,F,T,st2,f2,(W,(m0,w0),turn)):=h2;subst e;let P:∀b∈t,b<j⁻¹:=λb A=>qS (T.obj _ _ st2 b A) λ_=>jB λe _=>Zk e;calc wpAny_newObj_type<|Rn ?_;dsimp only;generalize hP:j.heap.push {cls:=.type "list",dict:=8,data:=.seq ([]:Ye).toArray}=P2;let hC:P2.objs.size=j⁻¹+1:=by rw[<-hP,Heap.size_push]
 let S:j⁻¹≠P2.objs.size:=by rw[hC];exact by lia
 let l:j⁻¹<=P2.objs.size:=by rw[hC];exact Ve _
 let below:∀b,b<j⁻¹->b≠P2.objs.size/\b≠j⁻¹:=()
 let U:CellsAt a X.env (cellsFrom (P2.objs.size+1) a.names cl0) P2.objs.size (pushCells (P2.push {cls:=.type "dict",data:=.dict #[]}) a.names):=
  Rm hcl1 hcl2 F.ok.inj (λx c e=>Zh (Zz<|let(_,_,ho,_):=F.cell x c e;Zk ho) l) (Heap.size_push ..) ok.cell
 let hns1:(pushCells (P2.push {cls:=.type "dict",data:=.dict #[]}) a.names).Ns P2.objs.size λ_=>8:=(Heap.Ns.new P2<|.type "dict").keeps<|pushCells_keeps _ _;generalize cellsFrom (P2.objs.size+1) a.names cl0=w at U ⊢;let old:∀b o,↥j b=!o->(pushCells (P2.push {cls:=.type "dict",data:=.dict #[]}) a.names).get? b=!o:=λb o e=>pushCells_keeps _ _ b o<|Zq _<|hP ▸ Zq _ e;let hacc:(pushCells (P2.push {cls:=.type "dict",data:=.dict #[]}) a.names).get? j⁻¹=!{cls:=.type "list",data:=.seq ([]:Ye).toArray 0}:=pushCells_keeps _ _ _ _<|Zq _<|hP ▸ Zr _ 9;generalize pushCells (P2.push {cls:=.type "dict",data:=.dict #[]}) a.names=g1 at U hns1 old hacc ⊢;let M:∀{H':Hp}{pl:Yb},(∀b∈t,H' b=8)->(∀p∈pl,p.1∉t)->∀b∈t,xR (JL X a N w P2.objs.size j L t) pl H' b:=λ{H' pl}hn G b A=>by
  refine(hn b A,(below b<|P b A).1,λz=>?_,.inl A,λx c e=>?_,λp hq z=>?_)
  .rcases U0.mp (F.stkSub b z)with q|q
   .exact(f2 b A).2.1 q
   .exact(f2 b A).2.2.1 q
  .rcases U.from_ x c e with ⟨q,_⟩|⟨q,_⟩
   .exact(f2 b A).2.2.2.2.1 x c q
   .exact UU<|Ul (Zg (P b A) l) q
  .let hq:p∈([]:Yb)++pl:=hq
   grind[List.nil_append]
 let nD:j⁻¹∉t:=λz=>Zn (P _ z)<|Zy _;let loop:∀s3:Shared,s3={j with heap:=g1}->
  codeAny (model X.prog X.w) X.A (.compLoop (.ListComp elt [(tg,iter,ifs,0)] a pos) 0 (.ref it) (.ref j⁻¹)<|compEnvC a w P2.objs.size X.env)
   (compPost (model X.prog X.w) X.A X.xe use R (.ref j⁻¹) P2.objs.size) s3:=by
  rintro s3 rfl;let I0:=Ro (tk:=j.toks) ok F f2 P U l old hns1;refine lp (λn E=>∃i ys B k Z' H',Inv (JL X a N w P2.objs.size j L t) [] Z' H' E/\tn i E.heap/\(∀b∈t,H' b=8)/\↥E j⁻¹=!{cls:=.type "list",data:=.seq (List.toArray B) k}/\
   H' j⁻¹=8/\j5 ys B/\W i n ys Z' H') ?_ m0
  <|vd 0 [] [] 0 (Wg cap Z) L (I0,T.keep _ _ _ st2<|λb _ o e=>old b o e,λb A=>(f2 b A).1,hacc,F.hok.fresh<|Zf _,.nil,w0)
  let cat:Xx X P2.objs.size j L t:=(_,_,F,f2,l);let ce:∀e E,ZN X P2.objs.size e E->compPost (model X.prog X.w) X.A X.xe use R (.ref j⁻¹) P2.objs.size (.error e) E:=λe E h=>by induction use<;>exact h
  let xe:∀e E,(JL X a N w P2.objs.size j L t).xe e E->notedBy (model X.prog X.w) X.A (compEnvC a w P2.objs.size X.env) (λe E=>compPost (model X.prog X.w) X.A X.xe use R (.ref j⁻¹) P2.objs.size (.error e) E) e E:=λe E h=>Zc h (λ_ j q=>ce e j q) λe j q=>ce e j q;intro n s4;calc uK λi ys B k Z4 H4=>vV λI4 st4 fr4 hd4 hn4 rv4 w4=>?_;let(hz,tn4):=turn i n ys Z4 H4 w4;let J4:Inv (JL X a N w P2.objs.size j L t) [%[j⁻¹|{cls:=.type "list",data:=.seq B.toArray k}]] Z4 H4 s4:=I4.pins_of λp G=>by
   let e:=Jd.mp G;subst e;calc(hd4,hn4,S,?_,λv z=>by cases z);exact λz=>Zn (Zg (by
    rcases U0.mp (F.stkSub _ z)with q|q
    .exact US (Yu q) F.lt
    .let(_,o,ho,_):=F.ok.funs.mem q;calc Zg (Zk ho) F.sz)<|Zf j⁻¹)<|Zy _
  let np:∀p ∈[%[j⁻¹|({cls:=.type "list",data:=.seq B.toArray k}:Obj)]],p.1∉t:=λp G=>by
   let e:=Jd.mp G;subst e;exact nD
  rcases tn4 with ⟨stop,qn⟩|⟨go,step⟩
  .calc Zc (T.done (JL X a N w P2.objs.size j L t) 9 9 9 hc i _ s4 Z4 H4 (λ_ _=>False) J4 (M fr4 np) st4 stop) (λr s5 h5=>?_) λ_ _ f=>f.elim;let(rfl,I5):=h5;let(m,hm,_):=id I5.loc;let p5:=I5.pin %[j⁻¹|_]<|Uo _ Zqs;refine fin _ _ m _ _ hm (UU<|Zg F.lt l) (F.nofs l) (Zh F.sz l) (λx c e z=>?_) (λp G z=>?_) λh' hs'=>Rp F f2 l (Zf _) S (I5.pins_of λp G=>nomatch G) p5.1 p5.2.1 rv4 (Zz hz) hs' (by rw[JF (Ne.symm S)];calc I5.free,qn _ p5.2.1)
   .let(v o,ho,hd):=F.cell x c e;let:=Zk ho;rw[z]at this;exact Zn (Zg this l)<|Zy _
   .let:=Zk (F.pin p G).1;rw[z]at this;exact Zn (Zg this l)<|Zy _
  .calc Zc (T.item (JL X a N w P2.objs.size j L t) 9 9 9 hc i _ s4 Z4 H4 (λ_ _=>False) J4 (M fr4 np) st4 go) (λr s5 h5=>?_) λ_ _ f=>f.elim;let(u,rfl,h5):=h5;calc Zc h5 (λ_ s6 h6=>?_) λ_ _ f=>f.elim;let(x H6,I6,r6,y6,st6,fr6):=h6;let I6':=I6.pinned (M fr6 np)<|T.obj _ _ st6;calc Zc (hg w P2.objs.size j L t _ s6 Z4 H6 x u _ I6' r6<|step x H6 y6) (λ_ s7 h7=>?_) xe;let(Z7 H7,I7,q7):=h7;calc ht w P2.objs.size j L t cat ce I7 q7 λbv s8 H8 I8 q8=>?_;let O:∀H9 s9 Z9,Inv (JL X a N w P2.objs.size j L t) ([%[j⁻¹|{cls:=.type "list",data:=.seq B.toArray k}]]++ZI t s6.heap) Z9 H9 s9->(∀b∈t,∀o,↥s6 b=!o->↥s9 b=!o)/\∀b∈t,H9 b=8:=λH9 s9 Z9 I9=>by
    calc(λb A o e=>(I9.pin %[b|o]<|Uo _<|Uo _<|Bd A e).1,λb A=>?_);let(-o,e,d):=T.obj _ _ st6 b A;exact(I9.pin %[b|o]<|Uo _<|Uo _<|Bd A e).2.1
   let p8:=I8.pin %[j⁻¹|_]<|Uo _<|Vn _ Zqs
   induction bv with
   |false=>
    rw[Ze ()]at q8 ⊢;let(-m',hm',w8):=q8;let(z1,z2):=O _ _ _ I8;calc(m',hm',i+1,ys,B,k,Z7,H8,I8.pins_of (λp G=>nomatch G),T.keep _ _ _ st6 z1,z2,p8.1,p8.2.1,rv4,w8)
   |true=>
    rw[Zd 9]at q8 ⊢;calc Zc (he w P2.objs.size j L t cat _ s8 Z7 H8 _ I8 q8) (λyv s9 h9=>?_) xe;let(y H9,I9,ry,(m',hm',w9)):=h9;let p9:=I9.pin %[j⁻¹|_]<|Uo _<|Vn _ Zqs;let hl:=rv4.length;calc append_at (hsz:=by show B.toArray.size<=sizeLine;rw[Zm,<-hl];calc Zz hz) p9.1 λh10 hs10 hd10=>?_;let I10:Inv (JL X a N w P2.objs.size j L t) [] Z7 H9 {s9 with heap:=h10}:=(I9.pins_of (Y':=[]) λp G=>nomatch G).turned (t':=s9.toks) (it:=j⁻¹) (λb o A e=>(hs10.2 b A).trans e) p9.2.1 S (.inr<|Zf _)
     (λx c e z=>by
      let(v o,ho,hd):=I9.cell x c e;rw[z,p9.1]at ho;cases ho;cases hd)<|λp G=>Zn G<|by show ¬p∈([]:Yb)++[];simp
    let(z1,z2):=O _ _ _ I9;refine(m',hm',i+1,ys++[y],B++[yv],k+1,Z7,H9,I10,T.keep _ _ _ st6<|λb A o e=>?_,z2,?_,p9.2.1,j5.append rv4<|.cons ry .nil,w9)
    .let hb':b≠j⁻¹:=λz=>nD (by rw[<-z];calc A);exact(hs10.2 b hb').trans<|z1 b A o e
    .calc hd10.trans ?_;simp
 exact codeAny_compStart_list (loop _ 9)<|T.self _ 0 _ _ _ (T.keep _ _ _ st2<|λb _ o e=>old b o e)<|loop _ 9
def GR(N)(cap)(o:X.calm=6)(f:Ki a X.env N X.N cap=6)(p:PI X tg iter wi)(r:∀i C s H e,PG (JL X a N i C s H e) tg g)(t:∀i C s H e,Xx X C s H e->PE (JL X a N i C s H e) elt u)
 (v:∀x,foldedSetIterable iter X.env x=pure x)     {Z:St}  (I:Inv X Y Z H s)(h:XU cap wi g u Z H Q)(j:ZO X Y Z Q l R):
 YE X (comprehension (.ListComp elt [(tg,iter,[],0)] a w) a X.env m (newList []) 7 (eval iter X.env) l) R X.xe s:=
 GQ (test:=λ_ _ Q s=>Q 6 s) N (λI b n h=>W.kcp_loop I b n h) (λ_ _ _ _ _ _ _ _ _ _ _ _ _ _ I q k=>k 6 _ _ I q) cap o f p r t v I h j
def GS(N)(cap)(i:X.calm=6)(e:Ki a X.env N X.N cap=6)(j:PI X tg iter wi)(l:∀f C s H b,PG (JL X a N f C s H b) tg g)(m:∀f C s H b,Xx X C s H b->PE (JL X a N f C s H b) elt n)
 (o:∀x,foldedSetIterable iter X.env x=pure x:=by intro _;rfl):PE X (.ListComp elt [(tg,iter,[],0)] a p) (XU cap wi g n):=λY s Z H Q I h=>GR N cap i e j l m o I h GP
def GT(N)(cap)(h:X.calm=6)(b:Ki a X.env N X.N cap=6)(i:PI X tg iter wi)(j:∀e C s H f,PG (JL X a N e C s H f) tg g)(n:∀e C s H f,PE (JL X a N e C s H f) elt te)
 (l:∀x,foldedSetIterable iter X.env x=pure x:=by intro _;rfl):PE X (.ListComp elt [(tg,iter,[],0)] a m) (XU cap wi g te):=GS N cap h b i j () l
end
mutual
def Is (H:Hp):PyData->V->Prop
 | .none,v=>v=.non
 | .bool b,v=>v=.bl b
 | .int i,v=>v=.int i
 | .str x,v=>v=.str x
 | .list e,v=>∃a c,v=.ref a/\H a=some (.lst c)/\qH H e c
 | .tuple e,v=>∃a c,v=.ref a/\H a=some (.tup c)/\qH H e c
 | .dict _,_=>False
def qH (H:Hp):List PyData->YB->Prop
 | [],a=>a=[]
 |d::b,a=>∃x r,a=x::r/\Is H d x/\qH H b r
end
mutual
theorem Is.same {H n:Hp}(e:jp H n):∀d v,Is H d v->Is n d v
 | .none,_,h=>h
 | .bool _,_,h=>h
 | .int _,_,h=>h
 | .str _,_,h=>h
 | .list f,v,h=>have ⟨a,c,i,j,l⟩:=h;⟨a,c,i,e _ _ j,qH.same e f c l⟩
 | .tuple f,v,h=>have ⟨a,c,i,j,l⟩:=h;⟨a,c,i,e _ _ j,qH.same e f c l⟩
 | .dict _,_,h=>h.elim
theorem qH.same {H i:Hp}(e:jp H i):∀c f,qH H c f->qH i c f
 | [],_,h=>by simp_all [qH]
 |d::c,f,h=>have ⟨x,r,j,l,n⟩:=h;⟨x,r,j,Is.same e d x l,qH.same e c r n⟩
end
theorem qH.length :∀{c:List PyData}{e:YB},qH H c e->e.length=c.length
 |[],_,h=>by simp_all[qH]
 |d::c,e,h=>by
  let(x r,rfl,_,f):=h;rw[Zu,Zu,qH.length f]
theorem qH.get :∀{c:List PyData}{f:YB}{i:5}{d:PyData},qH H c f->c[i]?=!d->∃x,f[i]?=!x/\Is H d x
 |[],_,_,_,_,e=>by simp at e
 |d::c,f,0,j,h,e=>by
  grind[qH]
 |d::c,f,i+1,j,h,e=>by
  let(x r,rfl,_,l):=h;let(-y,n,o):=qH.get l (by simpa using e)
  ext
theorem GU :∀(a:Yf),qH H (a.map PyData.int) (a.map V.int)
 |[]=>by rfl
 |n::a=>(_,_,9,by rfl,GU a)
theorem GV :∀{ns:Yf}{a:YB},qH H (ns.map PyData.int) a->a=ns.map V.int
 |[],_,h=>by
  simp_all[qH]
 |n::ns,a,h=>by
  let(x r,rfl,b,c):=h;rw[b,GV c];rfl
def yt   :Is H (.list e) v↔∃a c,v=.ref a/\H a=! .lst c/\qH H e c:=Iff.rfl
def zz   :Is H (.tuple e) v↔∃a c,v=.ref a/\H a=! .tup c/\qH H e c:=Iff.rfl
mutual
def QZ:PyData->Bool
 | .int _=>true
 | .list a=>W3 a
 | .tuple a=>W3 a
 | .none=>false
 | .bool _=>false
 | .str _=>false
 | .dict _=>false
def W3:List PyData->Bool
 | []=>true
 |x::a=>QZ x&&W3 a
end
mutual
theorem Rr:∀d:PyData,QZ d=true->d.canLay0=true
 | .int _,_=>by rfl
 | .list a,h=>D8 a h
 | .tuple a,h=>D8 a h
 | .none,h=>by rfl
 | .bool _,h=>by rfl
 | .str _,h=>by simp_all [QZ]
 | .dict _,h=>by simp_all [QZ]
theorem D8:∀a:List PyData,W3 a=true->PyData.canLayAll0 a=true
 | [],_=>by rfl
 |x::a,h=>by
  obtain⟨b,c⟩:=Jr.mp h;unfold PyData.canLayAll0;rw[Rr x b,D8 a c];rfl
end
mutual
theorem D9:∀d e:PyData,QZ d=true->QZ e=true->(PyData.eqv d e=true↔d=e)
 | .int i,.int j,_,_=>by unfold PyData.eqv;simp
 | .int i,.list a,_,_=>by unfold PyData.eqv;simp
 | .int i,.tuple a,_,_=>by unfold PyData.eqv;simp
 | .list b,.int j,_,_=>by unfold PyData.eqv;simp
 | .list b,.list a,c,h2=>by
  have q:=DA b a c h2
  simp_all [PyData.eqv]
 | .list b,.tuple a,_,_=>by unfold PyData.eqv;simp
 | .tuple b,.int j,_,_=>by unfold PyData.eqv;simp
 | .tuple b,.list a,_,_=>by unfold PyData.eqv;simp
 | .tuple b,.tuple a,c,h2=>by
  have q:=DA b a c h2
  simp_all [PyData.eqv]
 | .none,_,h,_=>by simp_all [QZ]
 | .bool _,_,h,_=>by simp_all [QZ]
 | .str _,_,h,_=>by simp_all [QZ]
 | .dict _,_,h,_=>by simp_all [QZ]
 |_,.none,_,h=>by simp_all [QZ]
 |_,.bool _,_,h=>by simp_all [QZ]
 |_,.str _,_,h=>by simp_all [QZ]
 |_,.dict _,_,h=>by simp_all [QZ]
theorem DA:∀a b:List PyData,W3 a=true->W3 b=true->(PyData.eqvAll a b=true↔a=b)
 | [],[],_,_=>by unfold PyData.eqvAll;simp
 | [],y::b,_,_=>by unfold PyData.eqvAll;simp
 |x::a,[],_,_=>by unfold PyData.eqvAll;simp
 |x::a,y::b,c,h2=>by
  have ⟨e,f⟩:=Jr.mp c;have ⟨g,h⟩:=Jr.mp h2;unfold PyData.eqvAll;rw[Bool.and_eq_true_iff,D9 x y e g,DA a b f h];simp
end
def Rs (a:QZ d=6)(b:QZ e=6)(h:d≠e):PyData.eqv d e=7:=by
 grind[D9]
def Rt (a:QZ d=6):PyData.eqv d d=6:=(D9 d d a a).mpr 9
def xu:Yf->3
 |[]=>0
 |x::r=>r.foldl max x
def yh:Yf->3
 |[]=>0
 |x::r=>r.foldl min x
theorem GW:∀(r:Yf)x,x<=r.foldl max x/\(∀y∈r,y<=r.foldl max x)/\(r.foldl max x=x\/r.foldl max x∈r)
 |[],x=>by simp
 |y::r,x=>by
  let(!b,a,c):=GW r (max x y);show x<=r.foldl max (max x y)/\(∀z∈y::r,z<=r.foldl max (max x y))/\(r.foldl max (max x y)=x\/r.foldl max (max x y)∈y::r);refine((),λz hz=>?_,?_)
  .rcases U0.mp hz with rfl|hz
   .omega
   .exact a z hz
  grind
def Xy (h:l ≠[]):xu l∈l/\∀y∈l,y<=xu l:=by
 induction l with
 |nil=>ext
 |cons x r=>
  let(!a,b,h3):=GW r x;refine(?_,λy hy=>?_)
  .rcases h3 with h3|h3
   .show r.foldl max x∈x::r;rw[h3];exact Zqs
   .exact Zqm _ h3
  .rcases U0.mp hy with rfl|hy
   .exact a
   .exact b y hy
def GX  (a:M∈l)(b:∀y∈l,y<=M):M=xu l:=by
 let(c,e):=Xy (l:=l) ()
 grind
theorem GY:∀(r:Yf)x,r.foldl min x<=x/\(∀y∈r,r.foldl min x<=y)/\(r.foldl min x=x\/r.foldl min x∈r)
 |[],x=>by simp
 |y::r,x=>by
  let(!b,a,c):=GY r (min x y);show r.foldl min (min x y)<=x/\(∀z∈y::r,r.foldl min (min x y)<=z)/\(r.foldl min (min x y)=x\/r.foldl min (min x y)∈y::r);refine((),λz hz=>?_,?_)
  .rcases U0.mp hz with rfl|hz
   .omega
   .exact a z hz
  grind
def Bo (h:l ≠[]):yh l∈l/\∀y∈l,yh l<=y:=by
 induction l with
 |nil=>ext
 |cons x r=>
  let(!a,b,h3):=GY r x;refine(?_,λy hy=>?_)
  .rcases h3 with h3|h3
   .show r.foldl min x∈x::r;rw[h3];exact Zqs
   .exact Zqm _ h3
  .rcases U0.mp hy with rfl|hy
   .exact a
   .exact b y hy
def DB  (a:M∈l)(b:∀y∈l,M<=y):M=yh l:=by
 let(c,e):=Bo (l:=l) ()
 grind
def Ru(w:X.calm=6):qf X (.builtin "max") λm H Q=>∃a c,m=[.ref a]/\xx X.K H a (c.map V.int)/\c ≠[]/\Q (.int<|xu c) H:=by
 intro Y s Z H m J Q I r h;let(a c,rfl,x,y,q):=h;let(-u,rfl,z):=QP r;obtain rfl:=z;let(-A,B,p,L):=I.list x;let n:=Dz B;let(i,e):=n.allInts.items;let f:c=i.toList.map (·.1):=by
  rw[<-n.numsOf,<-nums_intItems,<-e]
 let l:0<i.size:=by
  grind
 let g:=p.isList;rw[e]at g;calc max_intList (I.ok.hd w) g l λv M N C E=>?_;let(t,rfl):=intItems_at C;let(O,F):=argBest_gt (numAt i) (i.size-1);refine(.int<|xu c,H,I.kept E,(t,?_),q)
 congr 1
 refine GX ?_ λb o=>?_
 .rw[f,numAt_eq];exact PySem.getD_mem<|by rw[Zql,Ui];lia
 .rw[f]at o;let(-j,G,rfl):=PySem.mem_getD o;rw[Zql,Ui]at G;rw[<-numAt_eq];exact F j ()
def Rv(w:X.calm=6):qf X (.builtin "min") λm H Q=>∃a c,m=[.ref a]/\xx X.K H a (c.map V.int)/\c ≠[]/\Q (.int<|yh c) H:=by
 intro Y s Z H m J Q I r h;let(a c,rfl,x,y,q):=h;let(-u,rfl,z):=QP r;obtain rfl:=z;let(-A,B,p,L):=I.list x;let n:=Dz B;let(i,e):=n.allInts.items;let f:c=i.toList.map (·.1):=by
  rw[<-n.numsOf,<-nums_intItems,<-e]
 let l:0<i.size:=by
  grind
 let g:=p.isList;rw[e]at g;calc min_intList (I.ok.hd w) g l λv M N C E=>?_;let(t,rfl):=intItems_at C;let(O,F):=argBest_lt (numAt i) (i.size-1);refine(.int<|yh c,H,I.kept E,(t,?_),q)
 congr 1
 refine DB ?_ λb o=>?_
 .rw[f,numAt_eq];exact PySem.getD_mem<|by rw[Zql,Ui];lia
 .rw[f]at o;let(-j,G,rfl):=PySem.mem_getD o;rw[Zql,Ui]at G;rw[<-numAt_eq];exact F j ()
def wM(P:Program)(w:World)(K:f')(c:Yd)(a:Heap)(b:Str)(k:5)(e:Yi)(h:Sp):4:=
 ∃f g,FnOk P w K c a zj k f g e h/\vy K g e []/\W.keepIn K (.ref f)=6/\c b=! .ref f
theorem wM.mono  {K:f'}      (c:wM P w K l e i j n o)(h:j<=k):wM P w K l e i k n o:=by
 let(f p,F,r):=c;exact(f,p,F.mono h,r)
def XV        (c:wM X.prog X.w X.K X.mg X.base a k u l)(m:Room k X.A)(n:Gl X a)(o:PA X (e::g) t)
 (h:(a==("__debug__":Str))=7:=by decide)(q:starEach (e::g) X.env=%[7|eval e X.env]::starEach g X.env:=by rfl)(i:(backTo j<|starEach g X.env).any (·.1)=7:=by rfl):
 PE X (.Call (.Name a p) (e::g) [] j) (Dy l [] E0 t):=by
 let(f v,F,b,r,s):=c;exact Gw F m n s r b .nil GM o h q i
def Kx  (h:H p=8)(o):jp H (upd H p o):=λb u q=>by rwa[JF (Kw q h)]
def QC (h:n<=1000):n<=sizeLine:=Zz<|GN h
def pD(p:3×3):PyData:=.tuple [.int p.1,.int p.2]
def rD(r:Jz):PyData:=.tuple<|r.map pD
def nN   :Is H (pD p) v↔∃a,v=.ref a/\H a=! .tup [.int p.1,.int p.2]:=by
 constructor
 .rintro⟨a,g,b,c,f⟩;let e:=GV (ns:=[p.1,p.2]) f
  ext
 .rintro⟨a,b,c⟩;exact(a,_,b,c,GU [p.1,p.2])
def DC  (o)(s:jp H a)(h:H l=8):jp H (upd a l o):=λb u e=>by
 rw[JF (Kw e h)];exact s b u e
theorem Rx:∀a:Yf,W3 (a.map PyData.int)=6
 |[]=>by rfl
 |n::a=>by
  show W3 (PyData.int n::a.map PyData.int)=6;unfold W3;rw[Rx a];rfl
def DD(p):QZ (pD p)=6:=by rfl
theorem Ry:∀a:Yf,PyData.depthAll (a.map PyData.int)=0
 |[]=>by rfl
 |n::a=>by
  show PyData.depthAll (PyData.int n::a.map PyData.int)=0;unfold PyData.depthAll;rw[Ry a];rfl
def Qz:bootBuiltins "len"=! .builtin "len":=boot_len
def DE:bootBuiltins "max"=! .builtin "max":=boot_max
def GZ:bootBuiltins "min"=! .builtin "min":=boot_min
def DF:bootBuiltins "sorted"=! .builtin "sorted":=boot_sorted
def Ha:bootBuiltins "sum"=! .builtin "sum":=boot_sum
def Bp:bootBuiltins "str"=! .type "str":=boot_str
def Xz:bootBuiltins "list"=! .type "list":=boot_list
def Bq:bootBuiltins "tuple"=! .type "tuple":=boot_tuple
def Hb:bootBuiltins "dict"=! .type "dict":=boot_dict
def bt_set:bootBuiltins "set"=! .type "set":=boot_set
def Hc:entryFor table "dict.update.loop"=!Builtin.«dict.update.loop»:=entryFor_of_tree<|by rfl
def Br:plainId "dict.update.loop"=6:=by decide+kernel
section
variable   {K:Type}[DecidableEq K]
def b9(l:KeyKind u w K)(p t d:Addr)(c:Yk)(h:List (K×Value))(F:Heap)(hlen:c.size=h.length)
 (Q:∀(j:5)k v,h[j]?=!%[k|v]->∃x n,c[j]?=! .ref x/\F.IsTuple x #[n,v]/\l.is k n=6/\x≠p/\x≠d)
 (G:F.IsTuple t c)(n1:t≠p)(n2:t≠d)(S:d≠p)(m:5):
 ∀i:5,h.length-i=m->∀A R s(a:List (K×Value)),A.handled=8->s.heap.IsTupleIter p t i->(∀b o,b≠p->b≠d->F.get? b=!o->↥s b=!o)->
  s.heap.DictOf l d a->a.length+(h.length-i)<=sizeLine->
  (∀y U,y.DictOf l d (merged a<|h.drop i)->(∀b o,b≠p->b≠d->F.get? b=!o->y.get? b=!o)->R (.ok<|.ret .none) {s with heap:=y,toks:=U})->
  wpAny (model u w) A.in1 (Builtin.«dict.update.loop» ([.ref d,.ref p,rawInt i,.none],[])) (λB N=>match B with|.done f=>R (.ok f) N|.again c'=>c'.quiet=6/\codeAny (model u w) A c' R N) (λe N=>R (.error e) N) s:=by
 induction m with
 |zero=>
  intro i O A R s a X Y keep Z hz P;let hx:c[i]?=8:=by rw[Array.getElem?_eq_none_iff];lia
  let ht:s.heap.IsTuple t c:=by
   let(-o,q,r):=G;exact(o,keep t o n1 n2 q,r)
  unfold Builtin.«dict.update.loop»;calc Za<|wpAny_pyNext_tuple_end X Y ht hx λy eb=>?_;let hd0:h.drop i=[]:=Vo ();rw[hd0]at P;let H:y.DictOf l d a:=by
   let(o es ep,q,r):=Z;exact je o es ep (eb d o S q,r)
  let B:=P y s.toks H<|λb o I J e=>eb b o I<|keep b o I J e;unfold Builtin.Dict.addKeywords;calc Za<|Zb<|Zb B
 |succ m ih=>
  intro i O A R s a X Y keep Z hz P;let C:i<h.length:=()
  let(g,hkv):∃g,h[i]?=!g:=(_,Zqg C);let(x n,hx,hta,L,a1,a2):=Q i g.1 g.2 hkv;let ht:s.heap.IsTuple t c:=by
   let(-o,q,r):=G;exact(o,keep t o n1 n2 q,r)
  unfold Builtin.«dict.update.loop»;calc Za<|wpAny_pyNext_tuple_item Y ht hx λI st1 E=>?_;let(-ot,hot,hoc,(nn,hod)):=hta;let z:I.get? x=!ot:=(E.2 x a1).trans<|keep x ot a1 a2 hot;let hD1:I.DictOf l d a:=by
   let(o es ep,q,r):=Z;exact je o es ep ((E.2 d S).trans q,r)
  dsimp only;calc Za<|wpAny_holding<|Za<|wpAny_tryCatch ?_;unfold Builtin.Dict.pairItems;calc Za<|wpAny_typeOf (T:="tuple") (ot,z,hoc) ?_;rw[Zd (by decide)];calc Za<|wpAny_seqItems z hod<|Zb ?_;show wpAny _ _ (holding [n,g.2]<|dictSet d n g.2) _ _ _;calc wpAny_holding<|wpAny_dictSet_pairs L hD1 (λJ hD2 M=>?_) ();let hc:(i:3)+1=((i+1:5):3):=by push_cast;rfl
  calc Zb ?_;rw[hc];let st2:J.IsTupleIter p t (i+1):=by
   let(-o,q,r):=st1;exact(o,(M.2 p<|Ne.symm S).trans q,r)
  let k2:∀b o,b≠p->b≠d->F.get? b=!o->J.get? b=!o:=λb o b1 b2 e=>(M.2 b b2).trans<|(E.2 b b1).trans<|keep b o b1 b2 e;let z2:(stored a g.1 g.2).length+(h.length-(i+1))<=sizeLine:=by
   let:(stored a g.1 g.2).length<=a.length+1:=by
    unfold stored
    split
    .rw[Zql];lia
    .rw[Ua,Uf];lia
   rw[O]at hz;rw[Nat.sub_succ,O];exact Zh (Nat.add_le_add_right this m)<|Zh (Yu<|Nat.succ_add_eq_add_succ a.length m) hz
  let e:merged a (h.drop i)=merged (stored a g.1 g.2) (h.drop<|i+1):=by
   rw[Uz C];let:h[i]=g:=by
    let:=Zqg C;rw[this]at hkv;exact Zqi hkv
   rw[this];rfl
  exact(plainId_quiet Br _,codeAny_builtin Hc<|by
   rw[Around.under_plainId Br _];calc ih (i+1) (by rw[Nat.sub_succ,O];rfl) A R {s with heap:=J,toks:=s.toks+1} (stored a g.1 g.2) X st2 k2 hD2 z2 λy U H kk=>P y U (by rwa[e]) kk)
end
def Rz
 (r:↥s a=!o)(t:o.cls=.type "tuple")(i:o.data=.seq z k)(u:o.dict=8)(j:typeLookup (.type "tuple") f=pure 8)(l:(["__module__","__name__","__qualname__","__doc__","__annotations__"]:Yi).contains f=7)(B:A.handled=8)
 (h:∀p v,(∀b o,↥s b=!o->p.get? b=!o)->Q 8 {s with heap:=p,toks:=v})(q:f.length+100<=sizeLine:=by size_fits):
 YF x w A (getAttr? (.ref a) f) Q E s:=by
 let(c,C,G,H):=o;simp only at t i u;subst t i u;let(I,g,d,v,os):=s;let y:∀m,((I,g,d,m,os):Shared).TypeIs (.ref a) "tuple":=λ_=>(_,r,9);let J:=sub_AttributeError;let L:=F.slot_tuple_getattribute.lookup;let M:=F.slot_tuple_getattribute.bind<|.ref a;let N:=am_tuple_getattr_none;unfold getAttr? getAttrBy? getAttrBy
 repeat(any_goals(first|assumption|calc y _|((with_reducible show wpAny _ _ (call (Value.builtin "tuple.__getattribute__") _ _) _ _ _);calc call_meets F.slot_tuple_getattribute (y _) am_entry_tuple_getattribute (F.args_tuple_getattribute_2 _ _) (meets_getattribute_miss_tuple a z k H f _ j l q) (r,B,λp m e n=>?_))|wp_step))
 let(O P,R):=n.there;show wpAny _ _ (getattributeRaised _ _ _ _ _ _ _) _ _ _;unfold getattributeRaised
 repeat(any_goals(first|assumption|wp_step))
 exact h _ _ n.of.keeps
section
variable   {K:Type}[DecidableEq K]
def R0(g:KeyKind y w K)      (Z:A.handled=8)(M:↥s t=!o)(N:o.cls=.type "tuple")(p:o.data=.seq a n)(hd:o.dict=8)
 (B:a.size=x.length)(O:∀(j:5)k v,x[j]?=!%[k|v]->∃l c,a[j]?=! .ref l/\s.heap.IsTuple l #[c,v]/\g.is k c=6)(hz:x.length<=sizeLine)
 (h:∀C P,C.DictOf g s⁻¹ (merged [] x)->(∀b u,↥s b=!u->C.get? b=!u)->Q (.ref s⁻¹) {s with heap:=C,toks:=P}):
 YF y w A (call (.type "dict") [.ref t]) Q E s:=by
 calc callType_codes (Q₁:=λG s₁=>G=.ref s⁻¹/\s₁={s with heap:=s.heap.push {cls:=.type "dict",data:=.dict #[]}}) F.kt_called_dict (F.kt_typeCall_dict_1 _) F.entry_dict_init (kt_code_dict_new _ (9,9)) ?_;rintro G s₁ ⟨rfl,rfl⟩;let f:(s.heap.push {cls:=.type "dict",data:=.dict #[]}).DictOf g s⁻¹ []:=Heap.DictOf.new s.heap;calc(f.typeIs,F.args_dict_init_2 _ _,?_);let q:(s.heap.push {cls:=.type "dict",data:=.dict #[]}).get? t=!o:=Zq _ M;unfold Builtin.«dict.__init__»;calc Za ?_;unfold Builtin.Dict.selfAndRest;calc Za<|wpAny_notOrdered_dict f.typeIs ?_;show wpAny _ _ (pure %[s⁻¹|[Value.ref t]]) _ _ _;calc Zb ?_;show wpAny _ _ (Builtin.Dict.updateFrom "dict.__init__" s⁻¹ (.ref t) [] .none) _ _ _;unfold Builtin.Dict.updateFrom;calc Za<|wpAny_typeOf (T:="tuple") (o,q,N) ?_;rw[Zd (by decide)];calc Za (Rz q N p hd (by rw[typeLookup_type,builtinLookup_eq_fast];kernel_rfl) (by decide+kernel) Z (λm tk2 J=>?_)<|by decide);rw[Zd (by rfl)];let H:m.IsTuple t a:=(o,J _ _ q,N,n,p);let lt:s⁻¹<m.objs.size:=by
  let(L _ _,e,_):=f;exact Zk<|J _ _ e
 let D2:m.DictOf g s⁻¹ []:=by
  let(L R S,e,r):=f;exact je L R S (J _ _ e,r)
 calc Za<|wpAny_rule ?_;calc Za<|wpAny_pyIter_tuple H ?_;let i:∀b u,↥s b=!u->b≠s⁻¹/\b≠m.objs.size:=λb u e=>by
  let z:=Zk e;exact(Zi z,Zi<|Ul z lt)
 let up:∀b u,↥s b=!u->m.get? b=!u:=λb u e=>J b u<|Zq _ e;let I:∀(j:5)k v,x[j]?=!%[k|v]->∃l c,a[j]?=! .ref l/\m.IsTuple l #[c,v]/\g.is k c=6/\l≠m.objs.size/\l≠s⁻¹:=λj k v e=>by
  let(l c,a1,(U,X,a3),a4):=O j k v e;exact(l,c,a1,(U,up _ _ X,a3),a4,(i l U X).2,(i l U X).1)
 calc Zb (plainId_quiet Br _,codeAny_builtin Hc ?_);rw[Around.under_plainId Br _];refine b9 g m.objs.size t s⁻¹ a x m B I H (i t o M).2 (i t o M).1 (Zi lt) x.length 0 () A.in1 _ _ [] Z (_,Zr _ 9,9,9) (λb u _ _ e=>Zq _ e) ?_ (by simpa using hz) ?_
 .let(L R S,e,r):=D2;exact je L R S (Zq _ e,r)
 .intro C P Y kk;exact(9,h C P Y λb u e=>kk b u (i b u e).2 (i b u e).1<|up b u e)
end
def yj(r:Jz):List (jI×V):=r.map λp=>%[Uj p.1|V.int p.2]
def Bt(r:Jz):List (jI×V):=Xv []<|yj r
theorem Hd    (ok:xr P w H h):∀{r:Jz}{g:YB}{b:Ye},qH H (r.map pD) g->j5 g b->
 ∃c:List (jI×Value),KV (yj r) c/\b.length=c.length/\∀(j:5)k v,c[j]?=!%[k|v]->∃i f,b[j]?=! .ref i/\h.IsTuple i #[f,v]/\(Qk P w).is k f=6
 |[],g,b,ha,r=>by
  subst ha;cases r;calc([],.nil,9,())
 |p::r,g,b,ha,rv=>by
  let(x M,rfl,m,q):=ha;cases rv with
  |@cons _ u _ s t y=>
   let(-c,z,N,A):=Hd ok q y;let(-a,rfl,B):=nN.mp m;obtain rfl:=t;let(_,C,ri,o,E,F,n,G):=ok a _ B;let(O I,rfl,J,L):=Bf ri;let(l,rfl):=J;refine(%[Uj p.1|I]::c,.cons (9,L) z,(),λj k v e=>?_)
   induction j with
   |zero=>
    cases e;calc(a,.int p.1 l,9,(o,E,F,n,G),FZ p.1 l)
   |succ j=>
    exact A j k v<|by simpa using e
def R1(i:X.calm=6):qf X (.type "dict") λb H Q=>∃a r,b=[.ref a]/\Is H (rD r) (.ref a)/\r.length<=100/\∀p,H p=8->Q (.ref p) (upd H p<|.dK<|Bt r):=by
 intro Y s Z H b L Q I l h;let(a,r,rfl,m,M,q):=h;let(-u,rfl,t):=QP l;obtain rfl:=t;let(N b,w,x,y):=m;cases w;let((O,P,c,A),B,ri,o,f,C,n,E):=I.hok a _ x;rw[c]at f;obtain rfl:=Zqi f;let(-R,g,S,T):=Hd I.hok y ri;let U:=g.length;let F:(yj r).length=r.length:=Zql _;refine R0 (Qk X.prog X.w) (I.ok.hd i) c C E A () (λj k v e=>?_) (QC ()) λh' tk G J=>?_
 .ext
 .calc(.ref s⁻¹,upd H s⁻¹<|.dK<|Bt r,I.laid J (Zf _)<|GH ?_ (beq_eq_false_iff_ne.mpr<|Ne.symm<|Zi I.big) (vt g .nil) G,9,q _<|I.hok.fresh<|Zf _);let z:=GK (yj r) [];rw[ZC,F]at z;exact QC<|by unfold Bt;lia
def JC:Jz->3->Option 3
 |[],_=>8
 |p::r,t=>match JC r t with
  |some w=>!w
  |none=>if p.1=t then !p.2 else 8
def R3(r s)(t):JC (r++s) t=match JC s t with|some w=>!w|none=>JC r t:=by
 induction r with
 |nil=>grind[JC]
 |cons p r a=>
  grind[List.cons_append,JC]
def Qq  (h:JC r t=!w):%[t|w]∈r:=by
 induction r with
 |nil=>simp[JC]at h
 |cons p r a=>
  grind[JC]
theorem He  (h:JC r t=8):∀w,%[t|w]∉r:=by
 induction r with
 |nil=>simp
 |cons p r a=>
  grind[JC]
def jE(r:Jz):4:=(r.map (·.1)).Nodup
def jE.eq (h:jE r) (c:%[t|v]∈r)(e:%[t|w]∈r):v=w:=by
 induction r with
 |nil=>cases c
 |cons p r f=>
  let(j,i):=Jl.mp h;rcases U0.mp c with e1|e1<;>rcases U0.mp e with e2|e2
  .grind
  .grind
  .grind
  .exact f i e1 e2
def jE.look (h:jE r) (c:%[t|w]∈r):JC r t=!w:=by
 cases q:JC r t with
 |none=>calc Zn c<|He q w
 |some v=>rw[h.eq (Qq q) c]
def zn(o:Jz)(p:3×3):Bool:=match JC o p.1 with
 |some w=>decide (p.2<=w)
 |none=>7
def JI(r o:Jz):Bool:=r.all<|zn o
def Hf {i:5} (a:r[i]?=!p)(h:zn o p=7):JI r o=7:=by
 unfold JI;rw[List.all_eq_false];exact(p,Ue a,by rw[h];simp)
def Wh{α:Type}{r:List α} {p:α}(a:r[i]?=!p):r.take (i+1)=r.take i++[p]:=by
 rw[UV,a];rfl
open PySem PyProof.Rows
def Hg (h:l<r)(c:r-l<=k-x):∃m,(l+r)/2=m/\l<=m/\m<r/\m-l<=k-(x+1)/\r-(m+1)<=k-(x+1):=by
 let a:l<=(l+r)/2:=()
 let b:(l+r)/2<r:=()
 generalize(l+r)/2=m at a b ⊢;exact(m,9,a,b,Nat.le_pred_of_lt<|Zg (Nat.sub_lt_sub_right a b) c,Nat.pred_le_pred<|Zh (Nat.sub_le_sub_left a r) c)
structure Wk(lt:Yc):4 where
 asy:∀i j,lt i j=6->lt j i=7
 neg:∀i j k,lt i k=6->lt i j=6\/lt j k=6
def jV(lt:Yc)(i j:5):4:=lt i j=6\/lt j i=7/\i<j
section
variable  (W:Wk lt)
include W
theorem jV.no (h:jV lt i j):lt j i=7:=by
 rcases h with h|h
 .exact W.asy _ _ h
 .exact h.1
theorem jV.trans (c:jV lt i j)(e:jV lt j k):jV lt i k:=by
 let l:=jV.no W e;let f:lt k i=7:=by
  cases q:lt k i with
  |false=>rfl
  |true=>
   rcases W.neg k j i q with z|z
   .ext
   .rw[jV.no W c]at z;exact JG z
 rcases c with a|a
 .rcases W.neg i k j a with z|z
  .exact .inl z
  ext
 .rcases e with b|b
  .rcases W.neg j i k b with z|z
   .ext
   .exact .inl z
  .exact .inr (f,())
end
def gx(a:Yg)(k:5):5:=(a[k]?).getD 0
def DG  (h:k<a.size):a[k]?=! gx a k:=by
 simp_all[gx]
def Hh  (c:a<b.size)(e:d<=a)(k):gx (bubble b a d) k=if k=a-d then gx b a else if a-d<k/\k<=a then gx b (k-1)else gx b k:=by
 unfold gx;rw[getElem?_bubble c d e k]
 repeat' split
 all_goals rfl
def ZP  (b:j<=a.size)(k):gx (mirror a i j<|(j-i)/2) k=if i<=k/\k<j then gx a (i+j-1-k)else gx a k:=by
 unfold gx;rw[getElem?_mirror_all b k]
 split
 all_goals rfl
def R4{α β:Type}(f:α->β)(b:Array α)(i j:5):(b.map f).swapIfInBounds i j=(b.swapIfInBounds i j).map f:=by
 apply Array.ext_getElem?;intro k;by_cases a:i<b.size
 .by_cases c:j<b.size
  .rw[getElem?_swapIB (by simpa using a) (by simpa using c),UW,UW,UW,UW,getElem?_swapIB a c]
   repeat' split
   all_goals rfl
  .rw[VN,VN,dif_pos (by simpa using a),dif_neg (by simpa using c),dif_pos a,dif_neg c]
 .rw[VN,VN,dif_neg (by simpa using a),dif_neg a]
theorem DH{α β γ:Type}(f:α->β)(p q:γ->5):∀(l:List γ)(b:Array α),l.foldl (λa k=>a.swapIfInBounds (p k)<|q k) (b.map f)=(l.foldl (λa k=>a.swapIfInBounds (p k)<|q k) b).map f
 |[],b=>9
 |k::l,b=>by
  rw[U8,U8,R4,DH f p q l]
def R5 (f:α->β)(b)(a d):bubble (b.map f) a d=(bubble b a d).map f:=DH f _ _ _ b
def R6 (f:α->β)(a)(i j d):mirror (a.map f) i j d=(mirror a i j d).map f:=DH f _ _ _ a
structure Pl(n:5)(ix:Yg)(k:5):4 where
 size:ix.size=n
 perm:ix.Perm (Array.range n)
 pre:∀a,a<k->gx ix a<k
 suf:∀a,k<=a->a<n->gx ix a=a
def Pl.lt  (h:Pl n e k)(f:k<=n)(i:a<n):gx e a<n:=by
 by_cases c:a<k
 .exact Zg (h.pre a c) f
 .rwa[h.suf a () i]
def Up(lt:Yc)(c:Yg)(k:5):4:=∀a b,a<b->b<k->jV lt (gx c a) (gx c b)
structure SB(it:5->Keyed)(kind:SortKind)(ix:Yg)(st:SortSt):4 where
 arr:arrOf st=ix.map it
 kd:kindOf st=kind
 fl:failedOf st=8
 pd:pendingOf st=#[]
def zi(a:Program)(w:World)(A:Around)(s:Shared)(b:SortKind)(c:5->Keyed)(lt:Yc)(n:5):4:=
 ∀i j,i<n->j<n->∀(E:Ya)(Q:Bool->Yz),Q (lt i j) s->YF a w A (keyLt' b (c i).1 (c j).1) Q E s
end L2
set_option maxHeartbeats 4000000
namespace L2
def WY:Bool->Keyed->Array Keyed->5->5->5->StateT SortSt Sem (Option 5):=sortPriv%PySem.Builtin.gallop
def DI:Array Keyed->Array Keyed->StateT SortSt Sem (Array Keyed):=sortPriv%PySem.Builtin.mergeLo
def DJ:Array Keyed->Array Keyed->StateT SortSt Sem (Array Keyed):=sortPriv%PySem.Builtin.mergeHi
abbrev KA:=Array Keyed
abbrev SM:=StateT SortSt Sem
abbrev C3:=Option (Option 5)×5×5
def be(lt:Yc)(left:Bool)(x k:5):Bool:=if left then lt x k else not<|lt k x
section
variable          {st:SortSt}
def ZQ  (O:zi a w A s b c lt N)(e:kindOf st=b)(f:i<N)(g:j<N)(h:Q (! lt i j) st):YG a w A E s (lt' (c i)<|c j) Q st:=by
 rw[lt'_eq];calc Yl<|wpS_get ?_;rw[e];exact Yl<|wpS_lift<|wpAny_attempt<|O _ _ f g _ _ (9,Ym h)
def Q5{a:Yg}  (f:p<a.size)(h:Q (b<|gx a p) st):YG c w A E s (elem' (a.map b) p) Q st:=by
 let e:(a.map b)[p]?=!(b<|gx a p):=by rw[UW,DG f];rfl
 rw[elem'_eq,e];exact Ym h
noncomputable def wi  [Decidable c]{m n:SM α} (h:c->YG a w A E s m Q st)(k:¬c->YG a w A E s n Q st):YG a w A E s (if c then m else n) Q st:=()
noncomputable def m7(left:Bool)(a:Keyed)(e:KA)(c i:5):SM (Option Bool):=elem' e (c+i)>>=λx=>if left=6 then lt' x a else lt' a x>>=λr=>pure<|r.map λb=>not b
noncomputable def oN(b:5->SM (Option Bool))(lo a:5):SM (ForInStep C3):=if lo ≥ a then pure (.done %[8,lo|a])else b (lo+(a-lo)/2)>>=λr=>match r with
 |some t=>if t=6 then pure (.yield %[8,lo+(a-lo)/2+1|a])else pure (.yield %[8,lo|lo+(a-lo)/2])
 |_=>pure (.done %[!8,lo|a])
noncomputable def f9(b:5->SM (Option Bool))(n lo a:5):SM (Option 5):=(forIn [:n] (%[8,lo|a]:C3) λ_ c=>oN b c.2.1 c.2.2)>>=λc=>match c.1 with
 |some r=>pure r
 |none=>pure !c.2.2
noncomputable def oP(b:5->SM (Option Bool))(a c l o:5):SM (ForInStep C3):=if o ≥ c then pure (.done %[8,l|o])else b (a+o)>>=λr=>match r with
 |some t=>if(not t)=6 then pure (.done %[8,l|o])else pure (.yield %[8,o|2*o+1])
 |_=>pure (.done %[!8,l|o])
noncomputable def oO(b:5->SM (Option Bool))(a c l o:5):SM (ForInStep C3):=if o ≥ c then pure (.done %[8,l|o])else b (a-o)>>=λr=>match r with
 |some t=>if t=6 then pure (.done %[8,l|o])else pure (.yield %[8,o|2*o+1])
 |_=>pure (.done %[!8,l|o])
noncomputable def dj(b:5->SM (Option Bool))(n a:5):SM (Option 5):=(forIn [:n] (%[8,0|1]:C3) λ_ c=>oP b a (n-a) c.2.1 c.2.2)>>=λc=>match c.1 with
 |some r=>pure r
 |none=>f9 b n (a+c.2.1+1) (a+min c.2.2 (n-a))
noncomputable def dk(b:5->SM (Option Bool))(n a:5):SM (Option 5):=(forIn [:n] (%[8,0|1]:C3) λ_ c=>oO b a (a+1) c.2.1 c.2.2)>>=λc=>match c.1 with
 |some r=>pure r
 |none=>f9 b n (a+1-min c.2.2 (a+1)) (a-c.2.1)
set_option smartUnfolding false in
def f7{left:Bool}{k:Keyed}{a:KA}{b n c:5}:WY left k a b n c=m7 left k a b c>>=λr=>match r with
 |some t=>if t=6 then dj (m7 left k a b) n c else dk (m7 left k a b) n c
 |_=>pure 8:=rfl
section
variable {P:Nat->Bool}{b:Nat->SM (Option Bool)}  {Q:Option Nat->Yy}(hb:∀{i:Nat} {Q:Option Bool->Yy},i<n->Q (some (P i)) st->YG prog w A E s (b i) Q st)
 (mono:∀i j,i<j->j<n->P j=true->P i=true) (h:∀m,m<=n->(∀i,i<m->P i=true)->(∀i,m<=i->i<n->P i=false)->Q (some m) st)
include hb mono h
theorem f8{lo a:5}(p:lo<=a)(f:a<=n)(t:∀i,i<lo->P i=6)(u:∀i,a<=i->i<n->P i=7):YG prog w A E s (f9 b n lo a) Q st:=by
 refine Yl<|Yn (Yo (I:=λx c o=>o=st/\∃lo a,c=%[8,lo|a]/\lo<=a/\a<=n/\(∀i,i<lo->P i=6)/\(∀i,a<=i->i<n->P i=7)/\a-lo<=n-x) (Q:=λc o=>o=st/\∃m,c=%[8,m|m]/\m<=n/\(∀i,i<m->P i=6)/\∀i,m<=i->i<n->P i=7) ?_ ?_ (9,lo,a,9,p,f,t,u,())) ?_
 .rintro x c o _ G ⟨rfl,lo,a,rfl,p,f,t,u,g⟩;refine wi (λc=>?_) λc=>?_
  .let e:lo=a:=Nat.le_antisymm p c;subst e;exact Ym (9,lo,9,f,t,u)
  .let c:lo<a:=Ys c;let(m,em,m0,l):∃m,lo+(a-lo)/2=m/\lo<=m/\m<a:=(_,9,Ut _ _,Nat.add_lt_of_lt_sub'<|Nat.div_lt_self (Nat.sub_pos_of_lt c)<|by decide);let r:a-(m+1)<=n-(x+1):=Nat.pred_le_pred<|Zh (Nat.sub_le_sub_left m0 a) g;let v:m-lo<=n-(x+1):=Nat.le_pred_of_lt<|Zg (Nat.sub_lt_sub_right m0 l) g;show wpS _ _ _ _ (b (lo+(a-lo)/2)>>=_) _ _;rw[em];refine Yl<|hb (Zg l f)<|wi (λq=>Ym (9,_,_,9,l,f,λi B=>?_,u,r)) λq=>Ym (9,_,_,9,m0,Zh (Zz l) f,t,λi H C=>?_,v)
   .by_cases z:i=m
    .rw[z];exact q
    .exact mono _ _ () (Zg l f) q
   .induction y:P i with
    |false=>rfl
    |true=>
     by_cases z:i=m
     .rw[z]at y;exact Zn y q
     .exact Zn (mono _ _ () C y) q
 .rintro c o ⟨rfl,lo,a,rfl,p,f,t,u,g⟩;rw[Nat.zero_max,Vp]at g;let e:lo=a:=Nat.le_antisymm p<|Nat.le_of_sub_eq_zero<|Nat.le_zero.mp g;subst e;exact(9,lo,9,f,t,u)
 .rintro c o ⟨rfl,m,rfl,l,m2,F⟩;exact Ym<|h m l m2 F
theorem sw (v:a<n)(e:P a=6):YG prog w A E s (dj b n a) Q st:=by
 refine Yl<|Yn (Yo (I:=λx c p=>p=st/\∃l o,c=%[8,l|o]/\l<o/\x+1<=o/\a+l<n/\P (a+l)=6) (Q:=λc p=>p=st/\∃l o,c=%[8,l|o]/\l<o/\a+l<n/\P (a+l)=6/\(n-a<=o\/o<n-a/\P (a+o)=7)) ?_ ?_ (9,0,1,9,Yt,Zf _,v,e)) ?_
 .rintro x c p _ _ ⟨rfl,l,o,rfl,r,B,f,g⟩;calc wi (λc=>Ym (9,l,o,9,r,f,g,.inl c)) λc=>?_;let C:o<n-a:=Ys c;let F:a+o<n:=Nat.add_lt_of_lt_sub' C;refine Yl<|hb F<|wi (λq=>Ym (9,l,o,9,r,f,g,.inr (C,by simpa using q))) λq=>Ym (9,o,2*o+1,9,(),(),F,by simpa using q)
 .rintro c p ⟨rfl,l,o,rfl,r,B,f,g⟩;rw[Nat.zero_max]at B;exact(9,l,o,9,r,f,g,.inl<|Zh (Vf _ _)<|UD B)
 .rintro c p ⟨rfl,l,o,rfl,r,f,g,t⟩;show wpS _ _ _ _ (f9 b n (a+l+1)<|a+min o (n-a)) _ _;refine f8 hb mono h (Nat.add_lt_add_left (Nat.lt_min.mpr (r,Nat.lt_sub_iff_add_lt'.mpr f)) a) (Zh (VL (Nat.min_le_right _ _) _)<|Yu<|VA<|Zz v) (λi H=>?_) λi u G=>?_
  .by_cases z:i=a+l
   .rw[z];exact g
   .exact mono _ _ () f g
  .rcases t with t|⟨t,h8⟩
   .rw[Nat.min_eq_right t,VA (Zz v)]at u;exact Zn G<|Nat.not_lt_of_le u
   .rw[Vq (Zz t)]at u
    induction y:P i with
    |false=>rfl
    |true=>
     by_cases z:i=a+o
     .rw[z,h8]at y;cases y
     .rw[mono _ _ (UJ u<|Ne.symm z) G y]at h8;cases h8
theorem sx (u:a<n)(e:P a=7):YG prog w A E s (dk b n a) Q st:=by
 refine Yl<|Yn (Yo (I:=λx c g=>g=st/\∃l o,c=%[8,l|o]/\l<o/\x+1<=o/\l<=a/\P (a-l)=7) (Q:=λc g=>g=st/\∃l o,c=%[8,l|o]/\l<o/\l<=a/\P (a-l)=7/\(a+1<=o\/o<a+1/\P (a-o)=6)) ?_ ?_ (9,0,1,9,Yt,Zf _,Uc _,e)) ?_
 .rintro x c g _ _ ⟨rfl,l,o,rfl,p,B,r,f⟩;calc wi (λc=>Ym (9,l,o,9,p,r,f,.inl c)) λc=>?_;let C:o<a+1:=Ys c;refine Yl<|hb (US (Vf _ _) u)<|wi (λq=>Ym (9,l,o,9,p,r,f,.inr (C,q))) λq=>Ym (9,o,2*o+1,9,(),(),Ur C,Yr.mpr q)
 .rintro c g ⟨rfl,l,o,rfl,p,B,r,f⟩;rw[Nat.zero_max]at B;exact(9,l,o,9,p,r,f,.inl<|Zh u<|UD B)
 .rintro c g ⟨rfl,l,o,rfl,p,r,f,t⟩;show wpS _ _ _ _ (f9 b n (a+1-min o (a+1))<|a-l) _ _;refine f8 hb mono h (Zh (Nat.sub_le_sub_left (Nat.lt_min.mpr (p,Nat.lt_succ_of_le r))<|a+1)<|Yu<|Nat.add_sub_add_right a 1 l) (Zh (Vf _ _)<|Zz u) (λi v=>?_) λi H F=>?_
  .rcases t with t|⟨t,h8⟩
   .rw[Nat.min_eq_right t,Vp]at v;exact Zn v<|U9 _
   .rw[Vq (Zz t),Nat.succ_sub (Ur t)]at v;let G:a-o<n:=US (Vf _ _) u;by_cases z:i=a-o
    .rwa[z]
    .exact mono _ _ (UJ (Ur v) z) G h8
  .induction y:P i with
   |false=>rfl
   |true=>
    by_cases z:i=a-l
    .rw[z,f]at y;cases y
    .rw[mono _ _ () F y]at f;cases f
end
def XX     (O:zi b w A s f l lt N)(t:kindOf st=f)(u:k<N)(x:a+n<=c.size)(o:∀i,i<n->gx c (a+i)<N)(p:g<n)
 (mono:∀i j,i<j->j<n->be lt left (gx c<|a+j) k=6->be lt left (gx c<|a+i) k=6)
 (h:∀m,m<=n->(∀i,i<m->be lt left (gx c<|a+i) k=6)->(∀i,m<=i->i<n->be lt left (gx c<|a+i) k=7)->Q (!m) st):YG b w A E s (WY left (l k) (c.map l) a n g) Q st:=by
 let r:∀{i:5}{Q:Option Bool->Yy},i<n->Q (! be lt left (gx c<|a+i) k) st->YG b w A E s (m7 left (l k) (c.map l) a i) Q st:=λv q=>by
  let o:=o _ v;refine Yl<|Q5 () ?_
  induction left with
  |true=>calc ZQ O t o u q
  |false=>exact Yl<|ZQ O t u o<|Ym q
 rw[f7];exact Yl<|r p<|wi (λe=>sw r mono h p e) λe=>sx r mono h p<|Yr.mpr e
end
structure MInv(lt:Yc)(xs ys:Yg)(ia ib:5)(o:Yh):4 where
 a:(o++xs.toList.drop ia).Pairwise (jV lt)
 b:(o++ys.toList.drop ib).Pairwise (jV lt)
 pm:(o++xs.toList.drop ia++ys.toList.drop ib).Perm (xs.toList++ys.toList)
def wR(lt:Yc)(a b:Yg)(o:Yh):4:=o.Perm (a.toList++b.toList)/\o.Pairwise (jV lt)
theorem XY  (h:i<a.size):a.toList.drop i=gx a i::a.toList.drop (i+1):=by
 rw[Uz (by simpa using h)];unfold gx;rw[UE h];simp
def QQ  (h:i<a.size):gx a i∈a.toList:=by
 simp_all[gx]
def Hi  (h:x∈a.toList.drop i):∃j,i<=j/\j<a.size/\x=gx a j:=by
 let(j,c,e):=Ju.mp h;let b:i+j<a.size:=by grind
 refine(i+j,(),b,?_)
 simp_all[gx]
def MInv.addA (M:MInv lt f n i p o)(s:∀c∈(f.toList.drop i).take k,∀y∈n.toList.drop p,jV lt c y):MInv lt f n (i+k) p (o++(f.toList.drop i).take k):=by
 let e:f.toList.drop i=(f.toList.drop i).take k++f.toList.drop (i+k):=by rw[<-List.drop_drop,UK]
 let j:=M.a;let l:=M.b;let q:=M.pm;rw[e,<-Ug]at j q;calc(j,?_,q);rw[VO]at j l ⊢;calc(j.1,l.2.1,λx u y r=>?_);rcases Jc.mp u with z|z
 .exact l.2.2 x z y r
 .exact s x z y r
def MInv.addB (M:MInv lt n f p i o)(r:∀c∈(f.toList.drop i).take k,∀x∈n.toList.drop p,jV lt c x):MInv lt n f p (i+k) (o++(f.toList.drop i).take k):=by
 let e:f.toList.drop i=(f.toList.drop i).take k++f.toList.drop (i+k):=by rw[<-List.drop_drop,UK]
 let l:=M.a;let j:=M.b;let s:=M.pm;rw[e]at j s;rw[<-Ug]at j;refine(?_,j,?_)
 .rw[VO]at l j ⊢;calc(j.1,l.2.1,λx u y q=>?_);rcases Jc.mp u with z|z
  .exact l.2.2 x z y q
  .exact r x z y q
 .exact by grind
def MInv.doneA(M:MInv lt f c j i o)(h:c.size<=i):wR lt f c (o++f.toList.drop j++c.toList.drop i):=by
 let e:=Vo ();calc(M.pm,?_);rw[e,ZA];exact M.a
def MInv.doneB(M:MInv lt c e f i o)(h:c.size<=f):wR lt c e (o++c.toList.drop f++e.toList.drop i):=by
 calc(M.pm,?_);rw[Vo (),ZA];exact M.b
def MInv.last(M:MInv lt c i f j o)(h:f+1=c.size)(l:∀y∈i.toList,jV lt y (gx c f)):wR lt c i (o++i.toList.drop j++c.toList.drop f):=by
 let e:c.toList.drop f=[gx c f]:=by
  grind[XY,List.drop_eq_nil_of_le]
 let n:=M.a;let p:=M.b;refine(VB ?_ M.pm,?_)
 .grind
 grind
def MInv.one(W:Wk lt)(M:MInv lt i f ia ib o)(j:ib<f.size)(l:ia<i.size)(q:lt (gx f ib) (gx i ia)=6):MInv lt i f ia (ib+1) (o++[gx f ib]):=by
 let e:(f.toList.drop ib).take 1=[gx f ib]:=by rw[XY j];rfl
 let:=M.addB λc n x p=>by
  rw[e]at n;rw[Jd.mp n];let r:=(VO.mp M.a).2.1;rw[XY l]at p r;rcases U0.mp p with z|z
  .rw[z];exact .inl q
  .exact jV.trans W (.inl q)<|(Jk.mp r).1 x z
 ext
def MInv.two(W:Wk lt)(s:∀x∈f.toList,∀y∈j.toList,x<y)(M:MInv lt f j i p o)(l:p<j.size)(n:i<f.size)(q:lt (gx j p) (gx f i)=7):MInv lt f j (i+1) p (o++[gx f i]):=by
 let e:(f.toList.drop i).take 1=[gx f i]:=by rw[XY n];rfl
 let r:jV lt (gx f i) (gx j p):=.inr (q,s _ (QQ n) _<|QQ l);let:=M.addA λc u y v=>by
  rw[e]at u;rw[Jd.mp u];let B:=(VO.mp M.b).2.1;rw[XY l]at v B;rcases U0.mp v with z|z
  .rwa[z]
  .exact jV.trans W r<|(Jk.mp B).1 y z
 ext
def ar(a:5->Keyed)(o:Yh):Array Keyed:=(o.map a).toArray
section
variable   {xs ys:Yg}
def Hj :(ar a o).push (a x)=ar a (o++[x]):=by simp[ar]
def Bu:(xs.map a).extract i j=ar a ((xs.toList.take j).drop i):=by
 apply Vr;simp[ar,List.drop_take]
def Bv :ar a o++ar a p=ar a (o++p):=by simp[ar]
def Hk:(ar a o).reverse=ar a o.reverse:=by simp[ar]
def Bw :#[a x]=ar a [x]:=by simp[ar]
def bE:(xs.toList.take<|i+k).drop i=(xs.toList.drop i).take k:=by simp_all[List.drop_take]
def R7:(xs.toList.take xs.size).drop i=xs.toList.drop i:=by rw[UH ()]
def fY:ar a o++(xs.map a).extract i xs.size++(ys.map a).extract j ys.size=ar a (o++xs.toList.drop i++ys.toList.drop j):=by
 simp_all[Bu,R7,Bv]
theorem XZ(h:xs.toList.Pairwise R)(b:i<j)(a:j<xs.size):R (gx xs i) (gx xs j):=by
 let:=V2.mp h i j (by simp;lia) (by simpa using a) b;unfold gx;rw[UE (),UE a];simpa using this
def DK (h:x∈(xs.toList.drop i).take k):∃j,j<k/\i+j<xs.size/\x=gx xs (i+j):=by
 let(j,a,e):=Ju.mp h;rw[Uu,List.length_drop]at a;let b:i+j<xs.size:=by grind
 refine(j,(),b,?_)
 simp_all[gx]
end
structure SEq(s t:SortSt):4 where
 arr:arrOf t=arrOf s
 kd:kindOf t=kindOf s
 fl:failedOf t=failedOf s
 pd:pendingOf t=pendingOf s
theorem SEq.refl(s):SEq s s:=(9,9,9,9)
theorem SEq.trans (h:SEq s t)(k:SEq t u):SEq s u:=(k.arr.trans h.arr,k.kd.trans h.kd,k.fl.trans h.fl,k.pd.trans h.pd)
section
variable     (W:Wk lt)
include W
theorem Hl (c:a.toList.Pairwise (jV lt)) (e:b+n<=a.size):∀i j,i<j->j<n->be lt 7 (gx a<|b+j) k=6->be lt 7 (gx a<|b+i) k=6:=λi j f g h=>by
 let h:(not<|lt k<|gx a<|b+j)=6:=h;show(not<|lt k<|gx a<|b+i)=6
 induction q:lt k (gx a<|b+i)with
 |false=>rfl
 |true=>
  rcases W.neg _ (gx a<|b+j) _ q with z|z
  .ext
  grind[jV.no,XZ]
theorem Hm (c:a.toList.Pairwise (jV lt)) (e:b+n<=a.size):∀i j,i<j->j<n->be lt 6 (gx a<|b+j) k=6->be lt 6 (gx a<|b+i) k=6:=λi j f g h=>by
 rcases W.neg _ (gx a<|b+i) _ h with z|z
 .grind[jV.no,XZ]
 .exact z
theorem MInv.galA(s:∀x∈f.toList,∀y∈e.toList,x<y)(F:e.toList.Pairwise (jV lt))(M:MInv lt f e n p o)(u:p<e.size)(h:∀i,i<m->be lt 7 (gx f<|n+i) (gx e p)=6):MInv lt f e (n+m) p (o++(f.toList.drop n).take m):=by
 calc M.addA λc v y z=>?_;let(-j,B,E,rfl):=DK v;let(-l,G,H,rfl):=Hi z;let q:(not<|lt (gx e p)<|gx f<|n+j)=6:=h j B;let q:lt (gx e p) (gx f<|n+j)=7:=by simpa using q
 let r:jV lt (gx f<|n+j) (gx e p):=.inr (q,s _ (QQ E) _<|QQ u)
 grind[jV.trans,XZ]
theorem MInv.galB(v:e.toList.Pairwise (jV lt))(M:MInv lt e f n p o)(x:n<e.size)(h:∀i,i<m->be lt 6 (gx f<|p+i) (gx e n)=6):MInv lt e f n (p+m) (o++(f.toList.drop p).take m):=by
 calc M.addB λc q y s=>?_;let(-j,u,z,rfl):=DK q;let(-l,B,E,rfl):=Hi s;let r:jV lt (gx f<|p+j) (gx e n):=.inl<|h j u
 grind[jV.trans,XZ]
end
section
variable       {it:Nat->Keyed}{lt:Yc}  {st:SortSt}
structure MH(lt:Yc)(N:5)(xs ys:Yg):4 where
 W:Wk lt
 xn:∀x∈xs.toList,x<N
 yn:∀y∈ys.toList,y<N
 hxy:∀x∈xs.toList,∀y∈ys.toList,x<y
 px:xs.toList.Pairwise (jV lt)
 py:ys.toList.Pairwise (jV lt)
abbrev G7(α β γ:Type):=Option KA × α × β × γ × 5×5×5
abbrev G6(α β γ:Type):=Option KA × α × β × γ × 5×5
abbrev G5(α β γ:Type):=Option KA × α × β × γ × 5
def Bx:5->SM PUnit:=sortPriv%PySem.Builtin.setMinGallop
def DM   (e:SEq a st)(h:∀b,SEq a b->Q ⟨⟩ b):YG c w A E s (Bx m) Q st:=wpS_modify<|h _<|e.trans (9,9,9,9)
section
variable {α β γ: Type}(n:Nat)(f:Nat -> α -> β -> γ -> Nat->Nat->SM (ForInStep (G6 α β γ)))(k:α -> β -> γ -> Nat->Nat->Nat->SM (ForInStep (G7 α β γ)))
noncomputable def mC(c:G7 α β γ):SM (ForInStep<|G5 α β γ):=match c.1 with
 |some r=>pure (.done %[!r,c.2.1,c.2.2.1,c.2.2.2.1|c.2.2.2.2.1])
 |none=>Bx (c.2.2.2.2.1+1)>>=λ_=>pure<|.yield %[8,c.2.1,c.2.2.1,c.2.2.2.1|c.2.2.2.2.1+1]
noncomputable def m2(x:α)(y:β)(z:γ)(a b c:5):SM (ForInStep<|G7 α β γ):=if a>1 then k x y z b c (a-1)else k x y z b c a
noncomputable def mB(a:5)(c:G6 α β γ):SM (ForInStep<|G5 α β γ):=match c.1 with
 |some r=>pure (.done %[!r,c.2.1,c.2.2.1,c.2.2.2.1|a])
 |none=>(liftM (rule "list.sort.gallop"):SM PUnit)>>=λ_=>(forIn [:n] (%[8,c.2.1,c.2.2.1,c.2.2.2.1,a+1,c.2.2.2.2.1|c.2.2.2.2.2]:G7 α β γ) λ_ c=>m2 k c.2.1 c.2.2.1 c.2.2.2.1 c.2.2.2.2.1 c.2.2.2.2.2.1 c.2.2.2.2.2.2)>>=mC
noncomputable def mA(c:G5 α β γ):SM (ForInStep<|G5 α β γ):=
 (forIn [:n] (%[8,c.2.1,c.2.2.1,c.2.2.2.1,0|0]:G6 α β γ) λ_ d=>f c.2.2.2.2 d.2.1 d.2.2.1 d.2.2.2.1 d.2.2.2.2.1 d.2.2.2.2.2)>>=mB n k c.2.2.2.2
noncomputable def mT(x:α)(y:β)(z:γ):SM KA:=get>>=λs=>(forIn [:n] (%[8,x,y,z|gallopOf s]:G5 α β γ) λ_ c=>mA n f k c)>>=λc=>match c.1 with
 |some r=>pure r
 |none=>liftM (unsupported "internal:list.sort.merge-bound")
variable {n f k}{P:Nat -> α -> β -> γ -> Prop}
structure MR(P:α->β->γ->4)(D:KA->4)(st0:SortSt)(R:ForInStep (G7 α β γ)->Yy):4 where
 dn:∀{v t sy},SEq st0 sy->D v->R (.done %[!v|t]) sy
 go:∀{x y z mg ac bc sy},SEq st0 sy->P x y z->R (.done %[8,x,y,z,mg,ac|bc]) sy/\R (.yield %[8,x,y,z,mg,ac|bc]) sy
def oE     (h:∀b,YG a w A E s (k x y z c e b) R st):YG a w A E s (m2 k x y z b c e) R st:=wi (λ_=>h _) λ_=>h _
def dc    (C:kindOf st=q)(F:P 1 x y z)(u:∀{g x y z},P g x y z->1<=n/\g<=n)(le:∀{g B x y z},P g x y z->B<=g->P B x y z)
 (G:∀{g r x y z m o st}{R:ForInStep (G6 α β γ)->Yy},kindOf st=q->P g x y z->(∀{v t},D v->R (.done %[!v|t]) st)->(∀{x y z m o},P (g+1) x y z->R (.done %[8,x,y,z,m|o]) st/\R (.yield %[8,x,y,z,m|o]) st)->YG j w A E s (f r x y z m o) R st)
 (H:∀{g x y z m o r i R},MR (P g) D st R->SEq st i->P g x y z->YG j w A E s (k x y z m o r) R i)
 (h:∀{v i},SEq st i->D v->Q v i):YG j w A E s (mT n f k x y z) Q st:=by
 refine Yl<|wpS_get<|Yl<|Yn (Yo (I:=λg c l=>SEq st l/\c.1=8/\P (g+1) c.2.1 c.2.2.1 c.2.2.2.1) (Q:=λc l=>SEq st l/\∃v,D v/\c.1=!v) ?_ ?_ (.refl _,9,F)) ?_
 .intro g c l _ _;calc jA λa _ p=>?_;refine Yl<|Yn (Yo (I:=λy c b=>b=l/\c.1=8/\P (g+1+y) c.2.1 c.2.2.1 c.2.2.2.1) (Q:=λc b=>b=l/\((∃v,D v/\c.1=!v)\/c.1=8/\P (g+2) c.2.1 c.2.2.1 c.2.2.2.1)) ?_ ?_ (9,9,p)) ?_
  .rintro y c b _ _ ⟨rfl,_,p⟩;exact G (a.kd.trans C) p (λd=>(9,.inl (_,d,9))) λp=>((9,.inr (9,le p ())),9,9,p)
  .rintro c b ⟨rfl,e,p⟩;exact(9,.inr (e,le p<|by let:=(u p).1;lia))
  .rintro c b ⟨rfl,⟨v,d,e⟩|⟨e,p⟩⟩
   .unfold mB;rw[e];exact Ym (a,v,d,9)
   .unfold mB;rw[e];calc Yl<|wpS_lift<|wpAny_rule (9,?_);refine Yl<|Yn (Yo (I:=λ_ c b=>SEq st b/\c.1=8/\P (g+2) c.2.1 c.2.2.1 c.2.2.2.1) (Q:=λc b=>SEq st b/\((∃v,D v/\c.1=!v)\/c.1=8/\P (g+2) c.2.1 c.2.2.1 c.2.2.2.1)) ?_ (λc b h=>(h.1,.inr h.2)) (a,9,p)) ?_
    .intro y c b _ _;calc jA λa _ p=>?_;exact oE λ_=>H (λa d=>(a,.inl (_,d,9)),λa p=>((a,.inr (9,p)),a,9,p)) a p
    .rintro c b ⟨a,⟨v,d,e⟩|⟨e,p⟩⟩
     .unfold mC;rw[e];exact Ym (a,v,d,9)
     .unfold mC;rw[e];exact Yl<|DM a λb a=>Ym (a,9,p)
 .rintro c l ⟨_,_,p⟩;let:=(u p).2;lia
 .rintro c l ⟨a,v,d,e⟩;rw[e];exact Ym<|h a d
end
theorem sz{a:Yg}:(a.map it).size=a.size:=Us
def bz{a:Yg} (h:(p==(a.map it).size)=6):p=a.size:=(Yp.mp h).trans sz
def nz{a:Yg} (h:¬(p==(a.map it).size)=6):p≠a.size:=()
def u5{v:KA}  (e:v=ar it o):v.push (it x)=ar it (o++[x]):=by rw[e,Hj]
def vi{a:Yg}{v:KA}  (e:v=ar it o):v++(a.map it).extract i (i+k)=ar it (o++(a.toList.drop i).take k):=by rw[e,Bu,bE,Bv]
def MD(lt:Yc)(it:5->Keyed)(a b:Yg)(v:KA):4:=∃o,wR lt a b o/\v=ar it o
abbrev L7:=G7 KA 5 5
def vA(a b o:KA)(i j:5):KA:=o++a.extract i a.size++b.extract j b.size
def ki(a b o:KA)(i j:5):KA:=o++b.extract j b.size++a.extract i a.size
noncomputable def rZ(a b:KA)(f c e i:5)(o:KA)(j:5):SM (ForInStep L7):=
 elem' a i>>=λx=>if(i+1+1==a.size)=6 then pure (.done %[! ki a b (o.push x) (i+1) j,o.push x,i+1,j,f,c|e])
  else if(decide (c<07)&&decide (e<07))=6 then pure (.done %[8,o.push x,i+1,j,f,c|e])else pure (.yield %[8,o.push x,i+1,j,f,c|e])
noncomputable def de(a b:KA)(c e i:5)(o:KA)(j k:5):SM (ForInStep L7):=
 if k>0 then if(j+k==b.size)=6 then pure (.done %[!(vA a b (o++b.extract j (j+k)) i<|j+k),o++b.extract j (j+k),i,j+k,c,e|k])
  else rZ a b c e k i (o++b.extract j (j+k)) (j+k)else rZ a b c e k i o j
noncomputable def sf(a b:KA)(c e f j:5)(o:KA)(i:5):SM (ForInStep L7):=
 elem' b j>>=λx=>if(j+1==b.size)=6 then pure (.done %[!(vA a b (o.push x) i<|j+1),o.push x,i,j+1,c,e|f])
  else elem' a i>>=λy=>WY 6 y b (j+1) (b.size-(j+1)) 0>>=λr=>match r with
   |some k=>de a b c e i (o.push x) (j+1) k
   |_=>pure (.done %[!(vA a b (o.push x) i<|j+1),o.push x,i,j+1,c,e|f])
noncomputable def oF(a b:KA)(c j:5)(o:KA)(i e k:5):SM (ForInStep L7):=
 if k>0 then if(i+k+1==a.size)=6 then pure (.done %[! ki a b (o++a.extract i (i+k)) (i+k) j,o++a.extract i (i+k),i+k,j,e,k|c])
  else if(i+k==a.size)=6 then pure (.done %[! vA a b (o++a.extract i (i+k)) (i+k) j,o++a.extract i (i+k),i+k,j,e,k|c])
  else sf a b e k c j (o++a.extract i (i+k)) (i+k)else sf a b e k c j o i
noncomputable def df(a b o:KA)(i j f e c:5):SM (ForInStep L7):=
 Bx c>>=λ_=>elem' b j>>=λx=>WY 7 x a i (a.size-i) 0>>=λr=>match r with
  |some k=>oF a b e j o i c k
  |_=>pure (.done %[! vA a b o i j,o,i,j,c,f|e])
noncomputable def vB(a b:KA)(f:5)(o:KA)(i j c e:5):SM (ForInStep<|G6 KA 5 5):=
 elem' b j>>=λx=>elem' a i>>=λy=>lt' x y>>=λr=>match r with
  |some t=>if t=6 then elem' b j>>=λx=>if(j+1==b.size)=6 then pure (.done %[!(vA a b (o.push x) i<|j+1),o.push x,i,j+1,0|e+1])
   else if e+1 ≥ f then pure (.done %[8,o.push x,i,j+1,0|e+1])else pure (.yield %[8,o.push x,i,j+1,0|e+1])
   else elem' a i>>=λx=>if(i+1+1==a.size)=6 then pure (.done %[! ki a b (o.push x) (i+1) j,o.push x,i+1,j,c+1|0])
    else if c+1 ≥ f then pure (.done %[8,o.push x,i+1,j,c+1|0])else pure (.yield %[8,o.push x,i+1,j,c+1|0])
  |_=>pure (.done %[! vA a b o i j,o,i,j,c|e])
set_option smartUnfolding false in
noncomputable def gV{a b:KA}:DI a b=(liftM (rule "list.sort.merge-lo"):SM PUnit)>>=λ_=>elem' b 0>>=λx=>if(1==b.size)=6 then pure (vA a b #[x] 0 1)else if(0+1==a.size)=6 then pure (ki a b #[x] 0 1)
 else mT (a.size+b.size) (vB a b) (df a b) #[x] 0 1:=rfl
end
structure LI(lt:Yc)(xs ys:Yg)(g i j:5)(o:Yh):4 where
 M:MInv lt xs ys i j o
 a:i+1<xs.size
 b:j<ys.size
 g:g<=i+j
def LP(lt:Yc)(a:5->Keyed)(b c:Yg)(g:5)(v:KA)(i j:5):4:=∃o,LI lt b c g i j o/\v=ar a o
section
variable          {st st0:SortSt}{xs ys:Yg}   {v:KA}{R:ForInStep L7->Yy}
def ZR(e:v=ar a o):vA (xs.map a) (ys.map a) v i j=ar a (o++xs.toList.drop i++ys.toList.drop j):=by
 unfold vA;rw[sz,sz,e,fY]
def Bz(e:v=ar a o):ki (xs.map a) (ys.map a) v i j=ar a (o++ys.toList.drop j++xs.toList.drop i):=by
 unfold ki;rw[sz,sz,e,fY]
variable (lst:∀y∈ys.toList,jV lt y (gx xs (xs.size-1)))
include lst
theorem mz(M:MInv lt xs ys i j o)(z:i+1=xs.size):wR lt xs ys (o++ys.toList.drop j++xs.toList.drop i):=M.last z ()
variable (H:MH lt N xs ys)(L:LI lt xs ys g i j o)(e:v=ar it o)
include H L e
section
variable (C:MR (LP lt it xs ys g) (MD lt it xs ys) st0 R)(se:SEq st0 st)
include C se
theorem gW(q:lt (gx ys j) (gx xs i)=7):YG b w A E s (rZ (xs.map it) (ys.map it) mg ac bc i v j) R st:=by
 let a:=UX L.a;calc Yl<|Q5 a ?_;let M2:=L.M.two H.W H.hxy L.b a q;calc wi (λz=>Ym<|C.dn se (_,mz lst M2<|bz z,Bz<|u5 e)) λz=>?_;let c:=C.go (mg:=mg) (ac:=ac) (bc:=bc) se (_,(M2,UJ L.a<|nz z,L.b,by let:=L.g;lia),u5 e);exact wi (λ_=>Ym c.1) λ_=>Ym c.2
theorem rW(h:j+k<=ys.size)(l:∀m,m<k->be lt 6 (gx ys<|j+m) (gx xs i)=6)(q:j+k<ys.size->lt (gx ys<|j+k) (gx xs i)=7):YG a w A E s (de (xs.map it) (ys.map it) p r i v j k) R st:=by
 refine wi (λc=>?_) λc=>?_
 .let f:=L.M.galB H.W H.px (UX L.a) l;calc wi (λz=>Ym<|C.dn se (_,f.doneA<|Yu (bz z).symm,ZR<|vi e)) λz=>?_;let b:=UJ h<|nz z;exact gW lst H (f,L.a,b,by let:=L.g;lia) (vi e) C se<|q b
 .let n:=VP c;subst n;exact gW lst H L e C se<|q L.b
variable (O:zi prog w A s kind it lt N)(kd:kindOf st0=kind)
include O kd
theorem gX(q:lt (gx ys j) (gx xs i)=6):YG prog w A E s (sf (xs.map it) (ys.map it) l m n j v i) R st:=by
 let a:=UX L.a;calc Yl<|Q5 L.b ?_;let c:=L.M.one H.W L.b a q;calc wi (λz=>Ym<|C.dn se (_,c.doneA<|Yu (bz z).symm,ZR<|u5 e)) λz=>?_;let b:j+1<ys.size:=UJ L.b<|nz z;let z:(ys.map it).size=ys.size:=sz;calc Yl<|Q5 a<|Yl<|XX O (se.kd.trans kd) (H.xn _<|QQ a) () (λi p=>H.yn _<|QQ ()) () (Hm H.W H.py ()) λk r f h=>?_;exact rW lst H (c,L.a,b,by let:=L.g;lia) (u5 e) C se () f λy=>h k (Zf _) ()
theorem rX:YG prog w A E s (df (xs.map it) (ys.map it) v i j n p r) R st:=by
 let a:=L.a;let z:(xs.map it).size=xs.size:=sz;calc Yl<|DM se λst se=>Yl<|Q5 L.b<|Yl<|XX O (se.kd.trans kd) (H.yn _<|QQ L.b) () (λi t=>H.xn _<|QQ ()) () (Hl H.W H.px ()) λk u h l=>?_;let q:i+k<xs.size->lt (gx ys j) (gx xs<|i+k)=6:=λx=>by
  let:(not<|lt (gx ys j)<|gx xs<|i+k)=7:=l k (Zf _) ();simpa using this
 refine wi (λb=>?_) λb=>?_
 .let M2:=L.M.galA H.W H.hxy H.py L.b h;calc wi (λz=>Ym<|C.dn se (_,mz lst M2<|bz z,Bz<|vi e)) λc=>wi (λz=>Ym<|C.dn se (_,M2.doneB<|Yu (bz z).symm,ZR<|vi e)) λf=>?_;let c:=nz c;let f:=nz f;exact gX lst H (M2,(),L.b,by let:=L.g;lia) (vi e) C se O kd<|q ()
 .let m:k=0:=VP b;subst m;exact gX lst H L e C se O kd<|q<|UX a
end
theorem rY{R:ForInStep (G6 KA 5 5)->Yy}(O:zi b w A s c it lt N)(l:kindOf st=c)(h:∀{v t},MD lt it xs ys v->R (.done %[!v|t]) st)(go:∀{v i j ac bc},LP lt it xs ys (g+1) v i j->R (.done %[8,v,i,j,ac|bc]) st/\R (.yield %[8,v,i,j,ac|bc]) st):
 YG b w A E s (vB (xs.map it) (ys.map it) m v i j ac bc) R st:=by
 let a:=UX L.a;refine Yl<|Q5 L.b<|Yl<|Q5 a<|Yl<|ZQ O l (H.yn _<|QQ L.b) (H.xn _<|QQ a)<|wi (λq=>Yl<|Q5 L.b ?_) λq=>Yl<|Q5 a ?_
 .let M2:=L.M.one H.W L.b a q;calc wi (λz=>Ym<|h (_,M2.doneA (),ZR<|u5 e)) λz=>?_;let f:=go (ac:=0) (bc:=bc+1) (_,(M2,L.a,UJ L.b<|nz z,VC L.g),u5 e);exact wi (λ_=>Ym f.1) λ_=>Ym f.2
 .let M2:=L.M.two H.W H.hxy L.b a ();calc wi (λz=>Ym<|h (_,mz lst M2<|bz z,Bz<|u5 e)) λz=>?_;let f:=go (ac:=ac+1) (bc:=0) (_,(M2,UJ L.a<|nz z,L.b,by let:=L.g;lia),u5 e);exact wi (λ_=>Ym f.1) λ_=>Ym f.2
end
section
variable          {st:SortSt}
def R8 (H:MH lt N b a)(O:zi f w A s g c lt N)(j:kindOf st=g)(t:1<=b.size)(p:1<=a.size)(l:lt (gx a 0) (gx b 0)=6)(lst:∀y∈a.toList,jV lt y (gx b<|b.size-1))
 (h:∀o i,SEq st i->wR lt b a o->Q (ar c o) i):YG f w A E s (DI (b.map c)<|a.map c) Q st:=by
 let M1:MInv lt b a 0 1 [gx a 0]:=MInv.one (o:=[]) (ia:=0) (ib:=0) H.W (H.px,H.py,VD _) p t l;rw[gV];calc Yl<|wpS_lift<|wpAny_rule (9,Yl<|Q5 p ?_);refine wi (λz=>?_) λq=>wi (λz=>?_) λr=>?_
 .rw[ZR Bw];exact Ym<|h _ _ (.refl _)<|M1.doneA<|Yu (bz z).symm
 .rw[Bz Bw];exact Ym<|h _ _ (.refl _)<|mz lst M1<|bz z
 let q:=nz q;let r:=nz r;let u:LI lt b a 1 0 1 [gx a 0]:=(M1,(),(),());let x:(b.map c).size=b.size:=sz;let B:(a.map c).size=a.size:=sz;exact dc (P:=LP lt c b a) (D:=MD lt c b a) j (_,u,Bw) λv=>by
  let(-_,L,_):=v;let:=L.a;let:=L.b;let:=L.g;lia (λ(o,L,e)h=>(o,(L.M,L.a,L.b,Zh h L.g),e)) (λj(_,L,e)dn go=>rY lst H L e O j dn go) (λC n(_,L,e)=>rX lst H L e C n O j) λn(o,m,e)=>by rw[e];exact h o _ n m
end
structure MInvH(lt:Yc)(xs ys:Yg)(na nb:5)(o:Yh):4 where
 a:(xs.toList.take na++o).Pairwise (jV lt)
 b:(ys.toList.take nb++o).Pairwise (jV lt)
 pm:(xs.toList.take na++ys.toList.take nb++o).Perm (xs.toList++ys.toList)
section
variable   {xs ys:Yg}
def R9 :(ar a o.reverse).push (a x)=ar a (x::o).reverse:=by rw[Hj,List.reverse_cons]
def RA :ar a o.reverse++(ar a p).reverse=ar a (p++o).reverse:=by rw[Hk,Bv,List.reverse_append]
def s0:(xs.map a).extract 0 i++(ys.map a).extract 0 j++(ar a o.reverse).reverse=ar a (xs.toList.take i++ys.toList.take j++o):=by
 simp_all[Bu,Hk,Bv]
def Hn(h:i<=j):xs.toList.take j=xs.toList.take i++(xs.toList.take j).drop i:=by
 grind[List.take_append_drop]
def DN (h:x∈(xs.toList.take j).drop i):∃l,i<=l/\l<j/\l<xs.size/\x=gx xs l:=by
 let(m,a,e):=Ju.mp h;rw[List.length_drop,Uu]at a;let b:i+m<xs.size:=by grind
 refine(i+m,(),(),b,?_)
 simp_all[gx]
def DO(h:j<=xs.size)(a:1<=j):(xs.toList.take j).drop (j-1)=[gx xs (j-1)]:=by
 grind[List.drop_take,XY]
def Ho (h:x∈xs.toList.take j):∃l,l<j/\l<xs.size/\x=gx xs l:=qS (DN (i:=0) ()) λl=>qW λ_ a b c=>(l,a,b,c)
end
section
def MInvH.addA(M:MInvH lt f l i n o)(q:m<=i)(r:∀c∈(f.toList.take i).drop m,∀y∈l.toList.take n,jV lt y c):MInvH lt f l m n ((f.toList.take i).drop m++o):=by
 let e:=M.a;let j:=M.b;let s:=M.pm;rw[Hn q]at e s;rw[Ug]at e;refine(e,?_,?_)
 .rw[VO]at e j ⊢;calc(j.1,e.2.1,λy p x u=>?_);rcases Jc.mp u with z|z
  .exact r x z y p
  .exact j.2.2 y p x z
 grind
def MInvH.addB(M:MInvH lt l f n i o)(q:m<=i)(r:∀c∈(f.toList.take i).drop m,∀x∈l.toList.take n,jV lt x c):MInvH lt l f n m ((f.toList.take i).drop m++o):=by
 let j:=M.a;let e:=M.b;let s:=M.pm;rw[Hn q]at e s;rw[Ug]at e;refine(?_,e,?_)
 .rw[VO]at j e ⊢;calc(j.1,e.2.1,λy p x u=>?_);rcases Jc.mp u with z|z
  .exact r x z y p
  .exact j.2.2 y p x z
 ext
def MInvH.doneA(M:MInvH lt c e f i o)(h:f=0):wR lt c e (c.toList.take f++e.toList.take i++o):=by
 calc(M.pm,?_);rw[h,List.take_zero,List.nil_append];exact M.b
def MInvH.doneB(M:MInvH lt c e i f o)(h:f=0):wR lt c e (c.toList.take i++e.toList.take f++o):=by
 calc(M.pm,?_);rw[h,List.take_zero,ZA];exact M.a
def MInvH.first(M:MInvH lt f c j i o)(h:i=1)(l:1<=c.size)(n:∀x∈f.toList,jV lt (gx c 0) x):wR lt f c (c.toList.take i++f.toList.take j++o):=by
 let p:=M.a;let q:=M.b;let e:c.toList.take 1=[gx c 0]:=by
  let:=DO l<|Zf _
  ext
 refine(VB () M.pm,?_)
 grind
variable (W:Wk lt)
include W
theorem MInvH.galA(z:e.toList.Pairwise (jV lt))(M:MInvH lt n e p f o)(q:m<=p)(B:1<=f)(E:f<=e.size)(h:∀i,m<=i->i<p->lt (gx e<|f-1) (gx n i)=6):MInvH lt n e m f ((n.toList.take p).drop m++o):=by
 calc M.addA q λc s y u=>?_;let(-j,v,x,F,rfl):=DN s;let(-l,G,H,rfl):=Ho u;let r:jV lt (gx e<|f-1) (gx n j):=.inl<|h j v x
 grind[jV.trans,XZ]
theorem MInvH.galB(p:∀x∈e.toList,∀y∈f.toList,x<y)(F:e.toList.Pairwise (jV lt))(M:MInvH lt e f n q o)(s:m<=q)(G:1<=n)(H:n<=e.size)(h:∀i,m<=i->i<q->lt (gx f i) (gx e<|n-1)=7):MInvH lt e f n m ((f.toList.take q).drop m++o):=by
 calc M.addB s λc u x v=>?_;let(-j,z,B,E,rfl):=DN u;let(-l,I,J,rfl):=Ho v;let r:jV lt (gx e<|n-1) (gx f j):=.inr (h j z B,p _ (QQ ()) _<|QQ E)
 grind[jV.trans,XZ]
theorem MInvH.one(f:c.toList.Pairwise (jV lt))(M:MInvH lt e c na nb o)(i:1<=na)(j:na<=e.size)(l:1<=nb)(n:nb<=c.size)(q:lt (gx c<|nb-1) (gx e<|na-1)=6):MInvH lt e c (na-1) nb (gx e (na-1)::o):=by
 let:=M.galA (m:=na-1) W f () l n ()
 rwa[DO j i]at this
theorem MInvH.two(j:∀x∈e.toList,∀y∈f.toList,x<y)(l:e.toList.Pairwise (jV lt))(M:MInvH lt e f i c o)(n:1<=i)(p:i<=e.size)(r:1<=c)(s:c<=f.size)(q:lt (gx f<|c-1) (gx e<|i-1)=7):MInvH lt e f i (c-1) (gx f (c-1)::o):=by
 let:=M.galB (m:=c-1) W j l () n p ()
 rwa[DO s r]at this
end
abbrev H7:=G7 5 5 KA
def wf(a b:KA)(i j:5)(o:KA):KA:=a.extract 0 i++b.extract 0 j++o.reverse
noncomputable def su(a b:KA)(f c e i j:5)(o:KA):SM (ForInStep H7):=
 elem' a (i-1)>>=λx=>if(i-1==0)=6 then pure (.done %[!(wf a b (i-1) j<|o.push x),i-1,j,o.push x,f,c|e])
  else if(decide (c<07)&&decide (e<07))=6 then pure (.done %[8,i-1,j,o.push x,f,c|e])else pure (.yield %[8,i-1,j,o.push x,f,c|e])
noncomputable def dg(a b:KA)(c e i j:5)(o:KA)(t:5):SM (ForInStep H7):=
 if j-t>0 then if(t==1)=6 then pure (.done %[!(wf b a t i<|o++(b.extract t j).reverse),i,t,o++(b.extract t j).reverse,c,e|j-t])
  else if(t==0)=6 then pure (.done %[!(wf a b i t<|o++(b.extract t j).reverse),i,t,o++(b.extract t j).reverse,c,e|j-t])
  else su a b c e (j-t) i t (o++(b.extract t j).reverse)else su a b c e (j-t) i j o
noncomputable def sv(a b:KA)(c e f j i:5)(o:KA):SM (ForInStep H7):=
 elem' b (j-1)>>=λx=>if(j-1==1)=6 then pure (.done %[!(wf b a (j-1) i<|o.push x),i,j-1,o.push x,c,e|f])
  else elem' a (i-1)>>=λy=>WY 6 y b 0 (j-1) (j-1-1)>>=λr=>match r with
   |some t=>dg a b c e i (j-1) (o.push x) t
   |_=>pure (.done %[!(wf a b i (j-1)<|o.push x),i,j-1,o.push x,c,e|f])
noncomputable def oH(a b:KA)(c j i:5)(o:KA)(e t:5):SM (ForInStep H7):=
 if i-t>0 then if(t==0)=6 then pure (.done %[!(wf a b t j<|o++(a.extract t i).reverse),t,j,o++(a.extract t i).reverse,e,i-t|c])
  else sv a b e (i-t) c j t (o++(a.extract t i).reverse)else sv a b e (i-t) c j i o
noncomputable def dh(a b:KA)(i j:5)(o:KA)(f e c:5):SM (ForInStep H7):=
 Bx c>>=λ_=>elem' b (j-1)>>=λx=>WY 7 x a 0 i (i-1)>>=λr=>match r with
  |some t=>oH a b e j i o c t
  |_=>pure (.done %[! wf a b i j o,i,j,o,c,f|e])
noncomputable def di(a b:KA)(f i j:5)(o:KA)(c e:5):SM (ForInStep<|G6 5 5 KA):=
 elem' b (j-1)>>=λx=>elem' a (i-1)>>=λy=>lt' x y>>=λr=>match r with
  |some t=>if t=6 then elem' a (i-1)>>=λx=>if(i-1==0)=6 then pure (.done %[!(wf a b (i-1) j<|o.push x),i-1,j,o.push x,c+1|0])
   else if c+1 ≥ f then pure (.done %[8,i-1,j,o.push x,c+1|0])else pure (.yield %[8,i-1,j,o.push x,c+1|0])
   else elem' b (j-1)>>=λx=>if(j-1==1)=6 then pure (.done %[!(wf b a (j-1) i<|o.push x),i,j-1,o.push x,0|e+1])
    else if e+1 ≥ f then pure (.done %[8,i,j-1,o.push x,0|e+1])else pure (.yield %[8,i,j-1,o.push x,0|e+1])
  |_=>pure (.done %[! wf a b i j o,i,j,o,c|e])
set_option smartUnfolding false in
noncomputable def fz{a b:KA}:DJ a b=(liftM (rule "list.sort.merge-hi"):SM PUnit)>>=λ_=>elem' a (a.size-1)>>=λx=>if(a.size-1==0)=6 then pure (wf a b (a.size-1) b.size #[x])else if(b.size==1)=6 then pure (wf b a b.size (a.size-1) #[x])
 else mT (a.size+b.size) (di a b) (dh a b) (a.size-1) b.size #[x]:=rfl
structure HI(lt:Yc)(xs ys:Yg)(g i j:5)(o:Yh):4 where
 M:MInvH lt xs ys i j o
 a:1<=i
 b:2<=j
 ax:i<=xs.size
 bx:j<=ys.size
 g:g+i+j<=xs.size+ys.size
def HL(lt:Yc)(a:5->Keyed)(b c:Yg)(g i j:5)(v:KA):4:=∃o,HI lt b c g i j o/\v=ar a o.reverse
section
variable          {st st0:SortSt}{xs ys:Yg}   {v:KA}{R:ForInStep H7->Yy}
def W4(e:v=ar a o.reverse):wf (xs.map a) (ys.map a) i j v=ar a (xs.toList.take i++ys.toList.take j++o):=by
 unfold wf;rw[e,s0]
def zE (e:v=ar a o.reverse):v.push (a x)=ar a (x::o).reverse:=by rw[e,R9]
def vj(e:v=ar a o.reverse):v++((xs.map a).extract t i).reverse=ar a ((xs.toList.take i).drop t++o).reverse:=by rw[e,Bu,RA]
variable (fst:∀x∈xs.toList,jV lt (gx ys 0) x)(H:MH lt N xs ys)(L:HI lt xs ys g i j o)(e:v=ar it o.reverse)
include fst H L e
section
variable (C:MR (HL lt it xs ys g) (MD lt it xs ys) st0 R)(se:SEq st0 st)
include C se
theorem f5(q:lt (gx ys<|j-1) (gx xs<|i-1)=6):YG b w A E s (su (xs.map it) (ys.map it) mg ac bc i j v) R st:=by
 let a:=L.a;let c:=L.ax;calc Yl<|Q5 () ?_;let M2:=L.M.one H.W H.py a c (UD L.b) L.bx q;calc wi (λz=>Ym<|C.dn se (_,M2.doneA<|Yp.mp z,W4<|zE e)) λz=>?_;let f:=C.go (mg:=mg) (ac:=ac) (bc:=bc) se (_,(M2,VQ λy=>z<|Yp.mpr y,L.b,(),L.bx,by let:=L.g;lia),zE e);exact wi (λ_=>Ym f.1) λ_=>Ym f.2
theorem so(f:t<=j)(r:∀m,t<=m->m<j->lt (gx ys m) (gx xs<|i-1)=7)(q:1<=t->lt (gx ys<|t-1) (gx xs<|i-1)=6):YG h w A E s (dg (xs.map it) (ys.map it) F G i j v t) R st:=by
 let b:=L.b;let c:=L.bx;refine wi (λu=>?_) λu=>?_
 .let a:=L.M.galB H.W H.hxy H.px f L.a L.ax r;calc wi (λz=>Ym<|C.dn se (_,a.first (Yp.mp z) () fst,W4<|vj e)) λl=>wi (λz=>Ym<|C.dn se (_,a.doneB<|Yp.mp z,W4<|vj e)) λn=>?_;let p:2<=t:=by
   let l:t≠1:=λy=>l<|Yp.mpr y;let n:t≠0:=λy=>n<|Yp.mpr y;lia
  exact f5 fst H (a,L.a,p,L.ax,Zh f c,by let:=L.g;lia) (vj e) C se<|q<|UD p
 .let B:t=j:=()
  subst B;exact f5 fst H L e C se<|q<|UD b
variable (O:zi prog w A s kind it lt N)(kd:kindOf st0=kind)
include O kd
theorem f6(q:lt (gx ys<|j-1) (gx xs<|i-1)=7):YG prog w A E s (sv (xs.map it) (ys.map it) r u B j i v) R st:=by
 let a:=L.a;let b:=L.b;let c:=L.bx;let f:=L.ax;calc Yl<|Q5 () ?_;let h:=L.M.two H.W H.hxy H.px a f (UD b) c q;calc wi (λz=>Ym<|C.dn se (_,h.first (Yp.mp z) () fst,W4<|zE e)) λz=>?_;let z:j-1≠1:=λy=>z<|Yp.mpr y;let p:i-1<xs.size:=()
 calc Yl<|Q5 p<|Yl<|XX O (se.kd.trans kd) (H.xn _<|QQ p) () (λi F=>H.yn _<|QQ ()) () (Hm H.W H.py ()) λt n l m=>?_;simp at l m;exact so fst H (h,a,(),f,(),by let:=L.g;lia) (zE e) C se n m λy=>l (t-1)<|Nat.sub_lt y Yt
theorem sr:YG prog w A E s (dh (xs.map it) (ys.map it) i j v I J M) R st:=by
 let a:=L.a;let b:=L.b;let c:=L.bx;let n:=L.ax;let p:j-1<ys.size:=()
 calc Yl<|DM se λst se=>Yl<|Q5 p<|Yl<|XX O (se.kd.trans kd) (H.yn _<|QQ p) () (λi P=>H.xn _<|QQ ()) () (Hl H.W H.px ()) λt f h l=>?_;simp at h l;let q:=λr=>by
  let:(not<|lt (gx ys<|j-1)<|gx xs<|t-1)=6:=h (t-1)<|Nat.sub_lt r Yt;simpa using this
 refine wi (λu=>?_) λu=>?_
 .let M2:=L.M.galA H.W H.py f (UD b) c λi B F=>by
   let:(not<|lt (gx ys<|j-1)<|gx xs i)=7:=l i B F;simpa using this
  calc wi (λz=>Ym<|C.dn se (_,M2.doneA<|Yp.mp z,W4<|vj e)) λz=>?_;let m:=VQ λy=>z<|Yp.mpr y;exact f6 fst H (M2,m,b,Zh f n,c,by let:=L.g;lia) (vj e) C se O kd<|q m
 .let G:t=i:=()
  subst G;exact f6 fst H L e C se O kd<|q a
end
theorem ss{R:ForInStep (G6 5 5 KA)->Yy}(O:zi f w A s h it lt N)(u:kindOf st=h)(r:∀{v t},MD lt it xs ys v->R (.done %[!v|t]) st)(go:∀{i j v ac bc},HL lt it xs ys (g+1) i j v->R (.done %[8,i,j,v,ac|bc]) st/\R (.yield %[8,i,j,v,ac|bc]) st):
 YG f w A E s (di (xs.map it) (ys.map it) B i j v ac bc) R st:=by
 let a:=L.a;let b:=L.b;let c:=L.bx;let p:=L.ax;let C:=L.g;let m:i-1<xs.size:=()
 let n:j-1<ys.size:=()
 calc Yl<|Q5 n<|Yl<|Q5 m<|Yl<|ZQ O u (H.yn _<|QQ n) (H.xn _<|QQ m) ?_;refine wi (λq=>Yl<|Q5 m ?_) λq=>Yl<|Q5 n ?_
 .let M2:=L.M.one H.W H.py a p (UD b) c q;calc wi (λz=>Ym<|r (_,M2.doneA<|Yp.mp z,W4<|zE e)) λz=>?_;let l:=go (ac:=ac+1) (bc:=0) (_,(M2,VQ λy=>z<|Yp.mpr y,b,Zz m,c,()),zE e);exact wi (λ_=>Ym l.1) λ_=>Ym l.2
 .let M2:=L.M.two H.W H.hxy H.px a p (UD b) c<|Yr.mpr q;calc wi (λz=>Ym<|r (_,M2.first (Yp.mp z) (Zh (UD b) c) fst,W4<|zE e)) λz=>?_;let l:=go (ac:=0) (bc:=bc+1) (_,(M2,a,by let:j-1≠1:=λy=>z<|Yp.mpr y;lia,p,Zz n,()),zE e);exact wi (λ_=>Ym l.1) λ_=>Ym l.2
end
section
variable          {st:SortSt}
def RB (H:MH lt N a b)(O:zi g w A s i c lt N)(l:kindOf st=i)(r:1<=a.size)(t:1<=b.size)(f:∀x∈a.toList,jV lt (gx b 0) x)(lst:lt (gx b<|b.size-1) (gx a<|a.size-1)=6)
 (h:∀o j,SEq st j->wR lt a b o->Q (ar c o) j):YG g w A E s (DJ (a.map c)<|b.map c) Q st:=by
 let M1:MInvH lt a b (a.size-1) b.size [gx a (a.size-1)]:=by
  refine MInvH.one (o:=[]) (na:=a.size) (nb:=b.size) H.W H.py (?_,?_,?_) r (Zf _) t (Zf _) lst
  .rw[UH (),ZA];exact H.px
  .rw[UH (),ZA];exact H.py
  .rw[UH (),UH (),ZA]
 rw[fz,sz,sz];let p:a.size-1<a.size:=Nat.sub_lt r Yt;let n:#[c (gx a<|a.size-1)]=ar c [gx a (a.size-1)].reverse:=Bw;calc Yl<|wpS_lift<|wpAny_rule (9,Yl<|Q5 p ?_);refine wi (λz=>?_) λu=>wi (λz=>?_) λv=>?_
 .rw[W4 n];exact Ym<|h _ _ (.refl _)<|M1.doneA<|Yp.mp z
 .rw[W4 n];exact Ym<|h _ _ (.refl _)<|M1.first (Yp.mp z) t f
 let u:a.size-1≠0:=λy=>u<|Yp.mpr y;let v:b.size≠1:=λy=>v<|Yp.mpr y;let B:HI lt a b 1 (a.size-1) b.size [gx a (a.size-1)]:=(M1,(),(),(),(),());exact dc (P:=HL lt c a b) (D:=MD lt c a b) l (_,B,n) λF=>by
  let(-_,L,_):=F;let:=L.a;let:=L.b;let:=L.g;lia (λ(o,L,e)h=>(o,(L.M,L.a,L.b,L.ax,L.bx,by let:=L.g;lia),e)) (λl(_,L,e)dn go=>ss f H L e O l dn go) (λC q(_,L,e)=>sr f H L e C q O l) λq(o,m,e)=>by rw[e];exact h o _ q m
end
theorem Hq{α:Type}(k):∀l i(a:Array α),k+i+l.length<=a.size->((l.zipIdx i).foldl (λa(p:α × 5)=>a.setIfInBounds (k+p.2) p.1) a).toList=a.toList.take (k+i)++l++a.toList.drop (k+i+l.length)
 |[],i,a,h=>by simp
 |x::r,i,a,h=>by
  rw[Zu]at h;rw[List.zipIdx_cons,U8,Hq k r (i+1) _ (by rw[Array.size_setIfInBounds];lia),Array.toList_setIfInBounds,Zu];let b:(a.toList.set (k+i) x).take (k+(i+1))=a.toList.take (k+i)++[x]:=by
   rw[show k+(i+1)=k+i+1 by lia,UV,List.take_set_of_le (Zf _),U6 (by simp;lia)];rfl
  grind[List.append_assoc,List.drop_set_of_lt]
def Hr{α β:Type}(f:α->β)(a:Array α)(i j):(a.map f).extract i j=(a.extract i j).map f:=()
theorem ZS  (h:i+a<j)(c:j<=b.size):gx (b.extract i j) a=gx b (i+a):=by
 unfold gx;rw[V0,Zd ()]
section
variable         {st:SortSt}
def rq  (h:Q ⟨⟩ b):YG a w A E s (set b:StateT SortSt Sem PUnit) Q st:=Zb (9,h)
theorem WZ  (b:j<=a.size)(h:x∈(a.extract i j).toList):∃l,i<=l/\l<j/\x=gx a l:=by
 rw[Array.toList_extract,V1]at h;let(-l,c,e,f):=DK h
 grind
def Hs {R:5->5->4} (g:j<=ix.size)(h:∀a b,i<=a->a<b->b<j->R (gx ix a) (gx ix b)):(ix.extract i j).toList.Pairwise R:=by
 rw[V2];let e:∀c f,c<j-i->(ix.extract i j).toList[c]=gx ix (i+c):=λc f h=>by
  grind[gx,sz,ZS,Array.getElem?_eq_getElem]
 grind
def RC (W:Wk lt)(b:jV lt x y)(h:be lt 7 y k=6):be lt 7 x k=6:=by
 let h:(not<|lt k y)=6:=h;show(not<|lt k x)=6
 induction q:lt k x with
 |false=>rfl
 |true=>
  rcases W.neg _ y _ q with z|z
  .ext
  .rw[jV.no W b]at z;cases z
def RE (W:Wk lt)(b:jV lt x y)(h:be lt 6 y k=6):be lt 6 x k=6:=by
 rcases W.neg _ x _ h with z|z
 .rw[jV.no W b]at z;cases z
 .exact z
end
structure PlO(lo N:5)(bs ix:Yg)(k:5):4 where
 size:ix.size=N
 perm:ix.Perm (Array.range N)
 low:∀a,a<lo->gx ix a=gx bs a
 mid:∀a,lo<=a->a<k->lo<=gx ix a/\gx ix a<k
 suf:∀a,k<=a->a<N->gx ix a=a
def Ht  (p:b.Perm (Array.range N))(c:a<b.size):gx b a<N:=by
 let:=(Js.mp p).mem_iff.mp<|QQ c
 ext
section
variable {lo N k:Nat}
def PlO.all(h:PlO lo N bs c k) (e:a<N):gx c a<N:=Ht h.perm<|by rwa[h.size]
def PlO.succ(h:PlO lo N bs e k)(l:lo<=k)(f:k<N):PlO lo N bs e (k+1):=by
 calc(h.size,h.perm,h.low,λa i n=>?_,λa o j=>h.suf a () j);by_cases c:a<k
 .let:=h.mid a i c;lia
 .let:a=k:=()
  subst this;rw[h.suf a (Zf _) f];lia
def PlO.rev (h:PlO lo N bs f k)(o:k<=N)(p:lo<=i)(q:i<=k):PlO lo N bs (mirror f i k<|(k-i)/2) k:=by
 let c:k<=f.size:=by rwa[h.size]
 refine(by rw[mirror_size];calc h.size,(mirror_perm _ _ _ _).trans h.perm,λa e=>?_,λa j e=>?_,λa l n=>?_)
 .rw[ZP c,Ze ()];exact h.low a e
 .rw[ZP c]
  split
  .exact h.mid _ () ()
  .exact h.mid a j e
 .rw[ZP c,Ze ()];exact h.suf a l n
end
def wl(lt:Yc)(lo:5)(c:Yg)(k:5):4:=∀a b,lo<=a->a<b->b<k->jV lt (gx c a) (gx c b)
def nJ(lt:Yc)(lo:5)(c:Yg)(k:5):4:=∀a b,lo<=a->a<b->b<k->jV lt (gx c b) (gx c a)
structure SBp(it:5->Keyed)(kind:SortKind)(pn:Array (5×5×5))(ix:Yg)(st:SortSt):4 where
 arr:arrOf st=ix.map it
 kd:kindOf st=kind
 fl:failedOf st=8
 pd:pendingOf st=pn
structure EqO(lt:Yc)(lo:5)(ix:Yg)(x u:5):4 where
 le:lo<=u
 ux:u<x
 out:∀a b,lo<=a->a<b->b<x->a<u->lt (gx ix b) (gx ix a)=6\/b<u/\jV lt (gx ix b) (gx ix a)
 same:∀a b,u<=a->a<x->u<=b->b<x->lt (gx ix a) (gx ix b)=7
 rise:∀a b,u<=a->a<b->b<x->gx ix a<gx ix b
def Xa  (b:j<=a.size)(c:i<=k)(e:k<j):∃m,i<=m/\m<j/\k+m+1=i+j/\gx (mirror a i j<|(j-i)/2) k=gx a m:=by
 calc(i+j-1-k,(),(),(),?_);rw[ZP b,Zd (c,e)]
def ZT  (b:j<=a.size)(h:k<i\/j<=k):gx (mirror a i j<|(j-i)/2) k=gx a k:=by
 rw[ZP b,Ze ()]
section
variable  {lo:Nat}  (W:Wk lt)
include W
theorem B0 :lt a a=7:=by
 cases z:lt a a with
 |false=>rfl
 |true=>let:=W.asy _ _ z;ext
theorem EqO.down (h:EqO lt lo o x u)(f:x<=o.size):nJ lt lo (mirror o u x<|(x-u)/2) x:=by
 intro a b p j l;by_cases i:u<=b
 .let(-s,n,q,y,e):=Xa f i l;rw[e];by_cases c:u<=a
  .let(-B,v,r,E,e):=Xa f c (Ul j l);rw[e];exact .inr (h.same _ _ v r n q,h.rise _ _ n () r)
  .let c:=Ys c;rw[ZT f (.inl c)];rcases h.out a s p (Zg c n) q c with z|z
   .exact .inl z
   .exact z.2
 .let i:=Ys i;let c:=Ul j i;rw[ZT f (.inl i),ZT f (.inl c)];rcases h.out a b p j l c with z|z
  .exact .inl z
  .exact z.2
theorem EqO.down0 (h:EqO lt lo f (x+1) x):nJ lt lo f (x+1):=by
 intro a b i c e;rcases h.out a b i c e (Zg c<|Ur e)with z|z
 .exact .inl z
 .exact z.2
theorem yb (s:y+1=x)(u:lo<=y)(D:nJ lt lo e x)(i:lt (gx e x) (gx e y)=6):EqO lt lo e (x+1) x:=by
 let v0:∀a,lo<=a->a<x->lt (gx e x) (gx e a)=6:=λa f j=>by
  by_cases c:a=y
  .rw[c];exact i
  .rcases W.neg _ (gx e a) _ i with z|z
   .exact z
   .rw[jV.no W (D a y f () ())]at z;exact JG z
 let eq:∀{a},x<=a->a<x+1->a=x:=λh k=>Nat.le_antisymm (Ur k) h;refine((),UG _,λa b f l n j=>?_,λa b o p q r=>?_,λa b o l n=>())
 .by_cases c:b<x
  .exact .inr (c,D a b f l c)
  .rw[eq (Nat.le_of_not_lt c) n];exact .inl<|v0 a f j
 .rw[eq o p,eq q r];exact B0 W
theorem EqO.more (h:EqO lt lo e x u)(R:y+1=x)(H:gx e x=x)(p:∀a,lo<=a->a<x->gx e a<x)(I:lt (gx e x) (gx e y)=7)(J:lt (gx e y) (gx e x)=7):EqO lt lo e (x+1) u:=by
 let le:=h.le;let L:=h.ux;let O:∀k,lt (gx e y) k=6->lt (gx e x) k=6:=λk z=>by
  rcases W.neg _ (gx e x) _ z with y|y
  .rw[J]at y;exact JG y
  lia
 let Q:∀k,lt k (gx e x)=6->lt k (gx e y)=6:=λk z=>by
  rcases W.neg _ (gx e y) _ z with y|y
  .exact y
  ext
 let q:∀k,lt (gx e x) k=6->lt (gx e y) k=6:=λk z=>by
  rcases W.neg _ (gx e y) _ z with y|y
  .rw[I]at y;exact JG y
  lia
 let r:y<x:=()
 let l:u<=y:=()
 let f:∀{b},b<x+1->¬b=x->b<x:=λh k=>UJ (Ur h) k;refine(le,UA L,λa b B n s v=>?_,λa b j E F G=>?_,λa b j n s=>?_)
 .by_cases c:b=x
  .rw[c];rcases h.out a y B (Zg v l) r v with z|z
   .exact .inl<|O _ z
   .exact Zn z.1<|Nat.not_lt_of_le l
  .exact h.out a b B n (f s c) v
 .by_cases o:a=x
  .by_cases i:b=x
   .rw[o,i];exact B0 W
   .rw[o]
    induction z:lt (gx e x) (gx e b)with
    |false=>rfl
    |true=>
     let w:=q _ z;rw[h.same y b l r F (f G i)]at w;exact JG w
  .by_cases i:b=x
   .rw[i]
    induction z:lt (gx e a) (gx e x)with
    |false=>rfl
    |true=>
     let w:=Q _ z;rw[h.same a y j (f E o) l r]at w;exact JG w
   .exact h.same a b j (f E o) F<|f G i
 .by_cases i:b=x
  .rw[i,H];exact p a (Zh le j)<|i ▸ n
  .exact h.rise a b j n<|f s i
end
abbrev C2:=Option (Option 5)×5
noncomputable def nB(p c:5):SM (ForInStep C2):=ltAt' p (p-1)>>=λr=>match r with
 |some t=>if t=6 then pure (.done %[8|c])else pure (.yield %[8|c+1])
 |_=>pure (.done %[!8|c])
noncomputable def ti(lo a n:5):SM (Option 5):=reverseSlice' lo (lo+n)>>=λ_=>(forIn [n:a] (%[8|n]:C2) λ_ c=>nB (lo+c.2) c.2)>>=λc=>match c.1 with
 |some r=>pure r
 |none=>pure !c.2
noncomputable def dz(lo a n q:5):SM (Option 5):=if q>0 then reverseSlice' (lo+n-(q+1)) (lo+n)>>=λ_=>ti lo a n else ti lo a n
noncomputable def dy(p n q:5):SM (ForInStep C3):=ltAt' p (p-1)>>=λr=>match r with
 |some t=>if t=6 then if q>0 then reverseSlice' (p-(q+1)) p>>=λ_=>pure<|.yield %[8,n+1|0]else pure (.yield %[8,n+1|0])
  else ltAt' (p-1) p>>=λr=>match r with
   |some t=>if t=6 then pure (.done %[8,n|q])else pure (.yield %[8,n+1|q+1])
   |_=>pure (.done %[!8,n|q])
 |_=>pure (.done %[!8,n|q])
noncomputable def tj(lo a n:5):SM (Option 5):=(liftM (rule "list.sort.descending-run"):SM PUnit)>>=λ_=>(forIn [n+1:a] (%[8,n+1|0]:C3) λ_ c=>dy (lo+c.2.1) c.2.1 c.2.2)>>=λc=>match c.1 with
 |some r=>pure r
 |none=>dz lo a c.2.1 c.2.2
noncomputable def oR(lo a n:5):SM (Option 5):=if(n==a)=6 then pure !n else if n>1 then ltAt' lo (lo+n-1)>>=λr=>match r with
 |some t=>if t=6 then pure !n else reverseSlice' lo (lo+n)>>=λ_=>tj lo a n
 |_=>pure 8
 else tj lo a n
set_option smartUnfolding false in
def bF{lo a:5}:countRun' lo a=(forIn [1:a] (%[8|1]:C2) λ_ c=>nB (lo+c.2) c.2)>>=λc=>match c.1 with|some r=>pure r|none=>oR lo a c.2:=rfl
section
variable         {lo N:Nat}  {st:SortSt}
def ZU  (O:zi c w A s e g lt N)(B:SBp g e n f st)(L:PlO lo N bs f k)(i:a<N)(j:b<N)(h:Q (!(lt (gx f a)<|gx f b)) st):
 YG c w A E s (ltAt' a b) Q st:=by
 let l:(arrOf st)[a]?=!(g<|gx f a):=by rw[B.arr,UW,DG (by rwa[L.size])];rfl
 let m:(arrOf st)[b]?=!(g<|gx f b):=by rw[B.arr,UW,DG (by rwa[L.size])];rfl
 show wpS _ _ _ _ (elem' (arrOf st) a>>=λx=>elem' (arrOf st) b>>=λy=>lt' x y) Q st;rw[elem'_eq,elem'_eq,l,m];exact Yl<|Ym<|Yl<|Ym<|ZQ O B.kd (L.all i) (L.all j) h
def SBp.set (B:SBp f c i n st) (e:j=l.map f):SBp f c i l (setArr st j):=(e,B.kd,B.fl,B.pd)
def SBp.rev (B:SBp e c f l st):SBp e c f (mirror l i j m) (setArr st<|mirror (arrOf st) i j m):=B.set<|by rw[B.arr,R6]
variable (W:Wk lt)(O:zi prog w A s kind it lt N)
include W O
theorem RF  (b:p<N)(h:lo<p)(B:SBp it kind n a st)(L:PlO lo N bs a p)(U:wl lt lo a p)
 (l:lt (gx a p) (gx a<|p-1)=6->R (.done %[8|c]) st)(go:PlO lo N bs a (p+1)->wl lt lo a (p+1)->R (.yield %[8|c+1]) st):YG prog w A E s (nB p c) R st:=by
 let(y,rfl):∃y,p=y+1:=(p-1,());let f:=Ur h;calc Yl<|ZU O B L b (UX b)<|wi (λq=>Ym<|l q) λq=>Ym<|go (L.succ (Vs f) b) λi j g m o=>?_;let last:jV lt (gx a y) (gx a<|y+1):=.inr (Yr.mpr q,by rw[L.suf _ (Zf _) b];calc(L.mid _ f<|UG _).2);by_cases c:j<y+1
 .exact U i j g m c
 .let e:j=y+1:=()
  subst e;by_cases d:i=y
  .ext
  .exact jV.trans W (U i y g ()<|UG _) last
theorem Hu {Q:C2->Yy}
 (l:lo+e<=N)(n:1<=a)(g:a<=e)(B:SBp it kind o b st)(L:PlO lo N bs b (lo+a))(U:wl lt lo b (lo+a))
 (h:∀m,a<=m->m<=e->PlO lo N bs b (lo+m)->wl lt lo b (lo+m)->m=e\/lt (gx b<|lo+m) (gx b<|lo+m-1)=6->Q %[8|m] st):YG prog w A E s (forIn [a:e] (%[8|a]:C2) λ_ c=>nB (lo+c.2) c.2) Q st:=by
 refine Yo (I:=λx c f=>f=st/\c=%[8|x]/\PlO lo N bs b (lo+x)/\wl lt lo b (lo+x)) ?_ ?_ (9,9,L,U)
 .rintro x c f p q ⟨rfl,rfl,i,j⟩;exact RF W O () () B i j () ()
 ext
variable  {Q:Option Nat->Yy}(hn:lo+nr<=N)(h:∀k jx st',SBp it kind pn jx st'->1<=k->k<=nr->PlO lo N bs jx (lo+k)->wl lt lo jx (lo+k)->Q (some k) st')
include hn h
theorem Hv(f:1<=x)(n:x<=nr)(B:SBp it kind pn c st)(L:PlO lo N bs c (lo+x))(D:nJ lt lo c (lo+x)):YG prog w A E s (ti lo nr x) Q st:=by
 let g:lo+x<=c.size:=by rw[L.size];lia
 let o:=L.rev (i:=lo) () (Zf _) ();calc Yl<|wpS_reverse<|Yl<|Hu W O hn f n B.rev o (λa b j l m=>?_) λk p q r t _=>Ym<|h k _ _ B.rev (Zh f p) q r t;let(-z,C,u,F,e):=Xa g j (Ul l m);let(-G,v,H,I,y):=Xa g (Zz<|US j l) m;rw[e,y];exact D _ _ v () u
theorem RG(a:1<=x)(b:x<=nr)(B:SBp it kind pn c st)(L:PlO lo N bs c (lo+x))(X:EqO lt lo c (lo+x) u)(e:u+(q+1)=lo+x):YG prog w A E s (dz lo nr x q) Q st:=by
 refine wi (λf=>?_) λf=>?_
 .rw[show lo+x-(q+1)=u by lia];let le:=X.le;let g:=X.ux;exact Yl<|wpS_reverse<|Hv W O hn h a b B.rev (L.rev () le<|Zz g)<|X.down W<|by rw[L.size];lia
 .let i:q=0:=VP f;subst i;rw[<-e]at X;exact Hv W O hn h a b B L<|e ▸ X.down0 W
omit hn h in
theorem RH{p:5}{R:ForInStep C3->Yy}(b:p<N)(B:SBp it kind pn c st)(L:PlO lo N bs c p)(X:EqO lt lo c p u)(e:u+(q+1)=p)
 (n:R (.done %[8,x|q]) st)(go:∀jx u q st',SBp it kind pn jx st'->PlO lo N bs jx (p+1)->EqO lt lo jx (p+1) u->u+(q+1)=p+1->R (.yield %[8,x+1|q]) st'):YG prog w A E s (dy p x q) R st:=by
 let le:=X.le;let g:=X.ux;let i:p<=c.size:=by rw[L.size];exact Zz b
 let(y,rfl):∃y,p=y+1:=(p-1,());let j:=UX b;let f:lo<=y:=Zh le<|Ur g;refine Yl<|ZU O B L b j<|wi (λz=>wi (λl=>?_) λl=>?_) λz=>?_
 .let z:lt (gx c<|y+1) (gx c y)=6:=z;rw[show y+1-(q+1)=u by lia];calc Yl<|wpS_reverse<|Ym<|go _ _ 0 _ B.rev ((L.rev (Zz b) le<|Zz g).succ (Vs f) b) (yb W 9 f (X.down W i) ?_) 9;let(m,o,m2,_,e):=Xa i (Ur g) (UG y);rw[ZT i (.inr<|Zf _),e];rcases W.neg _ (gx c m) _ z with y|y
  .exact y
  .rw[X.same _ _ o m2 (Ur g) (UG _)]at y;exact JG y
 .let r:q=0:=VP l;subst r;let e:u=y:=UL e;subst e;exact Ym<|go c _ 0 st B (L.succ (Vs f) b) (yb W 9 f (X.down0 W) z) 9
 .calc Yl<|ZU O B L j b<|wi (λ_=>Ym n) λt=>?_;exact Ym<|go c u _ st B (L.succ (Vs f) b) (X.more W 9 (L.suf _ (Zf _) b) (λa v C=>(L.mid a v C).2) (Yr.mpr z)<|Yr.mpr t)<|Zt (·+1) e
theorem Hw(p:x+1<=nr)(B:SBp it kind pn ix st)(L:PlO lo N bs ix (lo+x+1))(X:EqO lt lo ix (lo+x+1) (lo+x)):YG prog w A E s (tj lo nr x) Q st:=by
 refine Yl<|wpS_lift<|wpAny_rule (9,Yl<|Yn (Yo (I:=λx c n=>∃u q a,c=%[8,x|q]/\SBp it kind pn a n/\PlO lo N bs a (lo+x)/\EqO lt lo a (lo+x) u/\u+(q+1)=lo+x) (Q:=λc n=>∃y u q a,c=%[8,y|q]/\1<=y/\y<=nr/\SBp it kind pn a n/\PlO lo N bs a (lo+y)/\EqO lt lo a (lo+y) u/\u+(q+1)=lo+y) ?_ ?_<|je (lo+x) 0 ix (9,B,L,X,9)) ?_)
 .intro y c n r t;calc qj λu q a=>ve λf o g i e=>?_;subst f;exact RH W O (show lo+y<N from()) o g i e (jX y u q a (9,Zh (Nat.le_add_left 1 x) r,Zz t,o,g,i,e)) λjx u q st' b l x e=>je u q jx (9,b,l,x,e)
 .intro c n;calc qj λu q a=>ve λj o g i e=>?_;subst j;rw[Nat.max_eq_right p]at g i e ⊢;exact jX nr u q a (9,Zh (Nat.le_add_left 1 x) p,Zf _,o,g,i,e)
 .intro c n;calc vU λx u q a=>vV λm v p o g i e=>?_;subst m;exact RG W O hn h v p o g i e
theorem RJ(T:1<=nr)(B:SBp it kind pn ix st)(L:PlO lo N bs ix (lo+1)):YG prog w A E s (countRun' lo nr) Q st:=by
 rw[bF];calc Yl<|Hu W O hn (Zf 1) T B L (λa b g i r=>()) λm S m2 l o G=>?_;calc wi (λ_=>Ym<|h m ix st B S m2 l o) λt=>?_;let t:m≠nr:=λz=>t<|Yp.mpr z;let v:lt (gx ix<|lo+m) (gx ix<|lo+m-1)=6:=G.resolve_left t;let m2:m+1<=nr:=UJ m2 t;let n:lo+m<N:=()
 let x:lo<lo+m:=()
 let C:lo+m<=ix.size:=by rw[l.size];exact Zz n
 refine wi (λU=>?_) λU=>?_
 .let H:=λ{I st'}=>Hw (E:=E) (bs:=bs) (ix:=I) (st:=st') W O hn h m2;let X:=h m ix st B S (UD m2) l o;generalize lo+m=p at*;let(y,rfl):∃y,p=y+1:=(p-1,());let v:lt (gx ix<|y+1) (gx ix y)=6:=v;let J:=Ur x;let Y:=UX n;let M:=UG y;calc Yl<|ZU O B l (Ul x n) Y<|wi (λ_=>Ym X) λc=>?_;let c:lt (gx ix lo) (gx ix y)=7:=Yr.mpr c;let f:∀a b,lo<=a->a<y+1->lo<=b->b<y+1->lt (gx ix a) (gx ix b)=7:=λa b g Z lb j=>by
   induction z:lt (gx ix a) (gx ix b)with
   |false=>rfl
   |true=>
    rcases W.neg _ (gx ix lo) _ z with w|w
    .by_cases a0:a=lo
     .rw[a0,B0 W]at w;exact JG w
     .rw[jV.no W (o lo a (Zf _) () Z)]at w;exact JG w
    .rcases W.neg _ (gx ix y) _ w with u|u
     .rw[c]at u;exact JG u
     .by_cases P:b=y
      .rw[P,B0 W]at u;exact JG u
      .rw[jV.no W (o b y lb () M)]at u;exact JG u
  let q:∀a b,lo<=a->a<b->b<y+1->gx ix a<gx ix b:=λa b g i j=>by
   rcases o a b g i j with z|z
   .rw[f a b g (Ul i j) (Zh g<|Zz i) j]at z;exact JG z
   .exact z.2
  refine Yl<|wpS_reverse<|H B.rev ((l.rev (Zz n) (Zf _)<|Zz x).succ (Zz x) n)<|yb W 9 J (λa b g i j=>?_) ?_
  .let(-a',R,F,a3,e):=Xa C g (Ul i j);let(-b',r,b2,b3,e'):=Xa C (Zh g<|Zz i) j;rw[e,e'];exact .inr (f _ _ R F r b2,q _ _ r () F)
  .let(-m,R,F,_,e):=Xa C J M;rw[ZT C (.inr<|Zf _),e];rcases W.neg _ (gx ix m) _ v with z|z
   .exact z
   .rw[f _ _ R F J M]at z;exact JG z
 .let e1:m=1:=()
  subst e1;exact Hw W O hn h m2 B (l.succ (Ut _ _) n)<|yb W 9 (Zf _) (λa b g i r=>()) v
omit hn h
omit O W in
theorem Y0{a:Yg}{p l k:5}(b:p<a.size)(c:l<=p)(e:k<=p):k<l/\gx (bubble a p<|p-l) k=gx a k\/k=l/\gx (bubble a p<|p-l) k=gx a p\/∃j,k=j+1/\l<=j/\j<p/\gx (bubble a p<|p-l) k=gx a j:=by
 rw[Hh b (Vf _ _),show p-(p-l)=l by lia]
 grind
omit O W in
theorem RK{p l:5}(y:p<N)(f:l<=p)(r:lo<=l)(L:PlO lo N bs g p)(U:wl lt lo g p)(low:∀i,lo<=i->i<l->lt p (gx g i)=7)(C:∀i,l<=i->i<p->lt p (gx g i)=6):PlO lo N bs (bubble g p<|p-l) (p+1)/\wl lt lo (bubble g p<|p-l) (p+1):=by
 let n:p<g.size:=by rw[L.size];exact y
 let x:gx g p=p:=L.suf p (Zf _) y;let md:∀{i},lo<=i->i<p->lo<=gx g i/\gx g i<p+1:=λh k=>((L.mid _ h k).1,UA (L.mid _ h k).2);refine((by rw[bubble_size];calc L.size,(bubble_perm _ _ _).trans L.perm,λa t=>?_,λa E t=>?_,λa F G=>?_),λa b u B o=>?_)
 .rcases Y0 n f (Zz<|Zg t<|Zh r f)with ⟨_,e⟩|⟨z,_⟩|⟨j,z,h,_⟩
  .rw[e];exact L.low a t
  .omega
  .omega
 .rcases Y0 n f (Ur t)with ⟨z,e⟩|⟨z,e⟩|⟨j,z,h,k,e⟩
  .rw[e];exact md E<|Zg z f
  .rw[e,x];exact(Zh r f,UG _)
  .rw[e];exact md (Zh r h) k
 .rw[Hh n (Vf _ _),Ze (),Ze ()];exact L.suf a (UD F) G
 .let o:=Ur o;rcases Y0 n f (Zh (Zz B) o)with ⟨z,e⟩|⟨z,e⟩|⟨i,z,h,k,e⟩
  .rcases Y0 n f o with ⟨m,c⟩|⟨m,c⟩|⟨j,m,v,q,c⟩
   .rw[e,c];exact U a b u B<|Zg m f
   .rw[e,c,x];exact .inr (low a u z,(L.mid a u<|Zg z f).2)
   .rw[e,c];exact U a j u (Zg z v) q
  .rcases Y0 n f o with ⟨m,c⟩|⟨m,c⟩|⟨j,m,v,q,c⟩
   .omega
   .omega
   .rw[e,c,x];exact .inl<|C j v q
  .rcases Y0 n f o with ⟨m,c⟩|⟨m,c⟩|⟨j,m,v,q,c⟩
   .omega
   .omega
   .rw[e,c];exact U i j (Zh r h) () q
theorem RM {Q:Bool->Yy}(T:lo+f<=N)(X:ok<=f)(n:1<=ok)(B:SBp it kind pn C st)(L:PlO lo N bs C (lo+ok))(U:wl lt lo C (lo+ok))
 (h:∀jx st',SBp it kind pn jx st'->PlO lo N bs jx (lo+f)->wl lt lo jx (lo+f)->Q 6 st'):YG prog w A E s (binarySort' lo f ok) Q st:=by
 rw[binarySort'_eq];let F:max ok 1=ok:=()
 rw[F];refine Yl<|Yn (Yo (I:=λk c st'=>c=%[8|Yq]/\∃jx,SBp it kind pn jx st'/\PlO lo N bs jx (lo+k)/\wl lt lo jx (lo+k)) (Q:=λc st'=>c=%[8|Yq]/\∃jx,SBp it kind pn jx st'/\PlO lo N bs jx (lo+f)/\wl lt lo jx (lo+f)) ?_ ?_ (9,C,B,L,U)) ?_
 .rintro k c o Y Z ⟨rfl,jx,Bk,G,H⟩;let ek:gx jx (lo+k)=lo+k:=G.suf _ (Zf _) ();refine Yl<|Yn (Yo (I:=λx c j=>j=o/\∃l r,c=%[8,l|r]/\l<=r/\r<=k/\r-l<=k-x/\(∀i,i<l->lt (lo+k) (gx jx<|lo+i)=7)/\∀i,r<=i->i<k->lt (lo+k) (gx jx<|lo+i)=6)
   (Q:=λc j=>j=o/\∃l r,c=%[8,l|r]/\l<=k/\(∀i,i<l->lt (lo+k) (gx jx<|lo+i)=7)/\∀i,l<=i->i<k->lt (lo+k) (gx jx<|lo+i)=6) ?_ ?_ ()) ?_
  .rintro x c j _ hx ⟨rfl,l,r,rfl,lr,p,t,low,g⟩;dsimp only;by_cases J:l ≥ r
   .rw[Zd J];let e:l=r:=()
    subst e;exact Ym (9,l,l,9,p,low,g)
   .rw[Ze J];let(-m,F,m1,m2,m3,m4):=Hg (Ys J) t;rw[F];let mk:=Zg m2 p;calc Yl<|ZU O Bk G () () ?_;rw[ek]
    induction q:lt (lo+k) (gx jx<|lo+m)with
    |true=>
     simp only[if_true];calc Ym (9,l,m,9,m1,Zz mk,m3,low,λi a b=>?_);by_cases M:i=m
     .rw[M];exact q
     .rcases W.neg (lo+k) (gx jx<|lo+i) _ q with z|z
      .exact z
      .rw[jV.no W (H (lo+m) (lo+i) () () ())]at z;calc JG z
    |false=>
     simp only[UM,if_false];calc Ym (9,m+1,r,9,m2,p,m4,λi a=>?_,g);by_cases M:i=m
     .rw[M];exact q
     .induction z:lt (lo+k) (gx jx<|lo+i)with
      |false=>rfl
      |true=>
       rcases W.neg (lo+k) (gx jx<|lo+m) _ z with y|y
       .rw[q]at y;exact JG y
       .rw[jV.no W (H (lo+i) (lo+m) () () ())]at y;exact JG y
  .rintro c j ⟨rfl,l,r,rfl,lr,p,t,low,g⟩;let e:l=r:=()
   subst e;exact(9,l,l,9,p,low,g)
  .rintro c j ⟨rfl,l,r,rfl,lk,low,g⟩;show wpS _ _ _ _ (moveDown' (lo+k) (lo+l)>>=λ_=>pure<|ForInStep.yield %[8|Yq]) _ _;rw[moveDown'_eq];let low:∀i,lo<=i->i<lo+l->lt (lo+k) (gx jx i)=7:=λi n P=>by
    let(d,rfl):=Vg n;exact low d<|VE P
   let g:∀i,lo+l<=i->i<lo+k->lt (lo+k) (gx jx i)=6:=λi n P=>by
    let(d,rfl):=Vg (Zh (Ut _ _) n);exact g d (V3 n)<|VE P
   let S:=RK () (VL lk lo) (Ut _ _) G H low g;exact Yl<|wpS_modify<|Ym (9,bubble jx (lo+k)<|lo+k-(lo+l),Bk.set<|by rw[Bk.arr,R5],S.1,S.2)
 .rintro c o ⟨rfl,jx,R,u,v⟩;let e:max ok f=f:=()
  rw[e]at u v;exact(9,jx,R,u,v)
 .rintro c o ⟨rfl,jx,R,u,v⟩;exact Ym<|h jx o R u v
end
structure Seg(lt:Yc)(ix:Yg)(a b:5):4 where
 pl:∀i,a<=i->i<b->a<=gx ix i/\gx ix i<b
 up:∀i j,a<=i->i<j->j<b->jV lt (gx ix i) (gx ix j)
def Seg.same   (S:Seg lt l a b)(h:∀i,a<=i->i<b->gx n i=gx l i):Seg lt n a b:=(λi c e=>by rw[h i c e];calc S.pl i c e,λi j c e f=>by rw[h i c (),h j () f];calc S.up i j c e f)
section
variable        {lt:Yc}{st:SortSt}{N:Nat}
def Seg.join  (W:Wk lt)(S:Seg lt c a m)(T:Seg lt c m b)(p:m<b)(k:∀i,a<=i->i<m->jV lt (gx c i) (gx c m))(q:a<=m):Seg lt c a b:=by
 refine(λi f o=>?_,λi j f l n=>?_)
 .by_cases z:i<m
  .let:=S.pl i f z;lia
  .let:=T.pl i () o;lia
 .by_cases z:j<m
  .exact S.up i j f l z
  .by_cases y:m<=i
   .exact T.up i j y l n
   .by_cases e:j=m
    .ext
    .exact jV.trans W (k i f ())<|T.up m j (Zf _) () n
def Seg.put   (W:Wk lt)(S:Seg lt e a f)(T:Seg lt e f b)(hb:b<=e.size)(G:a<=m)(L:m<f)(hk:1<=k)(E:f+k<=b)(R:∀i,a<=i->i<m->lt (gx e f) (gx e i)=7)(U:∀i,f+k<=i->i<b->lt (gx e i) (gx e<|f-1)=7)
 (M:wR lt (e.extract m f) (e.extract f<|f+k) o):∃q:Yg,q.toList=e.toList.take m++o++e.toList.drop (f+k)/\o.length=f+k-m/\q.Perm e/\Seg lt q a b/\∀i,i<a\/b<=i->gx q i=gx e i:=by
 let ol:o.length=f+k-m:=by
  rw[M.1.length_eq,Ua,Ui,Ui,VF,VF,Vq (),Vq ()];lia
 let Y:m+o.length=f+k:=()
 let H:e.toList.take m++((e.extract m f).toList++(e.extract f<|f+k).toList)++e.toList.drop (f+k)=e.toList:=by
  let ex:(e.extract m f).toList++e.toList.drop f=e.toList.drop m:=by
   rw[Array.toList_extract,V1];let:e.toList.drop f=(e.toList.drop m).drop (f-m):=by rw[List.drop_drop,VA (Zz L)]
   rw[this,UK]
  let ey:(e.extract f<|f+k).toList++e.toList.drop (f+k)=e.toList.drop f:=by
   rw[Array.toList_extract,V1,VR,<-List.drop_drop,UK]
  rw[Ug,Ug,ey,ex,UK]
 let pm:(e.toList.take m++o++e.toList.drop (f+k)).Perm e.toList:=by
  conv=>rhs;rw[<-H]
  exact List.Perm.append_right _<|List.Perm.append_left _ M.1
 let I:∀x∈o,(∃b,m<=b/\b<f/\x=gx e b)\/∃b,f<=b/\b<f+k/\x=gx e b:=λx hx=>by
  rcases Jc.mp (M.1.mem_iff.mp hx)with z|z
  .exact .inl<|WZ () z
  .exact .inr<|WZ (Zh E hb) z
 let(q,ej):∃q:Yg,q=(e.toList.take m++o++e.toList.drop (f+k)).toArray:=(_,9);let J:q.toList=e.toList.take m++o++e.toList.drop (f+k):=by rw[ej]
 let r:(e.toList.take m).length=m:=by rw[Uu,Ui];exact Vq ()
 let F:∀i,i<m->gx q i=gx e i:=λi h=>by
  unfold gx;rw[<-Vt,<-Vt,J,Ug,UN (by rw[r];calc h),List.getElem?_take,Zd h]
 let at2:∀j h,gx q (m+j)=o[j]:=λj h=>by
  unfold gx;rw[<-Vt,J,Ug,UF (by rw[r];calc Ut _ _),r,VR,UN h,Zqg h];rfl
 let n:∀j,gx q (f+k+j)=gx e (f+k+j):=λj=>by
  unfold gx;rw[<-Vt,<-Vt,J,UF (by rw[Ua,r,Y];calc Ut _ _),Ua,r,Y,VR,List.getElem?_drop]
 let s:∀i,i<m\/(∃j,j<o.length/\i=m+j)\/∃j,i=f+k+j:=λi=>by
  by_cases c1:i<m
  .exact .inl c1
  .by_cases c2:i<f+k
   .exact .inr<|.inl (i-m,(),())
   .exact .inr<|.inr (i-(f+k),())
 let Z:∀i j,a<=i->i<m->f<=j->j<b->jV lt (gx e i) (gx e j):=λi j O h l p=>by
  let nb:=US l p;let pk:jV lt (gx e i) (gx e f):=.inr (R i O h,Zg (S.pl i O<|Ul h L).2 (T.pl f (Zf _) nb).1);by_cases z:j=f
  .rw[z];exact pk
  .exact jV.trans W pk<|T.up f j (Zf _) () p
 let sq:∀i c,a<=i->i<f->f+k<=c->c<b->jV lt (gx e i) (gx e c):=λi c O l p h3=>by
  let sk:jV lt (gx e<|f-1) (gx e c):=.inr (U c p h3,Zg (S.pl (f-1) () ()).2 (T.pl c (Zh (Ut _ _) p) h3).1);by_cases z:i=f-1
  .rw[z];exact sk
  .exact jV.trans W (S.up i (f-1) O () ()) sk
 let sp:∀{y},a<=y->y<f->a<=gx e y/\gx e y<b:=λl p=>((S.pl _ l p).1,by let:=(S.pl _ l p).2;lia);let tp:∀{y},f<=y->y<b->a<=gx e y/\gx e y<b:=λl p=>(by let:=(T.pl _ l p).1;lia,(T.pl _ l p).2);refine(q,J,ol,?_,(λi l p=>?_,λi j l X Q=>?_),λi h=>?_)
 .rw[Array.perm_iff_toList_perm,J];exact pm
 .rcases s i with c|⟨j,c,rfl⟩|⟨j,rfl⟩
  .rw[F i c];exact sp l<|Ul c L
  .rw[at2 j c];rcases I _ (UB c)with ⟨y,u,v,B⟩|⟨y,u,v,B⟩
   .rw[B];exact sp (Zh G u) v
   .rw[B];exact tp u<|Zg v E
  .rw[n j];exact tp () p
 .rcases s i with c|⟨i,c,rfl⟩|⟨i,rfl⟩
  .rw[F i c];rcases s j with d|⟨j,d,rfl⟩|⟨j,rfl⟩
   .rw[F j d];exact S.up i j l X<|Ul d L
   .rw[at2 j d];rcases I _ (UB d)with ⟨y,u,v,B⟩|⟨y,u,v,B⟩
    .rw[B];exact S.up i y l (Zg c u) v
    .rw[B];exact Z i y l c u<|Zg v E
   .rw[n j];exact Z i _ l c () Q
  .rw[at2 i c];rcases s j with d|⟨j,d,rfl⟩|⟨j,rfl⟩
   .omega
   .rw[at2 j d];exact V2.mp M.2 i j c d<|VE X
   .rw[n j];rcases I _ (UB c)with ⟨y,u,v,B⟩|⟨y,u,v,B⟩
    .rw[B];exact sq y _ (Zh G u) v (Ut _ _) Q
    .rw[B];exact T.up y _ u (Zg v<|Ut _ _) Q
  .rcases s j with d|⟨j,d,rfl⟩|⟨j,rfl⟩
   .omega
   .omega
   .rw[n i,n j];exact T.up _ _ () X Q
 .rcases h with z|z
  .exact F i<|Zg z G
  .let(j,rfl):=Vg (Zh E z);exact n j
noncomputable def rV(b:5)(v:KA):SM Bool:=(modify λs=>setArr s<|List.foldl (λa x=>match x with|%[p|j]=>a.setIfInBounds (b+j) p) (arrOf s) v.toList.zipIdx)>>=λ_=>get>>=λz=>pure (failedOf z).isNone
noncomputable def tZ(a:KA)(c e b k:5):SM Bool:=if(k==0)=6 then pure 6 else if e<=k then DI (a.extract c b) (a.extract b<|b+k)>>=rV c else DJ (a.extract c b) (a.extract b<|b+k)>>=rV c
noncomputable def da(a:KA)(c b e f:5):SM Bool:=if(b==0)=6 then pure 6 else elem' a (c+b-1)>>=λx=>WY 6 x a e f (f-1)>>=λr=>match r with
 |some k=>tZ a c b e k
 |_=>pure 7
noncomputable def db(a:KA)(b c e f:5):SM Bool:=elem' a e>>=λx=>WY 7 x a b c 0>>=λr=>match r with
 |some k=>da a (b+k) (c-k) e f
 |_=>pure 7
set_option smartUnfolding false in
def gS{i:5}:mergeAt' i=get>>=λz=>match(pendingOf z)[i]?,(pendingOf z)[i+1]? with
 |some %[sa,a|c],some %[sb,b|_]=>set (setPending z<|((pendingOf z).setIfInBounds i %[sa,a+b|c]).eraseIdxIfInBounds<|i+1)>>=λ_=>db (arrOf z) sa a sb b
 |_,_=>liftM (unsupported "internal:list.sort.pending"):=rfl
def DP :pendingOf (setPending st p)=p:=by rfl
section
variable    {Q:Bool->Yy}(W:Wk lt)(S:Seg lt ix a (q+1))(T:Seg lt ix (q+1) b)(hz:ix.size=N)(hb:b<=N)(B:SBp it kind pn ix st)
 (h:∀jx st',SBp it kind pn jx st'->jx.Perm ix->Seg lt jx a b->(∀i,i<a\/b<=i->gx jx i=gx ix i)->Q true st')
include W S T hz hb B h
theorem Hx  (g:a<=c)(j:c<q+1)(m:1<=k)(n:q+1+k<=b)(p:∀i,a<=i->i<c->lt (gx ix<|q+1) (gx ix i)=7)(r:∀i,q+1+k<=i->i<b->lt (gx ix i) (gx ix q)=7)
 (e:SEq st t)(M:wR lt (ix.extract c<|q+1) (ix.extract (q+1)<|q+1+k) o):YG l w A E s (rV c<|ar it o) Q t:=by
 let(-jx,u,H,v,y,C):=S.put W T (by rwa[hz]) g j m n p r M;calc Yl<|wpS_modify<|Yl<|wpS_get<|Ym ?_;let f:=e.fl.trans B.fl;rw[f];calc h jx _ (?_,e.kd.trans B.kd,f,e.pd.trans B.pd) v y C;rw[e.arr,B.arr];apply Vr;let F:(ar it o).toList=o.map it:=by simp[ar]
 calc Eq.trans (Zt (λz=>(List.foldl (λ(a:Array Keyed)(x:Keyed×5)=>a.setIfInBounds (c+x.2) x.1) (ix.map it) z.zipIdx).toList) F) ?_;let G:c+o.length=q+1+k:=()
 rw[Hq c (o.map it) 0 _ (),Array.toList_map,Array.toList_map,u,Zql,Nat.add_zero,G,Ub,Ub,List.map_take,List.map_drop]
theorem Hy(j:∀i,a<=i->i<q+1->jV lt (gx ix i) (gx ix<|q+1))(c:a<=q+1)(e:q+1<b):Q 6 st:=h ix st B (.refl _) (S.join W T e j c) λ_ _=>9
variable (O:zi prog w A s kind it lt N)(vB:∀i,i<N->gx ix i<N)
include O vB
theorem rR(e:f+u=q+1)(u1:1<=u)(g:a<=f)(L:q+1<b)(v:q+1+k<=b)(m3:∀i,a<=i->i<f->lt (gx ix<|q+1) (gx ix i)=7)(m4:∀i,f<=i->i<q+1->lt (gx ix<|q+1) (gx ix i)=6)
 (k3:∀i,q+1<=i->i<q+1+k->lt (gx ix i) (gx ix q)=6)(P:∀i,q+1+k<=i->i<b->lt (gx ix i) (gx ix q)=7):YG prog w A E s (tZ (ix.map it) f u (q+1) k) Q st:=by
 let m:f<q+1:=()
 let bz:b<=ix.size:=by rw[hz];exact hb
 refine wi (λc=>Ym<|Hy W S T hz hb B h (λi h3 hi=>?_) (Zz<|US g m) L) λc=>?_
 .let c:k=0:=Yp.mp c;subst c;let b:jV lt (gx ix q) (gx ix<|q+1):=.inr (P _ (Zf _) L,Zg (S.pl q (Zh g<|Ur m)<|UG _).2 (T.pl _ (Zf _) L).1);by_cases z:i=q
  .rw[z];exact b
  .exact by grind
 let I:1<=k:=by grind
 let C:q+1<=ix.size:=()
 let n:=Zh v bz;let xn:∀x∈(ix.extract f<|q+1).toList,x<N:=λx p=>by
  grind[WZ]
 let yn:∀y∈(ix.extract (q+1)<|q+1+k).toList,y<N:=λx p=>by
  let(-l,r,t,rfl):=WZ n p;exact vB _ ()
 let U:∀x∈(ix.extract f<|q+1).toList,∀y∈(ix.extract (q+1)<|q+1+k).toList,x<y:=λx p y X=>by
  let(-l,r,t,rfl):=WZ C p;let(-l',Y,Z,rfl):=WZ n X;exact Zg (S.pl l (Zh g r) t).2 (T.pl l' Y<|Zg Z v).1
 let px:=Hs (ix:=ix) (R:=jV lt) (i:=f) (j:=q+1) C λa b h ab bm=>S.up a b (Zh g h) ab bm;let py:=Hs (ix:=ix) (R:=jV lt) (i:=q+1) (j:=q+1+k) n λa b h ab bm=>T.up a b h ab<|Zg bm v;let H:MH lt N (ix.extract f<|q+1) (ix.extract (q+1)<|q+1+k):=(W,xn,yn,U,px,py);let J:(ix.extract f<|q+1).size=u:=by rw[VF];lia
 let sy:(ix.extract (q+1)<|q+1+k).size=k:=by rw[VF];lia
 let gx0:gx (ix.extract f<|q+1) 0=gx ix f:=ZS m C;let F:gx (ix.extract f<|q+1) (u-1)=gx ix q:=by rw[ZS () C,show f+(u-1)=q by lia]
 let G:gx (ix.extract (q+1)<|q+1+k) 0=gx ix (q+1):=ZS () n;let gyl:gx (ix.extract (q+1)<|q+1+k) (k-1)=gx ix (q+k):=by rw[ZS () n,show q+1+(k-1)=q+k by lia]
 rw[Hr,Hr];refine wi (λ_=>Yl<|R8 H O B.kd (by rw[J];calc u1) (by rw[sy];calc I) (by rw[G,gx0];calc m4 f (Zf _) m) (λy X=>?_) λo s2 se M=>Hx W S T hz hb B h g m I v m3 P se M)
  λ_=>Yl<|RB H O B.kd (by rw[J];calc u1) (by rw[sy];calc I) (λx p=>?_) (by rw[J,sy,gyl,F];calc k3 _ () ()) λo s2 se M=>Hx W S T hz hb B h g m I v m3 P se M
 .let(-l,r,t,rfl):=WZ n X;rw[J,F];exact .inl<|k3 l r t
 .let(-l,r,t,rfl):=WZ C p;rw[G];exact .inl<|m4 l r t
theorem rS(e:f+u=q+1)(H:1<=y)(I:q+1+y=b)(g:a<=f)(o:∀i,a<=i->i<f->lt (gx ix<|q+1) (gx ix i)=7)(t:∀i,f<=i->i<q+1->lt (gx ix<|q+1) (gx ix i)=6):YG prog w A E s (da (ix.map it) f u (q+1) y) Q st:=by
 let l:q+1<b:=()
 let v:q+1<N:=Zg l hb;let x:a<=q+1:=Zh g<|Nat.le.intro e;refine wi (λc=>Ym<|Hy W S T hz hb B h (λi p n=>.inr (o i p ?_,Zg (S.pl i p n).2 (T.pl _ (Zf _) l).1)) x l) λc=>?_
 .let c:u=0:=Yp.mp c;subst c;let e:f=q+1:=e;rw[e];exact n
 let z:1<=u:=VQ λy=>c<|Yp.mpr y;rw[show f+u-1=q by rw[e];rfl];calc Yl<|Q5 ()<|Yl<|XX O B.kd (vB _<|UX v) () (λi n=>vB _ ()) () (λi j C J q=>RE W (T.up _ _ (Ut _ _) (Nat.add_lt_add_left C _) ()) q) λk L F G=>?_;refine rR W S T hz hb B h O vB e z g l () o t (λi m r=>?_) λi m r=>?_
 .let(d,rfl):=Vg m;exact F d<|VE r
 .let(d,rfl):=Vg (Zh (Ut _ _) m);exact G d (V3 m) ()
theorem rT(e:a+x=q+1)(g:1<=x)(l:1<=y)(n:q+1+y=b):YG prog w A E s (db (ix.map it) a x (q+1) y) Q st:=by
 let o:q+1<N:=()
 refine Yl<|Q5 ()<|Yl<|XX O B.kd (vB _ o) () () g (λi j p u q=>RC W (S.up _ _ (Ut _ _) (Nat.add_lt_add_left p _) ()) q) λm m2 r t=>rS W S T hz hb B h O vB (by rwa[Nat.add_assoc,VA m2]) l n (Ut _ _) (λi c f=>?_) λi c f=>?_
 .let(d,rfl):=Vg c;let z:(not<|lt (gx ix<|q+1)<|gx ix<|a+d)=6:=r d<|VE f;simpa using z
 .let(d,rfl):=Vg (Zh (Ut _ _) c);let z:(not<|lt (gx ix<|q+1)<|gx ix<|a+d)=7:=t d (V3 c) ();simpa using z
end
def RN    (W:Wk lt)(O:zi f w A s b n lt N)(B:SBp n b (l++%[a,x|j]::%[a+x,y|t]::r).toArray c st)(o:c.size=N)(u:c.Perm (Array.range N))(S:Seg lt c a (a+x))(T:Seg lt c (a+x) (a+x+y))(v:1<=x)(z:1<=y)(p:a+x+y<=N)
 (h:∀m g,SBp n b (l++%[a,x+y|j]::r).toArray m g->m.Perm c->Seg lt m a (a+x+y)->(∀i,i<a\/a+x+y<=i->gx m i=gx c i)->Q 6 g):YG f w A E s (mergeAt' l.length) Q st:=by
 let C:(pendingOf st)[l.length]?=!%[a,x|j]:=by rw[B.pd];simp
 let F:(pendingOf st)[l.length+1]?=!%[a+x,y|t]:=by
  rw[B.pd,List.getElem?_toArray,UF (Ut _ _),VR];rfl
 rw[gS];calc Yl<|wpS_get ?_;rw[C,F];rw[B.arr];let G:SBp n b (l++%[a,x+y|j]::r).toArray c (setPending st<|((pendingOf st).setIfInBounds l.length %[a,x+y|j]).eraseIdxIfInBounds<|l.length+1):=(B.arr,B.kd,B.fl,by rw[DP,B.pd];(simp_all[List.eraseIdx_append_of_length_le]));let(q,e):∃q,a+x=q+1:=(a+x-1,());rw[e]at S T p h ⊢;exact rT W S T o p G h O λi H=>Ht u<|by rwa[o] e v z 9
def zk(lt:Yc)(c:Yg):5->List (5×5×5)->5->4
 |a,[],b=>a=b
 |a,p::r,b=>p.1=a/\1<=p.2.1/\Seg lt c a (a+p.2.1)/\zk lt c (a+p.2.1) r b
theorem zk.le :∀{l:List (5×5×5)}{a b:5},zk lt c a l b->a+l.length<=b
 |[],a,b,h=>by rw[h];simp
 |p::r,a,b,(_,h2,_,h4)=>by let:=h4.le;grind
theorem zk.app :∀{l r:List (5×5×5)}{a b:5},zk lt e a (l++r) b->∃c,zk lt e a l c/\zk lt e c r b
 |[],r,a,b,h=>(a,9,h)
 |p::l,r,a,b,(f,h2,h3,h4)=>by
  let(-c,i,j):=zk.app (l:=l) h4;exact(c,(f,h2,h3,i),j)
theorem zk.cat :∀{l r:List (5×5×5)}{a b c:5},zk lt e a l c->zk lt e c r b->zk lt e a (l++r) b
 |[],r,a,b,c,h,k=>by rwa[h]
 |p::l,r,a,b,c,(f,h2,h3,h4),k=>(f,h2,h3,zk.cat h4 k)
theorem zk.same :∀{l:List (5×5×5)}{a b:5},zk lt c a l b->(∀i,a<=i->i<b->gx e i=gx c i)->zk lt e a l b
 |[],a,b,h,_=>h
 |p::r,a,b,(f,h2,h3,h4),k=>(f,h2,h3.same λi x y=>k i x<|by let:=h4.le;lia,h4.same ())
structure RI(it:5->Keyed)(kind:SortKind)(lt:Yc)(N:5)(ps:List (5×5×5))(lo:5)(ix:Yg)(st:SortSt):4 where
 b:SBp it kind ps.toArray ix st
 size:ix.size=N
 perm:ix.Perm (Array.range N)
 ch:zk lt ix 0 ps lo
 le:lo<=N
def Hz{i lo:5}   (W:Wk lt)(O:zi f w A s b m lt N)(R:RI m b lt N e lo n st)(Y:i+1<e.length)
 (h:∀g j a,g.length+1=e.length->RI m b lt N g lo j a->(∀i,lo<=i->gx j i=gx n i)->Q 6 a):YG f w A E s (mergeAt' i) Q st:=by
 let(l,x,y,r,rfl,hl):∃l x y r,e=l++x::y::r/\l.length=i:=(e.take i,e[i],e[i+1],e.drop<|i+2,by
  simp,())
 have(c,v,z):=R.ch.app;have(B,o,C):=x;have(Z,p,yp):=y;have(F,G,H,I,J,L,M):=z;let P:=F;let S:=I;let T:=G;let U:=J;let q:zk lt n (c+o+p) r lo:=M;subst P S;let lr:=q.le;let le:=R.le;subst hl;calc RN W O R.b R.size R.perm H L T U () λj a X t u k'=>h (l++%[B,o+p|C]::r) j a () (X,by rw[t.size_eq];calc R.size,t.trans R.perm,?_,R.le) ();rw[Nat.add_assoc]at u;calc(v.same ()).cat (9,(),u,?_);rw[<-Nat.add_assoc];exact q.same ()
def RO {x:5×5×5}(f):(l++[x]).toArray.modify ((l++[x]).toArray.size-1) f=(l++[f x]).toArray:=by
 let e:∀l:List (5×5×5),(l++[x]).modify l.length f=l++[f x]:=λl=>by
  induction l with
  |nil=>rfl
  |cons y l a=>show y::(l++[x]).modify l.length f=_;rw[a];rfl
 simp[e]
abbrev U2:=Option Unit×Unit
abbrev U1:=Option Unit×5
noncomputable def tT(a:5):SM (ForInStep U2):=get>>=λz=>match if(pendingOf z).size>1 then(pendingOf z)[(pendingOf z).size-2]? else 8 with
 |some %[_,_|older]=>if older<=a then pure (.done %[8|Yq])else mergeAt' ((pendingOf z).size-2)>>=λb=>if(not b)=6 then pure (.done %[!Yq|Yq])else pure (.yield %[8|Yq])
 |_=>pure (.done %[8|Yq])
noncomputable def rp(lo n:5):SM (ForInStep U1):=(modify λs=>setPending s<|(pendingOf s).push %[lo,n|0])>>=λ_=>pure<|.yield %[8|lo+n]
noncomputable def tR(lo n a:5)(c:U2):SM (ForInStep U1):=match c.1 with
 |some r=>pure (.done %[!r|lo])
 |none=>(modify λs=>setPending s<|(pendingOf s).modify ((pendingOf s).size-1) λ%[st,len|_]=>%[st,len|a])>>=λ_=>rp lo n
noncomputable def mx(N lo n:5):SM (ForInStep U1):=get>>=λz=>match(pendingOf z).back? with
 |some %[b,a|_]=>(forIn [:N] (%[8|Yq]:U2) λ_ _=>tT<|power' N (2*b+a) (2*b+a+a+n) N)>>=tR lo n (power' N (2*b+a) (2*b+a+a+n) N)
 |_=>rp lo n
noncomputable def o4(N a lo:5):SM (ForInStep U1):=if lo ≥ N then pure (.done %[8|lo])else countRun' lo (N-lo)>>=λr=>match r with
 |some n=>if n<a then(liftM (rule "list.sort.binary-insertion"):SM PUnit)>>=λ_=>binarySort' lo (min (N-lo) a) n>>=λb=>if(not b)=6 then pure (.done %[!Yq|lo])else mx N lo (min (N-lo) a)else mx N lo n
 |_=>pure (.done %[!Yq|lo])
def tS(p:Array (5×5×5)):5:=if Option.any (λx=>decide<|x<p[p.size-2+1]?.elim 0 λx=>x.2.1) (if p.size-2>0 then p[p.size-2-1]?.map λx=>x.2.1 else 8)=6 then p.size-2-1 else p.size-2
noncomputable def tU:SM (ForInStep U2):=get>>=λz=>if(pendingOf z).size<=1 then pure (.done %[8|Yq])else mergeAt' (tS<|pendingOf z)>>=λb=>if(not b)=6 then pure (.done %[!Yq|Yq])else pure (.yield %[8|Yq])
set_option smartUnfolding false in
def kR:sortRuns'=get>>=λz=>(forIn [:(arrOf z).size] (%[8|0]:U1) λ_ c=>o4 (arrOf z).size (minRun' (arrOf z).size (arrOf z).size 0) c.2)>>=λc=>match c.1 with
 |some r=>pure r
 |none=>(forIn [:(arrOf z).size] (%[8|Yq]:U2) λ_ _=>tU)>>=λc=>match c.1 with
  |some r=>pure r
  |none=>pure Yq:=rfl
def RP [Decidable c]{x y z:5}(h:x<=z)(k:y<=z):(if c then x else y)<=z:=by split<;>assumption
def RQ :tS p<=p.size-2:=RP (Vf _ _)<|Zf _
section
variable  {lo k pw:Nat}  {R:ForInStep U1->Yy}(Sg:Seg lt jx lo (lo+k))(k1:1<=k)(k2:lo+k<=N)(suf:∀i,lo+k<=i->i<N->gx jx i=i)
 (go:∀ps jx st',RI it kind lt N ps (lo+k) jx st'->(∀i,lo+k<=i->i<N->gx jx i=i)->R (.yield (none,lo+k)) st')
include Sg k1 k2 suf go
theorem HA(a:RI it kind lt N ps lo jx st):YG b w A E s (rp lo k) R st:=
 Yl<|wpS_modify<|Ym<|go (ps++[%[lo,k|0]]) jx _ ((a.b.arr,a.b.kd,a.b.fl,by rw[DP,a.b.pd];simp),a.size,a.perm,a.ch.cat (9,k1,Sg,9),k2) suf
theorem RR(l:1<=ps.length)(a:RI it kind lt N ps lo jx st):YG b w A E s (tR lo k pw %[8|Yq]) R st:=by
 rcases List.eq_nil_or_concat ps with z|⟨l2,v,z⟩
 .ext
 .subst z;rw[List.concat_eq_append]at a;refine Yl<|wpS_modify<|HA (ps:=l2++[%[v.1,v.2.1|pw]]) Sg k1 k2 suf go ((a.b.arr,a.b.kd,a.b.fl,?_),a.size,a.perm,?_,a.le)
  .rw[DP,a.b.pd];exact RO _
  .let(-c,e,f,g,h,j):=a.ch.app;exact e.cat (f,g,h,j)
end
def RU {lo m:5}  (W:Wk lt)(O:zi e w A s c g lt N)(q:1<=h.length)(j:RI g c lt N h lo n st)(l:Q (.done %[8|Yq]) st)
 (go:∀a f b,1<=a.length->RI g c lt N a lo f b->(∀i,lo<=i->gx f i=gx n i)->Q (.yield %[8|Yq]) b):YG e w A E s (tT m) Q st:=by
 calc Yl<|wpS_get ?_;rw[j.b.pd]
 split
 .let r:2<=h.length:=by
   grind
  refine wi (λ_=>Ym l) λ_=>Yl<|Hz W O j () λa f b t o p=>Ym<|go a f b () o p
 .exact Ym l
def RV {lo k:5}  (W:Wk lt)(O:zi g w A s a m lt N)(B:SBp m a b.toArray f st)(L:PlO lo N x f (lo+k))(U:wl lt lo f (lo+k))(C:zk lt x 0 b lo)(le:lo<=N)(q:1<=k)(r:lo+k<=N)
 (go:∀b e h,RI m a lt N b (lo+k) e h->(∀i,lo+k<=i->i<N->gx e i=i)->R (.yield %[8|lo+k]) h):YG g w A E s (mx N lo k) R st:=by
 let t:Seg lt f lo (lo+k):=(L.mid,U);let u:RI m a lt N b lo f st:=(B,L.size,L.perm,C.same λi _ n=>L.low i n,le);calc Yl<|wpS_get ?_;rw[B.pd];rcases List.eq_nil_or_concat b with z|⟨l,y,z⟩
 .subst z;exact HA t q r L.suf go u
 .let j:1<=b.length:=by ext
  rw[show b.toArray.back?=!y by simp_all];refine Yl<|Yn (Yo (I:=λ_ c o=>c=%[8|Yq]/\∃b e,1<=b.length/\RI m a lt N b lo e o/\∀i,lo<=i->gx e i=gx f i) ?_ (λ_ _ z=>z) (9,_,f,j,u,λ_ _=>9)) ?_
  .rintro y c o _ _ ⟨rfl,b,e,j,p,un⟩;exact RU W O j p () ()
  .rintro c o ⟨rfl,b,e,j,p,un⟩;exact RR (t.same ()) q r (λi v n=>(un i<|Zh (Ut _ _) v).trans<|L.suf i v n) go j p
def RW   (W:Wk lt)(O:zi f w A s e h lt N)(R:RI h e lt N g N i st)(j:g.length<=1->Q (.done %[8|Yq]) st)
 (go:∀a l b,a.length+1=g.length->RI h e lt N a N l b->Q (.yield %[8|Yq]) b):YG f w A E s tU Q st:=by
 calc Yl<|wpS_get ?_;rw[R.b.pd];calc wi (λc=>Ym<|j c) λc=>Yl<|Hz W O R ?_ λa i b m n _=>Ym<|go a i b m n;let:=RQ (p:=g.toArray)
 grind
def RX  (W:Wk lt)(O:zi t w A s j u lt N)(S:RI u j lt N [] 0 l st)(q:∀i,i<N->gx l i=i)(y:2<=N)
 (h:∀o n,arrOf n=o.map u->failedOf n=8->Pl N o N->Up lt o N->Q Yq n):YG t w A E s sortRuns' Q st:=by
 let sz:(arrOf st).size=N:=by rw[S.b.arr,Us];exact S.size
 rw[kR];calc Yl<|wpS_get ?_;rw[sz];refine Yl<|Yn (Yo (I:=λx c F=>∃lo f l,c=%[8|lo]/\x<=lo/\RI u j lt N f lo l F/\∀i,lo<=i->i<N->gx l i=i) (Q:=λc F=>∃f l,c=%[8|N]/\RI u j lt N f N l F) ?_ ?_ (0,[],l,9,Zf _,S,λi _ hi=>q i hi)) ?_
 .intro x c F _ xn;calc qj λlo f l=>qW λz Z R q=>?_;subst z;let le:=R.le;refine wi (λC=>?_) λC=>?_
  .let e:lo=N:=Nat.le_antisymm le C;subst e;exact Ym (f,l,9,R)
  let C:lo<N:=Ys C;let L1:PlO lo N l l (lo+1):=(R.size,R.perm,λ_ _=>9,λa G y=>by
   rw[q a G (Zg y C)];calc(G,y),λa G y=>q a (UD G) y)
  let sub:∀{k},k<=N-lo->lo+k<=N:=λh=>Zh (VL h _)<|Yu<|VA le;let J:∀{k P T}{v:ForInStep U1->Yy},SBp u j f.toArray P T->1<=k->k<=N-lo->PlO lo N l P (lo+k)->wl lt lo P (lo+k)->(∀f o n,x+1<=lo+k->RI u j lt N f (lo+k) o n->(∀i,lo+k<=i->i<N->gx o i=i)->v (.yield %[8|lo+k]) n)->YG t w A E s (mx N lo k) v T:=
   λB k1 k2 L U g=>RV W O B L U R.ch le k1 (sub k2) λf o n v M=>g f o n (Nat.add_le_add Z k1) v M
  exact Yl<|RJ W O (sub<|Zf _) (λm kx s2 B2 m1 m2 L2 U2=>wi (λmn=>Yl<|wpS_lift<|wpAny_rule (9,Yl<|RM W O (sub<|Nat.min_le_left _ _) (Nat.le_min.mpr (m2,Zz mn)) m1 B2 L2 U2 λP T B3 L3 U3=>J B3 (Nat.le_min.mpr (Nat.sub_pos_of_lt C,Nat.zero_lt_of_lt mn)) (Nat.min_le_left _ _) L3 U3 λf o n g v M=>je _ f o (9,g,v,M))) λ_=>J B2 m1 m2 L2 U2 λf o n g v M=>je _ f o (9,g,v,M)) (Nat.sub_pos_of_lt C) R.b L1
 .rintro c F ⟨lo,f,l,rfl,Z,R,q⟩;let le:=R.le
  grind
 .rintro c F ⟨f,l,rfl,R⟩;refine Yl<|Yn (Yo (I:=λx c H=>∃f l,c=%[8|Yq]/\(f.length<=1\/f.length+x<=N)/\RI u j lt N f N l H) (Q:=λc H=>∃f l,c=%[8|Yq]/\f.length<=1/\RI u j lt N f N l H) ?_ ?_ (f,l,9,.inr<|by let:=R.ch.le;lia,R)) ?_
  .rintro x c H _ xn ⟨f,l,rfl,lp,R⟩;exact RW W O R (λc1=>(f,l,9,c1,R)) ()
  .grind
  .rintro c H ⟨f,l,rfl,lp,R⟩;cases f with
   |nil=>
    let:0=N:=R.ch;lia
   |cons p r=>
    let e:r=[]:=List.eq_nil_of_length_eq_zero<|Nat.le_zero.mp<|Nat.le_of_succ_le_succ lp;subst e;let(!d1,d2,X,Y):=R.ch;let Y:0+p.2.1=N:=Y;rw[Y]at X;exact Ym<|h l H R.b.arr R.b.fl (R.size,R.perm,λa ha=>(X.pl a (Uc _) ha).2,λa G y=>Zn y<|Nat.not_lt_of_le G) λa b ab bn=>X.up a b (Uc _) ab bn
end
open PySem PyProof.Rows
section
variable           {st:SortSt}
def HB(W:Wk lt)(O:zi b w A s c f lt n) (B:SB f c ix st)(L:Pl n ix 1)(g:2<=n)(j:n<1000)
 (h:∀e a,arrOf a=e.map f->failedOf a=8->Pl n e n->Up lt e n->Q Yq a):YG b w A E s sortRuns' Q st:=
 RX W O ((B.arr,B.kd,B.fl,B.pd),L.size,L.perm,9,Uc _) (λi l=>if z:i=0 then by rw[z];let:=L.pre 0 ();lia else L.suf i () l) g h
end
def jL(a:Ye)(i:5):Value:=a.getD i .none
def DQ(a):a.toArray.zip a.toArray=(Array.range a.length).map λi=>%[jL a i|jL a i]:=by
 apply Array.ext_getElem?;intro k;rw[UW];by_cases h:k<a.length
 .rw[Array.getElem?_range,Zd h];let e:jL a k=a[k]:=by unfold jL;rw[Uh,Zqg h];rfl
  simp[Array.getElem?_zip_eq_some,h,e]
 .rw[Array.getElem?_range,Ze h,VS (by simp;lia)];rfl
def HC (h:k<n):gx (Array.range n) k=k:=by
 simp_all[gx]
def B4(n k)(b:k<=n):Pl n (Array.range n) k:=by
 refine(Array.size_range,Array.Perm.refl _,λa c=>?_,λa _ h=>HC h)
 rwa[HC ()]
section
variable {prog:Program}{w:World}{A:Around}  {s:Shared}{lt:Yc}
def vr(prog:Program)(w:World)(A:Around)(s:Shared)(b:Ye)(lt:Yc):4:=
 ∃a,(∀(E:Ya)(Q:SortKind->Yz),Q a s->YF prog w A (keyKind' b.toArray) Q E s)/\zi prog w A s a (λi=>%[jL b i|jL b i]) lt b.length
def HD    (W:Wk lt)(u:↥s a=! seqObj "list" c.toArray n)(x:c.length<1000)
 (G:∀z,(∀b o,b≠a->↥s b=!o->z.get? b=!o)->2<=c.length->vr prog w A {s with heap:=z} c lt)
 (h:∀f,Pl c.length f c.length->Up lt f c.length->P (.done<|.ret .none) {s with heap:=sortedHeap s.heap a c (f.map<|jL c)}):
 YF prog w A (Builtin.«list.sort» ([.ref a],[])) P E s:=by
 rw[list_sort_plain];let B:a<s⁻¹:=Zk u;let(y,C):∃y,(s.heap.update a<|Obj.mapSeq λ_=>#[]).get? a=! seqObj "list" #[] y:=(_,get?_update_seq u<|λ_=>#[]);calc Za<|listItems_at u 9<|Za<|listUpdate_at u 9<|Za<|seqEpoch_at C 9<|Za<|wpAny_newTuple<|Za<|wpAny_newList<|wpAny_holding ?_;let p:∀b,b<s⁻¹->b≠(s.heap.update a<|Obj.mapSeq λ_=>#[]).objs.size:=λb q=>by
  rw[Heap.size_update];exact Zi q
 let r:∀b,b<s⁻¹->b≠((s.heap.update a<|Obj.mapSeq λ_=>#[]).push<|seqObj "tuple" c.toArray 0).objs.size:=λb q=>by
  rw[size_push',Heap.size_update];exact Zi<|UA q
 let v:(((s.heap.update a<|Obj.mapSeq λ_=>#[]).push<|seqObj "tuple" c.toArray 0).push<|seqObj "list" #[] 0).get? a=! seqObj "list" #[] y:=by
  rw[Heap.get?_push_ne _ _ _ (r a B),Heap.get?_push_ne _ _ _ (p a B)];exact C
 let H:∀b o,b≠a->↥s b=!o->(((s.heap.update a<|Obj.mapSeq λ_=>#[]).push<|seqObj "tuple" c.toArray 0).push<|seqObj "list" #[] 0).get? b=!o:=λb o q e=>by
  rw[Heap.get?_push_ne _ _ _ (r b<|Zk e),Heap.get?_push_ne _ _ _ (p b<|Zk e),Heap.get?_update_ne _ _ _ _ q];exact e
 let F:∀(f:Yg),(f.map λi=>%[jL c i|jL c i]).map (·.2)=f.map (jL c):=λf=>by
  rw[Array.map_map];rfl
 show YF prog w A _ P E {s with heap:=((s.heap.update a<|Obj.mapSeq λ_=>#[]).push<|seqObj "tuple" c.toArray 0).push (seqObj "list" #[] 0)};dsimp only;let sz:c.toArray.size=c.length:=by simp
 by_cases l:c.toArray.size<2
 .rw[Zd l,Zd l];calc Za<|Zb ?_;rw[StateT.run_pure];calc Za<|Zb ?_;dsimp only;calc Za<|seqEpoch_at v 9<|Za<|listUpdate_at v 9 ?_ (hsz2:=by rw[Us,DQ,Us,Array.size_range,sizeLine_eq];lia);simp only[bne_self_eq_false,UM,if_false];let g:=h (Array.range c.length) (B4 _ _<|Zf _) λi j R S=>()
  rw[<-F,<-DQ]at g;exact Zb g
 .rw[Ze l,Ze l];let(-t,I,J):=G _ H ();calc Za<|I _ _ ?_;refine Za<|Zc (HB W J (ix:=Array.range c.length) (st:=SortSt.mk' t (c.toArray.zip c.toArray) #[] 07 8) (Q:=λ_ m=>∃f,arrOf m=f.map (λi=>%[jL c i|jL c i])/\failedOf m=8/\Pl c.length f c.length/\Up lt f c.length)
   (DQ c,9,9,9) (B4 _ _ ()) () x λf m L M N O=>(f,L,M,N,O)) ?_ λ_ _ e=>e
  rintro⟨⟨⟩,m⟩ T ⟨rfl,f,q1,q2,q3,q4⟩;dsimp only;refine Za<|seqEpoch_at v 9<|Za<|listUpdate_at v 9 ?_ (hsz2:=by
   rw[Us,q1,Us,q3.size,sizeLine_eq];lia)
  rw[q2];simp only[bne_self_eq_false,UM,if_false];let g:=h f q3 q4;rw[<-F,<-q1]at g;exact Zb g
def HE  (W:Wk lt)
 (j:wpAny (model prog w) A.in1 (collect x) (λa c=>a.length<1000/\(∀f,(∀b o,↥c b=!o->f.get? b=!o)->2<=a.length->vr prog w A.in1.in1 {c with heap:=f} a lt)/\
  ∀g f l,Pl a.length g a.length->Up lt g a.length->(∀b o,↥c b=!o->f.get? b=!o)->c⁻¹<=l->(∃e,f.get? l=! seqObj "list" (g.map<|jL a) e)->Q (.ref l) {c with heap:=f}) E s):
 YF prog w A (call (.builtin "sorted") [x]) Q E s:=by
 calc Calls.call_function_entry kind_sorted plain_sorted entry_sorted (args_sorted1 _)<|Za<|Zb<|Za<|Zc j (λa c z=>?_) λ_ _ e=>e;let(h,m,n):=z;let i:(c.heap.push<|seqObj "list" a.toArray 0).get? c⁻¹=! seqObj "list" a.toArray 0:=Zr _ 9;let q:∀b o,↥c b=!o->b≠c⁻¹:=λb o e=>Zi<|Zk e;refine Za<|wpAny_newList<|Za<|wpAny_holding<|wpAny_call_entry slot_list_sort (_,i,9) entry_list_sort (HD W i h (λf r=>m f λb o e=>r b o (q b o e)<|Zq _ e) λg p u=>(_,9,Zb (_,9,n g _ _ p u (λb o e=>?_) (Zf _)<|sortedHeap_at i)))<|args_list_sort _
 grind[size_push',sortedHeap_old,Nat.lt_succ_of_lt,Heap.lt_size,Heap.get?_push_of_some]
end
structure Tot{α:Type}(ltb:α->α->Bool):4 where
 asy:∀a b,ltb a b=6->ltb b a=7
 neg:∀a b c,ltb a c=6->ltb a b=6\/ltb b c=6
 tot:∀a b,ltb a b=7->ltb b a=7->a=b
def Tot.irr  (T:Tot c)(a):c a a=7:=by
 cases q:c a a with
 |false=>rfl
 |true=>let:=T.asy _ _ q;ext
def Tot.wk {c:α->α->Bool}(T:Tot c)(f:5->α):Wk λi j=>c (f i)<|f j:=(λi j=>T.asy _ _,λi j k=>T.neg _ _ _)
noncomputable def qs(p q:3×3):Bool:=decide (p.1<q.1)||decide (p.1=q.1)&&decide (p.2<q.2)
theorem X0 :qs p q=6↔p.1<q.1\/p.1=q.1/\p.2<q.2:=by
 unfold qs;simp
theorem ZV :qs p q=7↔¬(p.1<q.1\/p.1=q.1/\p.2<q.2):=by
 rw[<-X0];simp
def vH:Tot qs:=by
 refine(λa b h=>?_,λa b c h=>?_,λa b e f=>?_)
 .rw[X0]at h;rw[ZV];lia
 .grind[X0]
 grind[ZV]
def jH:Jz->Jz->Bool
 |[],[]=>7
 |[],_::_=>6
 |_::_,[]=>7
 |p::r,q::s=>if p=q then jH r s else qs p q
def W5(p q)(r s):jH (p::r) (q::s)=if p=q then jH r s else qs p q:=rfl
theorem HF:∀a b:Jz,jH a b=6->jH b a=7
 |[],[],h=>JG h
 |[],_::_,_=>9
 |_::_,[],h=>JG h
 |p::r,q::s,h=>by
  rw[W5]at h ⊢;by_cases e:p=q
  .rw[Zd e]at h;rw[Zd e.symm];exact HF r s h
  .rw[Ze e]at h;rw[Ze λz=>e z.symm];exact vH.asy _ _ h
theorem HG:∀a b c:Jz,jH a c=6->jH a b=6\/jH b c=6
 |[],[],c,h=>.inr h
 |[],_::_,_,_=>.inl 9
 |_::_,_,[],h=>JG h
 |p::r,[],q::s,_=>.inr 9
 |p::r,x::t,q::s,h=>by
  rw[W5]at h;rw[W5,W5];by_cases e:p=q
  .rw[Zd e]at h;by_cases f:p=x
   .rw[Zd f,Zd (f.symm.trans e)];exact HG r t s h
   .rw[Ze f,Ze λz=>f<|e.trans z.symm]
    induction z:qs p x with
    |true=>simp
    |false=>
     right;rw[<-e]
     induction y:qs x p with
     |true=>rfl
     |false=>exact Zn (vH.tot _ _ z y) f
  .rw[Ze e]at h;by_cases f:p=x
   .ext
   .rw[Ze f];by_cases g:x=q
    .left
     rwa[g]
    .rw[Ze g];exact vH.neg _ _ _ h
theorem HH:∀a b:Jz,jH a b=7->jH b a=7->a=b
 |[],[],_,_=>9
 |[],_::_,h,_=>by cases h
 |_::_,[],_,h=>by cases h
 |p::r,q::s,c,h2=>by
  rw[W5]at c h2;by_cases e:p=q
  .rw[Zd e]at c;rw[Zd e.symm]at h2;rw[e,HH r s c h2]
  .rw[Ze e]at c;rw[Ze λz=>e z.symm]at h2;exact Zn (vH.tot _ _ c h2) e
def yI:Tot jH:=(HF,HG,HH)
section
variable {α: Type}(ltb:α -> α -> Bool)
noncomputable def wv(x:α):List α->List α
 |[]=>[x]
 |y::r=>if ltb x y=6 then x::y::r else y::wv x r
def Qd:List α->List α
 |[]=>[]
 |x::r=>wv ltb x (Qd r)
def Sd(l:List α):4:=l.Pairwise λa b=>ltb b a=7
variable {ltb}
theorem DR(x):∀l:List α,(wv ltb x l).Perm (x::l)
 |[]=>VD _
 |y::r=>by
  unfold wv
  split
  .rfl
  .exact((DR x r).cons y).trans<|List.Perm.swap x y r
theorem QD:∀l:List α,(Qd ltb l).Perm l
 |[]=>VD _
 |x::r=>(DR x _).trans ((QD r).cons x)
theorem HJ(T:Tot ltb)(x):∀l:List α,Sd ltb l->Sd ltb (wv ltb x l)
 |[],_=>V4 _ _
 |y::r,h=>by
  have(f,b):=Jk.mp h;unfold wv
  split
  .rename_i c;calc Jk.mpr (λz a=>?_,h);rcases U0.mp a with e|e
   .rw[e];exact T.asy _ _ c
   .induction q:ltb z x with
    |false=>rfl
    |true=>
     rcases T.neg x z y c with u|u
     .rw[T.asy _ _ u]at q;exact JG q
     ext
  .refine Jk.mpr (λz a=>?_,HJ T x r b)
   grind[DR]
theorem X1(T:Tot ltb):∀l:List α,Sd ltb (Qd ltb l)
 |[]=>List.Pairwise.nil
 |x::r=>HJ T x _ (X1 T r)
theorem B5(T:Tot ltb):∀{a b:List α},a.Perm b->Sd ltb a->Sd ltb b->a=b
 |[],b,p,_,_=>p.nil_eq
 |x::r,b,p,ha,hb=>by
  induction b with
  |nil=>ext
  |cons y t=>
   have(c,f):=Jk.mp ha;have(g,h):=Jk.mp hb;let e:x=y:=by
    rcases U0.mp (p.mem_iff.mp Zqs)with z|z
    .exact z
    .rcases U0.mp (p.mem_iff.mpr Zqs)with u|u
     .exact u.symm
     .exact T.tot _ _ (g x z)<|c y u
   subst e;rw[B5 T p.cons_inv f h]
def DS(T:Tot ltb)   (p:Pl l.length c l.length)(u:Up (λi j=>ltb (l.getD i d)<|l.getD j d) c l.length):c.toList.map (λi=>l.getD i d)=Qd ltb l:=by
 refine B5 T ?_ ?_<|X1 T l
 .calc VB ?_ (QD l).symm;let q:c.toList.Perm (List.range l.length):=by
   let:=Js.mp p.perm;simpa using this
  calc(q.map _).trans<|List.Perm.of_eq ?_;apply List.ext_getElem
  .simp
  .intro i o e;simp[e]
 .calc V2.mpr λa b f g h=>?_;rw[VT,VT];let sz:c.toList.length=l.length:=by rw[Ui,p.size]
  rw[Zql]at f g;let m:c.toList[a]=gx c a:=by
   simp_all[gx]
  let n:c.toList[b]=gx c b:=by
   simp_all[gx]
  rw[m,n];exact jV.no (T.wk λi=>l.getD i d)<|u a b h ()
end
theorem Ql{α:Type}{l:List α} {d x:α}(h:l[i]?=!x):l.getD i d=x:=()
def X2(h:Heap)(b:Ye)(c:Jz):4:=b.length=c.length/\∀(i:5)p,c[i]?=!p->∃a o n t u,b[i]?=! .ref a/\h.get? a=!o/\o.cls=.type "tuple"/\o.data=.seq #[.int p.1 t,.int p.2 u] n
theorem HK :∀{b:Ye}{c:Jz},X2 h b c->∃fs,W.KatTups h b fs/\fs.length=b.length/\∀v∈fs,∃k t,v=Value.int k t
 |[],c,q=>([],.nil,9,())
 |v::b,[],q=>by let:=q.1;simp at this
 |v::b,p::c,q=>by
  let(a o n t u,e,f,g,j):=q.2 0 p 9;obtain rfl:=Zqi e;have(fs,l,m,s):=HK (by let:=q.1;simp_all,λi p r=>q.2 (i+1) p r);refine(.int p.1 t::fs,.cons f g j 9 l,by simp[m],λv w=>?_)
  grind
def RY  (q:X2 s.heap l m)(N:2<=l.length):vr e w A s l λi j=>qs (m.getD i %[0|0])<|m.getD j %[0|0]:=by
 let(-fs,x,O,y):=HK q;refine(tuples'<|Value.type "int"!=Value.type "tuple",λE Q h=>W.kat_kind (T:=Value.type "int") x () (λv B=>?_) 9 h,λi j P R E Q h=>?_)
 .let(k t,rfl):=y v B;exact W.Looks.of_pure 9
 .let S:=q.1;let(p,r):∃p,m[i]?=!p:=by grind
  let(b,f):∃p,m[j]?=!p:=by grind
  let(a o n t u,C,F,U,G):=q.2 i p r;let(X Y Z H I,J,L,f3,M):=q.2 j b f;dsimp only at h;rw[Ql r,Ql f]at h;show YF e w A (keyLt' _ (jL l i)<|jL l j) Q E s;unfold jL;rw[Ql C,Ql J];calc W.kat_lt F G L M ?_;calc W.kat_cons<|PySem.SeqAt.EqAt.int_int p.1 t b.1 H e w _ _ ?_;by_cases c:p.1=b.1
  .rw[show(p.1==b.1)=6 by simpa using c];calc W.kat_yes<|W.kat_cons<|PySem.SeqAt.EqAt.int_int p.2 u b.2 I e w _ _ ?_;by_cases d:p.2=b.2
   .rw[show(p.2==b.2)=6 by simpa using d];refine W.kat_yes<|W.kat_nil ?_
    grind[ZV]
   .rw[show(p.2==b.2)=7 by simp_all];calc W.kat_no<|W.kat_one _ _<|lt_int ?_;let z:qs p b=decide (p.2<b.2):=by
     grind[X0,ZV]
    rw[z]at h;exact h
  .rw[show(p.1==b.1)=7 by simpa using c];calc W.kat_no<|oneLt_int ?_;let z:qs p b=decide (p.1<b.1):=by
    by_cases g:p.1<b.1
    .rw[Zp g,X0];lia
    .rw[Zo g,ZV];lia
   rwa[z]at h
structure RowAt(h:Heap)(v:Value)(r:Jz)(a:Addr)(o:Obj)(us:Ye)(n:5):4 where
 isv:v=.ref a
 get:h.get? a=!o
 cls:o.cls=.type "tuple"
 dat:o.data=.seq us.toArray n
 prs:X2 h us r
def DU      (ok:xr P w H h)(g:Is H (rD r) x)(j:jv x v):∃a o l n,RowAt h v r a o l n:=by
 let(a I,rfl,m,e):=g;obtain rfl:=j;let(_,c,ri,o,q,s,n,t):=ok a _ m;refine jX a o c n (9,q,s,t,?_,λi p y=>?_)
 .let J:=e.length;let L:=ri.length
  ext
 .let(-x,z,A):=e.get (by rw[Zv,y];rfl);let(-u,M,B):=ri.get z;let(-b,rfl,C):=nN.mp A;obtain rfl:=B;let(_,f,E,N,O,Q,R,S):=ok b _ C;let(T U,rfl,F,G):=Bf E;let(X,rfl):=F;let(Y,rfl):=G
  ext
theorem HM(O:A.units+04<cLine) {E:Ya} :∀{r j:Jz}{f b:Ye}i,X2 s.heap f r->X2 s.heap b j->
 y=decide (r.length<j.length)->Q (jH r j) s->W.KatLex l w A 7 y Q (f.zip b) i s
 |[],[],f,b,i,q,g,hf,h=>by
  obtain rfl:f=[]:=Jn.mp q.1;calc W.kat_nil ?_;rw[hf];calc h
 |[],p::j,f,b,i,q,g,hf,h=>by
  obtain rfl:f=[]:=Jn.mp q.1;calc W.kat_nil ?_;rw[hf,Zp ()];calc h
 |p::r,[],f,b,i,q,g,hf,h=>by
  obtain rfl:b=[]:=Jn.mp g.1;rw[List.zip_nil_right];calc W.kat_nil ?_;rw[hf,Zo ()];calc h
 |p::r,e::j,f,b,i,q,g,hf,h=>by
  let(a o n t u,m,C,F,G):=q.2 0 p 9;let(H P R I J,x,L,M,N):=g.2 0 e 9;cases f with
  |nil=>calc J6 m
  |cons v f=>
   cases b with
   |nil=>calc J6 x
   |cons S b=>
    let m:some v=! Value.ref a:=m;let x:some S=! Value.ref H:=x;obtain rfl:=Zqi m;obtain rfl:=Zqi x;let T:Reads s.heap (.ref a) (pD p) _:=.tuple C F G<|.cons (.int p.1 t)<|.cons (.int p.2 u) .nil;let R2:Reads s.heap (.ref H) (pD e) _:=.tuple L M N<|.cons (.int e.1 I)<|.cons (.int e.2 J) .nil;let Y:∀z:3×3,(pD z).depth=1:=λz=>by
     rfl
    calc W.kat_cons<|PySem.SeqAt.eqAt_reads _ _ A s _ _ _ _ T R2 9 9 () l w _ _ ?_;rw[W5]at h;by_cases c:p=e
    .subst c;rw[Rt (DD p)];rw[Zd 9]at h;refine W.kat_yes<|HM O (E:=E) (i+1) (by let:=q.1;simp_all,λi z B=>q.2 (i+1) z B) (by let:=g.1;simp_all,λi z B=>g.2 (i+1) z B) () h
    .rw[Ze c]at h;let ne:pD p≠pD e:=λz=>c<|by
      grind[pD]
     rw[Rs (DD p) (DD e) ne];let U:IntsAre (#[Value.int p.1 t,Value.int p.2 u]:Yk).toList [p.1,p.2]:=.cons _ _<|.cons _ _ .nil;let X:IntsAre (#[Value.int e.1 I,Value.int e.2 J]:Yk).toList [e.1,e.2]:=.cons _ _<|.cons _ _ .nil;calc W.kat_one _ _<|HT.lt_tupInts (o,C,F,n,G) (P,L,M,R,N) U X () ?_;let z:HT.lexLt [p.1,p.2] [e.1,e.2]=qs p e:=by
      grind[qs,HT.lexLt_cons,HT.lexLt_nil_nil]
     rwa[z]
def HN  {c:J0}  (hu:A.units+04<cLine)(ok:xr P w H s.heap)(S:qH H (c.map rD) xs)(U:j5 xs e)(f:∀r∈c,r ≠[])(h2:2<=e.length):
 vr B w A s e λi j=>jH (c.getD i [])<|c.getD j []:=by
 let l1:=S.length;let l2:=U.length;rw[Zql]at l1;let m:∀(i:5)r,c[i]?=!r->∃v a o q n,e[i]?=!v/\RowAt s.heap v r a o q n:=λi r l=>by
  let(-x,hx,X):=S.get (i:=i) (d:=rD r) (by rw[Zv,l];rfl);let(v,C,ru):=U.get hx;let(a o q n,R):=DU ok X ru;exact jF v a o q n (C,R)
 let g:∀(e:Ye)(c:J0),e.length=c.length->(∀r∈c,r ≠[])->(∀(i:5)r,c[i]?=!r->∃v a o q n,e[i]?=!v/\RowAt s.heap v r a o q n)->∃fs,W.KatTups s.heap e fs/\fs.length=e.length/\∀v∈fs,∃b F,v=Value.ref b/\↥s b=!F/\F.cls=.type "tuple":=by
  intro e
  induction e with
  |nil=>calc λ_ _ _ _=>([],.nil,9,λv C=>nomatch C)
  |cons v e ih=>
   intro c Y f G;cases c with
   |nil=>simp at Y
   |cons r c=>
    let(Z a o q n,I,R):=G 0 r 9;let I:some v=!Z:=I;obtain rfl:=Zqi I;let(-fs,L,k2,M):=ih c (by simpa using Y) (λr l=>f r<|Zqm _ l) λi r l=>G (i+1) r l;cases r with
    |nil=>calc Zn 9<|f [] Zqs
    |cons p r=>
     let(b F nb t u,N,O,g3,g4):=R.prs.2 0 p 9;obtain rfl:v=Value.ref a:=R.isv;calc(.ref b::fs,.cons R.get R.cls R.dat (by simpa using N) L,by simp[k2],λz hz=>?_);rcases U0.mp hz with y|y
     .exact(b,F,y,O,g3)
     .exact M z y
 let(-fs,L,k2,M):=g e c () f m;refine(tuples'<|Value.type "tuple"!=Value.type "tuple",λE Q h=>W.kat_kind (T:=Value.type "tuple") L () (λv C=>?_) 9 h,λi j X hj E Q h=>?_)
 .let(b F,rfl,N,O):=M v C;rw[<-O];exact(W.Looks.ld N).andThen .now
 .let(r,l):∃r,c[i]?=!r:=(_,Zqg ());let(r',hr'):∃r,c[j]?=!r:=(_,Zqg ());let(v a o q n,I,R):=m i r l;let(Z a' o' us' n',f1,J):=m j r' hr';dsimp only at h;rw[Ql l,Ql hr']at h;show YF B w A (keyLt' _ (jL e i)<|jL e j) Q E s;unfold jL;rw[Ql I,Ql f1,R.isv,J.isv];calc W.kat_lt R.get R.dat J.get J.dat ?_;exact HM hu (E:=E) 0 R.prs J.prs (by rw[Zm,Zm,R.prs.1,J.prs.1]) h
section
variable     {wi:TI}
def HQ(N)(cap)(A:X.calm=6)(o:Ki a X.env N X.N cap=6)(B:PI X u f wi)(E:∀i C s H j,PG (JL X a N i C s H j) u g)(F:∀i C s H j,PT (JL X a N i C s H j) c G)(J:∀i C s H j,PE (JL X a N i C s H j) p L)
 (M:∀x,foldedSetIterable f X.env x=pure x)     {Z:St}  (I:Inv X Y Z H s)(h:Bn cap wi g G L Z H Q)(r:ZO X Y Z Q t R):
 YE X (comprehension (.ListComp p [(u,f,[c],0)] a O) a X.env v (newList []) 7 (eval f X.env) t) R X.xe s:=
 GQ (test:=λl R Q s=>YE X (isTrue c l<|eval c l) Q (notedBy (model X.prog X.w) X.A l λe w=>R (.error e) w) s) N (λI m n h=>W.kct_loop I m n h)
  (λi C s H j _ _ _ _ _ _ _ _ y I q k=>Zc (F i C s H j _ _ _ _ _ I q) (λb P z=>by let(-S,T,U):=z;calc k b P S T U) λe w hx=>Zc hx (λ_ s'' z=>y _ _ z) λ_ _ z=>y _ _ z) cap A o B E (λi C s H j _=>J i C s H j) M I h r
end
theorem RZ{L:List (Addr×HO)}  (h:L.lookup b=!u):%[b|u]∈L:=by
 induction L with
 |nil=>calc J6 h
 |cons p r a=>
  grind
def xc(H:Hp)(L:List (Addr×HO)):Hp:=λb=>match L.lookup b with
 |some o=>!o
 |none=>H b
def B6   (h:∀p∈L,p.1≠b):xc H L b=H b:=by
 grind[xc,List.lookup_cons]
def HR  (b:(L.map (·.1)).Nodup)  (h:%[a|o]∈L):xc H L a=!o:=by
 unfold xc;let e:L.lookup a=!o:=by
  induction L with
  |nil=>cases h
  |cons p r c=>
   grind
 rw[e]
def HS    (h:xc H L b=!u):%[b|u]∈L\/(∀p∈L,p.1≠b)/\H b=!u:=by
 grind[xc,Zqi,RZ]
def Inv.laidMany  {Z:St}     (I:Inv X Y Z H s)(k:∀b u,↥s b=!u->i.get? b=!u)(j:∀p∈L,s⁻¹<=p.1)
 (ok:∀p∈L,yq X.prog X.w (xc H L) i p.1 p.2):Inv X Y Z (xc H L) {s with heap:=i,toks:=t'}:=by
 let c:∀b u,↥s b=!u->∀p∈L,p.1≠b:=λb u e p f z=>Zn (Zg (Zk e)<|by rw[<-z];calc j p f)<|Zy _;let l:∀b u,H b=!u->xc H L b=!u:=λb u e=>by
  rwa[B6 λp f z=>Zn (Zg (I.hok.lt e)<|by rw[<-z];calc j p f)<|Zy _]
 calc I.un ((),λb u q _ _ _=>(u.slots,k b u q),λb u q n _=>by rwa[B6 (c b u q)],(),(),(),λb o q=>(#[],())) λb u e=>?_;rcases HS e with z|⟨z,e'⟩
 .exact ok %[b|u] z
 .exact(I.hok b u e').stay () () ()
theorem HU   :∀{L:Yh},(∀i∈L,Is H (f i) (g i))->qH H (L.map f) (L.map g)
 |[],_=>by rfl
 |i::L,h=>(_,_,9,(),HU ())
theorem Y1  :∀{L:Yh},(∀i∈L,jv (g i) (u i))->j5 (L.map g) (L.map u)
 |[],_=>.nil
 |i::L,h=>.cons (h i Zqs) (Y1 λj a=>h j<|Zqm _ a)
def Pl.mem  (p:Pl n c n) (h:i∈c.toList):i<n:=by
 let q:=(Js.mp p.perm).mem_iff.mp h
 ext
def Pl.len  (p:Pl n c k):c.toList.length=n:=by rw[Ui,p.size]
def Sa(hu:X.A.units+64<cLine):qf X (.builtin "sorted") λz H Q=>∃a g c,z=[.ref a]/\Rd H a (.lst g)/\qH H (c.map rD) g/\(∀r∈c,r ≠[])/\c.length<1000/\
 ∀l(n:Yh),H l=8->(∀i∈n,i<c.length)->n.map (λi=>c.getD i [])=Qd jH c->Q (.ref l) (upd H l<|.lst<|n.map λi=>g.getD i .non):=by
 intro Y s Z H z us Q I C h;let(a,g,c,rfl,E,t,w,F,q):=h;let(-u,rfl,G):=QP C;obtain rfl:u=Value.ref a:=G;let(-f,ri,J,hz):=I.list (.inl E);let L:=t.length;let l2:=ri.length;rw[Zql]at L;let M:f.length=c.length:=()
 let N:∀b o,↥s b=!o->((s.heap.push<|seqObj "list" #[] 0).update s⁻¹<|Obj.mapSeq (·++f.toArray)).get? b=!o:=λb o e=>by
  rw[Heap.get?_update_ne _ _ _ _ (Zi<|Zk e),Heap.get?_push_ne _ _ _ (Zi<|Zk e)];exact e
 calc HE (yI.wk λi=>c.getD i [])<|collect_list J.isList ((),λO A P=>HN () (I.hok.kept λb o e=>A b o<|N b o e) t ri w P,λm O l p u A hl y=>?_) ();let(e,y):=y;rw[M]at p u;let j:s⁻¹<=l:=by
  grind[Heap.size_update,size_push']
 let R:∀i∈m.toList,∃x v,g[i]?=!x/\f[i]?=!v/\jv x v/\Is H (rD<|c.getD i []) x:=λi S=>by
  let hn:=p.mem S;let(-x,B,T):=t.get (i:=i) (d:=rD<|c.getD i []) (by
   grind[List.getElem?_map,Zqg,Ql])
  let(-v,U,rr):=ri.get B;exact(x,v,B,U,rr,T)
 refine(.ref l,upd H l<|.lst<|m.toList.map λi=>g.getD i .non,I.laid () j (?_,m.toList.map<|jL f,e,?_,?_),9,q l m.toList (I.hok.fresh j) ()<|DS yI p u)
 .rw[Zql,p.len];lia
 .grind[jL,Y1,Ql]
 .rw[y]
  congr 03
  apply Vr;simp
def Wi(a d:Addr):HO:=.ext λh=>h.IsItemsView a d
def HV:t6 X "dict.items" λx c H Q=>∃d a,x=.ref d/\c=[]/\H d=! .dK a/\∀p,H p=8->Q (.ref p) (upd H p<|Wi p d):=by
 intro Y s Z H x c v t Q I g i h;let(d a,rfl,rfl,j,q):=h;obtain rfl:=g;obtain rfl:=wD i;let(!z,lo,(l,m,f)):=Bj I.hok j;exact call_meetsIn PySem.F.slot_dict_items f.typeIs PySem.F.entry_dict_items (PySem.F.args_dict_items_1 _) (meets_dict_items (Qk X.prog X.w) d lo) ((l,f),(.ref s⁻¹,upd H s⁻¹<|Wi s⁻¹ d,I.laid (λb o e=>Zq _ e) (Zf _)<|((_,Zr _ 9,9,9),(_,Zr _ 9),λu w z n=>qS z λo=>jB λe r=>(o,n o e,r)),9,q _<|I.hok.fresh<|Zf _))
def Sb(hc:X.calm=6):qf X (.builtin "sorted") λxs H Q=>∃n d r,xs=[.ref n]/\H n=! Wi n d/\H d=!(.dK<|yj r)/\r ≠[]/\r.length<1000/\
 ∀l L,(∀p∈L,H p.1=8)->(L.map (·.1)).Nodup->(∀G,Is (xc G L) (.list<|(Qd qs r).map pD) (.ref l))->Q (.ref l) (xc H L):=by
 intro Y s Z H xs us Q I rv h;let(n,d,r,rfl,hv,hd,U,h64,q):=h;let(-u,rfl,ru):=QP rv;obtain rfl:u=Value.ref n:=ru;let(!A,_,_):=show yq X.prog X.w H s.heap n (Wi n d)from I.hok n _ hv;let(!z,lo,(ws,M,od,es,ep,d1,d2,d3,d4,d5,d6)):=Bj I.hok hd;let lk:=M.length;let lr:(yj r).length=r.length:=Zql _;let hat:s.heap.DictAt (Qk X.prog X.w) d ws ep:=(od,es,d1,d2,d3,d4,d5,d6);calc HE (vH.wk λi=>r.getD i %[0|0])<|W.kdx_collect (knd:=Qk X.prog X.w) (I.ok.hd hc) A hat (by rw[<-lk,lr];calc QC ()) λh1 tk c kp1 la G=>?_;let lv:(c.map Value.ref).length=r.length:=by rw[Zql];lia
 let pa:∀v,(∀b o,h1.get? b=!o->v.get? b=!o)->X2 v (c.map Value.ref) r:=λv B=>by
  calc(lv,λi p j=>?_);let f:i<c.length:=by
   let:=(Jb.mp j).1;lia
  let(C k x,g1,g2,g3):=G.pairs i c[i] ();let kv:KV (yj r) ws:=M;let hk:(yj r)[i]?=!%[Uj p.1|V.int p.2]:=by unfold yj;rw[Zv,j];rfl
  let N:∀{l1:List (jI×V)}{l2:List (jI×Value)}{i:5}{a:jI×V}{b:jI×Value},KV l1 l2->l1[i]?=!a->l2[i]?=!b->a.1=b.1/\jv a.2 b.2:=by
   intro l1 l2 i a b O;unfold KV at O
   induction O generalizing i with
   |nil=>intro e;simp at e
   |cons hh tt ih=>
    induction i with
    |zero=>
     intro w E;simp at w E;subst w E;calc hh
    |succ i=>
     intro w E;exact ih (by simpa using w)<|by simpa using E
  let(b1,b2):=N kv hk g1;let b1:(Uj p.1:jI)=k:=b1;subst b1;let(t1,rfl):=show ∃t,x=Value.int p.2 t from b2;let(t0,rfl):∃t,C=Value.int p.1 t:=by
   rcases KH (show KP (Uj p.1) C=6 from g2)with ⟨i0,t,w,E⟩|⟨x0,t,w,E⟩
   .cases w;exact(t,E)
   .cases w
  exact jF c[i] _ _ t0 t1 (by rw[Zv,Zqg f];rfl,B _ _ g3,9,9)
 calc((),λv B h2=>RY (pa v B) h2,λjx v l p u B hl gl=>?_);let(e,gl):=gl;rw[lv]at p u;let kk:∀b o,↥s b=!o->v.get? b=!o:=λb o e=>B b o<|kp1 b o e;let P:∀a∈c,s⁻¹<a:=G.above;let R:∀a∈c,a<l:=λa ha=>Zg (G.there ha) hl;let szl:s⁻¹<=l:=by
  induction c with
  |nil=>calc Zn (Jn.mp<|by rw[<-lv];rfl) U
  |cons a as'=>exact Zz<|Ul (P a Zqs)<|R a Zqs
 let(L,hL):∃L:List (Addr×HO),L=%[l|.lst (jx.toList.map λi=>V.ref<|c.getD i 0)]::(c.zip r).map λz=>%[z.1|HO.tup [.int z.2.1,.int z.2.2]]:=(_,9);let g:L.map (·.1)=l::c:=by
  rw[hL,Zl,Zw];show l::(c.zip r).map (λz=>z.1)=_;rw[List.map_fst_zip ()]
 let nd:(L.map (·.1)).Nodup:=by
  rw[g];calc Jl.mpr (λm=>Zy _<|R l m,?_);exact G.rise.imp λhlt=>Zi hlt
 let S:∀p∈L,s⁻¹<=p.1:=λp j=>by
  let:p.1∈L.map (·.1):=Ja.mpr (p,j,9);rw[g]at this;rcases U0.mp this with z|z
  .rw[z];exact szl
  .exact Zz<|P _ z
 let F:∀G(i:5)p,r[i]?=!p->xc G L (c.getD i 0)=! .tup [.int p.1,.int p.2]:=λG i p j=>by
  let f:i<c.length:=by
   let:=(Jb.mp j).1;lia
  calc HR nd ?_;rw[hL];calc Zqm _<|Ja.mpr (%[c[i]|p],?_,by rw[Ql (Zqg f)]);calc Ue (i:=i) ?_;rw[VM];exact(Zqg f,j)
 refine(.ref l,xc H L,I.laidMany (t':=tk) kk S λy hy=>?_,9,q l L (λp j=>I.hok.fresh<|S p j) nd λG'=>?_)
 .rw[hL]at hy;rcases U0.mp hy with z'|z'
  .rw[z'];refine(?_,jx.toList.map<|jL<|c.map Value.ref,e,?_,?_)
   .rw[Zql,p.len];exact QC ()
   .calc Y1 λi f=>?_;let hn:=p.mem f;let T:i<c.length:=()
    unfold jL;rw[Ql (Zqg T),Ql (x:=Value.ref c[i]) (by rw[Zv,Zqg T];rfl)];rfl
   .rw[gl]
    congr 03
    apply Vr;simp
  .let((a,p'),hm,rfl):=Ja.mp z';let(i,f):=Ji.mp hm;rw[VM]at f;let(i1,i2):=f;let(a' o' n' t' u',f1,f2,f3,f4):=(pa v B).2 i p' i2;rw[Zv,i1]at f1;cases f1;let(C k x,g1,g2,g3):=G.pairs i a i1;let J:=B _ _ g3;rw[J]at f2;obtain rfl:=Zqi f2;exact((by show 2<=sizeLine;decide,_,J,9),[.int p'.1 t',.int p'.2 u'],.cons (t',9)<|.cons (u',9) .nil,_,J,9,n',f4)
 .rw[yt];calc(l,_,9,HR nd<|by rw[hL];calc Zqs,?_);rw[<-DS vH p u,Zw];calc HU λi f=>?_;let hn:=p.mem f;calc nN.mpr (c.getD i 0,9,?_);let:=F G' i (r.getD i %[0|0]) (by rw[Ql (Zqg hn)];calc Zqg hn);exact this
noncomputable def xm(r:Jz)(t w:3):Jz:=if r.any λp=>decide<|p.1=t=6 then r.map λp=>if p.1=t then%[p.1|w]else p else r++[%[t|w]]
def HW :decide ((Uj a:jI)=Uj b)=decide (a=b):=()
def Sc(r)(t w):qV (yj r) (Uj t) (V.int w)=yj (xm r t w):=by
 let e:(yj r).any λa=>decide<|a.1=Uj t=r.any λp=>decide<|p.1=t:=by
  unfold yj;rw[List.any_map]
  congr 1
  funext p
  exact HW
 unfold qV xm;rw[e]
 split
 .unfold yj;rw[Zw,Zw];apply UO;intro p _;by_cases c:p.1=t
  .simp[c]
  .simp[c]
 .unfold yj;rw[Ub];rfl
theorem B7(p)(r)(t):JC (p::r) t=match JC r t with|some w=>!w|none=>if p.1=t then !p.2 else 8:=rfl
def Se(r)(t w j):JC (r.map λp=>if p.1=t then%[p.1|w]else p) j=(JC r j).map λx=>if j=t then w else x:=by
 induction r with
 |nil=>rfl
 |cons p r a=>
  grind[List.map_cons,B7,Option.map]
def Sf(r)(t):r.any λp=>decide<|p.1=t=(JC r t).isSome:=by
 induction q:JC r t with
 |none=>
  grind[Option.isSome_none,List.any_eq_false,He]
 |some w=>
  rw[Option.isSome_some,VU];exact(_,Qq q,())
def Sh(r)(t w j):JC (xm r t w) j=if j=t then !w else JC r j:=by
 unfold xm;rw[Sf];by_cases a:(JC r t).isSome=6
 .rw[Zd a,Se];by_cases e:j=t
  .rw[Zd e,e];have(x,b):=Jq.mp a;rw[b];simp
  ext
 .rw[Ze a,R3];show(match if t=j then !w else 8 with|some w=>!w|none=>JC r j)=_
  grind
def Si(r:Jz)(t w:3):(xm r t w).map (·.1)=if r.any λp=>decide<|p.1=t=6 then r.map (·.1)else r.map (·.1)++[t]:=by
 unfold xm
 split
 .rw[Zw];apply UO;intro p _;by_cases c:p.1=t
  .simp[c]
  .simp[c]
 .rw[Ub];rfl
def Sj  (h:jE r):jE (xm r t w):=by
 unfold jE;rw[Si]
 split
 .exact h
 .rename_i c;unfold jE at h;rw[List.nodup_append];calc(h,(),λa g b f=>?_);simp at f;subst f;rintro rfl;let(-p,i,e):=Ja.mp g;exact c<|VU.mpr (p,i,by simp[e])
def Sk(r)(t w):(xm r t w).length<=r.length+1:=by
 grind[xm,Zql,List.length_append]
theorem HX:∀r b,Xv (yj b) (yj r)=yj (r.foldl (λa p=>xm a p.1 p.2) b)
 |[],b=>9
 |p::r,b=>by
  let e:Xv (yj b) (yj<|p::r)=Xv (qV (yj b) (Uj p.1)<|V.int p.2) (yj r):=9;rw[e,Sc,HX r];rfl
theorem HY:∀r b,jE (b++r)->r.foldl (λa p=>xm a p.1 p.2) b=b++r
 |[],b,_=>by simp
 |p::r,b,h=>by
  let c:b.any λq=>decide<|q.1=p.1=7:=by
   grind[jE,List.any_eq_false,List.map_append,List.nodup_append]
  let e:xm b p.1 p.2=b++[p]:=by
   unfold xm;rw[c];simp
  rw[U8,e,HY r (b++[p]) (),Ug];rfl
def jw:Option 3->Option 3->Option 3
 |none,b=>b
 |some x,none=>!x
 |some x,some y=>! if x>y then x else y
def W6(a:Jz)(p:3×3):Jz:=xm a p.1<|if(JC a p.1).getD p.2>p.2 then(JC a p.1).getD p.2 else p.2
def Q0(r o:Jz):Jz:=o.foldl W6 r
def Sl(acc)(p)(t):JC (W6 acc p) t=if t=p.1 then jw (JC acc t) !p.2 else JC acc t:=by
 unfold W6;rw[Sh];by_cases e:t=p.1
 .rw[Zd e,Zd e,e]
  induction JC acc p.1 with
  |none=>simp[jw]
  |some x=>simp[jw]
 ext
theorem B8(t):∀o r,jE o->JC (Q0 r o) t=jw (JC r t) (JC o t)
 |[],r,_=>by
  show JC r t=jw (JC r t) 8
  induction JC r t<;>rfl
 |p::o,r,h=>by
  have(a,b):=Jl.mp h;let e:Q0 r (p::o)=Q0 (W6 r p) o:=9;rw[e,B8 t o _ b,Sl,B7];by_cases c:t=p.1
  .let n:JC o t=8:=by
    induction q:JC o t with
    |none=>rfl
    |some w=>exact Zn (Ja.mpr (_,Qq q,c)) a
   rw[Zd c,n,Zd c.symm]
   induction jw (JC r t) !p.2<;>rfl
  grind
theorem B9:∀o r,jE r->jE (Q0 r o)
 |[],r,h=>h
 |p::o,r,h=>B9 o _ (Sj h)
theorem DV:∀o r,(Q0 r o).length<=r.length+o.length
 |[],r=>Zf _
 |p::o,r=>by
  let a:=DV o<|W6 r p;let b:(W6 r p).length<=r.length+1:=Sk _ _ _;show(Q0 (W6 r p) o).length<=_
  grind
def HZ (h:r ≠[])(a:jE o):Q0 r o ≠[]:=by
 intro z
 induction r with
 |nil=>calc h 9
 |cons p r=>
  let q:=B8 p.1 o (p::r) a;rw[z]at q;let:∃x,JC (p::r) p.1=!x:=by
   grind[B7]
  let(x,b):=this;rw[b]at q
  induction hq:JC o p.1 with
  |none=>rw[hq]at q;calc J6 q
  |some y=>rw[hq]at q;exact J6 q
def Ia (h:jE r) :%[t|w]∈r↔JC r t=!w:=(λm=>h.look m,Qq)
theorem Xb {c:α->α->Bool}(T:Tot c):∀{a b:List α},a.Pairwise (λx y=>c x y=6)->b.Pairwise (λx y=>c x y=6)->(∀x,x∈a↔x∈b)->a=b
 |[],[],_,_,_=>9
 |[],y::b,_,_,h=>by
  cases(h y).mpr Zqs
 |x::a,[],_,_,h=>by
  cases(h x).mp Zqs
 |x::a,y::b,ha,hb,h=>by
  let(i,j):=Jk.mp ha;let(g,l):=Jk.mp hb;let e:x=y:=by
   rcases U0.mp ((h x).mp Zqs)with z|z
   .exact z
   .rcases U0.mp ((h y).mpr Zqs)with u|u
    .exact u.symm
    .let:=T.asy _ _<|g x z
     ext
  subst e
  congr 1
  refine Xb T j l λz=>(λf=>?_,λf=>?_)
  .rcases U0.mp ((h z).mp<|Zqm _ f)with u|u
   .rw[u]at f;let:=i x f;rw[T.irr]at this;exact JG this
   lia
  .rcases U0.mp ((h z).mpr<|Zqm _ f)with u|u
   .rw[u]at f;let:=g x f;rw[T.irr]at this;exact JG this
   lia
theorem Ib{α β:Type}(f:α->β):∀{l:List α},(l.map f).Nodup->l.Nodup
 |[],_=>Vu
 |x::r,h=>by
  rw[Zl,List.nodup_cons]at h;exact Jl.mpr (λm=>h.1<|List.mem_map_of_mem m,Ib f h.2)
def Sm (h:jE r):(Qd qs r).Pairwise λx y=>qs x y=6:=by
 refine(List.Pairwise.and (X1 vH r)<|(QD r).nodup_iff.mpr<|Ib (λp:3×3=>p.1) h).imp λ{x y}z=>?_
 induction q:qs x y with
 |true=>rfl
 |false=>exact Zn (vH.tot _ _ q z.1) z.2
end L2
namespace L2.DL
def Sn {_:Decidable c}{α:Type}{a z:α}(h:(if c then !a else 8)=!z):c/\a=z:=()
inductive D where
 |non|bl(b:Bool)|int(i:Int)|str(x:Str)|ty(n:String)|scr(ns:Yf)
 |tup(ds:List D)|lst(ds:List D)|dct(ks:List jI)(ds:List D)|ins(c:Str)(fs:Yi)(ds:List D)
 |exc(c:Str)|ucl(c:Str)
 |exr(c:Str)(n:Int)
 |adr(a:Addr)|dcf(ks:List jI)(ds:List D)
 |pin(a:Addr)(d:D)
abbrev _root_.YC:=List D
abbrev _root_.YD:=Option D
inductive Res(α:Type)where
 |ok(a:α)|ex(c:Str)(fs:YC)|no
noncomputable def Res.bind{α β:Type}(r:Res α)(g:α->Res β):Res β:=match r with
 |.ok a=>g a
 |.ex c fs=>.ex c fs
 |.no=>.no
def Res.need{α:Type}(r:Res α)(p:α->4)(q:Str->YC->4):4:=match r with
 |.ok a=>p a
 |.ex c fs=>q c fs
 |.no=>False
@[simp]theorem jh (a)(g:α->Res β):(Res.ok a).bind g=g a:=rfl
@[simp]def uC (c)(fs)(g:α->Res β):(Res.ex c fs:Res α).bind g=.ex c fs:=rfl
@[simp]def uB (g:α->Res β):(Res.no:Res α).bind g=.no:=rfl
def ja {r:Res α} {p:β->4} (h:(r.bind g).need p q):r.need (λa=>(g a).need p q) q:=by
 induction r<;>exact h
def Res.need.mono {r:Res α}  (h:r.need p q)(e:∀a,p a->f a)(i:∀c fs,q c fs->j c fs):r.need f j:=by
 cases r with
 |ok a=>calc e a h
 |ex c fs=>calc i c fs h
 |no=>exact h
def Res.need.monoE {r:Res α}  (h:r.need p q)(e:∀a,r=.ok a->p a->f a)(i:∀c fs,q c fs->j c fs):r.need f j:=by
 induction r with
 |ok a=>calc e a 9 h
 |ex c fs=>calc i c fs h
 |no=>exact h
def bZ(C x:Addr):HO:=.ext λh=>∃o,h.get? x=!o/\o.cls=.ref C
def bY(C p x:Addr):HO:=.ext λh=>∃o,h.get? x=!o/\o.cls=.ref C/\o.dict=!p/\W.notCls o=6
def RowO(p:Addr)(n:3):HO:=.ext λh=>∃mA u,h.Ns1 p mA/\mA "row"=!u/\jv (.int n) u
def yX(_:f')(H:Hp)(a:Addr)(b:YB):4:=H a=! .tup b
def yX.same{K:f'}   (e:jp H c)(h:yX K H a f):yX K c a f:=e _ _ h
def yX.of{K:f'}   (h:H a=! .tup c):yX K H a c:=h
def yX.sq{K:f'}   (h:yX K H a c):yF K H a c:=yF.of h
def xY(_:f')(H:Hp)(a:Addr)(b:YB):4:=Rd H a<|.lst b
def xY.same{K:f'}   (e:jp H c)(h:xY K H a f):xY K c a f:=h.imp (λq=>e _ _ q)<|y9 λo q=>(o,e _ _ q)
def xY.of{K:f'}   (h:H a=! .lst c):xY K H a c:=.inl h
def xY.sq{K:f'}   (h:xY K H a c):xx K H a c:=.inl h
section
variable (K:f')
mutual
def IsD (H:Hp):D->V->Prop
 | .non,v=>v=.non
 | .bl b,v=>v=.bl b
 | .int i,v=>v=.int i
 | .str x,v=>v=.str x
 | .ty n,v=>v=.ty n
 | .scr h,v=>∃a,v=.ref a/\xx K H a (h.map V.int)
 | .tup f,v=>∃a e,v=.ref a/\yX K H a e/\IsDs H f e
 | .lst f,v=>∃a e,v=.ref a/\xY K H a e/\IsDs H f e
 | .dct g f,v=>∃a e,v=.ref a/\H a=some (.dK (g.zip e))/\g.length=e.length/\IsDs H f e
 | .ins c fs f,v=>∃a C j e,v=.ref a/\W.nsIn K mainGlobals c=some (some (.ref C))/\H a=some (.ins C j (fs.zip e))/\fs.length=e.length/\IsDs H f e
 | .exc c,v=>∃a C,v=.ref a/\W.nsIn K mainGlobals c=some (some (.ref C))/\H a=some (bZ C a)
 | .exr c n,v=>∃a C p,v=.ref a/\W.nsIn K mainGlobals c=some (some (.ref C))/\H a=some (bY C p a)/\H p=some (RowO p n)
 | .ucl c,v=>∃C,v=.ref C/\W.nsIn K mainGlobals c=some (some (.ref C))
 | .adr a,v=>v=.ref a
 | .dcf g f,v=>∃a o e,v=.ref a/\H a=some (.frz o (.dK (g.zip e)))/\g.length=e.length/\IsDs H f e
 | .pin a d,v=>v=.ref a/\IsD H d v
def IsDs (H:Hp):YC->YB->Prop
 | [],a=>a=[]
 |d::b,a=>∃x r,a=x::r/\IsD H d x/\IsDs H b r
end
end
section
variable {K:f'}
def jM :IsD K H .non v↔v=.non:=.rfl
def jo  :IsD K H (.bl b) v↔v=.bl b:=.rfl
def jd  :IsD K H (.int i) v↔v=.int i:=.rfl
def ji  :IsD K H (.str x) v↔v=.str x:=.rfl
def zW  :IsD K H (.ty n) v↔v=.ty n:=.rfl
def qO  :IsD K H (.scr c) v↔∃a,v=.ref a/\xx K H a (c.map V.int):=.rfl
theorem jy  :IsD K H (.tup e) v↔∃a c,v=.ref a/\yX K H a c/\IsDs K H e c:=.rfl
theorem jm  :IsD K H (.lst e) v↔∃a c,v=.ref a/\xY K H a c/\IsDs K H e c:=.rfl
def qc   :IsD K H (.dct e f) v↔∃a c,v=.ref a/\H a=!(.dK<|e.zip c)/\e.length=c.length/\IsDs K H f c:=.rfl
def qx    :IsD K H (.ins c fs f) v↔∃a C i e,v=.ref a/\W.nsIn K mainGlobals c=! ! .ref C/\H a=!(.ins C i<|fs.zip e)/\fs.length=e.length/\IsDs K H f e:=.rfl
def xz  :IsD K H (.exc c) v↔∃a C,v=.ref a/\W.nsIn K mainGlobals c=! ! .ref C/\H a=! bZ C a:=.rfl
def xy   :IsD K H (.exr c n) v↔∃a C p,v=.ref a/\W.nsIn K mainGlobals c=! ! .ref C/\H a=! bY C p a/\H p=! RowO p n:=.rfl
def zM  :IsD K H (.ucl c) v↔∃C,v=.ref C/\W.nsIn K mainGlobals c=! ! .ref C:=.rfl
def jN  :IsD K H (.adr a) v↔v=.ref a:=.rfl
def qQ   :IsD K H (.dcf e f) v↔∃a o c,v=.ref a/\H a=!(.frz o<|.dK<|e.zip c)/\e.length=c.length/\IsDs K H f c:=.rfl
def qP   :IsD K H (.pin a d) v↔v=.ref a/\IsD K H d v:=.rfl
def IsDs.nil_iff :IsDs K H [] c↔c=[]:=.rfl
theorem jr   :IsDs K H (d::c) e↔∃x r,e=x::r/\IsD K H d x/\IsDs K H c r:=.rfl
mutual
theorem IsD.same (e:jp H r):∀(d:D) (v:V),IsD K H d v->IsD K r d v
 | .non,_,h=>h
 | .bl _,_,h=>h
 | .int _,_,h=>h
 | .str _,_,h=>h
 | .ty _,_,h=>h
 | .scr _,_,h=>by
  obtain⟨a,f,i⟩:=qO.mp h;exact qO.mpr ⟨a,f,jp.seq e i⟩
 | .tup n,_,h=>by
  obtain⟨a,j,f,i,l⟩:=jy.mp h;exact jy.mpr ⟨a,j,f,i.same e,IsDs.same e n j l⟩
 | .lst n,_,h=>by
  obtain⟨a,j,f,i,l⟩:=jm.mp h;exact jm.mpr ⟨a,j,f,i.same e,IsDs.same e n j l⟩
 | .dct s n,_,h=>by
  obtain⟨a,j,f,i,q,l⟩:=qc.mp h;exact qc.mpr ⟨a,j,f,e _ _ i,q,IsDs.same e n j l⟩
 | .ins c fs n,_,h=>by
  obtain⟨a,C,u,j,f,x,i,q,l⟩:=qx.mp h;exact qx.mpr ⟨a,C,u,j,f,x,e _ _ i,q,IsDs.same e n j l⟩
 | .exc _,_,h=>by
  obtain⟨a,C,f,i,l⟩:=xz.mp h;exact xz.mpr ⟨a,C,f,i,e _ _ l⟩
 | .exr _ _,_,h=>by
  obtain⟨a,C,p,f,i,l,q⟩:=xy.mp h;exact xy.mpr ⟨a,C,p,f,i,e _ _ l,e _ _ q⟩
 | .ucl _,_,h=>h
 | .adr _,_,h=>h
 | .dcf s n,_,h=>by
  obtain⟨a,o,j,f,i,q,l⟩:=qQ.mp h;exact qQ.mpr ⟨a,o,j,f,e _ _ i,q,IsDs.same e n j l⟩
 | .pin a d,v,h=>qP.mpr ⟨(qP.mp h).1,IsD.same e d v (qP.mp h).2⟩
theorem IsDs.same (e:jp H i):∀c f,IsDs K H c f->IsDs K i c f
 | [],_,h=>h
 |d::c,_,h=>have ⟨x,r,j,l,n⟩:=jr.mp h;jr.mpr ⟨x,r,j,IsD.same e d x l,IsDs.same e c r n⟩
end
def IsDs.mk    (h:IsD K H d x)(r:IsDs K H e c):IsDs K H (d::e) (x::c):=jr.mpr (x,c,9,h,r)
def IsDs.nil:IsDs K H [] []:=IsDs.nil_iff.mpr 9
theorem IsDs.length:∀{e:YC}{c:YB},IsDs K H e c->c.length=e.length
 |[],c,h=>by simp_all[IsDs.nil_iff]
 |d::e,c,h=>by
  let(x r,rfl,_,f):=h;rw[Zu,Zu,IsDs.length f]
theorem IsDs.get:∀{c:YC}{f:YB}{i:5}{d:D},IsDs K H c f->c[i]?=!d->∃x,f[i]?=!x/\IsD K H d x
 |[],_,_,_,_,e=>J6 e
 |d::c,f,i,e,h,q=>by
  let(x r,rfl,l,j):=h
  induction i with
  |zero=>ext
  |succ i=>exact IsDs.get (i:=i) j q
def IsDs.getV  {i:5} (h:IsDs K H c e)(q:e[i]?=!x):∃d,c[i]?=!d/\IsD K H d x:=by
 let j:=h.length;let f:i<c.length:=();let(-y,l,n):=h.get (Zqg f)
 ext
theorem IsDs.append:∀{e f:YC}{c i:YB},IsDs K H e c->IsDs K H f i->IsDs K H (e++f) (c++i)
 |[],_,c,_,h,j=>by simp_all[IsDs.nil_iff]
 |d::e,_,c,_,h,j=>by
  let(x r,rfl,l,n):=h;exact IsDs.mk l<|IsDs.append n j
def IsDs.snoc    (h:IsDs K H c e)(f:IsD K H d x):IsDs K H (c++[d]) (e++[x]):=h.append<|.mk f .nil
theorem IsDs.set:∀n{e:YC}{c:YB}{d:D}{x:V},IsDs K H e c->IsD K H d x->IsDs K H (e.set n d) (c.set n x)
 |_,[],c,_,_,h,_=>by simp_all[IsDs.nil_iff]
 |0,d::e,c,_,_,h,q=>by
  grind[jr]
 |n+1,d::e,c,_,_,h,q=>by
  let(x r,rfl,f,i):=h;exact IsDs.mk f<|IsDs.set n i q
theorem qZ:∀(c:Yf),IsDs K H (c.map D.int) (c.map V.int)
 |[]=>.nil
 |n::c=>.mk (jd.mpr 9) (qZ c)
theorem qT:∀{c:Yf}{e:YB},IsDs K H (c.map D.int) e->e=c.map V.int
 |[],_,h=>IsDs.nil_iff.mp h
 |n::c,e,h=>by
  let(x r,rfl,f,i):=h;rw[f,qT i];rfl
end
structure Ext(F H F' H':Hp):4 where
 ff:jp F F'
 fh:jp F' H'
 hh:jp H H'
 new:∀a,F a=8->H a≠8->F' a=8
theorem Ext.refl (h:jp F H):Ext F H F H:=(.refl _,h,.refl _,λ_ e _=>e)
theorem Ext.trans (a:Ext F H c f)(b:Ext c f i j):Ext F H i j:=
 (a.ff.trans b.ff,b.fh,a.hh.trans b.hh,λx e n=>b.new x (a.new x e n)<|by
  induction q:H x with
  |none=>calc Zn q n
  |some o=>rw[a.hh _ _ q];simp)
def Qe  (h:jp F H)(a:H p=8):F p=8:=h.free a
def Ext.alloc  (h:jp F H)(c:H p=8)(o):Ext F H (upd F p o) (upd H p o):=
 (Kx (h.free c) o,λb u e=>by
  by_cases q:b=p
  .simp_all[JK]
  .rw[JF q]at e ⊢;calc h _ _ e,Kx c o,λa e n=>by
  let q:a≠p:=by grind
  rwa[JF q])
def Ext.keep  (h:jp F H)(c:H p=8)(o):Ext F H F (upd H p o):=
 (.refl _,h.trans<|Kx c o,Kx c o,λ_ e _=>e)
def Ext.grow (h:jp F H)(c:jp H f):Ext F H F f:=(.refl _,h.trans c,c,λ_ e _=>e)
inductive SV where
 |val(d:D)|own(p:Bool)(d:D)
structure Bs where
 F0:Hp
 H0:Hp
 pa:5->Option (Addr×YB)
abbrev SD:=List<|Option SV
def zD(K:f')(F H:Hp)(l:Addr):D->4
 |.lst b=>∃a,H l=! .lst a/\IsDs K F b a
 |.dct e b=>∃a,H l=!(.dK<|e.zip a)/\e.length=a.length/\IsDs K F b a
 |.ins c fs b=>∃C f a,W.nsIn K mainGlobals c=! ! .ref C/\H l=!(.ins C f<|fs.zip a)/\fs.length=a.length/\IsDs K F b a
 |_=>False
def zD.has{K:f'}   (h:zD K F H l d):∃o,H l=!o:=by
 cases d with
 |lst f=>let(i,e,_):=h;calc(_,e)
 |dct j f=>let(i,e,_):=h;calc(_,e)
 |ins c fs f=>let(C,n,i,_,e,_):=h;calc(_,e)
 |_=>exact False.elim h
def zD.ext{K:f'}   (h:zD K F H l d)(i:jp F p)(j:∀o,H l=!o->r l=!o):zD K p r l d:=by
 cases d with
 |lst n=>let(f,e,q):=h;calc(f,j _ e,IsDs.same i _ _ q)
 |dct u n=>let(-f,e,z,q):=h;calc(f,j _ e,z,IsDs.same i _ _ q)
 |ins c fs n=>let(C s f,k,e,z,q):=h;calc je C s f (k,j _ e,z,IsDs.same i _ _ q)
 |_=>exact False.elim h
def zD.frz{K:f'}    (h:zD K F H l d)(e:H l=Option.some o)(n:F l=8):IsD K (upd F l o) d (.ref l):=by
 cases d with
 |lst j=>
  let(i,f,q):=h;rw[e]at f;obtain rfl:=Zqi f;calc jm.mpr (l,i,9,.of JK,IsDs.same (Kx n _) _ _ q)
 |dct r j=>
  let(-i,f,z,q):=h;rw[e]at f;obtain rfl:=Zqi f;calc qc.mpr (l,i,9,JK,z,IsDs.same (Kx n _) _ _ q)
 |ins c fs j=>
  let(C p i,k,f,z,q):=h;rw[e]at f;obtain rfl:=Zqi f;calc qx.mpr<|jX l C p i (9,k,JK,z,IsDs.same (Kx n _) _ _ q)
 |_=>exact False.elim h
def mh(H:Hp)(l:Addr)(o:Option (Addr×YB)):4:=∃a,o=!%[l|a]/\H l=! .lst a
structure RS(K:f')(B:Bs)(F H:Hp)(sd:SD)(Z:St):4 where
 ext:Ext B.F0 B.H0 F H
 len:Z.length=sd.length
 val:∀{i:5}{d:D},sd[i]?=!~~~d->∃v,Z[i]?=! !v/\IsD K F d v
 own:∀{i:5}{p:Bool}{d:D},sd[i]?=! ! .own p d->∃l,Z[i]?=! ! .ref l/\B.H0 l=8/\F l=8/\zD K F H l d/\(p=6->mh H l (B.pa i))
 apart:∀{i j:5}{p q:Bool}{d e:D}{l:Addr},i≠j->sd[i]?=! ! .own p d->sd[j]?=! ! .own q e->Z[i]?=! ! .ref l->Z[j]? ≠ ! ! .ref l
section
variable {K:f'}
def mh.mono  (h:mh H l o)(k:∀u,H l=!u->c l=!u):mh c l o:=qS h λe=>jB λf i=>(e,f,k _ i)
def RS.step(r:RS K B F H sd Z)(e:Ext F H j n):RS K B j n sd Z where
 ext:=r.ext.trans e
 len:=r.len
 val:=λh=>qS (r.val h) λv=>jB λc f=>(v,c,IsD.same e.ff _ _ f)
 own:=λh=>by
  let(-l,c,f,s,i,x):=r.own h;let(o,y):=i.has;exact(l,c,f,e.new l s (),i.ext e.ff λo q=>e.hh _ _ q,λp=>(x p).mono λu q=>e.hh _ _ q)
 apart:=r.apart
def Q6{α:Type}{l:List α} {a:α}(h:i≠j):(l.set i a)[j]?=l[j]?:=Zx h
def KI{α:Type}{l:List α} {a b:α}(h:(l.set i a)[i]?=!b):b=a/\i<l.length:=()
def RS.setVal   (r:RS K B F H sd Z)(h:IsD K F d v):RS K B F H (sd.set i<|~~~d) (Z.set i<|!v)where
 ext:=r.ext
 len:=by rw[Va,Va,r.len]
 val:=λ{j e}q=>by
  by_cases z:i=j
  .subst z;let(c,y):=KI q;cases c;exact(v,U6<|by rwa[r.len],h)
  .rw[Q6 z]at q ⊢;exact r.val q
 own:=λ{j p e}q=>by
  by_cases z:i=j
  .subst z;let(c,_):=KI q;cases c
  .rw[Q6 z]at q ⊢;exact r.own q
 apart:=λ{j k E G I J l}n f o s=>by
  let u:i≠j:=λz=>by subst z;let(c,_):=KI f;cases c
  let x:i≠k:=λz=>by subst z;let(c,_):=KI o;cases c
  rw[Q6 u]at f s;rw[Q6 x]at o ⊢;exact r.apart n f o s
def RS.setOwn   (r:RS K B F H sd Z)(E:B.H0 l=8)(G:F l=8)(h:zD K F H l d)(u:∀(j:5)p e,sd[j]?=! ! SV.own p e->Z[j]? ≠ ! ! .ref l):
 RS K B F H (sd.set i<|! .own 7 d) (Z.set i<|! .ref l)where
 ext:=r.ext
 len:=by rw[Va,Va,r.len]
 val:=λ{j e}q=>by
  by_cases z:i=j
  .subst z;let(s,_):=KI q;cases s
  .rw[Q6 z]at q ⊢;exact r.val q
 own:=λ{j p e}q=>by
  by_cases z:i=j
  .subst z;let(s,v):=KI q;cases s;exact(l,U6<|by rwa[r.len],E,G,h,λz=>by cases z)
  .rw[Q6 z]at q ⊢;exact r.own q
 apart:=λ{j k I J L O m}n o c f=>by
  by_cases x:i=j
  .subst x;let(_,v):=KI o;rw[Q6 n]at c ⊢;rw[U6 (by rwa[r.len])]at f;cases f;exact u k J O c
  .rw[Q6 x]at o f;by_cases y:i=k
   .subst y;let(_,v):=KI c;rw[U6 (by rwa[r.len])];intro e;cases e;exact u j I L o f
   .rw[Q6 y]at c ⊢;exact r.apart n o c f
def RS.chg     (r:RS K B F H sd Z)(c:sd[i]?=! ! .own p d)(f:Z[i]?=! ! .ref l)(h:zD K F (upd H l o) l s):
 RS K B F (upd H l o) (sd.set i<|! .own 7 s) Z:=by
 let(-l',v,E,G,_,_):=r.own c;rw[f]at v;cases v;let I:i<sd.length:=by grind
 refine((r.ext.ff,DC o r.ext.fh G,DC o r.ext.hh E,r.ext.new),by rw[Va,r.len],λ{j e}q=>?_,λ{j p e}q=>?_,λ{j k x y d1 d2 m}n J L O=>?_)
 .by_cases z:i=j
  .ext
  .rw[Q6 z]at q;exact r.val q
 .by_cases z:i=j
  .ext
  .rw[Q6 z]at q;let(-m,Q,m2,R,S,T):=r.own q;let ne:m≠l:=λe=>r.apart z c q f (by rwa[<-e]);exact(m,Q,m2,R,S.ext (.refl _) λu U=>by rwa[JF ne],λp=>(T p).mono λu U=>by rwa[JF ne])
 .let g:∀{j:5}{p:Bool}{e:D},(sd.set i<|! .own 7 s)[j]?=! ! .own p e->∃X Y,sd[j]?=! ! .own X Y:=by grind
  have(_,_,x):=g J;have(_,_,y):=g L;exact r.apart n x y O
def RS.frz1   (r:RS K B F H sd Z)(y:sd[i]?=! ! .own p d):∃E,jp F E/\RS K B E H (sd.set i<|~~~d) Z:=by
 let(-l,G,h0,I,J,_):=r.own y;let(o,e):=J.has;let L:i<sd.length:=();let c:=Kx I o;refine(upd F l o,c,(r.ext.ff.trans c,λb u q=>?_,r.ext.hh,λa f s=>?_),by rw[Va,r.len],λ{j x}q=>?_,λ{j p x}q=>?_,λ{j k p1 p2 d1 d2 m}n f s O=>?_)
 .by_cases z:b=l
  .simp_all[JK]
  .rw[JF z]at q;exact r.ext.fh _ _ q
 .let z:a≠l:=by grind
  rw[JF z];exact r.ext.new a f s
 .by_cases z:i=j
  .subst z;let(Q,_):=KI q;cases Q;exact(_,G,J.frz e I)
  .rw[Q6 z]at q;have(v,R,S):=r.val q;exact(v,R,IsD.same c _ _ S)
 .by_cases z:i=j
  .ext
  .rw[Q6 z]at q;let(-m,T,m2,m3,U,X):=r.own q;let ne:m≠l:=λe=>r.apart z y q G (by rwa[<-e]);exact(m,T,m2,by rwa[JF ne],U.ext c λu Y=>Y,X)
 .let z1:i≠j:=λz=>by ext
  let z2:i≠k:=λz=>by ext
  rw[Q6 z1]at f;rw[Q6 z2]at s;exact r.apart n f s O
def qM:Yh->SD->SD
 |[],sd=>sd
 |i::a,sd=>qM a (match sd[i]? with
  |some (some<|.own _ d)=>sd.set i (~~~d)
  |_=>sd)
theorem RS.frz:∀c{F:Hp}{sd:SD},RS K B F H sd Z->∃e,jp F e/\RS K B e H (qM c sd) Z
 |[],F,sd,r=>(F,.refl _,r)
 |i::c,F,sd,r=>by
  unfold qM
  split
  .rename_i p d h;let(-q,f,j):=r.frz1 h;let(-l,n,o):=RS.frz c j;exact(l,f.trans n,o)
  .exact RS.frz c r
end
def ma(K:f')(F H:Hp)(c:Str)(fs:YC)(b:Value)(a:Option Addr):4:=
 ∃C,b=.ref C/\W.nsIn K mainGlobals c=! ! .ref C/\(fs=[]\/∃p n,fs=[.int n]/\a=!p/\F p=! RowO p n)
def XW(K:f')(E:XK)(F H:Hp)(c:Str)(fs:YC):4:=∀e a f b,Ext F H f b->ma K f b c fs e a->E e a b
def XW.ext{K:f'}    (h:XW K E F H c fs)(e:Ext F H f i):XW K E f i c fs:=λj a l n o q=>h j a l n (e.trans o) q
abbrev FE:=SD->Res D
abbrev FT:=SD->Res Bool
abbrev FA:=SD->Res YC
def zy(K:f')(F H:Hp)(Q:VK)(d:D):4:=∀v a b,Ext F H a b->IsD K a d v->Q v b
def uY(F H:Hp)(Q:Bool->Hp->4)(b:Bool):4:=∀c a,Ext F H c a->Q b a
def oV(K:f')(F H:Hp)(Q:YB->Hp->4)(e:YC):4:=∀a b c,Ext F H b c->IsDs K b e a->Q a c
def yJ(K:f')(F H:Hp)(Q:VK)(d:D):4:=∀l a b,Ext F H a b->H l=8->a l=8->zD K a b l d->Q (.ref l) b
def tD(K:f')(E:XK)(f:FE):TE:=λZ H Q=>∃B F sd,RS K B F H sd Z/\(f sd).need (zy K F H Q) (XW K E F H)
def mu(K:f')(E:XK)(f:FT):TT:=λZ H Q=>∃B F sd,RS K B F H sd Z/\(f sd).need (uY F H Q) (XW K E F H)
def tQ(K:f')(E:XK)(f:FA):TA:=λZ H Q=>∃B F sd,RS K B F H sd Z/\(f sd).need (oV K F H Q) (XW K E F H)
def u4(K:f')(E:XK)(f:FE):TE:=λZ H Q=>∃B F sd,RS K B F H sd Z/\(f sd).need (yJ K F H Q) (XW K E F H)
abbrev QE(X:Cx)(E:XK)(e:Expr)(f:FE):4:=PE X e<|tD X.K E f
abbrev QT(X:Cx)(E:XK)(e:Expr)(f:FT):4:=PT X e<|mu X.K E f
abbrev QW(X:Cx)(E:XK)(e:Expr)(f:FT):4:=PW X e<|mu X.K E f
abbrev QA(X:Cx)(E:XK)(es:List Expr)(f:FA):4:=PA X es<|tQ X.K E f
abbrev QN(X:Cx)(E:XK)(e:Expr)(f:FE):4:=PE X e<|u4 X.K E f
def PE.weak   (h:PE X e t)(w:∀Z H Q,c Z H Q->t Z H Q):PE X e c:=λY s Z H Q I q=>h Y s Z H Q I<|w _ _ _ q
def PT.weak   (h:PT X e t)(w:∀Z H Q,c Z H Q->t Z H Q):PT X e c:=λY s Z H Q I q=>h Y s Z H Q I<|w _ _ _ q
def PW.weak   (h:PW X e t)(w:∀Z H Q,f Z H Q->t Z H Q):PW X e f:=λc Y s Z H Q I q=>h c Y s Z H Q I<|w _ _ _ q
def PA.weak   (h:PA X e t)(w:∀Z H Q,f Z H Q->t Z H Q):PA X e f:=λc Y s Z H Q I q=>h c Y s Z H Q I<|w _ _ _ q
def PS.weak   (h:PS X e t)(w:∀D Z H,c D Z H->t D Z H):PS X e c:=λY s Z H D I q=>h Y s Z H D I<|w _ _ _ q
def xq.weak   (h:xq X e t)(w:∀D Z H,c D Z H->t D Z H):xq X e c:=λY s Z H D I q=>h Y s Z H D I<|w _ _ _ q
def PI.weak   (h:PI X c e t)(w:∀Z H R,f Z H R->t Z H R):PI X c e f:=λY s Z H R I q=>h Y s Z H R I<|w _ _ _ q
section
variable {K:f'}
def zy.ext  (h:zy K F H Q d)(e:Ext F H c f):zy K c f Q d:=λv i j l q=>h v i j (e.trans l) q
def uY.ext  (h:uY F H Q b)(e:Ext F H c f):uY c f Q b:=λi j l=>h i j<|e.trans l
def yJ.ext  (h:yJ K F H Q d)(e:Ext F H c f):yJ K c f Q d:=λl i j n q=>h l i j (e.trans n)<|Qe e.hh q
def ZW {r:Res D}(h:r.need (zy K F H Q) (XW K E F H))(e:Ext F H a b):r.need (zy K a b Q) (XW K E a b):=h.mono (λ_ q=>q.ext e) λ_ _ q=>q.ext e
def Ic {r:Res Bool}(h:r.need (uY F H Q) (XW K E F H))(e:Ext F H a b):r.need (uY a b Q) (XW K E a b):=h.mono (λ_ q=>q.ext e) λ_ _ q=>q.ext e
def DW {r:Res D}(h:r.need (yJ K F H Q) (XW K E F H))(e:Ext F H a b):r.need (yJ K a b Q) (XW K E a b):=h.mono (λ_ q=>q.ext e) λ_ _ q=>q.ext e
theorem zy.new  (h:zy K F H Q d):yJ K F H Q d:=λl f i e n c o=>by
 let(u,j):=o.has;refine h (.ref l) (upd f l u) i (e.ff.trans<|Kx c u,λb v q=>?_,e.hh,λa p r=>?_)<|o.frz j c
 .by_cases z:b=l
  .simp_all[JK]
  .rw[JF z]at q;exact e.fh _ _ q
 .let z:a≠l:=by grind
  rw[JF z];exact e.new a p r
end
section
def ju  (h:QN X E e f):QE X E e f:=PE.weak h λZ H Q=>qj λB F sd=>jB λr n=>je B F sd (r,n.mono (λ_ q=>q.new) λ_ _ q=>q)
def jb(i:5):FE:=λsd=>match sd[i]? with
 |some (~~~d)=>.ok d
 |_=>.no
def dC(d:D):FE:=λ_=>.ok d
def ZX   (h:PE X e (tC v))(i:∀F,IsD X.K F d v):QE X E e (dC d):=PE.weak h λZ H Q=>qj λB F sd=>jB λr n=>n v F H (.refl r.ext.fh)<|i F
def J7 :QE X E (.Constant (.int i) j a) (dC<|.int i):=ZX (λ_ _ _ H _ I h=>wpAny_Constant_int (.int i,H,I.tok _,(_,9),h)) λ_=>jd.mpr 9
def W7 :QE X E (.Constant (.bool b) j a) (dC<|.bl b):=ZX (λ_ _ _ H _ I h=>Constant_bool (.bl b,H,I,9,h)) λ_=>jo.mpr 9
def BA :QE X E (.Constant .none j a) (dC .non):=ZX (λ_ _ _ H _ I h=>Constant_none (.non,H,I,9,h)) λ_=>jM.mpr 9
def JU :QE X E (.Constant (.str x) j a) (dC<|.str x):=ZX Dr λ_=>ji.mpr 9
def Res.ofO{α:Type}:Option α->Res α
 |some a=>.ok a
 |none=>.no
@[simp]def ug (a:α):Res.ofO (!a)=.ok a:=rfl
@[simp]def uj :Res.ofO (8:Option α)=.no:=rfl
def jf    (h:(Res.ofO o).need p q):∃a,o=!a/\p a:=by
 induction o with
 |none=>calc h.elim
 |some a=>exact(a,9,h)
def jk(g:D->D->YD)(a b:FE):FE:=λsd=>(a sd).bind λx=>(b sd).bind λy=>.ofO<|g x y
def jU(g:D->YD)(a:FE):FE:=λsd=>(a sd).bind λx=>.ofO<|g x
def v1(K:f')(g:D->D->YD):R2:=λv w H Q=>∃F d e z,jp F H/\IsD K F d v/\IsD K F e w/\g d e=!z/\zy K F H Q z
def rK(K:f')(g:D->D->YD):R2:=λv w H Q=>∃F d e z,jp F H/\IsD K F d v/\IsD K F e w/\g d e=!z/\yJ K F H Q z
def tX(K:f')(g:D->YD):V->Hp->VK->4:=λv H Q=>∃F d z,jp F H/\IsD K F d v/\g d=!z/\zy K F H Q z
def wN(K:f')(g:YC->YD):YB->Hp->VK->4:=λb H Q=>∃F a z,jp F H/\IsDs K F a b/\g a=!z/\zy K F H Q z
def va(K:f')(g:YC->YD):YB->Hp->VK->4:=λb H Q=>∃F a z,jp F H/\IsDs K F a b/\g a=!z/\yJ K F H Q z
def ZY{K:f'}     (h:tD K E (jk g c e) Z H Q):u3 (v1 K g) (tD K E c) (tD K E e) Z H Q:=by
 let(B F sd,r,n):=h;calc je B F sd (r,(ja n).mono (λx f v i s a j=>je B i sd (r.step a,(ja f).mono (λy l w m t b o=>?_) λ_ _ q=>q.ext a)) λ_ _ q=>q);let(-z,p,q):=jf l;exact jX m x y z (b.fh,IsD.same b.ff _ _ j,o,p,q.ext<|a.trans b)
abbrev yy(X:Cx)(f:Value->Value->Sem Value)(g:D->D->YD):4:=xF X f<|v1 X.K g
abbrev bU(X:Cx)(f:Value->Value->Sem Value)(g:D->D->YD):4:=xF X f<|rK X.K g
def xF.weak  (h:xF X f r)(w:∀x y H Q,c x y H Q->r x y H Q):xF X f c:=λY s Z H x y v u Q I e i q=>h Y s Z H x y v u Q I e i<|w _ _ _ _ q
def uU.weak  (h:uU X f r)(w:∀x H Q,c x H Q->r x H Q):uU X f c:=λY s Z H x v Q I e q=>h Y s Z H x v Q I e<|w _ _ _ q
def qf.weak  (h:qf X f r)(w:∀x H Q,c x H Q->r x H Q):qf X f c:=λY s Z H x v Q I e q=>h Y s Z H x v Q I e<|w _ _ _ q
def zV.weak (h:zV X r)(w:∀x y H Q,i x y H Q->r x y H Q):zV X i:=λc f Y s Z H x y v u Q I j l q e=>h c f Y s Z H x y v u Q I j l (w _ _ _ _ q) e
variable  {fa fb:FE}
def j9  (c:yy X (binaryOp e) g)(f:QE X E a fa)(i:QE X E b fb):QE X E (.BinOp a e b j) (jk g fa fb):=PE.weak (Dw c f i) λ_ _ _ h=>ZY h
def gm  (f:bU X (binaryOp i) g)(j:QE X E a fa)(l:QE X E b fb):QN X E (.BinOp a i b m) (jk g fa fb):=PE.weak (Dw f j l) λ_ _ _ h=>by
 let(B F sd,r,n):=h;calc je B F sd (r,(ja n).mono (λx o v p G c s=>je B p sd (r.step c,(ja o).mono (λy t w u H e A=>?_) λ_ _ q=>q.ext c)) λ_ _ q=>q);let(-z,C,q):=jf t;exact jX u x y z (e.fh,IsD.same e.ff _ _ s,A,C,q.ext<|c.trans e)
def vQ  (e:uU X (unaryOp f) (tX X.K g))(i:QE X E a fa):QE X E (.UnaryOp f a j) (jU g fa):=PE.weak (λY s Z H Q I h=>UnaryOp_<|jO (i Y s Z H _ I h) λv l=>j7 λx b=>jA λm o p=>e Y l Z b x v Q m o p) λ_ _ _ h=>by
 let(B F sd,r,n):=h;calc je B F sd (r,(ja n).mono (λx t v u b c w=>?_) λ_ _ q=>q);let(-z,y,q):=jf t;exact je u x z (c.fh,w,y,q.ext c)
def ZZ  (e:yy X (compareOp c) g)(f:QE X E a fa)(i:QE X E b fb)(j:behindInMarks c b=7):QE X E (.Compare a [c] [b] l) (jk g fa fb):=PE.weak (Gp e f i j) λ_ _ _ h=>ZY h
def J8(fa:FE):FT:=λsd=>(fa sd).bind λx=>match x with
 |.bl b=>.ok b
 |_=>.no
def W8{K:f'}   (h:mu K E (J8 fa) Z H Q):tD K E fa Z H λx b=>∃k,x=.bl k/\Q k b:=by
 let(B F sd,r,n):=h;calc je B F sd (r,(ja n).mono (λx a v c e f g=>?_) λ_ _ q=>q);cases x with
 |bl k=>calc(k,jo.mp g,a c e f)
 |_=>exact a.elim
def Q7  (e:yy X (compareOp c) g)(f:QE X E a fa)(i:QE X E b fb)(j:behindInMarks c b=7):QT X E (.Compare a [c] [b] l) (J8<|jk g fa fb):=
 PT.weak (Be e f i j) λZ H Q h=>have h:=W8 h;ZY h
def KS(c:QE X E a fa)(e:∀b,isTrue a X.env b=(do let v<-b;standAt a.pos;holding [v] (truthy v)):=by intro _;rfl):QT X E a (J8 fa):=PT.weak (by
 intro Y s Z H Q I f;calc isTrue_plain (jO (c Y s Z H _ I f) λv l=>j7 λx g=>jA λh i j=>?_)<|e _;let(d,rfl,q):=j;cases i;calc wpAny_truthy_bool (g,h,q)) λZ H Q q=>W8 q
def Q8(f:FT):FT:=λsd=>(f sd).bind λb=>.ok<|not b
def KU(f g:FT):FT:=λsd=>(f sd).bind λb=>if b then g sd else .ok 7
def zI(f g:FT):FT:=λsd=>(f sd).bind λb=>if b then .ok 6 else g sd
variable {f g:FT}
def KW(b:QT X E a f):QT X E (.UnaryOp .Not a e) (Q8 f):=PT.weak (λY s Z H Q I h=>isTrue_not<|b Y s Z H (λc i=>Q (not c) i) I h) λZ H Q=>qj λB F sd=>jB λr n=>
 je B F sd (r,(ja n).mono (λ_ q=>q) λ_ _ q=>q)
def DX(b:QT X E a f):QW X E (.BoolOp .And [a] i) f:=by
 intro j Y s Z H Q I h;refine isTrue_and<|jO (b Y s Z H Q I h) λc l e=>?_
 grind[isTrue_and_nil]
def DY(b:QT X E a f):QW X E (.BoolOp .Or [a] i) f:=by
 intro j Y s Z H Q I h;refine isTrue_or<|jO (b Y s Z H Q I h) λc l e=>?_
 grind[isTrue_or_nil]
def BB(j:QT X E a f)(l:QW X E (.BoolOp .And (b::rest) c) g):QW X E (.BoolOp .And (a::b::rest) c) (KU f g):=PW.weak (OS j l) λZ H Q m=>by
 let(B F sd,r,n):=m;refine je B F sd (r,(ja n).mono (λk h i o e=>?_) λ_ _ q=>q)
 induction k with
 |true=>calc je B i sd (r.step e,Ic h e)
 |false=>exact h i o e
def BC(j:QT X E a f)(l:QW X E (.BoolOp .Or (b::rest) c) g):QW X E (.BoolOp .Or (a::b::rest) c) (zI f g):=PW.weak (gv j l) λZ H Q m=>by
 let(B F sd,r,n):=m;refine je B F sd (r,(ja n).mono (λk h i o e=>?_) λ_ _ q=>q)
 induction k with
 |true=>calc h i o e
 |false=>exact je B i sd (r.step e,Ic h e)
def zg (h:QW X E e f):QT X E e f:=bS h
def DZ(fa fb:FE):FE:=λsd=>(J8 fa sd).bind λb=>if b then fb sd else .ok (.bl 7)
def vY(fa fb:FE):FE:=λsd=>(J8 fa sd).bind λb=>if b then .ok (.bl 6)else fb sd
def Ie (h:QE X E a fa):QE X E (.BoolOp e [a] b) fa:=λY s Z H Q I c=>BoolOp_one<|h Y s Z H Q I c
def gu(j:QE X E a fa)(l:QE X E (.BoolOp .And (b::rest) c) fb):QE X E (.BoolOp .And (a::b::rest) c) (DZ fa fb):=PE.weak (OT j l) λZ H Q m=>by
 let(B F sd,r,n):=m;refine W8<|je B F sd (r,(ja n).mono (λk h i o e=>?_) λ_ _ q=>q)
 induction k with
 |true=>calc je B i sd (r.step e,ZW h e)
 |false=>exact h _ i o e<|jo.mpr 9
def rL(j:QE X E a fa)(l:QE X E (.BoolOp .Or (b::rest) c) fb):QE X E (.BoolOp .Or (a::b::rest) c) (vY fa fb):=PE.weak (gy j l) λZ H Q m=>by
 let(B F sd,r,n):=m;refine W8<|je B F sd (r,(ja n).mono (λk h i o e=>?_) λ_ _ q=>q)
 induction k with
 |true=>calc h _ i o e<|jo.mpr 9
 |false=>exact je B i sd (r.step e,ZW h e)
def jc:FA:=λ_=>.ok []
def J1(fa:FE)(a:FA):FA:=λsd=>(fa sd).bind λx=>(a sd).bind λb=>.ok<|x::b
def J3:QA X E [] jc:=PA.weak Wf λZ H Q=>qj λB F sd=>jB λr n=>n [] F H (.refl r.ext.fh) .nil
def J2    (h:QE X E e i)(j:QA X E a l)(m:starEach (e::a) X.env=%[7|eval e X.env]::starEach a X.env:=by rfl):QA X E (e::a) (J1 i l):=
 PA.weak (KQ h j m) λZ H Q=>qj λB F sd=>jB λr n=>je B F sd (r,(ja n).mono (λx o v p z b s=>je B p sd (r.step b,(ja o).mono (λA t C u w c y=>t _ u w (b.trans c)<|.mk (IsD.same c.ff _ _ s) y) λ_ _ q=>q.ext b)) λ_ _ q=>q)
def qD(b:FA):FE:=λsd=>(b sd).bind λa=>if a.length<=1000 then .ok (.lst a)else .no
def qN(b:FA):FE:=λsd=>(b sd).bind λa=>if a.length<=1000 then .ok (.tup a)else .no
def QF  (h:QA X E j l):QN X E (.List j m) (qD l):=PE.weak (Px h) λZ H Q o=>by
 let(B F sd,r,n):=o;refine je B F sd (r,(ja n).mono (λu b e s t a i=>?_) λ_ _ q=>q)
 split at b
 .let v:=i.length;exact(QC (),λp c=>b p s (upd t p<|.lst e) (a.trans<|.keep a.fh c _) (Qe a.hh c) (Qe a.fh c) (e,JK,i))
 .exact b.elim
def Wj   (h:QA X E j l):QE X E (.Tuple j t m) (qN l):=PE.weak (Gv h) λZ H Q o=>by
 let(B F sd,r,n):=o;refine je B F sd (r,(ja n).mono (λu a b v w c e=>?_) λ_ _ q=>q)
 split at a
 .let x:=e.length;calc(QC (),λp s=>?_);let i:=Ext.alloc c.fh s<|.tup b;exact a _ _ _ (c.trans i)<|jy.mpr (p,b,9,.of JK,IsDs.same i.ff _ _ e)
 .exact a.elim
def yd(K:f')(b:YC->Res D):Sp:=λc H Q _=>∃F a,jp F H/\IsDs K F a c/\(b a).need (zy K F H Q) (XW K E0 F H)
def zC(K:f')(b:YC->Res D):Sp:=λc H Q _=>∃F a,jp F H/\IsDs K F a c/\(b a).need (yJ K F H Q) (XW K E0 F H)
def JB(a:YC->Res D)(b:FA):FE:=λsd=>(b sd).bind a
def qr        (c:wM X.prog X.w X.K X.mg X.base a k G (yd X.K l))(o:Room k X.A)(s:Gl X a)(t:QA X E0 (e::b) u)
 (h:(a==("__debug__":Str))=7:=by decide)(v:starEach (e::b) X.env=%[7|eval e X.env]::starEach b X.env:=by rfl)(i:(backTo j<|starEach b X.env).any (·.1)=7:=by rfl):
 QE X E0 (.Call (.Name a p) (e::b) [] j) (JB l u):=PE.weak (XV c o s t h v i) λZ H Q w=>by
 let(B F sd,r,n):=w;calc je B F sd (r,(ja n).mono (λx y z A C m E=>?_) λ_ _ q=>q);show yd X.K l (z++[]) C Q E0;rw[ZA];exact(A,x,m.fh,E,ZW y m)
def Xc        (c:wM X.prog X.w X.K X.mg X.base a k G (zC X.K l))(o:Room k X.A)(s:Gl X a)(t:QA X E0 (e::b) u)
 (h:(a==("__debug__":Str))=7:=by decide)(v:starEach (e::b) X.env=%[7|eval e X.env]::starEach b X.env:=by rfl)(i:(backTo j<|starEach b X.env).any (·.1)=7:=by rfl):
 QN X E0 (.Call (.Name a p) (e::b) [] j) (JB l u):=PE.weak (XV c o s t h v i) λZ H Q w=>by
 let(B F sd,r,n):=w;calc je B F sd (r,(ja n).mono (λx y z A C m E=>?_) λ_ _ q=>q);show zC X.K l (z++[]) C Q E0;rw[ZA];exact(A,x,m.fh,E,DW y m)
def jt(g:YC->YD)(a:FA):FE:=λsd=>(a sd).bind λb=>.ofO<|g b
def Qb{id:String}    {g:YC->YD} (j:qf X (.builtin id) (wN X.K g))(l:Gl X x)(m:X.mg x=8)(o:bootBuiltins x=! .builtin id)(s:QA X E (e::a) t)(u:x ≠"__name__":=by decide)(b:(x==("__debug__":Str))=7:=by decide)
 (v:starEach (e::a) X.env=%[7|eval e X.env]::starEach a X.env:=by rfl)(c:(backTo h<|starEach a X.env).any (·.1)=7:=by rfl):QE X E (.Call (.Name x p) (e::a) [] h) (jt g t):=
 PE.weak (ZK j l m o s u b v c) λZ H Q w=>by
  let(B F sd,r,n):=w;calc je B F sd (r,(ja n).mono (λy A J C L i G=>?_) λ_ _ q=>q);let(-z,I,q):=jf A;exact je C y z (i.fh,G,I,q.ext i)
def So{id:String}    {g:YC->YD} (j:qf X (.builtin id) (va X.K g))(l:Gl X x)(m:X.mg x=8)(o:bootBuiltins x=! .builtin id)(s:QA X E (e::a) t)(u:x ≠"__name__":=by decide)(b:(x==("__debug__":Str))=7:=by decide)
 (v:starEach (e::a) X.env=%[7|eval e X.env]::starEach a X.env:=by rfl)(c:(backTo h<|starEach a X.env).any (·.1)=7:=by rfl):QN X E (.Call (.Name x p) (e::a) [] h) (jt g t):=
 PE.weak (ZK j l m o s u b v c) λZ H Q w=>by
  let(B F sd,r,n):=w;calc je B F sd (r,(ja n).mono (λy A J C L i G=>?_) λ_ _ q=>q);let(-z,I,q):=jf A;exact je C y z (i.fh,G,I,q.ext i)
def Xd     {g:YC->YD} (j:qf X (.type T) (wN X.K g))(l:Gl X x)(m:X.mg x=8)(o:bootBuiltins x=! .type T)(s:QA X E (e::a) t)(u:x ≠"__name__":=by decide)(b:(x==("__debug__":Str))=7:=by decide)
 (v:starEach (e::a) X.env=%[7|eval e X.env]::starEach a X.env:=by rfl)(c:(backTo h<|starEach a X.env).any (·.1)=7:=by rfl):QE X E (.Call (.Name x p) (e::a) [] h) (jt g t):=
 PE.weak (Bh j l m o s u b v c) λZ H Q w=>by
  let(B F sd,r,n):=w;calc je B F sd (r,(ja n).mono (λy A J C L i G=>?_) λ_ _ q=>q);let(-z,I,q):=jf A;exact je C y z (i.fh,G,I,q.ext i)
def W9     {g:YC->YD} (j:qf X (.type T) (va X.K g))(l:Gl X x)(m:X.mg x=8)(o:bootBuiltins x=! .type T)(s:QA X E (e::a) t)(u:x ≠"__name__":=by decide)(b:(x==("__debug__":Str))=7:=by decide)
 (v:starEach (e::a) X.env=%[7|eval e X.env]::starEach a X.env:=by rfl)(c:(backTo h<|starEach a X.env).any (·.1)=7:=by rfl):QN X E (.Call (.Name x p) (e::a) [] h) (jt g t):=
 PE.weak (Bh j l m o s u b v c) λZ H Q w=>by
  let(B F sd,r,n):=w;calc je B F sd (r,(ja n).mono (λy A J C L i G=>?_) λ_ _ q=>q);let(-z,I,q):=jf A;exact je C y z (i.fh,G,I,q.ext i)
def Ky:D->Bool
 |.tup _=>7
 |.lst _=>7
 |.dct _ _=>7
 |.ins _ _ _=>7
 |.exc _=>7
 |.exr _ _=>7
 |.dcf _ _=>7
 |.pin _ _=>7
 |.scr _=>7
 |_=>6
def IsD.scal{K:f'}   (s:Ky d=6)(h:IsD K F d v):IsD K c d v:=by
 cases d with
 |tup _=>calc JG s
 |lst _=>calc JG s
 |dct _ _=>calc JG s
 |ins _ _ _=>calc JG s
 |exc _=>calc JG s
 |exr _ _=>calc JG s
 |dcf _ _=>calc JG s
 |pin _ _=>calc JG s
 |scr _=>calc JG s
 |_=>exact h
def Res.bare{α:Type}(r:Res α):Res α:=match r with
 |.ok a=>.ok a
 |.ex c []=>.ex c []
 |_=>.no
def xI {K:f'} {r:Res α} (e:jp F H)(h:r.bare.need p (XW K E0 F H)):r.need p (XW K E0 q H):=by
 induction r with
 |ok a=>calc h
 |no=>calc h
 |ex c fs=>
  induction fs with
  |nil=>calc λi a s j l=>y9 λC=>jA λn o _=>h i 8 F j (.grow e l.hh) (C,n,o,.inl 9)
  |cons d r=>exact h.elim
def xW(a:Yh)(f:FE):FE:=λsd=>(f<|qM a sd).bare.bind λd=>if Ky d then .ok d else .no
def X3  (b)(h:QE X E0 e i):QE X E0 e (xW b i):=PE.weak h λZ H Q j=>by
 let(B F sd,r,n):=j;let(-l,u,m):=r.frz b;refine je B l _ (m,(xI r.ext.fh<|ja n).mono (λd a v w o p s=>?_) λc fs q=>q)
 split at a
 .rename_i t;exact a v F o (.grow r.ext.fh p.hh)<|s.scal t
 .exact a.elim
end
inductive Out where
 |next(sd:SD)|ret(d:D)|brk(sd:SD)|cont(sd:SD)
def nH(K:f')(F H:Hp)(Q:VK)(d:D):4:=if Ky d=6 then zy K F H Q d else yJ K F H Q d
def BD(K:f')(m:Option Bool)(B:Bs)(Q:VK)(d:D):4:=match m with
 |some true=>yJ K B.F0 B.H0 Q d
 |some false=>zy K B.F0 B.H0 Q d
 |none=>nH K B.F0 B.H0 Q d
def wS(K:f')(m:Option Bool)(B:Bs)(F:Hp)(T:Ends):Out->4
 |.next sd=>∀Z a b,jp F a->RS K B a b sd Z->T.nx Z b
 |.brk sd=>∀Z a b,jp F a->RS K B a b sd Z->T.bk Z b
 |.cont sd=>∀Z a b,jp F a->RS K B a b sd Z->T.ct Z b
 |.ret d=>BD K m B T.rt d
abbrev FS:=SD->Res Out
def kh(K:f')(E:XK)(m:Option Bool)(g:FS):TS:=λT Z H=>∃B F sd,RS K B F H sd Z/\(g sd).need (wS K m B F T) (XW K E B.F0 B.H0)
abbrev QS(X:Cx)(E:XK)(m:Option Bool)(st:Stmt)(g:FS):4:=PS X st<|kh X.K E m g
abbrev wP(X:Cx)(E:XK)(m:Option Bool)(st:List Stmt)(g:FS):4:=xq X st<|kh X.K E m g
section
variable {K:f'}
def wS.mono (h:wS K m B F T o)(e:jp F i):wS K m B i T o:=by
 cases o with
 |next sd=>calc λZ c f s r=>h Z c f (e.trans s) r
 |brk sd=>calc λZ c f s r=>h Z c f (e.trans s) r
 |cont sd=>calc λZ c f s r=>h Z c f (e.trans s) r
 |ret d=>exact h
end
section
variable  {E:XK}  {st:Stmt}  {g g1 g2:FS}
def JN:FS:=λsd=>.ok<|.next sd
def jq(g1 g2:FS):FS:=λsd=>(g1 sd).bind λo=>match o with
 |.next a=>g2 a
 |o=>.ok o
def Qm:wP X E m [] JN:=xq.weak Ba λT Z H=>qj λB F sd=>jB λr n=>n Z F H (.refl _) r
def J9(h:QS X E m st g):wP X E m [st] g:=Dt h
def JD(e:QS X E m st g1)(f:wP X E m c g2):wP X E m (st::c) (jq g1 g2):=xq.weak (ZF e f) λT Z H h=>by
 let(B F sd,r,n):=h;refine je B F sd (r,(ja n).mono (λo b=>?_) λ_ _ q=>q)
 induction o with
 |next a=>calc λl i p s j=>je B i a (j,b.mono (λo q=>q.mono s) λ_ _ q=>q)
 |ret d=>calc b
 |brk a=>calc b
 |cont a=>exact b
def BE(a)(h:QS X E m st g):QS X E m st λsd=>g<|qM a sd:=PS.weak h λT Z H b=>by
 let(B F sd,r,n):=b;let(-c,e,f):=r.frz a;exact je B c _ (f,n.mono (λ_ q=>q.mono e) λ_ _ q=>q)
def uH:FS:=λsd=>.ok<|.brk sd
def Sq:QS X E m (.Break a) uH:=PS.weak (λ_ _ Z H _ I h=>wpAny_Break (Z,H,I,h)) λT Z H=>qj λB F sd=>jB λr n=>n Z F H (.refl _) r
def jG(i:5)(f:FE):FS:=λsd=>(f sd).bind λd=>.ok<|.next<|sd.set i<|~~~d
def qp(i:5)(f:FE):FS:=λsd=>(f sd).bind λd=>.ok<|.next<|sd.set i<|! .own 7 d
def Qn   (f:X.N.Nodup)(h:X.N[i]?=!x)(j:yZ X.env.scope x)(l:QE X E e o)(p:swapsWith e (! .Name x a) b.line X.env=pure 7:=by rfl)
 (s:X.fn x=6\/X.env.scope.names.lookup x=!.local:=by trivial):QS X E m (.Assign [.Name x a] e b) (jG i o):=PS.weak (ZH f h j l p s) λT Z H=>qj λB F sd=>jB λr n=>je B F sd (r,(ja n).mono (λd t v u w c y=>t _ u w c.ff<|(r.step c).setVal y) λ_ _ q=>q.ext r.ext)
def Ka   (f:X.N.Nodup)(h:X.N[i]?=!x)(s:yZ X.env.scope x)(t:QN X E e u)(v:swapsWith e (! .Name x a) b.line X.env=pure 7:=by rfl)
 (w:X.fn x=6\/X.env.scope.names.lookup x=!.local:=by trivial):QS X E m (.Assign [.Name x a] e b) (qp i u):=PS.weak (ZH f h s t v w) λT Z H y=>by
 let(B F sd,r,n):=y;calc je B F sd (r,(ja n).mono (λd z l A C c G I J=>z _ A C c.ff<|(r.step c).setOwn (Qe r.ext.hh G) I J λj p N L O=>?_) λ_ _ q=>q.ext r.ext);let(-P,Q,_,_,M,_):=r.own L;let(o,R):=M.has
 ext
def jJ(f:FE):FS:=λsd=>(f sd).bind λd=>.ok<|.ret d
def Qi(a:QE X E e b):QS X E 7 (.Return (!e) c) (jJ b):=PS.weak (Bb a) λT Z H=>qj λB F sd=>jB λr n=>je B F sd (r,(ja n).mono (λd f v h i j l=>f v h i (r.ext.trans j) l) λ_ _ q=>q.ext r.ext)
def X4(a:QN X E e b):QS X E 6 (.Return (!e) c) (jJ b):=PS.weak (Bb a) λT Z H=>qj λB F sd=>jB λr n=>je B F sd (r,(ja n).mono (λd f l h i j m o p=>f l h i (r.ext.trans j) (Qe r.ext.hh m) o p) λ_ _ q=>q.ext r.ext)
def K4(i:5):FS:=λsd=>match sd[i]? with
 |some (some<|.own _ d)=>.ok (.ret d)
 |_=>.no
def Y2 (a:PE X e (yL i)):QS X E 6 (.Return (!e) b) (K4 i):=PS.weak (Bb a) λT Z H c=>by
 let(B F sd,r,n):=c;unfold K4 at n
 split at n
 .rename_i d q;let(-l,f,h,j,m,_):=r.own q;exact(.ref l,f,n l F H r.ext h j m)
 .exact n.elim
def Xe(f:FE):FS:=λsd=>(f sd).bind λ_=>.ok<|.next sd
def Aa(c:QE X E e f)(h:swapsWith e 8 a.line X.env=pure 7:=by rfl):QS X E m (.Expr e a) (Xe f):=PS.weak (ZG c h) λT Z H i=>by
 let(B F sd,r,n):=i;calc je B F sd (r,(ja n).mono (λd j v l o b p=>?_) λ_ _ q=>q.ext r.ext);exact j Z l o b.ff<|r.step b
def qE(c:FT)(g1 g2:FS):FS:=λsd=>(c sd).bind λb=>if b then g1 sd else g2 sd
def Qj   (i:QT X E c j)(l:wP X E m a g1)(o:wP X E m b g2):QS X E m (.If c a b p) (qE j g1 g2):=PS.weak (Du i l o) λT Z H s=>by
 let(B F sd,r,n):=s;refine je B F sd (r,(ja n).mono (λb f h t e=>?_) λ_ _ q=>q.ext r.ext)
 induction b with
 |true=>calc(B,h,sd,r.step e,f.mono (λ_ q=>q.mono e.ff) λ_ _ q=>q)
 |false=>exact je B h sd (r.step e,f.mono (λ_ q=>q.mono e.ff) λ_ _ q=>q)
def K5(i:5)(f:FE):FS:=λsd=>match sd[i]? with
 |some (some<|.own false<|.lst ds)=>(f sd).bind λd=>if ds.length<sizeLine then .ok (.next<|sd.set i<|!(.own 7<|.lst<|ds++[d]))else .no
 |_=>.no
def Ab   (I:PE X o (yL i))(J:QE X E e x)
 (L:∀{y:TE}{t:TA},PE X o y->PA X [e] t->PE X (.Call (.Attribute o "append" a) [e] [] b) (kP X.K "list" Bi y t))
 (M:swapsWith (.Call (.Attribute o "append" a) [e] [] b) 8 j.line X.env=pure 7:=by rfl)
 (p:starEach [e] X.env=%[7|eval e X.env]::starEach [] X.env:=by rfl):QS X E m (.Expr (.Call (.Attribute o "append" a) [e] [] b) j) (K5 i x):=
 PS.weak (ZG (L I<|J2 J J3 p) M) λT Z H N=>by
  let(B F sd,r,n):=N;unfold K5 at n
  split at n
  .rename_i S z;let(-l,A,U,Y,(s,C,G),_):=r.own z;calc(.ref l,A,.inl (9,s,xx.of C),B,F,sd,r,?_);unfold J1 jc;let f:=ja n
   induction q:x sd with
   |no=>rwa[q]at f
   |ex c fs=>rw[q]at f;calc f.ext r.ext
   |ok d=>
    rw[q]at f;intro vs O H1 h P;let(v w,rfl,Q,R):=P;subst R;let u:=f
    split at u
    .let hl:=G.length;exact je l s v (9,9,h.hh _ _ C,(),u Z O _ h.ff<|(r.step h).chg z A (s++[v],JK,(IsDs.same h.ff _ _ G).snoc Q))
    .exact u.elim
  .exact n.elim
def WA(i:5)(f:FE):FS:=λsd=>match sd[i]? with
 |some (some<|.own false<|.lst ds)=>(f sd).bind λd=>match d with
  |.lst a=>if ds.length+a.length<=sizeLine then .ok (.next<|sd.set i<|!(.own 7<|.lst<|ds++a))else .no
  |_=>.no
 |_=>.no
def Ig   (I:PE X o (yL i))(J:QN X E e L)
 (M:∀{u:TE}{t:TA},PE X o u->PA X [e] t->PE X (.Call (.Attribute o "extend" a) [e] [] c) (kP X.K "list" GA u t))
 (N:swapsWith (.Call (.Attribute o "extend" a) [e] [] c) 8 h.line X.env=pure 7:=by rfl)
 (j:starEach [e] X.env=%[7|eval e X.env]::starEach [] X.env:=by rfl):QS X E m (.Expr (.Call (.Attribute o "extend" a) [e] [] c) h) (WA i L):=
 PS.weak (ZG (M I<|KQ J Wf j) N) λT Z H O=>by
  let(B F sd,r,n):=O;unfold WA at n
  split at n
  .rename_i v w;let(-l,x,S,U,(p,y,z),_):=r.own w;calc(.ref l,x,.inl (9,p,xx.of y),B,F,sd,r,(ja n).mono (λd A b P Y f i1 i2 Q=>?_) λ_ _ q=>q.ext r.ext);cases d with
   |lst C=>
    have(G,g1,g2):=Q;let s:(if v.length+C.length<=sizeLine then Res.ok (Out.next<|sd.set i<|!(.own 7<|.lst<|v++C))else .no).need (wS X.K m B F T) (XW X.K E B.F0 B.H0):=A
    split at s
    .let hl:=z.length;let R:=g2.length;exact jX l b p G (9,9,f.hh _ _ y,g1,(),s Z P _ f.ff<|(r.step f).chg w x (p++G,JK,(IsDs.same f.ff _ _ z).append g2))
    .calc s.elim
   |_=>exact A.elim
  .exact n.elim
inductive Tg where
 |one(i:Nat)|tup(is:Yh)
def setAll:Yh->YC->SD->SD
 |i::is,d::a,sd=>setAll is a (sd.set i<|~~~d)
 |_,_,sd=>sd
def JS:Tg->D->SD->Res SD
 |.one i,d,sd=>.ok (sd.set i<|~~~d)
 |.tup a,.tup b,sd=>if b.length=a.length then .ok (setAll a b sd)else .no
 |_,_,_=>.no
def BF:Yh->YB->St->St
 |i::a,v::b,Z=>BF a b (Z.set i<|!v)
 |_,_,Z=>Z
theorem RS.setAll{K:f'}{B:Bs}{F H:Hp}:∀{is:Yh}{e:YC}{c:YB}{sd:SD}{Z:St},RS K B F H sd Z->IsDs K F e c->RS K B F H (setAll is e sd) (BF is c Z)
 |[],e,c,sd,Z,r,_=>r
 |i::is,[],c,sd,Z,r,h=>by
  subst h;calc r
 |i::is,d::e,c,sd,Z,r,h=>by
  let(v w,rfl,f,j):=h;exact RS.setAll (is:=is) (r.setVal f) j
def RS.forget{K:f'}    (r:RS K B F H sd Z)(e:c.length=sd.length)(h:∀(i:5)x,c[i]?=! !x->sd[i]?=! !x):RS K B F H c Z:=
 (r.ext,by rw[r.len,e],λq=>r.val<|h _ _ q,λq=>r.own<|h _ _ q,λn f j l=>r.apart n (h _ _ f) (h _ _ j) l)
def gT:Tg->f'->TG
 |.one i,_=>We i
 |.tup c,K=>λv Z H Q=>∃a b,v=.ref a/\yF K H a b/\b.length=c.length/\Q (BF c b Z) H
def Ac{K:f'}          (r:RS K B F H sd Z)(m:IsD K F d v)(n:(JS j d sd).need p q)
 (h:∀b o,p b->JS j d sd=.ok b->RS K B F H b o->Q o H):gT j K v Z H Q:=by
 induction j with
 |one i=>calc h _ _ n 9<|r.setVal m
 |tup e=>
  cases d with
  |tup f=>
   let(a t,rfl,u,s):=m;let c:JS (.tup e) (.tup f) sd=if f.length=e.length then .ok (setAll e f sd)else .no:=9
   by_cases l:f.length=e.length
   .rw[Zd l]at c;rw[c]at n;exact(a,t,9,(u.same r.ext.fh).sq,by rw[s.length,l],h _ _ n c<|r.setAll s)
   .rw[Ze l]at c;rw[c]at n;calc n.elim
  |_=>exact n.elim
abbrev QG(X:Cx)(e:Expr)(tg:Tg):4:=PG X e<|gT tg X.K
def wC(K:f')(h:Hp)(J:It)(b:YC):4:=∀(i:5)(c a:Hp),jp h c->jp c a->
 (i<b.length->J.go i a/\∀x e,J.yld i a x e->∃d f,b[i]?=!d/\Ext c a f e/\IsD K f d x)/\(b.length<=i->J.stop i a)
def mw(K:f')(E:XK)(f:FA):TI:=λZ H R=>∃B F sd,RS K B F H sd Z/\(f sd).need (λc=>∀J a b,Ext F H a b->wC K a J c->R J b) (XW K E F H)
abbrev QI(X:Cx)(E:XK)(tg iter:Expr)(f:FA):4:=PI X tg iter<|mw X.K E f
def zt(b:D->FS):YC->FS
 |[],sd=>.ok (.next sd)
 |x::c,sd=>(b x sd).bind λo=>match o with
  |.next a=>zt b c a
  |.cont a=>zt b c a
  |.brk a=>.ok (.next a)
  |.ret d=>.ok (.ret d)
def qq(a:FA)(c:Tg)(b:FS):FS:=λsd=>(a sd).bind λds=>zt (λx sd=>(JS c x sd).bind b) ds sd
def Q9    (hp:PassesOwn (model X.prog X.w) X.A X.env X.xe)(hc:X.calm=6)(Q:QI X E R e fi)(hg:QG X R t)(hb:wP X E m s g)
 (A:∀x,foldedSetIterable e X.env x=pure x:=by intro _;rfl):QS X E m (.For R e s [] pos) (qq fi t g):=PS.weak (Dv hp hc Q hg hb A) λT Z H zh=>by
 let(B F sd,r,n):=zh;refine je B F sd (r,(ja n).mono (λa n1 J C H1 S wk=>(λi k Z H=>k=a.length-i/\i<=a.length/\∃l sd,jp C l/\RS X.K B l H sd Z/\(zt (λx sd=>(JS t x sd).bind g) (a.drop i) sd).need (wS X.K m B l T) (XW X.K E B.F0 B.H0),
  (a.length,9,Uc _,C,sd,.refl _,r.step S,n1.mono (λ_ q=>q.mono S.ff) λ_ _ q=>q),?_)) λ_ _ q=>q.ext r.ext)
 rintro i k Z2 U ⟨rfl,Q,l,sd2,G,I,u⟩;let(w1,w2):=wk i l U G I.ext.fh;by_cases f:i<a.length
 .let(go,yl):=w1 f;refine .inr (go,λL Y=>∃h b,jp C h/\RS X.K B h Y b L/\(zt (λx sd=>(JS t x sd).bind g) (a.drop<|i+1) b).need (wS X.K m B h T) (XW X.K E B.F0 B.H0),
   λL Y=>j7 λh b=>jA λq1 q2 q3=>(a.length-(i+1),(),9,f,h,b,q1,q2,q3),λx H3 y=>?_)
  let(d h,hd,p,i3):=yl x H3 y;rw[Uz f]at u;let M:a[i]=d:=by ext
  rw[M]at u;refine Ac (I.step p) i3 (ja<|ja u) λN L n4 _ r4=>je B h N (r4,n4.mono (λo z=>?_) λ_ _ q=>q)
  induction o with
  |next c=>calc λO v P j w=>(v,c,(G.trans p.ff).trans j,w,z.mono (λ_ q=>q.mono<|p.ff.trans j) λ_ _ q=>q)
  |cont c=>calc λO v P j w=>(v,c,(G.trans p.ff).trans j,w,z.mono (λ_ q=>q.mono<|p.ff.trans j) λ_ _ q=>q)
  |brk c=>calc λO v P j w=>z O v P (p.ff.trans j) w
  |ret d=>exact z
 .let he:i=a.length:=()
  calc .inl (w2 (),?_);subst he;rw[Vh]at u;exact u Z2 l U (.refl _) I
def yQ{α β:Type}(f:α->Res β):List α->Res (List β)
 |[]=>.ok []
 |x::a=>(f x).bind λy=>(yQ f a).bind λb=>.ok<|y::b
def qw(cap:List (Option 5))(sd:SD):SD:=cap.map λo=>o.bind λj=>match sd[j]? with
 |some (~~~d)=>~~~d
 |_=>8
def WC(sd:SD)(i:5):Bool:=match sd[i]? with
 |some none=>6
 |_=>7
def WE(sd:SD):Tg->Bool
 |.one i=>WC sd i
 |.tup a=>a.all (WC sd)
def Qw(cap:List (Option 5))(b:FA)(a:Tg)(f:FE):FE:=λsd=>(b sd).bind λds=>if WE (qw cap sd) a=6/\ds.length<sizeLine then
 (yQ (λx=>(JS a x<|qw cap sd).bind f) ds).bind λc=>.ok<|.lst c else .no
theorem RS.cap{K:f'}    (cap:List (Option 5))(r:RS K B F H sd Z):RS K B F H (qw cap sd) (Wg cap Z):=by
 let c:∀{i:5}{x:SV},(qw cap sd)[i]?=! !x->∃j d,cap[i]?=! !j/\sd[j]?=!~~~d/\x=.val d:=λ{i x}q=>by
  unfold qw at q;rw[Zv]at q
  induction hc:cap[i]? with
  |none=>rw[hc]at q;calc J6 q
  |some o=>
   rw[hc]at q
   induction o with
   |none=>cases q
   |some j=>
    let q:(match sd[j]? with
     |some (~~~d)=>! SV.val d
     |_=>8)=!x:=Zqi q
    split at q
    .rename_i d y;exact(j,d,9,y,(Zqi q).symm)
    .exact J6 q
 refine(r.ext,by unfold qw Wg;rw[Zql,Zql],λ{i d}q=>?_,λ{i p d}q=>?_,λ{i j p I d e l}_ q=>?_)
 .let(j u,n,s,f):=c q;cases f;let(-v,z,G):=r.val s;calc(v,?_,G);unfold Wg;rw[Zv,n];show some (Option.bind (!j) λj=>(Z[j]?).join)=_;rw[Option.bind_some,z];rfl
 .let(j u,n,s,f):=c q;cases f
 .let(j u,n,s,f):=c q;cases f
theorem Ea:∀b c a sd,b.all (WC a)=6->sd.length=a.length->(∀(i:5)x,a[i]?=! !x->sd[i]?=! !x)->
 (setAll b c sd).length=a.length/\∀(i:5)x,a[i]?=! !x->(setAll b c sd)[i]?=! !x
 |[],c,a,sd,_,hl,h=>(hl,h)
 |i::b,[],a,sd,_,hl,h=>(hl,h)
 |i::b,d::c,a,sd,hn,hl,h=>by
  rw[Uv,Ud]at hn;calc Ea b c a (sd.set i<|~~~d) hn.2 (by rw[Va,hl]) λj x q=>?_;let ne:i≠j:=λz=>by
   subst z;let:=hn.1;unfold WC at this;rw[q]at this;exact JG this
  rw[Q6 ne];exact h j x q
def Eb   (f:WE a e=6)(h:JS e d a=.ok sd):a.length=sd.length/\∀(i:5)x,a[i]?=! !x->sd[i]?=! !x:=by
 induction e with
 |one i=>
  cases h;let:=Ea [i] [d] a a (by rwa[Uv,List.all_nil,Bool.and_true]) 9 λ_ _ q=>q;calc(this.1.symm,this.2)
 |tup b=>
  cases d with
  |tup c=>
   let j:JS (.tup b) (.tup c) a=if c.length=b.length then .ok (setAll b c a)else .no:=9
   rw[j]at h
   split at h
   .cases h;let:=Ea b c a a f 9 λ_ _ q=>q;exact(this.1.symm,this.2)
   .cases h
  |_=>cases h
def Ih  {a:List α}  {p:List β->4} (m:a[i]?=!x)(h:(yQ f<|a.drop i).need p q):(f x).need (λy=>(yQ f<|a.drop<|i+1).need (λc=>p<|y::c) q) q:=by
 let b:i<a.length:=();rw[Uz b]at h;let e:a[i]=x:=by ext
 rw[e]at h;exact(ja h).mono (λy j=>(ja j).mono (λc l=>l) λ_ _ z=>z) λ_ _ z=>z
def Ec{K:f'}       (o:u4 K E (Qw cap N t f) Z H Q):XU cap (mw K E N) (gT t K) (tD K E f) Z H Q:=by
 let(B F sd,r,n):=o;refine je B F sd (r,(ja n).mono (λb p J L O m wk=>?_) λ_ _ q=>q)
 split at p
 .rename_i o;let(P,hz):=o;refine(λi k s Z c=>k=b.length-i/\i<=b.length/\∃a e,Ext L O a c/\RS K B a c (qw cap sd) Z/\IsDs K a e s/\e.length=i/\
   (yQ (λx=>(JS t x<|qw cap sd).bind f)<|b.drop i).need (λu=>yJ K a c Q<|.lst<|e++u) (XW K E a c),(b.length,9,Uc _,L,[],.refl m.fh,(r.step m).cap cap,.nil,9,?_),?_)
  .exact(ja p).mono (λu q=>(q).ext m) λ_ _ q=>q.ext m
  rintro i k s Z2 c ⟨rfl,hi,a,e,w,z,A,hl,C⟩;let ly:=A.length;calc((),?_);let(!R,S):=wk i a c w.ff w.fh;by_cases j:i<b.length
  .let(!go,T):=R j;calc .inr (go,λx U y=>?_);let(d X,Y,h,i3):=T x U y;let n3:=Ih Y C;let r3:=z.step h;calc Ac r3 i3 (ja n3) λG Z' n4 hb M=>?_;let(b1,b2):=Eb P hb;calc je B X G (M,n4.mono (λy n5 v F4 H4 l i4=>(b.length-(i+1),(),9,j,F4,e++[y],(w.trans h).trans l,(M.step l).forget b1 b2,(IsDs.same (h.ff.trans l.ff) _ _ A).snoc i4,(),n5.mono (λu q=>?_) λ_ _ q=>q.ext<|h.trans l)) λ_ _ q=>q.ext h);rw[Ug];exact q.ext<|h.trans l
  .let he:i=b.length:=()
   subst he;calc .inl (S<|Zf _,λD I=>?_);rw[Vh]at C;let q:yJ K a c Q (.lst<|e++[]):=C;rw[ZA]at q;exact q D a _ (.keep z.ext.fh I _) I (Qe z.ext.fh I) (s,JK,A)
 .exact p.elim
def K6     (N)(cap)(m:X.calm=6)(c:Ki a X.env N X.N cap=6)(n:QI X E l b o)
 (p:∀e C s H i,QG (JL X a N e C s H i) l t)(q:∀e C s H i,QE (JL X a N e C s H i) E j f)(r:∀x,foldedSetIterable b X.env x=pure x:=by intro _;rfl):
 QN X E (.ListComp j [(l,b,[],0)] a u) (Qw cap o t f):=PE.weak (GT N cap m c n p q r) λ_ _ _ h=>Ec h
def JX(n:5)(a:YC):SD:=a.map (λd=>~~~d)++List.replicate (n-a.length) 8
def jT(n ar:5)(g:FS)(a:YC):Res D:=if a.length=ar then(g<|JX n a).bind λo=>match o with
 |.ret d=>.ok d
 |.next _=>.ok .non
 |_=>.no else .no
def qz(n ar:5)(g:FS)(a:YC):Res D:=if a.length=ar then(g<|JX n a).bind λo=>match o with
 |.ret d=>.ok d
 |_=>.no else .no
theorem RS.start{K:f'}{F H:Hp}{N:Yi}{f:YC}{o:YB}(s:jp F H)(h:IsDs K F f o):RS K (F,H,λ_=>8) F H (JX N.length f) (start N o):=by
 let c:∀{i:5}{x:SV},(JX N.length f)[i]?=! !x->∃d,f[i]?=!d/\x=.val d:=λ{i x}q=>by
  unfold JX at q;by_cases r:i<f.length
  .rw[UN (by rwa[Zql]),Zv,Zqg r]at q;exact(f[i],Zqg r,(Zqi<|Zqi q).symm)
  .rw[UF (by rw[Zql];lia),List.getElem?_replicate]at q
   split at q<;>(first|calc J6 q|cases q)
 refine(.refl s,by unfold JX L2.start;simp[h.length],λ{i d}q=>?_,λ{i p d}q=>?_,λ{i j p B d e l}_ q=>?_)
 .let(G,y,n):=c q;cases n;let(-v,u,z):=h.get y;calc(v,?_,z);unfold L2.start;rw[UN (by rw[Zql];calc(Jb.mp u).1),Zv,u];rfl
 .let(-_,_,n):=c q;cases n
 .let(-_,_,n):=c q;cases n
section
variable   {K:f'}
def xQ (F:Fun K x c st f l)(S:FnScope N j (JY st))
 (m:∀b A a s H E,Room k (A.deeper<|envOfC c (JY st) s⁻¹ f b)->wP (qu zj P w K p e N c (JY st) f b A a s H E).nox E0 7 (Ko st) g):
 FnOk P w K p e zj (k+1) f l j (yd K<|jT N.length j.length g):=by
 refine F.ok S (λt H Q E=>j7 λF u=>jA λ_ h n=>?_) λb A a s H t Q E v=>j7 λF u=>jA λy h n=>(_,m b A a s H E v,?_)
 .unfold jT at n
  split at n
  .rw[h.length];lia
  .exact n.elim
 .unfold jT at n
  split at n
  .refine je (F,H,λ_=>8) F _ (RS.start y h,(ja n).mono (λo i=>?_) λ_ _ q=>q)
   induction o with
   |next sd=>calc λZ z B _ r=>i .non z B r.ext<|jM.mpr 9
   |ret d=>calc i
   |brk sd=>calc i.elim
   |cont sd=>exact i.elim
  .exact n.elim
def yU (F:Fun K x c st f l)(S:FnScope N j (JY st))
 (m:∀b A a s H E,Room k (A.deeper<|envOfC c (JY st) s⁻¹ f b)->wP (qu zj P w K p e N c (JY st) f b A a s H E).nox E0 6 (Ko st) g):
 FnOk P w K p e zj (k+1) f l j (zC K<|qz N.length j.length g):=by
 refine F.ok S (λr H Q E=>j7 λF t=>jA λ_ h n=>?_) λb A a s H r Q E u=>j7 λF t=>jA λv h n=>(_,m b A a s H E u,?_)
 .unfold qz at n
  split at n
  .rw[h.length];lia
  .exact n.elim
 .unfold qz at n
  split at n
  .refine je (F,H,λ_=>8) F _ (RS.start v h,(ja n).mono (λo i=>?_) λ_ _ q=>q)
   induction o with
   |next sd=>calc i.elim
   |ret d=>calc i
   |brk sd=>calc i.elim
   |cont sd=>exact i.elim
  .exact n.elim
end
end
def qb(p:3×3):D:=.tup [.int p.1,.int p.2]
def j6(r:Jz):D:=.tup<|r.map qb
def BG:D->Option (3×3)
 |.tup [.int i,.int j]=>!%[i|j]
 |_=>8
def Qx{α:Type}(f:D->Option α):YC->Option (List α)
 |[]=>![]
 |d::a=>(f d).bind λx=>(Qx f a).map λb=>x::b
def KJ:D->Option Jz
 |.tup a=>Qx BG a
 |_=>8
def Ad:D->Option 3
 |.int i=>!i
 |_=>8
theorem Y3{α β:Type}{f:D->Option α}{g:β->D}{k:β->α}(h:∀x,f (g x)=! k x):∀l:List β,Qx f (l.map g)=! l.map k
 |[]=>9
 |x::r=>by rw[Zl];unfold Qx;rw[h,Y3 h r];rfl
theorem Ae  {g:α->D}(h:∀d x,f d=!x->d=g x):∀{a:YC}{l:List α},Qx f a=!l->a=l.map g
 |[],l,e=>by cases e;rfl
 |d::a,l,e=>by
  unfold Qx at e
  induction b:f d with
  |none=>ext
  |some x=>
   induction h2:Qx f a with
   |none=>ext
   |some c=>
    rw[b,h2]at e;obtain rfl:=Zqi e;rw[Zl,<-h d x b,<-Ae h h2]
def Sr(p):BG (qb p)=!p:=rfl
def Ss  (h:BG d=!p):d=qb p:=by
 cases d with
 |tup a=>
  cases a with
  |nil=>calc J6 h
  |cons x a=>
   cases x with
   |int i=>
    cases a with
    |nil=>calc J6 h
    |cons y a=>
     cases y with
     |int j=>
      cases a with
      |nil=>obtain rfl:=Zqi h;rfl
      |cons _ _=>calc J6 h
     |_=>calc J6 h
   |_=>calc J6 h
 |_=>exact J6 h
def Ii(r):KJ (j6 r)=!r:=by
 show Qx BG (r.map qb)=!r;rw[Y3 (k:=id) Sr,List.map_id]
def Ij  (h:KJ d=!r):d=j6 r:=by
 cases d with
 |tup a=>unfold j6;rw[<-Ae (λ_ _=>Ss) h]
 |_=>exact J6 h
def Su  (h:Ad d=!i):d=.int i:=by
 cases d with
 |int j=>cases h;rfl
 |_=>exact J6 h
def Sv  (h:Qx Ad a=!l):a=l.map D.int:=Ae (λ_ _=>Su) h
def Sw(l):Qx Ad (l.map D.int)=!l:=by
 rw[Y3 (f:=Ad) (λ_=>9) l,List.map_id']
theorem BH(l):Qx KJ (l.map j6)=!l:=by rw[Y3 (k:=id) Ii,List.map_id]
def Ed  (h:Qx KJ a=!l):a=l.map j6:=Ae (λ_ _=>Ij) h
section
variable {K:f'}
def tH  :IsD K H (qb p) v↔Is H (pD p) v:=by
 rfl
theorem ky:∀{r:Jz}{a:YB},IsDs K H (r.map qb) a↔qH H (r.map pD) a
 |[],a=>by rfl
 |p::r,a=>by
  constructor
  .rintro⟨x,w,rfl,b,c⟩;exact(x,w,9,tH.mp b,ky.mp c)
  .intro h;let(x w,e,b,c):=h;exact(x,w,e,tH.mpr b,ky.mpr c)
def nK  :IsD K H (j6 r) v↔Is H (rD r) v:=by
 constructor
 .rintro⟨a,b,e,c,f⟩;exact(a,b,e,c,ky.mp f)
 .rintro⟨a,b,e,c,f⟩;exact(a,b,e,c,ky.mpr f)
theorem vz:∀{r:J0}{a:YB},IsDs K H (r.map j6) a↔qH H (r.map rD) a
 |[],a=>by rfl
 |p::r,a=>by
  constructor
  .rintro⟨x,w,rfl,b,c⟩;exact(x,w,9,nK.mp b,vz.mp c)
  .intro h;let(x w,e,b,c):=h;exact(x,w,e,nK.mpr b,vz.mpr c)
end
section
variable {X:Cx}
def gI(f:3->3->D):D->D->YD
 |.int i,.int j=>! f i j
 |_,_=>8
def km(c:3->3->Bool)(f:3->3->D):D->D->YD
 |.int i,.int j=>if c i j then ! f i j else 8
 |_,_=>8
def Af   (o:xF X h (rJ g))(b:∀i j F,IsD X.K F (f i j) (g i j)):yy X h (gI f):=xF.weak o λx y H Q c=>by
 let(F d e z,l,id,m,a,q):=c;cases d with
 |int i=>
  cases e with
  |int j=>cases a;calc(i,j,jd.mp id,jd.mp m,q _ F H (.refl l)<|b i j F)
  |_=>calc J6 a
 |_=>exact J6 a
def Ag     (o:xF X h (rI C g))(l:∀i j,c i j=6->C i j)(m:∀i j F,IsD X.K F (f i j) (g i j)):yy X h (km c f):=xF.weak o λx y H Q n=>by
 let(F d e z,p,id,r,a,q):=n;cases d with
 |int i=>
  cases e with
  |int j=>
   let a:(if c i j then ! f i j else 8)=!z:=a
   split at a
   .rename_i b;cases a;exact(i,j,jd.mp id,jd.mp r,l i j b,q _ F H (.refl p)<|m i j F)
   ext
  |_=>calc J6 a
 |_=>exact J6 a
def zf(i)(F):IsD X.K F (.int i) (.int i):=jd.mpr 9
def zS(b)(F):IsD X.K F (.bl b) (.bl b):=jo.mpr 9
def yC:=gI λi j=>.int<|i-j
def yE:5:=10715086071862673209484250490600018105614048117055336074437503883703510511249361224931983788156958581275946729175531468251871452856923140435984577574698574803934567774824230985421074605062371141877954182153046474983581941267398767559165543946077062914571196477686542167660429831652624386837205668069376
def Wl(i j:3):Bool:=Uw i.natAbs 18446744073709551616||Uw j.natAbs 18446744073709551616||Uw i.natAbs yE&&Uw j.natAbs yE
def Ik (h:k.natAbs<yE):Builtin.Int.intBits k<=2^20:=by
 let e:yE<=2^1000:=VG 9;let a:k.natAbs<2^1000:=Zg h e;unfold Builtin.Int.intBits
 split
 .exact Uc _
 .let l:k.natAbs.log2<1000:=by
   rcases Vv k.natAbs with h0|hp
   .rw[h0];decide
   .exact(Nat.log2_lt<|UU hp).mpr a
  let e:(2:5)^20=1048576:=by decide
  lia
def yD:=km Wl λi j=>.int<|i*j
def Ah:=km (λ_ j=>Uw 0 j.toNat&&Uw j.toNat 1073741824) λi j=>.int<|i/j
def xU:=km (λ_ j=>Uw 0 j.toNat) λi j=>.int<|i%j
def qX:=km (λi j=>Nat.ble (-j).toNat 0&&(Nat.ble j.toNat 1000000&&Uw i.natAbs 18446744073709551616)) λi j=>.int<|i^j.toNat
def kj:=gI λi j=>.bl<|decide<|i<j
def yT:=gI λi j=>.bl<|decide<|i<=j
def uO:=gI λi j=>.bl<|decide<|j<i
def fO:=gI λi j=>.bl<|decide<|j<=i
def Y4:yy X (binaryOp .Sub) yC:=Af (gF λ_ _ _ _ _ _ _ q=>sub_int q) λ_ _ F=>zf _ F
def Y5:yy X (binaryOp .Mult) yD:=Ag (gG λ_ _ _ _ _ _ _ hc q=>mul_int q<|by
 unfold Wl at hc;rw[U7,U7,Ud,UP,UP,UP,UP]at hc;rcases hc with(hc|hc)|⟨a,h2⟩
 .exact .of_left<|intBits_le_64 () ()
 .exact .of_right<|intBits_le_64 () ()
 .calc .of_bits (Ik a)<|Ik h2) (λi j h=>h) λ_ _ F=>zf _ F
def Ee:yy X (binaryOp .FloorDiv) Ah:=Ag Pc λi j h=>by simp_all[mf] λ_ _ F=>zf _ F
def KY:yy X (binaryOp .Mod) xU:=Ag Pd () λ_ _ F=>zf _ F
def Wm:yy X (binaryOp .Pow) qX:=Ag Pe λi j h=>by simp_all[me] λ_ _ F=>zf _ F
def gO:yy X (compareOp .Lt) kj:=Af (vT λ_ _ _ _ _ _ _ q=>lt_int q) λ_ _ F=>zS _ F
def yA:yy X (compareOp .LtE) yT:=Af (vT λ_ _ _ _ _ _ _ q=>le_int q) λ_ _ F=>zS _ F
def vW:yy X (compareOp .Gt) uO:=Af (vT λ_ _ _ _ _ _ _ q=>gt_int q) λ_ _ F=>zS _ F
def rQ:yy X (compareOp .GtE) fO:=Af (vT λ_ _ _ _ _ _ _ q=>ge_int q) λ_ _ F=>zS _ F
def zH:D->YD
 |.int i=>!(.int<|-i)
 |_=>8
def BI:uU X (unaryOp .USub) (tX X.K zH):=uU.weak (om λ_ _ _ _ _ q=>neg_int q) λx H Q b=>by
 let(F d z,c,id,a,q):=b;cases d with
 |int i=>cases a;calc(i,jd.mp id,q _ F H (.refl c)<|zf _ F)
 |_=>exact J6 a
def jC:D->D->YD
 |.int i,.int j=>!(.int<|i+j)
 |.str x,.str y=>if x.length+y.length<=sizeLine then !(.str<|x++y)else 8
 |.tup a,.tup b=>if a ≠[]/\b ≠[]/\a.length+b.length<=sizeLine then !(.tup<|a++b)else 8
 |.lst a,.lst b=>if a.length+b.length<=sizeLine then !(.lst<|a++b)else 8
 |_,_=>8
def gh(K:f'):R2:=λx y H Q=>∃l b a c,x=.ref l/\y=.ref b/\xY K H l a/\xY K H b c/\a.length+c.length<=sizeLine/\∀p,H p=8->Q (.ref p) (upd H p<|.lst<|a++c)
def Il:xF X (binaryOp .Add) (gh X.K):=by
 intro Y s Z H x y v u Q I g i h;let(l b z A,rfl,rfl,j,m,B,q):=h;obtain rfl:=g;obtain rfl:=i;let(_,c,n,e,o):=j.ok I.hok;let(_,a,C,f,p):=m.ok I.hok;let r:=e.length;let t:=f.length;calc PySem.P.add_list o p ?_ ();let w:c.toArray++a.toArray=(c++a).toArray:=by simp
 rw[w];exact(.ref _,_,I.lnew (e.append f) (),9,q _ I.fresh)
def Qc:yy X (binaryOp .Add) jC:=by
 intro Y s Z H x y v u Q I o r w;let(F,d,e,z,f,id,t,c,q):=w;cases d with
 |int i=>
  cases e with
  |int j=>cases c;calc(gF λ_ _ _ _ _ _ _ q=>add_int q) Y s Z H x y v u Q I o r (i,j,jd.mp id,jd.mp t,q _ F H (.refl f)<|zf _ F)
  |_=>calc J6 c
 |str a=>
  cases e with
  |str b=>
   let c:(if a.length+b.length<=sizeLine then !(D.str<|a++b)else 8)=!z:=c
   split at c
   .rename_i J;cases c;exact Pj Y s Z H x y v u Q I o r (a,b,ji.mp id,ji.mp t,J,q _ F H (.refl f)<|ji.mpr 9)
   ext
  |_=>calc J6 c
 |tup a=>
  cases e with
  |tup b=>
   let c:(if a ≠[]/\b ≠[]/\a.length+b.length<=sizeLine then !(D.tup<|a++b)else 8)=!z:=c
   split at c
   .obtain rfl:=Zqi c;let(A,g,rfl,B,l):=id;let(C h,rfl,E,m):=t;let L:=l.length;let M:=m.length;let N:g ≠[]:=by grind
    let O:h ≠[]:=by grind
    calc P8 Y s Z H _ _ v u Q I o r<|jX A C g h (9,9,(B.same f).sq,(E.same f).sq,N,(),λz=>Zn z O,λ_ p G=>?_);let n:=Ext.alloc f G<|.tup<|g++h;exact q _ _ _ n<|jy.mpr (p,_,9,.of JK,IsDs.same n.ff _ _<|l.append m)
   ext
  |_=>calc J6 c
 |lst a=>
  cases e with
  |lst b=>
   let c:(if a.length+b.length<=sizeLine then !(D.lst<|a++b)else 8)=!z:=c
   split at c
   .obtain rfl:=Zqi c;let(A,g,rfl,B,l):=id;let(C h,rfl,E,m):=t;let L:=l.length;let M:=m.length;calc Il Y s Z H _ _ v u Q I o r<|jX A C g h (9,9,B.same f,E.same f,(),λp G=>?_);let n:=Ext.alloc f G<|.lst<|g++h;exact q _ _ _ n<|jm.mpr (p,_,9,.of JK,IsDs.same n.ff _ _<|l.append m)
   ext
  |_=>calc J6 c
 |_=>exact J6 c
mutual
def yK:D->PyData
 | .non=>.none
 | .bl b=>.bool b
 | .int i=>.int i
 | .str x=>.str x
 | .tup a=>.tuple (Wn a)
 | .lst a=>.list (Wn a)
 | .ty _=>.none
 | .scr _=>.none
 | .dct _ _=>.none
 | .ins _ _ _=>.none
 | .exc _=>.none
 | .exr _ _=>.none
 | .ucl _=>.none
 | .adr _=>.none
 | .dcf _ _=>.none
 | .pin _ _=>.none
def Wn:YC->List PyData
 | []=>[]
 |d::a=>yK d::Wn a
end
def plN:5->D->Bool
 |0,_=>7
 |_+1,.int _=>6
 |_+1,.str x=>PyData.strOk x
 |_+1,.non=>6
 |n+1,.tup a=>a.all (plN n)
 |n+1,.lst a=>a.all (plN n)
 |_+1,_=>7
def Y6:∀n d,plN n d=6->(yK d).canLay0=6/\(yK d).depth<=n:=λn=>by
 induction n with
 |zero=>intro _ h;calc JG h
 |succ n b=>
  intro d h;let all:∀a:YC,a.all (plN n)=6->PyData.canLayAll0 (Wn a)=6/\PyData.depthAll (Wn a)<=n:=by
   intro a
   induction a with
   |nil=>intro _;calc(9,Uc _)
   |cons d a c=>
    intro h;rw[Uv,Ud]at h;let(e,f):=b d h.1;let(g,j):=c h.2;exact(Jr.mpr (e,g),Nat.max_le.mpr (f,j))
  cases d with
  |int i=>calc(9,Uc _)
  |str i=>calc(h,Uc _)
  |non=>calc(9,Uc _)
  |tup a=>calc((all a h).1,VC (all a h).2)
  |lst a=>calc((all a h).1,VC (all a h).2)
  |_=>exact JG h
def D.ne{d e:D}(h:(d.ctorIdx==e.ctorIdx)=7):¬d=e:=λq=>by
 ext
def Ef:∀n d e,plN n d=6->plN n e=6->(PyData.eqv (yK d) (yK e)=6↔d=e):=λn=>by
 induction n with
 |zero=>intro _ _ h;calc JG h
 |succ n f=>
  intro d e h c;let all:∀b a:YC,b.all (plN n)=6->a.all (plN n)=6->(PyData.eqvAll (Wn b) (Wn a)=6↔b=a):=by
   intro b
   induction b with
   |nil=>
    intro a _ _
    induction a with
    |nil=>calc iff_of_true 9 9
    |cons e a=>calc Zs Zj ()
   |cons d b g=>
    intro a l m
    induction a with
    |nil=>calc Zs Zj ()
    |cons e a=>
     show(PyData.eqv (yK d) (yK e)&&PyData.eqvAll (Wn b) (Wn a))=6↔_
     ext
  cases d with
  |int i=>
   cases e with
   |int j=>calc(λq=>Zt D.int<|Yp.mp q,λq=>Yp.mpr<|D.int.inj q)
   |str _=>calc Zs Zj<|D.ne 9
   |non=>calc Zs Zj<|D.ne 9
   |tup _=>calc Zs Zj<|D.ne 9
   |lst _=>calc Zs Zj<|D.ne 9
   |_=>calc JG c
  |str i=>
   cases e with
   |str j=>calc(λq=>Zt D.str<|of_decide_eq_true q,λq=>Zp<|D.str.inj q)
   |int _=>calc Zs Zj<|D.ne 9
   |non=>calc Zs Zj<|D.ne 9
   |tup _=>calc Zs Zj<|D.ne 9
   |lst _=>calc Zs Zj<|D.ne 9
   |_=>calc JG c
  |non=>
   cases e with
   |non=>calc iff_of_true 9 9
   |int _=>calc Zs Zj<|D.ne 9
   |str _=>calc Zs Zj<|D.ne 9
   |tup _=>calc Zs Zj<|D.ne 9
   |lst _=>calc Zs Zj<|D.ne 9
   |_=>calc JG c
  |tup b=>
   cases e with
   |tup a=>calc(all b a h c).trans ()
   |int _=>calc Zs Zj<|D.ne 9
   |str _=>calc Zs Zj<|D.ne 9
   |non=>calc Zs Zj<|D.ne 9
   |lst _=>calc Zs Zj<|D.ne 9
   |_=>calc JG c
  |lst b=>
   cases e with
   |lst a=>calc(all b a h c).trans ()
   |int _=>calc Zs Zj<|D.ne 9
   |str _=>calc Zs Zj<|D.ne 9
   |non=>calc Zs Zj<|D.ne 9
   |tup _=>calc Zs Zj<|D.ne 9
   |_=>calc JG c
  |_=>exact JG h
theorem X5  {K:f'}  (ok:xr P w H h):∀n d v u,plN n d=6->IsD K H d v->jv v u->∃l,Reads h u (yK d) l
 |0,_,_,_,p,_,_=>JG p
 |n+1,d,v,u,p,q,r=>by
  let all:∀b f s,b.all (plN n)=6->IsDs K H b f->j5 f s->∃l,ReadsAll h s (Wn b) l:=by
   intro b
   induction b with
   |nil=>
    intro f s _ y g;subst y;cases g;calc(_,.nil)
   |cons d b C=>
    intro f s z y g;rw[Uv,Ud]at z;let(x E,rfl,m,F):=y;cases g with
    |cons G I=>
     let(l,A):=X5 ok n d x _ z.1 m G;let(bs,J):=C E _ z.2 F I;exact(_,.cons A J)
  cases d with
  |int i=>
   subst q;let(t,rfl):=r;calc(_,.int i t)
  |str x=>
   subst q;let(t,rfl):=r;calc(_,.str x t)
  |non=>
   subst q;obtain rfl:=r;calc(_,.none)
  |tup b=>
   let(a f,rfl,g,m):=q;obtain rfl:=r;let(_,j,B,o,e,c,L,M):=ok a _ g;let(l,A):=all b f j p m B;calc(_,.tuple e c M ())
  |lst b=>
   let(a f,rfl,g,m):=q;obtain rfl:=r;let(_,j,L,B,e):=g.ok ok;let(l,A):=all b f j p m B;calc(_,.list e 9 9 ())
  |_=>exact JG p
section
open Classical
def sameD(d e:D):Bool:=decide<|d=e
def BJ(d):sameD d d=6:=Zp 9
def nP :sameD d e=6↔d=e:=decide_eq_true_iff
def k7 :sameD d e=7↔d≠e:=decide_eq_false_iff_not
def xa:D->D->YD
 |.bl a,.bl b=>!(.bl<|a==b)
 |d,e=>if plN 12 d&&plN 12 e then !(.bl<|sameD d e)else 8
def wg:D->D->YD
 |.bl a,.bl b=>!(.bl<|a !=b)
 |d,e=>if plN 12 d&&plN 12 e then !(.bl<|not<|sameD d e)else 8
end
def BK (a:plN 12 d=6)(b:plN 12 e=6):xa d e=!(.bl<|sameD d e):=by
 unfold xa
 split
 .exact JG a
 ext
def Im (a:plN 12 d=6)(b:plN 12 e=6):wg d e=!(.bl<|not<|sameD d e):=by
 unfold wg
 split
 .exact JG a
 ext
def Sx(i j):xa (.int i) (.int j)=!(.bl<|decide<|i=j):=by
 rw[BK 9 9];by_cases h:i=j
 .simp_all[BJ]
 .rw[Zo h,k7.mpr ()]
def Sy(i j):wg (.int i) (.int j)=!(.bl<|not<|decide<|i=j):=by
 rw[Im 9 9];by_cases h:i=j
 .simp_all[BJ]
 .rw[Zo h,k7.mpr ()]
def xT(r:X.A.units+64<cLine):yy X (compareOp .Eq) xa:=by
 intro Y s Z H x y v u Q I j l h;let(F,d,e,z,g,id,i,f,q):=h;unfold xa at f
 split at f
 .rename_i a b;obtain rfl:=Zqi f;refine gE Y s Z H x y v u Q I j l (?_,?_)
  .rw[jo.mp id,jo.mp i];rfl
  .rw[jo.mp id,jo.mp i];refine q _ F H (.refl g) ?_
   induction a<;>induction b<;>rfl
 .split at f
  .rename_i c;rw[Ud]at c;obtain rfl:=Zqi f;let(t,m):=X5 I.hok 12 d x v c.1 (IsD.same g _ _ id) j;let(bs,n):=X5 I.hok 12 e y u c.2 (IsD.same g _ _ i) l;have(o,w):=Y6 12 d c.1;have(p,A):=Y6 12 e c.2;calc PySem.SeqAt.compareEq_reads m n o p () ?_;rw[Vd.mpr<|(Ef 12 d e c.1 c.2).trans nP.symm];exact(.bl _,H,I,9,q _ F H (.refl g)<|zS _ F)
  ext
def uL(r:X.A.units+64<cLine):yy X (compareOp .NotEq) wg:=by
 intro Y s Z H x y v u Q I j l h;let(F,d,e,z,g,id,i,f,q):=h;unfold wg at f
 split at f
 .rename_i a b;obtain rfl:=Zqi f;refine gD Y s Z H x y v u Q I j l (?_,?_)
  .rw[jo.mp id,jo.mp i];rfl
  .rw[jo.mp id,jo.mp i];refine q _ F H (.refl g) ?_
   induction a<;>induction b<;>rfl
 .split at f
  .rename_i c;rw[Ud]at c;obtain rfl:=Zqi f;let(t,m):=X5 I.hok 12 d x v c.1 (IsD.same g _ _ id) j;let(bs,n):=X5 I.hok 12 e y u c.2 (IsD.same g _ _ i) l;have(o,w):=Y6 12 d c.1;have(p,A):=Y6 12 e c.2;calc PySem.SeqAt.compareNe_reads m n o p () ?_;rw[Vd.mpr<|(Ef 12 d e c.1 c.2).trans nP.symm];exact(.bl _,H,I,9,q _ F H (.refl g)<|zS _ F)
  ext
end
def PE.or   (h:PE X e t)(c:PE X e f):PE X e λZ H Q=>t Z H Q\/f Z H Q:=λY s Z H Q I q=>q.elim (h Y s Z H Q I)<|c Y s Z H Q I
def PT.or   (h:PT X e t)(c:PT X e f):PT X e λZ H Q=>t Z H Q\/f Z H Q:=λY s Z H Q I q=>q.elim (h Y s Z H Q I)<|c Y s Z H Q I
def Qr:D->Option jI
 |.int i=>! .inl i
 |.str x=>! .inr x
 |_=>8
def WF{K:f'}    (h:Qr d=!k)(i:IsD K H d v):v=kV k:=by
 cases d with
 |int j=>cases h;calc jd.mp i
 |str x=>cases h;calc ji.mp i
 |_=>exact J6 h
def jS:List jI->YC->jI->YD
 |k::a,d::b,q=>if k=q then !d else jS a b q
 |_,_,_=>8
theorem Sz(k q:jI)(v)(r):qR (%[k|v]::r) q=if k=q then !v else qR r q:=by
 grind[qR,List.find?_cons]
theorem Eg    :jS (k::a) (d::b) q=if k=q then !d else jS a b q:=rfl
theorem X6{K:f'} (q):∀{a:List jI}{c:YC}{b:YB},a.length=b.length->IsDs K H c b->
 (∀d,jS a c q=!d->∃x,qR (a.zip b) q=!x/\IsD K H d x)/\(jS a c q=8->qR (a.zip b) q=8)
 |[],c,b,hl,h=>by
  refine(λd e=>?_,λ_=>9)
  induction c<;>calc J6 e
 |k::a,[],b,hl,h=>by
  simp_all[IsDs.nil_iff]
 |k::a,d::c,b,hl,h=>by
  let(x r,rfl,g,f):=h;let i:=X6 q (UL hl) f
  grind[List.zip_cons_cons,Sz,Eg]
def w6:List jI->YC->jI->D->YC
 |k::a,d::b,q,v=>(if k=q then v else d)::w6 a b q v
 |_,_,_,_=>[]
def w5:List jI->YB->jI->V->YB
 |k::a,d::b,q,v=>(if k=q then v else d)::w5 a b q v
 |_,_,_,_=>[]
def Io    :w6 (k::a) (d::b) q v=(if k=q then v else d)::w6 a b q v:=rfl
def S0    :w5 (k::a) (d::b) q v=(if k=q then v else d)::w5 a b q v:=rfl
theorem Ip{K:f'}    (g:IsD K H d v):∀{a:List jI}{c:YC}{b:YB},a.length=b.length->IsDs K H c b->IsDs K H (w6 a c q d) (w5 a b q v)/\(w5 a b q v).length=a.length/\
 (a.zip b).map (λf=>if f.1=q then%[f.1|v]else f)=a.zip (w5 a b q v)
 |[],c,b,hl,h=>by
  calc(?_,9,9);rfl
 |k::a,[],b,hl,h=>by
  simp_all[IsDs.nil_iff]
 |k::a,m::c,b,hl,h=>by
  let(x r,rfl,n,i):=h;let(j,l,o):=Ip g (UL hl) i;rw[Io,S0];refine(IsDs.mk ?_ j,by rw[Zu,l];rfl,?_)
  .by_cases e:k=q
   .rwa[Zd e,Zd e]
   .rwa[Ze e,Ze e]
  grind[List.zip_cons_cons,List.map_cons]
def yR(q:jI)(a:List jI):Bool:=a.any λk=>decide<|k=q
theorem Iq(q):∀{a:List jI}{b:YB},a.length=b.length->(a.zip b).any λc=>decide<|c.1=q=yR q a
 |[],b,_=>9
 |k::a,[],h=>by cases h
 |k::a,x::b,h=>by
  rw[Vz,List.any_cons,Iq q (UL h)];rfl
def KZ(a:List jI)(q:jI):List jI:=if yR q a=6 then a else a++[q]
def Wo(a:List jI)(b:YC)(q:jI)(v:D):YC:=if yR q a=6 then w6 a b q v else b++[v]
def Ir{K:f'}       (c:b.length=e.length)(h:IsDs K H i e)(g:IsD K H d v):
 ∃f,qV (b.zip e) q v=(KZ b q).zip f/\(KZ b q).length=f.length/\IsDs K H (Wo b i q d) f:=by
 unfold qV KZ Wo;rw[Iq q c];by_cases a:yR q b=6
 .rw[Zd a,Zd a,Zd a];let(j,l,m):=Ip g c h;exact(_,m,l.symm,j)
 .rw[Ze a,Ze a,Ze a];exact(e++[v],by rw[List.zip_append c];rfl,by simp[c],h.snoc g)
def Ai{K:f'}     (h:IsDs K H a b)(e:xh a k=!d):∃x,xh b k=!x/\IsD K H d x:=by
 unfold xh at e ⊢;rw[h.length]
 induction hj:ze a.length k with
 |none=>ext
 |some j=>
  rw[hj]at e;exact h.get e
def jR:D->D->YD
 |.lst ds,.int k=>xh ds k
 |.tup ds,.int k=>xh ds k
 |.scr b,.int k=>(xh b k).map .int
 |.str x,.int k=>if x.length<=sizeLine then(xh x.cps.toList k).map λc=>.str ⟨#[c]⟩ else 8
 |.dct a ds,k=>(Qr k).bind λq=>jS a ds q
 |.dcf a ds,k=>(Qr k).bind λq=>jS a ds q
 |_,_=>8
def Iu{K:f'}     (j:d=.dct c i\/d=.dcf c i)(h:IsD K H d v):∃a b,v=.ref a/\Rd H a (.dK<|c.zip b)/\c.length=b.length/\IsDs K H i b:=by
 rcases j with rfl|rfl
 .let(a b,e,f,g):=qc.mp h;exact(a,b,e,.inl f,g)
 .let(a o b,e,f,g):=qQ.mp h;exact(a,b,e,.inr (o,f),g)
def Eh   (e:jp H b)(h:Rd H a u):Rd b a u:=h.imp (λq=>e _ _ q)<|y9 λo q=>(o,e _ _ q)
def Ei    (e:Rd H a (.dK b)):xS H a (kV k) (qR b k):=.inl (b,k,e,9,9)
def Iv:zV X (v1 X.K λd e=>match d with
 |.dct _ _=>8
 |.dcf _ _=>8
 |d=>jR d e):=zV.weak P9 λx y H Q=>vU λF d e z=>ve λb id g a q=>by
 cases d with
 |lst o=>
  cases e with
  |int k=>
   let(p,l,rfl,f,m):=id;let(x,h,n):=Ai m a;calc .inl<|jX p l k x (9,jd.mp g,(f.same b).sq,h,q _ F H (.refl b) n)
  |_=>calc J6 a
 |tup o=>
  cases e with
  |int k=>
   let(p,l,rfl,f,m):=id;let(x,h,n):=Ai m a;calc .inr<|.inl<|jX p l k x (9,jd.mp g,(f.same b).sq,h,q _ F H (.refl b) n)
  |_=>calc J6 a
 |scr r=>
  cases e with
  |int k=>
   let(p,rfl,f):=id;let(-j,s,a):=Jj.mp a;subst a;calc .inl<|jX p _ k (.int j) (9,jd.mp g,jp.seq b f,?_,q _ F H (.refl b)<|zf _ F);unfold xh at s ⊢
   induction h:ze r.length k with
   |none=>ext
   |some i=>ext
  |_=>calc J6 a
 |str t=>
  cases e with
  |int k=>
   let a:(if t.length<=sizeLine then(xh t.cps.toList k).map λc=>D.str ⟨#[c]⟩ else 8)=!z:=a
   split at a
   .rename_i u
    induction hc:xh t.cps.toList k with
    |none=>rw[hc]at a;calc J6 a
    |some c=>
     rw[hc]at a;obtain rfl:=Zqi a;exact .inr<|.inr<|je t k c (ji.mp id,jd.mp g,u,hc,q _ F H (.refl b)<|ji.mpr 9)
   ext
  |_=>calc J6 a
 |_=>exact J6 a
def Qo(C:X.A.units+1<cLine)(t:QE X E a j)(u:QE X E b G)(I:XS b)(l:vo b):QE X E (.Subscript a b J) (jk jR j G):=
 PE.weak (PE.or (D5 C t u l)<|ZL Iv t u I) λZ H Q h=>by
  let(B F sd,r,n):=h;by_cases m:∃d f g,j sd=.ok d/\(d=.dct f g\/d=.dcf f g)
  .let(d f g,m,A):=m;calc .inl<|je B F sd (r,(ja n).monoE (λx e L v M H1 i N=>?_) λ_ _ q=>q);rw[m]at e;cases e;calc je B M sd (r.step i,(ja L).mono (λy O w P R o S=>?_) λ_ _ q=>q.ext i);let(-z,s,q):=jf O;let(-k,T,s):=Jg.mp (show(Qr y).bind (λq=>jS f g q)=!z by rcases A with rfl|rfl<;>calc s);let(p xs,rfl,U,Y,h3):=Iu A N;let(-x,e,ix):=(X6 k Y h3).1 z s;calc(p,x,9,?_,q x P R (i.trans o)<|IsD.same o.ff _ _ ix);rw[WF T S,<-e];exact Ei<|Eh o.hh<|Eh i.fh U
  .calc .inr<|ZY<|je B F sd (r,?_);unfold jk at n ⊢
   induction e:j sd with
   |ok d=>
    ext
   |no=>ext
   |ex c fs=>ext
def zO(b:Bool):D->D->YD
 |k,.dct c a=>(Qr k).map λq=>.bl<|if b then not<|(jS c a q).isSome else(jS c a q).isSome
 |k,.dcf c a=>(Qr k).map λq=>.bl<|if b then not<|(jS c a q).isSome else(jS c a q).isSome
 |d,.lst a=>if plN 12 d&&a.all (plN 12)then !(.bl<|if b then not<|a.any<|λe=>sameD e d else a.any λe=>sameD e d)else 8
 |d,.tup a=>if plN 12 d&&a.all (plN 12)then !(.bl<|if b then not<|a.any<|λe=>sameD e d else a.any λe=>sameD e d)else 8
 |_,_=>8
theorem Iw{K:f'} :∀n d e v,plN n d=6->plN n e=6->IsD K H d v->IsD K H e v->d=e
 |0,_,_,_,h,_,_,_=>by calc JG h
 |n+1,d,e,v,hd,he,f,b=>by
  let all:∀m c g,m.all (plN n)=6->c.all (plN n)=6->IsDs K H m g->IsDs K H c g->m=c:=by
   intro m
   induction m with
   |nil=>
    intro c g _ _ f b;rw[IsDs.nil_iff]at f;subst f;let:=b.length
    grind
   |cons d m B=>
    intro c g w y f b;rw[Uv,Ud]at w;rw[jr]at f;let(x r,rfl,C,E):=f
    induction c with
    |nil=>rw[IsDs.nil_iff]at b;cases b
    |cons e c=>
     rw[Uv,Ud]at y;rw[jr]at b;let(J L,t,F,G):=b;cases t;rw[Iw n d e x w.1 y.1 C F,B c r w.2 y.2 E G]
  let ne:∀{a:Addr}{g A:YB},yX K H a g->xY K H a A->False:=λ{a g A}p l=>by
   rcases l with l|⟨o,l⟩
   .rw[p]at l;cases l
   .rw[p]at l;cases l
  cases d with
  |int i=>
   rw[jd]at f;subst f;cases e with
   |int j=>rw[jd]at b;cases b;rfl
   |str j=>rw[ji]at b;cases b
   |non=>rw[jM]at b;cases b
   |tup c=>grind[jy]
   |lst c=>grind[jm]
   |_=>calc JG he
  |str i=>
   rw[ji]at f;subst f;cases e with
   |int j=>rw[jd]at b;cases b
   |str j=>rw[ji]at b;cases b;rfl
   |non=>rw[jM]at b;cases b
   |tup c=>simp_all[jy]
   |lst c=>simp_all[jm]
   |_=>calc JG he
  |non=>
   rw[jM]at f;subst f;cases e with
   |int j=>rw[jd]at b;cases b
   |str j=>rw[ji]at b;cases b
   |non=>rfl
   |tup c=>grind[jy]
   |lst c=>grind[jm]
   |_=>calc JG he
  |tup m=>
   rw[jy]at f;let(a,g,rfl,p,l):=f;cases e with
   |int j=>rw[jd]at b;cases b
   |str j=>simp_all[ji]
   |non=>simp_all[jM]
   |tup c=>
    rw[jy]at b;let(I,q,t,s,z):=b;cases t;let u:H a=! .tup g:=p;rw[show H a=! .tup q from s]at u;cases u;rw[all m c _ hd he l z]
   |lst c=>
    grind[jm]
   |_=>calc JG he
  |lst m=>
   rw[jm]at f;let(a,g,rfl,p,l):=f;cases e with
   |int j=>rw[jd]at b;cases b
   |str j=>cases b
   |non=>cases b
   |tup c=>
    grind[jy]
   |lst c=>
    rw[jm]at b;let(I,q,t,s,z):=b;cases t;let:g=q:=by
     rcases p with p|⟨_,p⟩<;>rcases s with s|⟨_,s⟩<;>rw[p]at s<;>cases s<;>rfl
    subst this;rw[all m c _ hd he l z]
   |_=>calc JG he
  |_=>exact JG hd
def bP(K:f')(H:Hp)(d:D)(u:Value):4:=∃v,jv v u/\IsD K H d v
def eqTo(K:f')(H:Hp)(d:D)(u:Value):Bool:=@decide (bP K H d u)<|Classical.propDecidable _
def S3{K:f'}    (b:plN 12 d=6)(c:plN 12 e=6)(h:IsD K H e v)(r:jv v u):eqTo K H d u=sameD e d:=by
 by_cases q:e=d
 .rw[q,BJ];exact@decide_eq_true _ (Classical.propDecidable _) (v,r,q ▸ h)
 .rw[k7.mpr q];calc@decide_eq_false _ (Classical.propDecidable _)<|y9 λg=>jB λf a=>q ?_;rw[f.inj r]at a;exact Iw 12 e d v c b h a
def any_eq  {K:f'}   (t:A.units+60<cLine)(ok:xr P w H s.heap)   (f:plN 12 d=6)(m:IsD K H d x)(n:jv x v):
 ∀{a:YC}{g:YB}{c:Ye},a.all (plN 12)=6->IsDs K H a g->j5 g c->c.map (eqTo K H d)=a.map (λe=>sameD e d)/\∀u∈c,SeqAt.EqAt A s u v (eqTo K H d u):=by
 intro a
 induction a with
 |nil=>
  intro g c _ h i;subst h;cases i;simp
 |cons e a o=>
  intro g c b h i;rw[Uv,Ud]at b;let(y z,rfl,j,p):=h;cases i with
  |cons l q=>
   let(B,C):=o b.2 p q;let(E,F):=X5 ok 12 e y _ b.1 j l;let(G,I):=X5 ok 12 d x v f m n;let(J,L):=Y6 12 e b.1;let(M,N):=Y6 12 d f;let r:=S3 f b.1 j l;calc((),λu hm=>?_);rcases U0.mp hm with hm|hm
   .subst hm;rw[r,<-(Vd.mpr ((Ef 12 e d b.1 f).trans nP.symm):PyData.eqv (yK e) (yK d)=sameD e d)]
    grind[SeqAt.eqAt_reads]
   ext
def any_map'{α:Type}{f:α->Bool}{l:List α}:l.any f=(l.map f).any id:=()
def Ix(J:X.A.units+64<cLine)(b:Bool):xF X (compareOp<|if b then .NotIn else .In) (v1 X.K λd e=>match e with
 |.dct _ _=>8
 |.dcf _ _=>8
 |e=>zO b d e):=by
 intro Y s Z H x y v u Q I w B i;let(F,d,e,z,c,id,n,f,q):=i;let j:=IsD.same c _ _ id;cases e with
 |lst g=>
  let f:(if plN 12 d&&g.all (plN 12)then !(D.bl<|if b then not<|g.any<|λe=>sameD e d else g.any λe=>sameD e d)else 8)=!z:=f
  split at f
  .rename_i h;rw[Ud]at h;obtain rfl:=Zqi f;rw[jm]at n;let(p,C,rfl,o,r):=n;obtain rfl:u=Value.ref p:=B;let(a,ri,l,E):=I.list (o.same c).sq;let(t,G):=any_eq (A:=X.A.in1) (by show X.A.units+1+60<cLine;lia) I.hok h.1 j w h.2 (IsDs.same c _ _ r) ri;let m:a.toArray.any (eqTo X.K H d)=g.any λe=>sameD e d:=by
    rw[show a.toArray.any (eqTo X.K H d)=a.any (eqTo X.K H d)by simp,any_map',t,<-any_map']
   cases b with
   |true=>
    calc SeqAt.notIn_listAt (eqTo X.K H d) l.isList () (.bl _,H,I,9,?_);rw[m];calc q _ F H (.refl c)<|zS _ F
   |false=>
    calc SeqAt.in_listAt (eqTo X.K H d) l.isList () (.bl _,H,I,9,?_);rw[m];exact q _ F H (.refl c)<|zS _ F
  ext
 |tup g=>
  let f:(if plN 12 d&&g.all (plN 12)then !(D.bl<|if b then not<|g.any<|λe=>sameD e d else g.any λe=>sameD e d)else 8)=!z:=f
  split at f
  .rename_i h;rw[Ud]at h;obtain rfl:=Zqi f;let(p,C,rfl,o,r):=n;obtain rfl:=B;let(a,ri,l,E):=I.tuple (o.same c).sq;let(t,G):=any_eq (A:=X.A.in1) (by show X.A.units+1+60<cLine;lia) I.hok h.1 j w h.2 (IsDs.same c _ _ r) ri;let m:a.toArray.any (eqTo X.K H d)=g.any λe=>sameD e d:=by
    rw[show a.toArray.any (eqTo X.K H d)=a.any (eqTo X.K H d)by simp,any_map',t,<-any_map']
   cases b with
   |true=>
    calc SeqAt.notIn_tupleAt (eqTo X.K H d) l () (.bl _,H,I,9,?_);rw[m];calc q _ F H (.refl c)<|zS _ F
   |false=>
    calc SeqAt.in_tupleAt (eqTo X.K H d) l () (.bl _,H,I,9,?_);rw[m];exact q _ F H (.refl c)<|zS _ F
  ext
 |_=>exact J6 f
def Iy{K:f'}    (h:tD K E (jk (zO f) m j) Z H Q):
 (λZ H Q=>tD K E m Z H λy C=>tD K E j Z C λx l=>∃a o,x=.ref a/\xS l a y o/\Q (.bl<|if f then not o.isSome else o.isSome) l) Z H Q\/u3 (v1 K λd e=>match e with
 |.dct _ _=>8
 |.dcf _ _=>8
 |e=>zO f d e) (tD K E m) (tD K E j) Z H Q:=by
 let(B F sd,r,n):=h;by_cases s:∃d b g,j sd=.ok d/\(d=.dct b g\/d=.dcf b g)
 .let(d b g,s,G):=s;calc .inl<|je B F sd (r,(ja n).mono (λx L v M C t N=>je B M sd (r.step t,(ja L).monoE (λy i O w P l I R=>?_) λ_ _ q=>q.ext t)) λ_ _ q=>q);rw[s]at i;cases i;let(-z,u,q):=jf O;let(-k,S,u):=Jj.mp (show(Qr x).map (λq=>D.bl<|if f then not<|(jS b g q).isSome else(jS b g q).isSome)=!z by rcases G with rfl|rfl<;>calc u);subst u;let(p J,rfl,T,U,X):=Iu G R;let(Y,g2):=X6 k U X;refine(p,qR (b.zip J) k,9,?_,?_)
  .rw[WF S N];exact Ei<|Eh I.fh T
  .let es:(qR (b.zip J) k).isSome=(jS b g k).isSome:=by
    induction hv:jS b g k with
    |none=>rw[g2 hv];rfl
    |some d=>let(-x,A,_):=Y d hv;rw[A];rfl
   rw[es];exact q _ P l (t.trans I)<|jo.mpr 9
 .calc .inr<|ZY<|je B F sd (r,?_);unfold jk at n ⊢
  induction A:m sd with
  |ok d=>
   rw[A]at n
   induction i:j sd with
   |ok e=>
    ext
   |no=>rwa[i]at n
   |ex c fs=>rwa[i]at n
  |no=>ext
  |ex c fs=>ext
def S4(g:X.A.units+64<cLine)(c:QE X E a i)(e:QE X E b j)(f:behindInMarks .NotIn b=7:=by rfl):QE X E (.Compare a [.NotIn] [b] l) (jk (zO 6) i j):=
 PE.weak (PE.or (Gf (GI () c e) f)<|Gp (Ix g 6) c e f) λZ H Q h=>Iy h
def Iz(g:X.A.units+64<cLine)(c:QE X E a i)(e:QE X E b j)(f:behindInMarks .NotIn b=7:=by rfl):QT X E (.Compare a [.NotIn] [b] l) (J8<|jk (zO 6) i j):=
 PT.weak (PT.or (Ds (GI () c e) f)<|Be (Ix g 6) c e f) λZ H Q h=>Iy<|W8 h
section
variable    {a b o i e f tg:Expr}{fa fb fo fi fv:FE}{fr:FA}
theorem Q2{K:f'}   (h:IsDs K H [d] c):∃v,c=[v]/\IsD K H d v:=by
 simp_all[jr,IsDs.nil_iff]
def IA{K:f'}{H:Hp}{d e:D}{c:YB}(h:IsDs K H [d,e] c):∃v w,c=[v,w]/\IsD K H d v/\IsD K H e w:=by
 grind[jr,Q2]
def jQ:YC->YD
 |[.lst ds]=>! .int ds.length
 |[.tup ds]=>! .int ds.length
 |[.dct c _]=>! .int c.length
 |[.scr g]=>! .int g.length
 |[.str x]=>if x.length<=sizeLine then ! .int x.length else 8
 |_=>8
def t9(g:YC)(z:D):4:=(∃c,g=[.lst c]/\z=.int c.length)\/(∃c,g=[.tup c]/\z=.int c.length)\/(∃h c,g=[.dct h c]/\z=.int h.length)\/(∃j,g=[.scr j]/\z=.int j.length)\/∃x,x.length<=sizeLine/\g=[.str x]/\z=.int x.length
def S5  (c:jQ g=!z):t9 g z:=by
 cases g with
 |nil=>calc J6 c
 |cons d g=>
  cases g with
  |nil=>
   cases d with
   |lst g=>calc .inl (_,9,(Zqi c).symm)
   |tup g=>calc .inr<|.inl (_,9,(Zqi c).symm)
   |dct h g=>calc .inr<|.inr<|.inl (_,_,9,(Zqi c).symm)
   |scr j=>calc .inr<|.inr<|.inr<|.inl (_,9,(Zqi c).symm)
   |str x=>calc let q:=Sn c;.inr (.inr<|.inr<|.inr (_,q.1,9,q.2.symm))
   |_=>calc J6 c
  |cons e g=>cases d<;>exact J6 c
def Q3:qf X (.builtin "len") (wN X.K jQ):=qf.weak (qf.or PF<|qf.or Rj PH) λs H Q n=>by
 let(F t z,c,id,p,q):=n;rcases S5 p with ⟨m,rfl,rfl⟩|⟨m,rfl,rfl⟩|⟨u,m,rfl,rfl⟩|⟨w,rfl,rfl⟩|⟨x,r,rfl,rfl⟩
 .let(-v,rfl,h):=Q2 id;let(a l,rfl,g,j):=h;rw[<-j.length]at q;exact .inl (a,l,9,.inl (g.same c).sq,q _ F H (.refl c)<|zf _ F)
 .let(v,rfl,h):=Q2 id;let(a l,rfl,g,j):=h;rw[<-j.length]at q;exact .inl (a,l,9,.inr (g.same c).sq,q _ F H (.refl c)<|zf _ F)
 .let(-v,rfl,h):=Q2 id;let(a l,rfl,g,j,y):=h;calc .inr<|.inl (a,_,9,c _ _ g,?_);rw[List.length_zip,<-j,Nat.min_self];exact q _ F H (.refl c)<|zf _ F
 .let(v,rfl,h):=Q2 id;let(-a,rfl,g):=h;calc .inl (a,_,9,.inl<|jp.seq c g,?_);rw[Zql];exact q _ F H (.refl c)<|zf _ F
 .let(-v,rfl,h):=Q2 id;subst h;exact .inr<|.inr (_,9,r,q _ F H (.refl c)<|zf _ F)
def Aj:YC->YD
 |[.int i,.int j]=>!(.int<|if j>i then j else i)
 |_=>8
def BL:YC->YD
 |[.int i,.int j]=>!(.int<|if j<i then j else i)
 |_=>8
def IB(c:YC):4:=∃i j,c=[.int i,.int j]
def S6  (g:Aj c=!z):IB c:=by
 cases c with
 |nil=>calc J6 g
 |cons d c=>
  cases c with
  |nil=>cases d<;>calc J6 g
  |cons e c=>
   cases d with
   |int i=>
    cases e with
    |int j=>
     induction c with
     |nil=>calc qA _ _ 9
     |cons _ _=>calc J6 g
    |_=>calc J6 g
   |_=>exact J6 g
def S7  (g:BL c=!z):IB c:=by
 cases c with
 |nil=>calc J6 g
 |cons d c=>
  cases c with
  |nil=>cases d<;>calc J6 g
  |cons e c=>
   cases d with
   |int i=>
    cases e with
    |int j=>
     induction c with
     |nil=>calc(_,_,9)
     |cons _ _=>calc J6 g
    |_=>calc J6 g
   |_=>exact J6 g
def IC(g:X.calm=6):qf X (.builtin "max") (wN X.K Aj):=qf.weak (Pm g) λp H Q h=>by
 let(F r z,l,id,c,q):=h;let(i j,rfl):=S6 c;obtain rfl:=Zqi c;let(v w,rfl,m,n):=IA id;exact(_,_,by rw[jd.mp m,jd.mp n],q _ F H (.refl l)<|zf _ F)
def S8(g:X.calm=6):qf X (.builtin "min") (wN X.K BL):=qf.weak (Pn g) λp H Q h=>by
 let(F r z,l,id,c,q):=h;let(i j,rfl):=S7 c;obtain rfl:=Zqi c;let(v w,rfl,m,n):=IA id;exact(_,_,by rw[jd.mp m,jd.mp n],q _ F H (.refl l)<|zf _ F)
def Y7:D->Option Yf
 |.lst c=>Qx Ad c
 |_=>8
def Ej{K:f'}    (h:Y7 d=!g)(i:IsD K H d v):∃a,v=.ref a/\xY K H a (g.map V.int):=by
 cases d with
 |lst l=>
  let(a m,rfl,j,c):=i;rw[Sv h]at c;rw[qT c]at j
  ext
 |_=>exact J6 h
def Ek(c):Y7 (.lst<|c.map D.int)=!c:=Sw c
def Ak:YC->YD
 |[d]=>(Y7 d).bind λc=>if c=[]then 8 else !(.int<|xu c)
 |_=>8
def Am:YC->YD
 |[d]=>(Y7 d).bind λc=>if c=[]then 8 else !(.int<|yh c)
 |_=>8
def S9(j:X.calm=6):qf X (.builtin "max") (wN X.K Ak):=qf.weak (Ru j) λs H Q l=>by
 let(F t z,g,id,c,q):=l;unfold Ak at c
 split at c
 .let(-m,n,c):=Jg.mp c
  split at c
  .exact J6 c
  .rename_i p;obtain rfl:=Zqi c;let(-v,rfl,h):=Q2 id;let(-a,rfl,r):=Ej n h;exact(a,m,9,(r.same g).sq,p,q _ F H (.refl g)<|zf _ F)
 ext
def SA(j:X.calm=6):qf X (.builtin "min") (wN X.K Am):=qf.weak (Rv j) λs H Q l=>by
 let(F t z,g,id,c,q):=l;unfold Am at c
 split at c
 .let(-m,n,c):=Jg.mp c
  split at c
  .exact J6 c
  .rename_i p;obtain rfl:=Zqi c;let(-v,rfl,h):=Q2 id;let(-a,rfl,r):=Ej n h;exact(a,m,9,(r.same g).sq,p,q _ F H (.refl g)<|zf _ F)
 ext
def oq:D->Option String
 |.non=>!"NoneType"
 |.bl _=>!"bool"
 |.int _=>!"int"
 |.str _=>!"str"
 |.lst _=>!"list"
 |.tup _=>!"tuple"
 |.dct _ _=>!"dict"
 |_=>8
def nT(t n:String):Bool:=t==n||t=="bool"&&n=="int"
def SC(t n:String):Bool:=["NoneType","bool","int","str","list","tuple","dict"].contains t&&["bool","int","str","list","tuple","dict"].contains n
def uN:YC->YD
 |[d,.ty n]=>(oq d).bind λt=>if SC t n then !(.bl<|nT t n)else 8
 |_=>8
def QR:YC->YD
 |[.lst ds]=>! .lst ds
 |[.tup ds]=>! .lst ds
 |[.scr c]=>!(.lst<|c.map .int)
 |_=>8
def bW(g:YC)(z:D):4:=(∃c,g=[.lst c]/\z=.lst c)\/(∃c,g=[.tup c]/\z=.lst c)\/∃h,g=[.scr h]/\z=.lst (h.map .int)
def SE  (g:QR c=!z):bW c z:=by
 cases c with
 |nil=>calc J6 g
 |cons d c=>
  cases c with
  |nil=>
   cases d with
   |lst c=>calc .inl (_,9,(Zqi g).symm)
   |tup c=>calc .inr<|.inl (_,9,(Zqi g).symm)
   |scr h=>calc .inr<|.inr (_,9,(Zqi g).symm)
   |_=>calc J6 g
  |cons e c=>cases d<;>exact J6 g
def X7:qf X (.type "list") (va X.K QR):=qf.weak PJ λu H Q s=>by
 let(F w z,j,id,t,q):=s;let g:∀{m:YC}{c:YB},IsDs X.K F m c->yJ X.K F H Q (.lst m)->∀l,H l=8->Q (.ref l) (upd H l<|.lst c):=λ{m c}h q l p=>
  q l F _ (.keep j p _) p (Qe j p) (c,JK,h)
 rcases SE t with ⟨m,rfl,rfl⟩|⟨m,rfl,rfl⟩|⟨x,rfl,rfl⟩
 .let(-v,rfl,h):=Q2 id;let(a,c,rfl,n,r):=h;exact(a,c,9,.inl (n.same j).sq,g r q)
 .let(v,rfl,h):=Q2 id;let(a c,rfl,n,r):=h;exact(a,c,9,.inr (n.same j).sq,g r q)
 .let(v,rfl,h):=Q2 id;let(a,rfl,n):=h;exact(a,_,9,.inl<|jp.seq j n,g (qZ _) q)
def Wp:YC->YD
 |[.lst ds]=>! .tup ds
 |[.tup ds]=>! .tup ds
 |_=>8
def tx(g:YC)(z:D):4:=(∃c,g=[.lst c]/\z=.tup c)\/∃c,g=[.tup c]/\z=.tup c
def SF  (g:Wp c=!z):tx c z:=by
 cases c with
 |nil=>calc J6 g
 |cons d c=>
  cases c with
  |nil=>
   cases d with
   |lst c=>calc .inl (_,9,(Zqi g).symm)
   |tup c=>calc .inr (_,9,(Zqi g).symm)
   |_=>calc J6 g
  |cons e c=>cases d<;>exact J6 g
def BM:qf X (.type "tuple") (wN X.K Wp):=qf.weak PK λw H Q p=>by
 let(F x z,g,id,r,q):=p;rcases SF r with ⟨s,rfl,rfl⟩|⟨s,rfl,rfl⟩
 .let(v,rfl,h):=Q2 id;let(a c,rfl,j,m):=h;calc(a,c,9,.inl ((j.same g).sq,λl t=>?_));let n:=Ext.alloc g t<|.tup c;exact q _ _ _ n<|jy.mpr (l,c,9,.of JK,IsDs.same n.ff _ _ m)
 .let(v,rfl,h):=Q2 id;let u:=h;let(a c,rfl,j,m):=h;exact(a,c,9,.inr ((j.same g).sq,q _ F H (.refl g) u))
def zB(r:Jz):D:=.dct (r.map λp=>.inl p.1)<|r.map λp=>.int p.2
def Y8(r:Jz):Jz:=r.foldl (λa p=>xm a p.1 p.2) []
def SG(r):Bt r=yj (Y8 r):=HX r []
def SH (h:jE r):Y8 r=r:=by
 grind[Y8,HY]
def IE(r):yj r=(r.map λp=>(Uj p.1:jI)).zip (r.map λp=>V.int p.2):=by
 grind[yj,List.map_cons]
def SI(K)(F)(r:Jz):IsDs K F (r.map λp=>D.int p.2) (r.map λp=>V.int p.2):=by
 let:=qZ (K:=K) (H:=F)<|r.map (·.2)
 rwa[Zw,Zw]at this
def Y9:YC->YD
 |[d]=>(KJ d).bind λr=>if r.length<=100 then !(zB<|Y8 r)else 8
 |_=>8
def IF(l:X.calm=6):qf X (.type "dict") (va X.K Y9):=qf.weak (R1 l) λm H Q n=>by
 let(F u z,g,id,c,q):=n;unfold Y9 at c
 split at c
 .let(-r,s,c):=Jg.mp c
  split at c
  .rename_i t;obtain rfl:=Zqi c;let(-v,rfl,h):=Q2 id;rw[Ij s,nK]at h;let(a w,e,_):=(show ∃a m,v=.ref a/\_ by unfold rD at h;rwa[zz]at h);subst e;calc(a,r,9,Is.same g _ _ h,t,λp j=>q p F _ (.keep g j _) j (Qe g j) ((Y8 r).map λp=>V.int p.2,?_,(),SI _ _ _));rw[JK,SG,IE]
  .exact J6 c
 ext
def BN:FE:=λ_=>.ok<|.dct [] []
def El:QN X E (.Dict [] [] g) BN:=PE.weak (λY s Z H Q I h=>
 wpAny_Dict_empty (.ref s⁻¹,_,I.laid (λ_ _ q=>Zq _ q) (Zf _)<|PX s.heap I.big,9,h _<|I.hok.fresh<|Zf _)) λZ H Q=>qj λB F sd=>jB λr n=>λp c=>n p F _ (.keep r.ext.fh c _) c (Qe r.ext.fh c) ([],JK,9,.nil)
def BO(fo c g:FE):FE:=λsd=>(fo sd).bind λd=>match d with
 |.dct h j=>(c sd).bind λk=>(g sd).bind λx=>.ofO<|(Qr k).map λq=>(jS h j q).getD x
 |_=>.no
def SJ(J:X.A.units+1<cLine)(L:QE X E o fo)(M:QE X E e fa)(N:QE X E f fb)(O:M2 X o "get" h e f j):QE X E (.Call (.Attribute o "get" h) [e,f] [] j) (BO fo fa fb):=PE.weak (Re J L M N O) λZ H Q P=>by
 let(B F sd,r,n):=P;calc je B F sd (r,(ja n).mono (λd t v R H1 c S=>?_) λ_ _ q=>q);cases d with
 |dct A T=>
  let(p U,rfl,Y,h2,h3):=S;let C:=c.fh _ _ Y;calc(p,9,.inl (_,.inl C),B,R,sd,r.step c,(ja t).mono (λk n2 w F2 H2 g i2=>je B F2 sd ((r.step c).step g,(ja n2).mono (λx n3 u G I l i3=>?_) λ_ _ q=>q.ext<|c.trans g)) λ_ _ q=>q.ext c);let(-z,m,q):=jf n3;let(s,hk,m):=Jj.mp m;subst m;let(g1,g2):=X6 s h2 h3;refine(qR (A.zip U) s,?_,?_)
  .rw[WF hk i2];exact xS.k<|l.hh _ _<|g.hh _ _ C
  .induction hv:jS A T s with
   |none=>
    rw[hv]at q;rw[g2 hv];calc q _ G I ((c.trans g).trans l) i3
   |some d=>
    rw[hv]at q;let(-y,hy,iy):=g1 d hv;rw[hy];calc q _ G I ((c.trans g).trans l)<|IsD.same (g.ff.trans l.ff) _ _ iy
 |_=>exact t.elim
def WG(i:5)(g fv:FE):FS:=λsd=>(fv sd).bind λv=>match sd[i]? with
 |some (some<|.own false<|.dct c ds)=>(g sd).bind λk=>match Qr k with
  |some q=>if c.length<sizeLine then .ok (.next<|sd.set i<|!(.own 7<|.dct (KZ c q)<|Wo c ds q v))else .no
  |none=>.no
 |_=>.no
def Em (y:X.A.units+1<cLine)(z:PE X o (yL j))(A:QE X E i fi)(C:QE X E e fv)(G:swapsWith e (! .Subscript o i c) s.line X.env=pure 7:=by rfl):
 QS X E m (.Assign [.Subscript o i c] e s) (WG j fi fv):=PS.weak (GJ y z A C G) λT Z H I=>by
 let(B F sd,r,n):=I;refine je B F sd (r,(ja n).mono (λd t v J H1 g L=>?_) λ_ _ q=>q.ext r.ext)
 split at t
 .rename_i ks ds u;let(-l,x,h2,h3,(xs,M,N,O),_):=(r.step g).own u;refine(.ref l,x,B,J,sd,r.step g,(ja t).mono (λk h w P H2 p Q=>?_) λ_ _ q=>q.ext (r.step g).ext)
  split at h
  .rename_i q R
   split at h
   .let(S,U,Y,y3):=Ir N (IsDs.same p.ff _ _ O) (IsD.same p.ff _ _ L);exact(l,_,9,by rw[WF R Q];calc wK.k (p.hh _ _ M) (),h Z P _ (g.ff.trans p.ff)<|((r.step g).step p).chg u x (S,by rw[JK,U],Y,y3))
   .exact h.elim
  .exact h.elim
 .exact t.elim
def kE:D->Option YC
 |.lst c=>!c
 |.scr g=>! g.map .int
 |_=>8
def k8:D->Option YC
 |.tup c=>!c
 |_=>8
def iL(f:FE):FA:=λsd=>(f sd).bind λd=>.ofO<|kE d
def iT(f:FE):FA:=λsd=>(f sd).bind λd=>.ofO<|k8 d
def BP{K:f'}    {S:Hp->4}(h:IsDs K n u j)(v:∀F H,jp n F->jp F H->S H)(g:∀i H x,S H->j[i]?=!x->J.go i H)(w:∀i H,S H->j.length<=i->J.stop i H)
 (z:∀i H x p,S H->J.yld i H x p->p=H/\j[i]?=!x):wC K n J u:=λi q c r s=>by
 let l:=v q c r s;calc(λt=>?_,λt=>w i c l<|by rwa[h.length]);let(-x,A,_):=h.get (Zqg t);calc(g i c x l A,λy B C=>?_);let(!rfl,m):=z i c y B l C;let(-d,E,id):=h.getV m;exact(d,q,E,.refl s,IsD.same r _ _ id)
def SK(h:QE X E e fa):QI X E tg e (iL fa):=PI.weak (OZ h) λZ H R C=>by
 let(B F sd,r,n):=C;calc je B F sd (r,(ja n).mono (λd G v y z l A=>?_) λ_ _ q=>q);let(-M,p,q):=jf G;cases d with
 |lst N=>
  obtain rfl:=Zqi p;let(a m,rfl,g,I):=A;calc(a,9,(m,(g.same l.fh).sq),q _ y z l<|BP I (λF H s t=>((g.same s).same t).sq) (λi H x c u=>(m,x,c,u)) (λi H c w=>(m,c,w)) λi H x J c j=>(j.1,j.2 m c))
 |scr L=>
  obtain rfl:=Zqi p;let(-a,rfl,g):=A;calc(a,9,(_,jp.seq l.fh g),q _ y z l<|BP (qZ L) (λF H s t=>jp.seq t<|jp.seq s g) (λi H x c u=>(_,x,c,u)) (λi H c w=>(_,c,w)) λi H x J c j=>(j.1,j.2 _ c))
 |_=>exact J6 p
def SL(h:QE X E e fa):QI X E tg e (iT fa):=PI.weak (Pa h) λZ H R s=>by
 let(B F sd,r,n):=s;calc je B F sd (r,(ja n).mono (λd t v u w j y=>?_) λ_ _ q=>q);let(-J,l,q):=jf t;cases d with
 |tup L=>
  obtain rfl:=Zqi l;let(a g,rfl,m,z):=y;calc(a,9,(g,(m.same j.fh).sq),q _ u w j<|BP z (λF H A C=>((m.same A).same C).sq) (λi H x c G=>(g,x,c,G)) (λi H c I=>(g,c,I)) λi H x M c p=>(p.1,p.2 g c))
 |_=>exact J6 l
def t5   (h:PI X tg e t)(c:PI X tg e g):PI X tg e λZ H R=>t Z H R\/g Z H R:=λY s Z H R I q=>q.elim (h Y s Z H R I)<|c Y s Z H R I
def X8:D->Option YC
 |.lst c=>!c
 |.scr g=>! g.map .int
 |.tup c=>!c
 |_=>8
def iS(f:FE):FA:=λsd=>(f sd).bind λd=>.ofO<|X8 d
def JV(h:QE X E e fa):QI X E tg e (iS fa):=PI.weak (t5 (SK h)<|SL h) λZ H R l=>by
 let(B F sd,r,n):=l;by_cases g:∃j,fa sd=.ok (.tup j)
 .let(-j,g):=g;calc .inr<|je B F sd (r,?_);unfold iS at n;unfold iT
  rwa[g]at n ⊢
 .calc .inl<|je B F sd (r,?_);unfold iS at n;unfold iL
  induction hx:fa sd with
  |ok d=>
   rw[hx]at n;cases d with
   |tup j=>ext
   |_=>calc n
  |no=>rwa[hx]at n
  |ex c fs=>rwa[hx]at n
def JZ(lo:3)(n:5):YC:=(List.range n).map λk:5=>.int<|lo+k
def X9(j:3):Bool:=Nat.ble j.toNat 1000000000&&Nat.ble (-j).toNat 1000000000
def BQ (h:X9 j=6):-2^62<=j/\j<2^62:=by
 unfold X9 at h;rw[Ud,Nat.ble_eq,Nat.ble_eq]at h;lia
def IG (c:-1000000000<=j)(g:j<=1000000000):X9 j=6:=by
 unfold X9;rw[Ud,Nat.ble_eq,Nat.ble_eq];lia
def vC(fr:FA):FA:=λsd=>(fr sd).bind λc=>match c with
 |[.int j]=>if X9 j then .ok (JZ 0 j.toNat)else .no
 |_=>.no
def II{K:f'} (lo)(n):wC K m (tE lo n) (JZ lo n):=λi g p q h=>by
 let j:(JZ lo n).length=n:=by unfold JZ;simp
 rw[j];calc(λc=>(c,λx r l=>?_),λc=>c);let(rfl,rfl):=l;refine(.int<|lo+i,g,?_,.refl h,jd.mpr 9)
 simp_all[JZ]
def Xf (l:Gl X "range")(m:X.mg "range"=8)(s:QA X E [a] fr)(t:starEach [a] X.env=[%[7|eval a X.env]]:=by rfl):QI X E tg (.Call (.Name "range" p) [a] [] u) (vC fr):=PI.weak (Gj l m s t) λZ H R w=>by
 let(B F sd,r,n):=w;refine je B F sd (r,(ja n).mono (λC c G x y z A=>?_) λ_ _ q=>q)
 split at c
 .split at c
  .rename_i j g;let(-v,rfl,h):=Q2 A;rw[jd.mp h];exact(j,9,(BQ g).1,(BQ g).2,c _ x y z<|II 0 _)
  .exact c.elim
 .exact c.elim
end
section
variable    {a b o i e f tg:Expr}{fa fb fo fi fv:FE}
def PG.weak  (h:PG X e t)(w:∀v Z H Q,c v Z H Q->t v Z H Q):PG X e c:=λY s Z H v u Q I r q=>h Y s Z H v u Q I r<|w _ _ _ _ q
def En:Yh->kr
 |[]=>fE
 |i::c=>Gg (We i) (En c)
theorem IJ:∀{g:Yh}{c:YB}{Z:St}{H:Hp}{Q:St->Hp->4},c.length=g.length->Q (BF g c Z) H->En g c Z H Q
 |[],c,Z,H,Q,hl,q=>((),q)
 |i::g,[],Z,H,Q,hl,q=>by cases hl
 |i::g,x::c,Z,H,Q,hl,q=>(x,c,9,IJ (UL hl) q)
def Qf{i:5} (h:PG X e (We i)):QG X e (.one i):=h
def Kj(c) (h:PG X e (fA X.K c.length<|En c)):QG X e (.tup c):=PG.weak h λv Z H Q=>j7 λa j=>qW λe l g q=>(a,j,e,l,g,IJ g q)
def KL(tg:Tg)(c:FT)(f:FE)(sd:SD):YC->Res YC
 |[]=>.ok []
 |x::g=>(JS tg x sd).bind λs=>(c s).bind λb=>if b then(f s).bind λy=>(KL tg c f sd g).bind λh=>.ok<|y::h else KL tg c f sd g
def K7(cap:List (Option 5))(g:FA)(tg:Tg)(c:FT)(f:FE):FE:=λsd=>(g sd).bind λds=>if WE (qw cap sd) tg=6/\ds.length<sizeLine then
 (KL tg c f (qw cap sd) ds).bind λh=>.ok<|.lst h else .no
def Eo{K:f'} {fi:FA} {f:FE}    (L:u4 K E (K7 cap fi t S f) Z H Q):Bn cap (mw K E fi) (gT t K) (mu K E S) (tD K E f) Z H Q:=by
 let(B F sd,r,n):=L;refine je B F sd (r,(ja n).mono (λh M J T H1 z wk=>?_) λ_ _ q=>q)
 split at M
 .rename_i L;let(hn,hz):=L;refine(λi k N Z m=>k=h.length-i/\i<=h.length/\∃j p,Ext T H1 j m/\RS K B j m (qw cap sd) Z/\IsDs K j p N/\p.length<=i/\
   (KL t S f (qw cap sd)<|h.drop i).need (λA=>yJ K j m Q<|.lst<|p++A) (XW K E j m),(h.length,9,Uc _,T,[],.refl z.fh,(r.step z).cap cap,.nil,Zf _,?_),?_)
  .exact(ja M).mono (λA q=>(q).ext z) λ_ _ q=>q.ext z
  rintro i k N Z2 m ⟨rfl,hi,j,p,C,O,G,U,s⟩;let ly:=G.length;calc((),?_);let(!w1,w2):=wk i j m C.ff C.fh;by_cases l:i<h.length
  .let(go,yl):=w1 l;calc .inr (go,λx H3 y=>?_);let(d F3,hd,g,i3):=yl x H3 y;rw[Uz l]at s;let P:h[i]=d:=by grind[Zqg,Zqi]
   rw[P]at s;calc Ac (O.step g) i3 (ja s) λu Z' n4 hb I=>?_;have(X,Y):=Eb hn hb;refine je B F3 u (I,(ja n4).mono (λb n5 F4 H4 c=>?_) λ_ _ q=>q.ext g)
   induction b with
   |true=>
    calc je B F4 u (I.step c,(ja n5).mono (λy n6 v F5 H5 w i5=>(h.length-(i+1),(),9,l,F5,p++[y],((C.trans g).trans c).trans w,((I.step c).step w).forget X Y,(IsDs.same ((g.ff.trans c.ff).trans w.ff) _ _ G).snoc i5,by rw[Ua];calc VC U,(ja n6).mono (λA q=>?_) λ_ _ q=>q.ext<|(g.trans c).trans w)) λ_ _ q=>q.ext<|g.trans c);rw[Ug];calc(q).ext<|(g.trans c).trans w
   |false=>
    exact(h.length-(i+1),(),9,l,F4,p,(C.trans g).trans c,(I.step c).forget X Y,IsDs.same (g.ff.trans c.ff) _ _ G,Vs U,(n5).mono (λA q=>q.ext<|g.trans c) λ_ _ q=>q.ext<|g.trans c)
  .let he:i=h.length:=()
   subst he;calc .inl (w2<|Zf _,λD R=>?_);rw[Vh]at s;let q:yJ K j m Q (.lst<|p++[]):=s;rw[ZA]at q;exact q D j _ (.keep O.ext.fh R _) R (Qe O.ext.fh R) (N,JK,G)
 .exact M.elim
def Ep   {fi:FA} {f:FE}(N)(cap)(q:X.calm=6)(n:Ki g X.env N X.N cap=6)(r:QI X E tg j fi)
 (u:∀l C s H m,QG (JL X g N l C s H m) tg t)(v:∀l C s H m,QT (JL X g N l C s H m) E c w)(y:∀l C s H m,QE (JL X g N l C s H m) E p f)(z:∀x,foldedSetIterable j X.env x=pure x:=by intro _;rfl):
 QN X E (.ListComp p [(tg,j,[c],0)] g A) (K7 cap fi t w f):=PE.weak (λY s Z H Q I h=>HQ N cap q n r u v y z I h GP) λ_ _ _ h=>Eo h
def An:List jI->YC->Option Jz
 |.inl k::c,.int v::g=>(An c g).map λr=>%[k|v]::r
 |[],[]=>![]
 |_,_=>8
def SN(c:List jI)(g:YC)(r:Jz):4:=c=r.map (λp=>.inl p.1)/\g=r.map λp=>.int p.2
def SO   (h:An g c=!r):SN g c r:=by
 induction g generalizing c r with
 |nil=>
  induction c with
  |nil=>obtain rfl:=Zqi h;calc(9,9)
  |cons _ _=>calc J6 h
 |cons k g j=>
  induction k with
  |inr _=>calc J6 h
  |inl k=>
   cases c with
   |nil=>calc J6 h
   |cons d c=>
    cases d with
    |int v=>
     let(-n,l,m):=Jj.mp h;subst m;calc(Zt (Uj k::·) (j l).1,Zt (D.int v::·) (j l).2)
    |_=>exact J6 h
def SQ(r):An (r.map λp=>.inl p.1) (r.map λp=>.int p.2)=!r:=by
 induction r with
 |nil=>rfl
 |cons p r c=>exact Zt (Option.map λr=>%[p.1|p.2]::r) c
def vx  (s:jp F H)(j:∀p∈L,H p.1=8):Ext F H (xc F L) (xc H L):=by
 let c:∀{G:Hp}{b:Addr},H b≠8->xc G L b=G b:=λ{G b}l=>B6 λp q z=>l (by rw[<-z];calc j p q);let ne:∀{b:Addr}{o:HO},H b=!o->H b≠8:=λ{b o}e z=>by rw[e]at z;cases z
 calc(λb o e=>by rw[c (ne<|s _ _ e)];calc e,λb o e=>?_,λb o e=>by rw[c (ne e)];calc e,λa e n=>by rw[c n];calc e);rcases HS e with h|⟨r,h2⟩
 .unfold xc at e ⊢
  split at e
  .exact e
  .exact s _ _ e
 .rw[B6 r];exact s _ _ h2
def Er:D->YD
 |.dct c g=>(An c g).bind λr=>if r ≠[]/\r.length<1000 then !(.lst<|(Qd qs r).map qb)else 8
 |_=>8
def Es(fo:FE):FE:=λsd=>(fo sd).bind λd=>.ofO<|Er d
def SR (h:∀{A:TE},PE X o A->PE X e (vN (λs H Q=>∃c d r,s=[.ref c]/\H c=! Wi c d/\H d=!(.dK<|yj r)/\r ≠[]/\r.length<1000/\∀l L,(∀p∈L,H p.1=8)->(L.map (·.1)).Nodup->(∀G,Is (xc G L) (.list<|(Qd qs r).map pD) (.ref l))->Q (.ref l) (xc H L))
<|Bg (uG X.K "dict" (λx N H Q=>∃d t,x=.ref d/\N=[]/\H d=! .dK t/\∀p,H p=8->Q (.ref p) (upd H p<|Wi p d)) A) vK))(O:QE X E o fo):QE X E e (Es fo):=PE.weak (h O) λZ H Q P=>by
 let(B F sd,r,n):=P;calc je B F sd (r,(ja n).mono (λd R v m C u S=>?_) λ_ _ q=>q);let(-z,I,q):=jf R;cases d with
 |dct ks ds=>
  let(-w,T,y):=Jg.mp I
  split at y
  .rename_i J;obtain rfl:=Zqi y;let(U,Y):=SO T;let(d s,rfl,g1,g2,g3):=S;let ex:s=w.map λp=>V.int p.2:=by
    rw[Y]at g3;let:=qT (by rwa[Zw]);rw[this,Zw];rfl
   let hd:m d=!(.dK<|yj w):=by rw[g1,U,ex,<-IE]
   let g:=u.fh _ _ hd;calc(.inr<|.inr<|.inl (9,.inl (_,g)),d,_,9,9,g,λc j=>je c d w (9,JK,(Kx j<|Wi c d) _ _ g,J.1,J.2,λl L fr nd hl=>?_));let M:Ext m C m (upd C c<|Wi c d):=.keep u.fh j _;calc q _ _ _ (u.trans<|M.trans<|vx M.fh fr) ?_;let(l' ys,e',g4,g5):=yt.mp (hl m);exact jm.mpr (l',ys,e',.of g4,ky.mpr g5)
  .calc J6 y
 |_=>exact J6 I
end
section
variable   {K:f'}
def IK:FnOk P w K b a zj k f c e (yd K λ_=>.no):=(λ_ _ _ _=>j7 λ_ _=>jA λ_ _ n=>n.elim,λ_ _ _ _ _ _ _ _ _ _ _ _ _=>j7 λ_ _=>jA λ_ _ n=>n.elim)
end
section
variable    {a b o i e f tg:Expr}{fa fb fo fi fv:FE}
def xo(c:Bool):D->YD
 |.non=>!(.bl<|not c)
 |_=>! .bl c
def Ao:D->Bool
 |.non=>6
 |_=>7
def IL{K:f'}   (h:IsD K H d v):decide (v=.non)=Ao d:=by
 cases d with
 |non=>rw[jM.mp h];rfl
 |bl b=>rw[jo.mp h];rfl
 |int b=>rw[jd.mp h];rfl
 |str b=>rw[ji.mp h];rfl
 |ty b=>rw[zW.mp h];rfl
 |scr b=>let(a,rfl,_):=qO.mp h;rfl
 |tup b=>let(a _,rfl,_):=jy.mp h;rfl
 |lst b=>let(a _,rfl,_):=jm.mp h;rfl
 |dct b c=>let(a _,rfl,_):=qc.mp h;rfl
 |ins b c d=>let(a _ _ _,rfl,_):=qx.mp h;rfl
 |exc b=>let(a _,rfl,_):=xz.mp h;rfl
 |exr b c=>let(a _ _,rfl,_):=xy.mp h;rfl
 |ucl b=>let(a,rfl,_):=zM.mp h;rfl
 |adr b=>rw[jN.mp h];rfl
 |dcf b c=>let(a _ _,rfl,_):=qQ.mp h;rfl
 |pin b c=>rw[(qP.mp h).1];rfl
def IM{K:f'}   (h:tD K E (jU (xo 7) fa) Z H Q):kK (tD K E fa) Z H Q:=by
 let(B F sd,r,n):=h;calc je B F sd (r,(ja n).mono (λx g v j c l m=>?_) λ_ _ q=>q);show Q (V.bl<|decide<|v=V.non) c;rw[IL m];cases x<;>exact g _ j c l<|jo.mpr 9
def SS{K:f'}   (h:tD K E (jU (xo 6) fa) Z H Q):Gd (tD K E fa) Z H Q:=by
 let(B F sd,r,n):=h;calc je B F sd (r,(ja n).mono (λx g v j c l m=>?_) λ_ _ q=>q);show Q (V.bl<|not<|decide<|v=V.non) c;rw[IL m];cases x<;>exact g _ j c l<|jo.mpr 9
def gp (g:QE X E a fa):QE X E (.Compare a [.Is] [.Constant .none j c] l) (jU (xo 7) fa):=PE.weak (Gf<|Ge g) λ_ _ _ h=>IM h
def SU (g:QE X E a fa):QT X E (.Compare a [.Is] [.Constant .none j c] l) (J8<|jU (xo 7) fa):=PT.weak (Ds<|Ge g) λ_ _ _ h=>IM<|W8 h
def Et (g:QE X E a fa):QT X E (.Compare a [.IsNot] [.Constant .none j c] l) (J8<|jU (xo 6) fa):=PT.weak (Ds<|OR g) λ_ _ _ h=>SS<|W8 h
def Kk(i:5)(fb:FE):FE:=λsd=>match sd[i]? with
 |some (some<|.own _ d)=>(fb sd).bind λy=>.ofO<|jR d y
 |_=>.no
def Eu{i:5}(P:X.A.units+1<cLine)(L:PE X a (yL i))(M:QE X E b fb)(R:XS b)(u:vo b):QE X E (.Subscript a b S) (Kk i fb):=
 PE.weak (PE.or (D5 P L M u)<|ZL mi L M R) λZ H Q T=>by
  let(B F sd,r,n):=T;unfold Kk at n
  split at n
  .rename_i p d U;let(-l,v,h2,h3,A,_):=r.own U;cases d with
   |lst N=>
    let(-O,C,G):=A;calc .inr (.ref l,v,B,F,sd,r,(ja n).mono (λy j w m s g t=>?_) λ_ _ q=>q);let(-z,h,q):=jf j;cases y with
    |int k=>
     let(-x,I,J):=Ai G h;calc jX l O k x (9,jd.mp t,xx.of<|g.hh _ _ C,I,q _ m s g<|IsD.same g.ff _ _ J)
    |_=>calc J6 h
   |dct ks N=>
    let(-O,C,G,Y):=A;calc .inl (.ref l,v,B,F,sd,r,(ja n).mono (λy j w m s g t=>?_) λ_ _ q=>q);let(-z,h,q):=jf j;let(-k,hk,h):=Jg.mp h;let(-x,I,J):=(X6 k G Y).1 z h;calc(l,x,9,?_,q x m s g<|IsD.same g.ff _ _ J);rw[WF hk t,<-I];calc xS.k<|g.hh _ _ C
   |ins c fs N=>
    calc .inr (.ref l,v,B,F,sd,r,(ja n).mono (λy j w m s g t=>?_) λ_ _ q=>q);let(-z,h,q):=jf j;cases y<;>calc J6 h
   |_=>exact A.elim
  .exact n.elim
end
end L2.DL
namespace L2
section
variable     {wi:TI}
def IN      (a:X.N.Nodup)(c:X.N[z]?=!y)(f:yZ X.env.scope y)(g:X.fn y=6\/X.env.scope.names.lookup y=!.local):
 ZO X Y Z (λv A=>B.nx (Z.set z<|!v) A) (! assign (.Name y P) X.env) λ_ E=>SP X Y B .next E:=λC D m h r F G Q sz H I k=>by
 let(R w,x,i,J,L):=k h.heap (9,λ_ _=>9);let(j l n,M,q,s):=id F;let N:Inv X (Y++[%[C|j]]) Z w {h with heap:=h.heap}:=x.pins_of λp hp=>by
  rcases Jc.mp hp with hp|hp
  .exact x.pin p ()
  ext
 exact wpAny_assign_Name<|ZD N a c f i (λS t=>(m,je j l n ((t.pin %[C|j] ()).1,q,s),λT u=>(_,w,(t.pins_of λp hp=>t.pin p ()).turned (λb o O e=>(u.2 b O).trans e) J G (.inr sz) H I,L))) g
def IP   (i:swapsWith (.ListComp c [(j,b,[],0)] a l) (! .Name y u) f.line X.env=pure 6)(m:X.N.Nodup)(n:X.N[v]?=!y)(o:yZ X.env.scope y)(p:X.fn y=6\/X.env.scope.names.lookup y=!.local)(N)(cap)(w:X.calm=6)(q:Ki a X.env N X.N cap=6)(z:PI X j b wi)(A:∀r C s H t,PG (JL X a N r C s H t) j g)(G:∀r C s H t,PE (JL X a N r C s H t) c B)
 (E:∀x,foldedSetIterable b X.env x=pure x:=by intro _;rfl):PS X (.Assign [.Name y u] (.ListComp c [(j,b,[],0)] a l) f) (wn (XU cap wi g B)<|We v):=by
 intro Y s Z H J I h;rw[exec_Assign_Name_used _ _ _ _ i];refine Za<|wpAny_standAt<|Za<|Za<|Zc (GR N cap w q z A () E I h<|IN m n o p) (λ_ L F=>Zb<|Zb F) λ_ _ e=>e
def IQ   (m:swapsWith (.ListComp f [(n,b,[c],0)] a o) (! .Name y v) i.line X.env=pure 6)(p:X.N.Nodup)(q:X.N[w]?=!y)(r:yZ X.env.scope y)(t:X.fn y=6\/X.env.scope.names.lookup y=!.local)(N)(cap)(z:X.calm=6)(u:Ki a X.env N X.N cap=6)(A:PI X n b wi)(B:∀j C s H l,PG (JL X a N j C s H l) n g)(E:∀j C s H l,PT (JL X a N j C s H l) c F)(G:∀j C s H l,PE (JL X a N j C s H l) f J)
 (L:∀x,foldedSetIterable b X.env x=pure x:=by intro _;rfl):PS X (.Assign [.Name y v] (.ListComp f [(n,b,[c],0)] a o) i) (wn (Bn cap wi g F J)<|We w):=by
 intro Y s Z H O I h;rw[exec_Assign_Name_used _ _ _ _ m];refine Za<|wpAny_standAt<|Za<|Za<|Zc (HQ N cap z u A B E G L I h<|IN p q r t) (λ_ P M=>Zb<|Zb M) λ_ _ e=>e
end
end L2
namespace L2.DL
def Ew{K:f'}   (w:∀Z H Q,u4 K E b Z H Q->c Z H Q)   (h:kh K E m (jG i b) T Z H):wn c (We i) T Z H:=w _ _ _<|by
 let(B F sd,r,n):=h;exact je B F sd (r,(ja n).mono (λd e=>zy.new λv f g a j=>e _ f g a.ff<|(r.step a).setVal j) λ_ _ q=>q.ext r.ext)
def SW{K:f'}   (w:∀Z H Q,u4 K E b Z H Q->c Z H Q)   (h:kh K E m (qp i b) T Z H):wn c (We i) T Z H:=w _ _ _<|by
 let(B F sd,r,n):=h;calc je B F sd (r,(ja n).mono (λd e l f g a s t u=>e _ f g a.ff<|(r.step a).setOwn (Qe r.ext.hh s) t u λj p y v z=>?_) λ_ _ q=>q.ext r.ext);let(-A,C,_,_,x,_):=r.own v;let(o,G):=x.has
 ext
def IR(N)(cap)(g:X.N.Nodup)(i:X.N[w]?=!y)(j:yZ X.env.scope y)(z:X.calm=6)(l:Ki a X.env N X.N cap=6)(A:QI X E n b B)
 (F:∀o C s H p,QG (JL X a N o C s H p) n t)(G:∀o C s H p,QE (JL X a N o C s H p) E c f)(r:swapsWith (.ListComp c [(n,b,[],0)] a u) (! .Name y I) e.line X.env=pure 6:=by rfl)
 (v:X.fn y=6\/X.env.scope.names.lookup y=!.local:=by trivial)(J:∀x,foldedSetIterable b X.env x=pure x:=by intro _;rfl):
 QS X E m (.Assign [.Name y I] (.ListComp c [(n,b,[],0)] a u) e) (jG w<|Qw cap B t f):=PS.weak (IP r g i j v N cap z l A F G J) λT Z H h=>Ew (λ_ _ _ q=>Ec q) h
def SX(N)(cap)(l:X.N.Nodup)(n:X.N[z]?=!y)(o:yZ X.env.scope y)(A:X.calm=6)(p:Ki a X.env N X.N cap=6)(B:QI X E r b F)
 (G:∀e C s H g,QG (JL X a N e C s H g) r t)(I:∀e C s H g,QT (JL X a N e C s H g) E c J)(L:∀e C s H g,QE (JL X a N e C s H g) E i f)(u:swapsWith (.ListComp i [(r,b,[c],0)] a v) (! .Name y M) j.line X.env=pure 6:=by rfl)
 (w:X.fn y=6\/X.env.scope.names.lookup y=!.local:=by trivial)(O:∀x,foldedSetIterable b X.env x=pure x:=by intro _;rfl):
 QS X E m (.Assign [.Name y M] (.ListComp i [(r,b,[c],0)] a v) j) (jG z<|K7 cap F t J f):=PS.weak (IQ u l n o w N cap A p B G I L O) λT Z H h=>Ew (λ_ _ _ q=>Eo q) h
def IS:Option (Option SV)->Res D
 |some (~~~d)=>.ok d
 |_=>.no
@[simp]def zwU(d):IS (!~~~d)=.ok d:=rfl
@[simp]def sG(i)(sd):jb i sd=IS sd[i]?:=rfl
@[simp]def oQ(d)(sd):dC d sd=.ok d:=rfl
@[simp]def dv(g)(a b)(sd):jk g a b sd=(a sd).bind λx=>(b sd).bind λy=>.ofO<|g x y:=rfl
@[simp]def dr(g)(a)(sd):jU g a sd=(a sd).bind λx=>.ofO<|g x:=rfl
def d7:D->Res Bool
 |.bl b=>.ok b
 |_=>.no
@[simp]def tu(b):d7 (.bl b)=.ok b:=rfl
@[simp]def n0(a)(sd):J8 a sd=(a sd).bind d7:=by
 rfl
@[simp]def mU(f)(sd):Q8 f sd=(f sd).bind λb=>.ok<|not b:=rfl
@[simp]def n8(f g)(sd):KU f g sd=(f sd).bind λb=>if b then g sd else .ok 7:=rfl
@[simp]def sR(f g)(sd):zI f g sd=(f sd).bind λb=>if b then .ok 6 else g sd:=rfl
@[simp]def n7(a c)(sd):DZ a c sd=(J8 a sd).bind λb=>if b then c sd else .ok (.bl 7):=rfl
@[simp]def sQ(a c:FE)(sd:SD):vY a c sd=(J8 a sd).bind λb=>if b then .ok (.bl 6)else c sd:=rfl
@[simp]def sS(sd):jc sd=.ok []:=rfl
@[simp]def nu(a)(b)(sd):J1 a b sd=(a sd).bind λx=>(b sd).bind λc=>.ok<|x::c:=rfl
@[simp]def sT(a)(sd):qD a sd=(a sd).bind λb=>if b.length<=1000 then .ok (.lst b)else .no:=rfl
@[simp]def sH(a)(sd):qN a sd=(a sd).bind λb=>if b.length<=1000 then .ok (.tup b)else .no:=rfl
@[simp]def ny(a)(b)(sd):JB a b sd=(b sd).bind a:=rfl
@[simp]def sY(g)(a)(sd):jt g a sd=(a sd).bind λb=>.ofO<|g b:=rfl
@[simp]def nE (a:α):(Res.ok a).bare=.ok a:=rfl
@[simp]def sJ(a)(f)(sd):xW a f sd=(f<|qM a sd).bare.bind λd=>if Ky d then .ok d else .no:=rfl
@[simp]def kX(i):Ky (.int i)=6:=rfl
@[simp]def my(i):Ky (.bl i)=6:=rfl
@[simp]def fS(sd):qM [] sd=sd:=rfl
def frz1(i:5)(sd:SD):Option (Option SV)->SD
 |some (some<|.own _ d)=>sd.set i (~~~d)
 |_=>sd
@[simp]def fT(i)(sd)(p)(d):frz1 i sd (! ! .own p d)=sd.set i (~~~d):=rfl
@[simp]def zxG(i)(a)(sd):qM (i::a) sd=qM a (frz1 i sd sd[i]?):=by
 rfl
def yz(g:FS):Out->Res Out
 |.next sd=>g sd
 |o=>.ok o
@[simp]def zxH(g)(sd):yz g (.next sd)=g sd:=rfl
@[simp]def kT(g)(d):yz g (.ret d)=.ok (.ret d):=rfl
@[simp]def kU(g)(d):yz g (.brk d)=.ok (.brk d):=rfl
@[simp]def sM(a b)(sd):jq a b sd=(a sd).bind (yz b):=by
 rfl
@[simp]def mV(sd):JN sd=.ok (.next sd):=rfl
@[simp]def sX(sd):uH sd=.ok (.brk sd):=rfl
@[simp]def sL(i)(f)(sd):jG i f sd=(f sd).bind λd=>.ok<|.next<|sd.set i<|~~~d:=rfl
@[simp]def sP(i)(f)(sd):qp i f sd=(f sd).bind λd=>.ok<|.next<|sd.set i<|! .own 7 d:=rfl
@[simp]def sO(f)(sd):jJ f sd=(f sd).bind λd=>.ok<|.ret d:=rfl
def uI:Option (Option SV)->Res D
 |some (some<|.own _ d)=>.ok d
 |_=>.no
@[simp]def gz(p)(d):uI (! ! .own p d)=.ok d:=rfl
@[simp]def zw1(i)(sd):K4 i sd=(uI sd[i]?).bind λd=>.ok<|.ret d:=by
 unfold K4
 induction sd[i]? with
 |none=>rfl
 |some o=>
  induction o with
  |none=>rfl
  |some v=>induction v<;>rfl
@[simp]def nj(f:FE)(sd:SD):Xe f sd=(f sd).bind λ_=>.ok<|.next sd:=rfl
@[simp]def SY(c)(a e)(sd):qE c a e sd=(c sd).bind λb=>if b then a sd else e sd:=rfl
def vS:Option (Option SV)->Res YC
 |some (some<|.own false<|.lst a)=>.ok a
 |_=>.no
@[simp]def g0(a):vS (! !(.own 7<|.lst a))=.ok a:=rfl
@[simp]def zyH(i)(f)(sd):K5 i f sd=(vS sd[i]?).bind λa=>(f sd).bind λd=>if a.length<sizeLine then .ok (.next<|sd.set i<|!(.own 7<|.lst<|a++[d]))else .no:=by
 unfold K5
 induction sd[i]? with
 |none=>rfl
 |some o=>
  induction o with
  |none=>rfl
  |some v=>
   induction v with
   |val d=>rfl
   |own p d=>induction p<;>cases d<;>rfl
def IT:D->Res YC
 |.lst a=>.ok a
 |_=>.no
@[simp]def zxD(a):IT (.lst a)=.ok a:=rfl
@[simp]def zyC(i)(f)(sd):WA i f sd=(vS sd[i]?).bind λa=>(f sd).bind λd=>(IT d).bind λb=>if a.length+b.length<=sizeLine then .ok (.next<|sd.set i<|!(.own 7<|.lst<|a++b))else .no:=by
 unfold WA
 induction sd[i]? with
 |none=>rfl
 |some o=>
  induction o with
  |none=>rfl
  |some v=>
   induction v with
   |val d=>rfl
   |own p d=>
    cases p with
    |true=>cases d<;>rfl
    |false=>
     cases d with
     |lst a=>
      induction f sd with
      |ok x=>cases x<;>rfl
      |ex c fs=>rfl
      |no=>rfl
     |_=>rfl
def uJ:Option (Option SV)->Res (List jI×YC)
 |some (some<|.own false<|.dct a b)=>.ok %[a|b]
 |_=>.no
@[simp]def gA(a)(b):uJ (! !(.own 7<|.dct a b))=.ok %[a|b]:=rfl
@[simp]def nt(i)(fk a)(sd):WG i fk a sd=(a sd).bind λv=>(uJ sd[i]?).bind λo=>(fk sd).bind λk=>(Res.ofO<|Qr k).bind λq=>if o.1.length<sizeLine then .ok (.next<|sd.set i<|!(.own 7<|.dct (KZ o.1 q)<|Wo o.1 o.2 q v))else .no:=by
 unfold WG
 induction a sd with
 |ok v=>
  induction sd[i]? with
  |none=>rfl
  |some o=>
   induction o with
   |none=>rfl
   |some w=>
    induction w with
    |val d=>rfl
    |own p d=>
     induction p with
     |true=>cases d<;>rfl
     |false=>
      cases d with
      |dct b e=>
       induction fk sd with
       |ok k=>show(match Qr k with|some q=>_|none=>_)=(Res.ofO<|Qr k).bind _;induction Qr k<;>rfl
       |ex c fs=>rfl
       |no=>rfl
      |_=>rfl
 |ex c fs=>rfl
 |no=>rfl
def y8:Out->Res D
 |.ret d=>.ok d
 |.next _=>.ok .non
 |_=>.no
@[simp]def gB(d):y8 (.ret d)=.ok d:=rfl
@[simp]def zxF(sd:SD):y8 (.next sd)=.ok .non:=rfl
def kZ(n ar)(g)(a)(h:a.length=ar):jT n ar g a=(g<|JX n a).bind y8:=by
 unfold jT;rw[Zd h];rfl
def zF:Out->Res D
 |.ret d=>.ok d
 |_=>.no
@[simp]def gC(d):zF (.ret d)=.ok d:=rfl
def IU(n ar)(g)(a)(h:a.length=ar):qz n ar g a=(g<|JX n a).bind zF:=by
 unfold qz;rw[Zd h];rfl
@[simp]def rC(n)(g)(a):jT n 1 g [a]=(g<|~~~a::List.replicate (n-1) 8).bind y8:=kZ n 1 g [a] 9
@[simp]def rB(n)(g)(a b):jT n 2 g [a,b]=(g<|~~~a::~~~b::List.replicate (n-2) 8).bind y8:=rfl
@[simp]def rA(n)(g)(a b c):jT n 03 g [a,b,c]=(g<|~~~a::~~~b::~~~c::List.replicate (n-03) 8).bind y8:=rfl
@[simp]def r8(n)(g)(a):qz n 1 g [a]=(g<|~~~a::List.replicate (n-1) 8).bind zF:=IU n 1 g [a] 9
@[simp]def r0(n)(g)(a b):qz n 2 g [a,b]=(g<|~~~a::~~~b::List.replicate (n-2) 8).bind zF:=rfl
@[simp]def rz(n)(g)(a b c):qz n 03 g [a,b,c]=(g<|~~~a::~~~b::~~~c::List.replicate (n-03) 8).bind zF:=rfl
@[simp]def fQ(i j):jC (.int i) (.int j)=!(.int<|i+j):=rfl
@[simp]def fB(i j):yC (.int i) (.int j)=!(.int<|i-j):=rfl
@[simp]def fF(i):zH (.int i)=!(.int<|-i):=rfl
@[simp]def m9(i j):kj (.int i) (.int j)=!(.bl<|decide<|i<j):=rfl
@[simp]def mF(i j:3):yT (.int i) (.int j)=!(.bl<|decide<|i<=j):=rfl
@[simp]def mM(i j):uO (.int i) (.int j)=!(.bl<|decide<|j<i):=rfl
@[simp]def mO(i j):fO (.int i) (.int j)=!(.bl<|decide<|j<=i):=rfl
@[simp]def fP(i j):xa (.int i) (.int j)=!(.bl<|decide<|i=j):=Sx i j
@[simp]def fG(i j):wg (.int i) (.int j)=!(.bl<|not<|decide<|i=j):=Sy i j
def BR (h:Wl i j=6):yD (.int i) (.int j)=!(.int<|i*j):=by
 show(if Wl i j then _ else _)=_;rw[Zd h]
def SZ (a:-18446744073709551616<j)(b:j<18446744073709551616):Wl i j=6:=by
 unfold Wl;rw[U7,U7,UP,UP];lia
def IV (a:-18446744073709551616<i)(b:i<18446744073709551616):Wl i j=6:=by
 unfold Wl;rw[U7,U7,UP,UP];lia
def Ta (a:i.natAbs<yE)(b:j.natAbs<yE):Wl i j=6:=by
 simp_all[Wl]
@[simp]def Tb (h:0<j):xU (.int i) (.int j)=!(.int<|i%j):=by
 show(if Uw 0 j.toNat then _ else _)=_;rw[Zd (by rw[UP];lia)]
@[simp]def IW (h:0<j)(a:j<1073741824):Ah (.int i) (.int j)=!(.int<|i/j):=by
 show(if Uw 0 j.toNat&&Uw j.toNat 1073741824 then _ else _)=_;rw[Zd (by rw[Ud,UP,UP];lia)]
@[simp]def Tc(a):jQ [.lst a]=! .int a.length:=rfl
@[simp]def fI(a):jQ [.scr a]=! .int a.length:=rfl
@[simp]def zwq(i j):Aj [.int i,.int j]=!(.int<|if j>i then j else i):=rfl
@[simp]def zxY(i j):BL [.int i,.int j]=!(.int<|if j<i then j else i):=rfl
@[simp]def oX(a):QR [.lst a]=! .lst a:=rfl
@[simp]def zvR(a):Wp [.lst a]=! .tup a:=rfl
@[simp]def mJ(a)(k):jR (.lst a) (.int k)=xh a k:=rfl
@[simp]def mG(a)(k):jR (.scr a) (.int k)=(xh a k).map .int:=rfl
@[simp]def mK(a)(b)(k):jR (.dct a b) (.int k)=jS a b (.inl k):=rfl
@[simp]def mL(a)(b)(c)(k):zO a (.int k) (.dct b c)=!(.bl<|if a then not<|(jS b c<|.inl k).isSome else(jS b c<|.inl k).isSome):=rfl
@[simp]def zx3(k):Qr (.int k)=! .inl k:=rfl
@[simp]def IX (h:r.length<=100)(o:jE r):Y9 [j6 r]=! zB r:=by
 show(KJ<|j6 r).bind _=_;rw[Ii];show(if r.length<=100 then !(zB<|Y8 r)else 8)=_;rw[Zd h,SH o]
def Td (h:a ≠[]):Ak [.lst (a.map .int)]=!(.int<|xu a):=by
 simp_all[Ak,Ek]
def Te (h:a ≠[]):Am [.lst (a.map .int)]=!(.int<|yh a):=by
 simp_all[Am,Ek]
theorem Ex:∀{r:Jz},jE r->∀t:3,jS (r.map λp=>.inl p.1) (r.map λp=>.int p.2) (.inl t)=(JC r t).map .int
 |[],_,t=>9
 |p::r,o,t=>by
  let a:jE r:=by simp_all[jE]
  let n:p.1∉r.map (·.1):=by simp_all[jE]
  rw[Zl,Zl,Eg,B7];by_cases h:p.1=t
  .induction q:JC r t with
   |none=>ext
   |some w=>exact Zn (Ja.mpr (%[t|w],Qq q,h.symm)) n
  .rw[Ze λz=>h<|by injection z,Ex a t]
   grind
def BS:D->Res (List jI×YC)
 |.dct a b=>.ok %[a|b]
 |_=>.no
@[simp]def zwB(a)(b):BS (.dct a b)=.ok %[a|b]:=rfl
@[simp]def nc(a fk fx)(sd):BO a fk fx sd=(a sd).bind λd=>(BS d).bind λo=>(fk sd).bind λk=>(fx sd).bind λx=>.ofO<|(Qr k).map λq=>(jS o.1 o.2 q).getD x:=by
 unfold BO
 induction a sd with
 |ok d=>cases d<;>rfl
 |ex c fs=>rfl
 |no=>rfl
def Th(r:Jz)(t:3):yR (.inl t) (r.map λp=>.inl p.1)=r.any λp=>decide<|p.1=t:=by
 unfold yR;rw[List.any_map]
 congr 1
 funext p
 exact HW
def Ti(r)(t w):D.dct (KZ (r.map λp=>.inl p.1)<|.inl t) (Wo (r.map λp=>.inl p.1) (r.map λp=>.int p.2) (.inl t)<|.int w)=zB (xm r t w):=by
 unfold KZ Wo zB xm;rw[Th];let a:∀r:Jz,w6 (r.map λp=>.inl p.1) (r.map λp=>.int p.2) (.inl t) (.int w)=(r.map λp=>if p.1=t then%[p.1|w]else p).map λp=>D.int p.2:=by
  intro r
  induction r with
  |nil=>rfl
  |cons p r b=>
   rw[Zl,Zl,Zl,Zl,Io,b];by_cases h:p.1=t
   .rw[Zd (by rw[h]),Zd h]
   .rw[Ze λz=>h<|by injection z,Ze h]
 let c:∀r:Jz,(r.map λp=>if p.1=t then%[p.1|w]else p).map (λp=>(Uj p.1:jI))=r.map λp=>.inl p.1:=by
  intro r;rw[Zw]
  congr 1
  funext p
  show(Uj (if p.1=t then%[p.1|w]else p).1:jI)=_;by_cases h:p.1=t
  .rw[Zd h]
  .rw[Ze h]
 by_cases q:r.any λp=>decide<|p.1=t=6
 .rw[Zd q,Zd q,Zd q,a,c]
 .rw[Ze q,Ze q,Ze q,Ub,Ub];rfl
@[simp]def ztt(a)(sd):Es a sd=(a sd).bind λd=>.ofO<|Er d:=rfl
def Tj (h:r ≠[])(a:r.length<1000):Er (zB r)=!(.lst<|(Qd qs r).map qb):=by
 show(An _ _).bind _=_
 simp_all[SQ]
@[simp]def dw(f)(sd):iS f sd=(f sd).bind λd=>.ofO<|X8 d:=rfl
@[simp]def zxU(a):X8 (.lst a)=!a:=rfl
@[simp]def zw6(a):X8 (.tup a)=!a:=rfl
def Uk:YC->Res YC
 |[.int j]=>if X9 j then .ok (JZ 0 j.toNat)else .no
 |_=>.no
@[simp]def sU(a)(sd):vC a sd=(a sd).bind Uk:=by
 rfl
def WH (a:-1000000000<=j)(b:j<=1000000000):Uk [.int j]=.ok (JZ 0 j.toNat):=Zd<|IG a b
def BT{lo:3}{n i:5} (h:(JZ lo n)[i]?=!x):x=.int (lo+i)/\i<n:=by
 unfold JZ at h;rw[Zv]at h;by_cases a:i<n
 .rw[List.getElem?_range a]at h;exact((Zqi h).symm,a)
 .rw[Vi (by rw[ZB];lia)]at h;exact J6 h
def WI(lo)(n):(JZ lo n).length=n:=by unfold JZ;simp
def xP(a:Tg)(b:FS)(c:YC)(sd:SD):Res Out:=zt (λx sd=>(JS a x sd).bind b) c sd
@[simp]def sW(a)(c)(b)(sd):qq a c b sd=(a sd).bind λe=>xP c b e sd:=rfl
@[simp]def fU(a:Tg)(b:FS)(sd:SD):xP a b [] sd=.ok (.next sd):=rfl
@[simp]def IY(i)(d)(sd):JS (.one i) d sd=.ok (sd.set i<|~~~d):=rfl
@[simp]def zyB(i j)(a b)(sd):JS (.tup [i,j]) (.tup [a,b]) sd=.ok ((sd.set i<|~~~a).set j<|~~~b):=rfl
@[simp]def zvO(i j)(p)(sd):JS (.tup [i,j]) (qb p) sd=.ok ((sd.set i<|~~~.int p.1).set j<|~~~.int p.2):=rfl
def Kp {b:FS}  (P:5->SD->4)(n:P 0 sd)(f:∀i(x:D)sd,ds[i]?=!x->P i sd->∃a,(JS tg x sd).bind b=.ok (.next a)/\P (i+1) a):∃a,xP tg b ds sd=.ok (.next a)/\P ds.length a:=by
 let g:∀k i sd,ds.length-i=k->i<=ds.length->P i sd->∃a,xP tg b (ds.drop i) sd=.ok (.next a)/\P ds.length a:=by
  intro k
  induction k with
  |zero=>
   intro i sd e h p;let:i=ds.length:=()
   ext
  |succ k j=>
   intro i sd e h p;let c:i<ds.length:=()
   rw[Uz c];let(-a,o,l):=f i ds[i] sd () p;have(m,q,r):=j (i+1) a () c l
   simp_all[xP,zt]
 grind
def BU {b:FS}  (R:Res Out->4)(P:5->SD->4)(o:P 0 sd)(q:∀sd,P c.length sd->R (.ok<|.next sd))
 (l:∀i x sd,c[i]?=!x->P i sd->(∃a,((JS g x sd).bind b=.ok (.next a)\/(JS g x sd).bind b=.ok (.cont a))/\P (i+1) a)\/(∃a,(JS g x sd).bind b=.ok (.brk a)/\R (.ok<|.next a))\/∃d,(JS g x sd).bind b=.ok (.ret d)/\R (.ok<|.ret d)):R (xP g b c sd):=by
 let m:∀k i sd,c.length-i=k->i<=c.length->P i sd->R (xP g b (c.drop i) sd):=by
  intro k
  induction k with
  |zero=>
   intro i sd e n p;let:i=c.length:=()
   ext
  |succ k j=>
   intro i sd e n p;let f:i<c.length:=()
   rw[Uz f];unfold xP zt;rcases l i c[i] sd () p with ⟨a,h1|h1,h⟩|⟨a,h1,h⟩|⟨d,h1,h⟩
   .rw[h1];exact j (i+1) a () f h
   .rw[h1];exact j (i+1) a () f h
   .rwa[h1]
   .rwa[h1]
 grind
def IZ{α β γ:Type}{f:α->Res β}{k:γ->α}{g:γ->β}{a:List γ}(h:∀x∈a,f (k x)=.ok (g x)):yQ f (a.map k)=.ok (a.map g):=by
 induction a with
 |nil=>rfl
 |cons x a b=>
  simp_all[yQ]
def qg(a:Tg)(f:FE)(c:SD)(b:YC):Res YC:=yQ (λx=>(JS a x c).bind f) b
@[simp]def nv(cap)(b)(a)(f)(sd):Qw cap b a f sd=(b sd).bind λc=>if WE (qw cap sd) a=6/\c.length<sizeLine then(qg a f (qw cap sd) c).bind λe=>.ok<|.lst e else .no:=rfl
def bL:Option (Option SV)->Option SV
 |some (~~~d)=>~~~d
 |_=>8
@[simp]def bK(d):bL (!~~~d)= ~~~d:=rfl
@[simp]def bM(sd):qw [] sd=[]:=rfl
@[simp]def tq(cap)(sd):qw (8::cap) sd=8::qw cap sd:=rfl
@[simp]def tm(j)(cap)(sd):qw (some j::cap) sd=bL sd[j]?::qw cap sd:=rfl
@[simp]def zvU(sd)(i):WE sd (.one i)=WC sd i:=rfl
@[simp]def zvP(sd)(a):WE sd (.tup a)=a.all (WC sd):=rfl
@[simp]def gR(sd:SD):WC (8::sd) 0=6:=rfl
@[simp]def gQ(o)(sd:SD)(i):WC (o::sd) (i+1)=WC sd i:=rfl
def Kz{α:Type} {f:FE} {k:α->D}{g:α->D}{a:List α}(h:∀x∈a,(JS b (k x) c).bind f=.ok (g x)):qg b f c (a.map k)=.ok (a.map g):=IZ h
def YH {f:FE} {lo:3}{n:5} (h:∀i,i<n->(JS a (.int<|lo+i) c).bind f=.ok (g i)):qg a f c (JZ lo n)=.ok ((List.range n).map g):=IZ λi b=>h i<|Je.mp b
@[simp]def zyP(cap)(b)(a)(c)(f)(sd):K7 cap b a c f sd=(b sd).bind λe=>if WE (qw cap sd) a=6/\e.length<sizeLine then(KL a c f (qw cap sd) e).bind λg=>.ok<|.lst g else .no:=rfl
def Ap{α:Type}    {k:α->D}{s:α->SD}{p:α->Bool}{g:α->D}{a:List α}(e:∀x∈a,JS b (k x) sd=.ok (s x))(h:∀x∈a,c (s x)=.ok (p x))(i:∀x∈a,p x=6->f (s x)=.ok (g x)):
 KL b c f sd (a.map k)=.ok ((a.filter p).map g):=by
 induction a with
 |nil=>rfl
 |cons x a j=>
  grind[KL,List.map_cons,List.filter_cons,jh]
def JQ (h:n<=1000):n<sizeLine:=GN h
noncomputable def QB{α:Type}(a:List α)(lo b c:Option 3):List α:=(sliceRange (sliceBounds lo b c a.length).1 (sliceBounds lo b c a.length).2.1 (sliceBounds lo b c a.length).2.2).filterMap (a[·]?)
def La(a)(lo b c):slicePick a.toArray lo b c=(QB a lo b c).toArray:=by
 simp_all[slicePick,QB]
def Lb (f:α->β)(a)(lo b c):QB (a.map f) lo b c=(QB a lo b c).map f:=by
 grind[QB,Zql,List.filterMap_cons,List.getElem?_map]
section
variable  {E:XK}  {a b o i e f tg:Expr}{fa fb fo fi fv fe:FE}   {lo hi st:Option Expr}
abbrev FO:=SD->Res (Option 3)
def oy(K:f')(E:XK)(f:FO):TO:=λZ H Q=>∃B F sd,RS K B F H sd Z/\(f sd).need (λo=>∀g c,Ext F H g c->Q o c) (XW K E F H)
def Xg:FO:=λ_=>.ok 8
def Xh(f:FE):FO:=λsd=>(f sd).bind λd=>match d with
 |.int i=>.ok !i
 |_=>.no
abbrev QO(X:Cx)(E:XK)(e:Option Expr)(f:FO):4:=PO X e<|oy X.K E f
def PO.weak{e:Option Expr} (h:PO X e t)(w:∀Z H Q,c Z H Q->t Z H Q):PO X e c:=λY s Z H Q I q=>h Y s Z H Q I<|w _ _ _ q
def Aq:QO X E 8 Xg:=PO.weak (λY s Z H Q I h=>Zb (8,H,I,.none,h)) λZ H Q=>qj λB F sd=>jB λr n=>n F H<|.refl r.ext.fh
def BV(h:QE X E e fe):QO X E (!e) (Xh fe):=PO.weak (P7 h) λZ H Q g=>by
 let(B F sd,r,n):=g;calc je B F sd (r,(ja n).mono (λd c v j l m p=>?_) λ_ _ q=>q);cases d with
 |int i=>calc(i,jd.mp p,c j l m)
 |_=>exact c.elim
def rG(K:f'):V->Option 3->Option 3->Option 3->Hp->VK->4:=λx lo hi st H Q=>∃a c,x=.ref a/\xx K H a c/\st≠!0/\∀p,H p=8->Q (.ref p) (upd H p<|.lst<|QB c lo hi st)
def nW(r:V->Option 3->Option 3->Option 3->Hp->VK->4)(g:TE)(h j m:TO):TE:=λZ H Q=>g Z H λx n=>h Z n λl p=>j Z p λu q=>m Z q λc s=>r x l u c s Q
def Tk  (F:PE X e G)(J:PO X lo L)(n:PO X hi M)(N:PO X st O):PE X (.Subscript e (.Slice lo hi st p2) P) (nW (rG X.K) G L M O):=by
 intro Y s Z H Q I h;calc Subscript_<|jO (F Y s Z H _ I h) λv R=>j7 λx S=>jA λT U q1=>wpAny_Slice<|jO (J Y R Z S _ T q1) λy s2=>j7 λl H2=>jA λI2 pl q2=>jO (n Y s2 Z H2 _ I2 q2) λz s3=>j7 λu H3=>jA λI3 pu q3=>jO (N Y s3 Z H3 _ I3 q3) λA g=>j7 λc H4=>jA λI4 ps q4=>?_;let(a p,rfl,m,h0,q):=q4;obtain rfl:=U;let t:Inv X Y Z H4 {g with heap:=g.heap.push {cls:=.type "slice",data:=.fields #[y,z,A]}}:=I4.kept λb ob q=>Zq _ q;let(-its,r,w,hz):=t.list m;let B:=r.length
 suffices j:YE X (getItem (.ref a)<|.ref g⁻¹) (EP X Y Z Q) X.xe {g with heap:=g.heap.push {cls:=.type "slice",data:=.fields #[y,z,A]}}by
  induction st with
  |none=>calc tail_any w.isList.typeIs slot_list_getitem.lookup j<|by rfl
  |some c=>exact tail_any w.isList.typeIs slot_list_getitem.lookup j<|by rfl
 calc wpAny_getItem_list_slice w.isList (Heap.IsSliceOf.new ..) pl pu ps h0 ?_ ();rw[La];exact(.ref _,_,t.laid (o:=.lst<|QB p l u c) (λb ob q=>Zq _ q) (Zf _) (Zh (by
  let h:=slicePick_size_le (p.map λ_=>Value.none).toArray l u c
  simp_all[La,Lb]) hz,_,0,by
   unfold QB;rw[r.length];generalize sliceRange _ _ _=C
   induction C with
   |nil=>calc .nil
   |cons i C ih=>
    rw[UT,UT]
    induction m:p[i]? with
    |none=>rwa[r.none_of m]
    |some x=>
     let(-u,n,ru):=r.get m;rw[n];calc .cons ru ih,Zr _ 9),9,q _<|t.hok.fresh<|Zf _)
def m8:D->Option 3->Option 3->Option 3->YD
 |.lst c,lo,hi,st=>if st=!0 then 8 else !(.lst<|QB c lo hi st)
 |.scr g,lo,hi,st=>if st=!0 then 8 else !(.lst<|(QB g lo hi st).map .int)
 |_,_,_,_=>8
def kn(fe:FE)(g j fs:FO):FE:=λsd=>(fe sd).bind λd=>(g sd).bind λl=>(j sd).bind λh=>(fs sd).bind λc=>.ofO<|m8 d l h c
def Ey (P:QE X E e fe)(R:QO X E lo S)(A:QO X E hi T)(U:QO X E st fs):QN X E (.Subscript e (.Slice lo hi st p2) Y) (kn fe S T fs):=PE.weak (Tk P R A U) λZ H Q zh=>by
 let(B F sd,r,n):=zh;calc je B F sd (r,(ja n).mono (λd n1 v F1 H1 m J=>je B F1 sd (r.step m,(ja n1).mono (λl n2 F2 H2 t=>je B F2 sd ((r.step m).step t,(ja n2).mono (λh n3 F3 H3 C=>je B F3 sd (((r.step m).step t).step C,(ja n3).mono (λc n4 L H4 w=>?_) λ_ _ q=>q.ext<|(m.trans t).trans C)) λ_ _ q=>q.ext<|m.trans t)) λ_ _ q=>q.ext m)) λ_ _ q=>q);let(z,j,q):=jf n4;let g:=(t.trans C).trans w;let y:=m.trans g;cases d with
 |lst M=>
  let j:(if c=!0 then 8 else !(D.lst<|QB M l h c))=!z:=j
  split at j
  .exact J6 j
  .rename_i G;obtain rfl:=Zqi j;let(a N,rfl,I,h2):=J;calc(a,N,9,((I.same g.ff).same g.fh).sq,G,λp s=>q p L _ (y.trans<|.keep w.fh s _) (Qe y.hh s) (Qe w.fh s) (_,JK,by
    let r:=IsDs.same g.ff _ _ h2;unfold QB;rw[r.length];generalize sliceRange _ _ _=O
    induction O with
    |nil=>rfl
    |cons i O ih=>
     rw[UT,UT]
     induction hx:M[i]? with
     |none=>
      let hn:N[i]?=8:=Jw.mpr<|by rw[r.length];ext
      rwa[hn]
     |some x=>
      let(-u,A,ru):=r.get hx;rw[A];calc .mk ru ih))
 |scr ns=>
  let j:(if c=!0 then 8 else !(D.lst<|(QB ns l h c).map .int))=!z:=j
  split at j
  .exact J6 j
  .rename_i G;obtain rfl:=Zqi j;let(a,rfl,I):=J;calc(a,_,9,jp.seq g.fh<|jp.seq g.ff I,G,λp s=>q p L _ (y.trans<|.keep w.fh s _) (Qe y.hh s) (Qe w.fh s) (_,JK,?_));rw[Lb];calc qZ _
 |_=>exact J6 j
@[simp]def du(fe)(g j fs)(sd):kn fe g j fs sd=(fe sd).bind λd=>(g sd).bind λl=>(j sd).bind λh=>(fs sd).bind λc=>.ofO<|m8 d l h c:=rfl
@[simp]def zwr(sd):Xg sd=.ok 8:=rfl
def Ez:D->Res (Option 3)
 |.int i=>.ok !i
 |_=>.no
@[simp]def zvT(i):Ez (.int i)=.ok !i:=rfl
@[simp]def mS(f)(sd):Xh f sd=(f sd).bind Ez:=by
 rfl
@[simp]def fD(c)(lo hi):m8 (.lst c) lo hi 8=!(.lst<|QB c lo hi 8):=rfl
def Tl {lo hi:Option 3} (h:c≠0):m8 (.scr g) lo hi (!c)=!(.lst<|(QB g lo hi<|!c).map .int):=Ze λz=>h<|Zqi z
def BX(i:5)(g fv:FE):FS:=λsd=>(fv sd).bind λv=>match sd[i]? with
 |some (some<|.own false<|.lst c)=>(g sd).bind λk=>match k with
  |.int k=>match ze c.length k with
   |some j=>.ok (.next<|sd.set i<|!(.own 7<|.lst<|c.set j v))
   |none=>.no
  |_=>.no
 |_=>.no
def Tn (C:PE X o (yL j))(hi:QE X E i fi)(G:QE X E e fv)(I:∀v,assign (.Subscript o i c) X.env v=(do
 let s<-holding [v] (eval o X.env)
 let u<-holding [v,s] (eval i X.env)
 standAt c
 holding [v,s,u] (setItem s u v)
 release [v,s,u] []):=by intro _;rfl)(J:swapsWithSole [.Subscript o i c] e x.line X.env=pure 7:=by rfl)(L:swappedStores [.Subscript o i c] e X.env=pure 8:=by rfl)
 (t:(assignEach [.Subscript o i c] X.env).map (·.2)=[assign (.Subscript o i c) X.env]:=by rfl):QS X E m (.Assign [.Subscript o i c] e x) (BX j fi fv):=PS.weak (Gi G (Gh C hi G4 I) J L t) λT Z H M=>by
 let(B F sd,r,n):=M;refine je B F sd (r,(ja n).mono (λd y v N U g O=>?_) λ_ _ q=>q.ext r.ext)
 split at y
 .rename_i Y z;let(-l,t,h2,h3,(P,Q,A),_):=(r.step g).own z;refine(.ref l,t,B,N,sd,r.step g,(ja y).mono (λk h w R H2 p S=>?_) λ_ _ q=>q.ext (r.step g).ext)
  split at h
  .rename_i k
   split at h
   .rename_i q hk;let hl:=A.length;exact jX l P k q (9,jd.mp S,p.hh _ _ Q,(),h Z R _ (g.ff.trans p.ff)<|((r.step g).step p).chg z t (_,JK,(IsDs.same p.ff _ _ A).set q<|IsD.same p.ff _ _ O))
   .exact h.elim
  .exact h.elim
 .exact y.elim
@[simp]def mY(i)(fk fv)(sd):BX i fk fv sd=(fv sd).bind λv=>(vS sd[i]?).bind λg=>(fk sd).bind λk=>(Ez k).bind λk=>(Res.ofO<|ze g.length<|k.getD 0).bind λj=>.ok<|.next<|sd.set i<|!(.own 7<|.lst<|g.set j v):=by
 unfold BX
 induction fv sd with
 |ok v=>
  induction sd[i]? with
  |none=>rfl
  |some o=>
   induction o with
   |none=>rfl
   |some w=>
    induction w with
    |val d=>rfl
    |own p d=>
     cases p with
     |true=>cases d<;>rfl
     |false=>
      cases d with
      |lst g=>
       induction fk sd with
       |ok k=>
        cases k with
        |int k=>show(match ze g.length k with|some j=>_|none=>_)=(Res.ofO<|ze g.length k).bind _;induction ze g.length k<;>rfl
        |_=>rfl
       |ex c fs=>rfl
       |no=>rfl
      |_=>rfl
 |ex c fs=>rfl
 |no=>rfl
@[simp]def bt(i)(fb)(sd):Kk i fb sd=(uI sd[i]?).bind λd=>(fb sd).bind λy=>.ofO<|jR d y:=by
 unfold Kk
 induction sd[i]? with
 |none=>rfl
 |some o=>
  induction o with
  |none=>rfl
  |some v=>induction v<;>rfl
def Ar:YC->YD
 |[.lst g]=>(Qx KJ g).bind λc=>if(∀r∈c,r ≠[])/\c.length<1000 then !(.lst<|(Qd jH c).map j6)else 8
 |_=>8
def Tp(w:X.A.units+64<cLine):qf X (.builtin "sorted") (va X.K Ar):=qf.weak (Sa w) λI H Q y=>by
 let(F J z,g,id,c,q):=y;unfold Ar at c
 split at c
 .let(-p,A,c):=Jg.mp c
  split at c
  .rename_i r;obtain rfl:=Zqi c;let(-v,rfl,h):=Q2 id;rw[Ed A,jm]at h;let(a,B,rfl,C,s):=h;calc je a B p (9,C.same g,vz.mp<|IsDs.same g _ _ s,r.1,r.2,λl t j m u=>q l F _ (.keep g j _) j (Qe g j) (_,JK,?_));rw[<-u,Zw];clear u
   induction t with
   |nil=>calc .nil
   |cons i t L=>
    rw[Zl,Zl];let hi:=m i Zqs;let(-x,G,n):=s.get (d:=j6<|p.getD i []) (by rw[Zv,Zqg hi,Ql (Zqg hi)];rfl);rw[Ql G];exact .mk n ()
  .exact J6 c
 ext
end
end L2.DL
namespace L2
def Tq(j:X.calm=6):qf X (.builtin "sum") λg H Q=>∃(a:Addr)(b:Yf),g=[.ref a]/\xx X.K H a (b.map V.int)/\Q (.int b.sum) H:=by
 intro Y s Z H g x Q I r h;let(a b,rfl,l,q):=h;let(-u,rfl,m):=QP r;obtain rfl:=m;let(-n,o,p,y):=I.list l;let i:=Dz o;let(t,e):=i.allInts.items;let f:b=t.toList.map (·.1):=by
  rw[<-i.numsOf,<-nums_intItems,<-e]
 let c:=p.isList;rw[e]at c;calc sum_intListG (I.ok.hd j) c λz A v w=>(.int b.sum,H,I.kept w,(v,?_),q);rw[preSum_eq,UH (),<-f]
def Tr{bs:List Bool} (r:j5 (bs.map V.bl) a)(i:5)(v:Value)(h:a.toArray[i]?=!v):v=.bool (bs.getD i 7):=by
 let b:a[i]?=!v:=by ext
 let j:=(Jb.mp b).1;let e:=r.length;rw[Zql]at e;let f:bs[i]?=!bs[i]:=by simp
 let(-u,c,g):=r.get (i:=i) (x:=.bl bs[i]) ();rw[b]at c;obtain rfl:=Zqi c;rw[g,Uh,f];rfl
def Ts(bs:List Bool):(List.range bs.length).all (λi=>bs.getD i 7)=bs.all id:=by
 apply Vd.mpr;rw[Uy,Uy];constructor
 .intro h b c;let(i,a,rfl):=UC c;let:=h i<|Je.mpr a
  rwa[Uh,Zqg a]at this
 .intro h i a;let a:=Je.mp a;rw[Uh,Zqg a];exact h _<|UB a
def Tt(m:X.calm=6):qf X (.builtin "all") λj H Q=>∃(a:Addr)(bs:List Bool),j=[.ref a]/\xx X.K H a (bs.map V.bl)/\Q (.bl<|bs.all id) H:=by
 intro Y s Z H j C Q I r h;let(a bs,rfl,n,q):=h;let(-u,rfl,t):=QP r;obtain rfl:=t;let(-f,l,p,E):=I.list n;let g:a<s⁻¹:=by let(-_,e,_):=p.isList;exact Zk e
 let c:=l.length;rw[Zql]at c;refine call_all_walk<|wpAny_pyIter_list p.isList<|vc _ _ _ _ _ _ (λi=>bs.getD i 7) (9,Walks.list (A:=X.A.in1) (I.ok.hd m) s⁻¹ a (Zi g) f.toArray,((_,Zr _ 9,9,9),p.isList.push _),?_,λF G w=>?_)
 .intro i v J L M x y;let z:=Tr l i v x;subst z;exact wpAny_of_eq 9 y
 .rw[Zm,<-c,Ts];calc(.bl _,H,I.kept λb o e=>w b o ?_<|Zq _ e,9,q);intro B;rw[Jd.mp B]at e;exact Zy _<|Zk e
end L2
namespace L2.DL
def uR:D->Option Bool
 |.bl i=>!i
 |_=>8
def Tu  (h:uR d=!i):d=.bl i:=by
 cases d with
 |bl j=>cases h;rfl
 |_=>exact J6 h
theorem xZ{K:f'} :∀{bs:List Bool}{c:YB},IsDs K H (bs.map D.bl) c->c=bs.map V.bl
 |[],_,h=>IsDs.nil_iff.mp h
 |b::bs,_,h=>by
  let(x r,rfl,e,f):=h;rw[jo.mp e,xZ f];rfl
def BY:D->Option (List Bool)
 |.lst a=>Qx uR a
 |_=>8
def Tv{K:f'}    (h:BY d=!c)(i:IsD K H d v):∃a,v=.ref a/\xY K H a (c.map V.bl):=by
 cases d with
 |lst f=>
  let(a g,rfl,e,b):=i;rw[Ae (λ_ _=>Tu) h]at b;rw[xZ b]at e
  ext
 |_=>exact J6 h
def Tw(a:List Bool):BY (.lst<|a.map D.bl)=!a:=by
 let h:=Y3 (f:=uR) (g:=D.bl) (λ_=>9) a
 rwa[List.map_id']at h
def zG:YC->YD
 |[d]=>(Y7 d).bind λa=>! .int a.sum
 |_=>8
def vg:YC->YD
 |[d]=>(BY d).bind λa=>!(.bl<|a.all id)
 |_=>8
def Lc(e:X.calm=6):qf X (.builtin "sum") (wN X.K zG):=qf.weak (Tq e) λl H Q f=>by
 let(F m z,c,id,b,q):=f;unfold zG at b
 split at b
 .let(-g,i,b):=Jg.mp b;obtain rfl:=Zqi b;let(-v,rfl,h):=Q2 id;let(-a,rfl,j):=Ej i h;exact(a,g,9,(j.same c).sq,q _ F H (.refl c)<|zf _ F)
 ext
def Ld(e:X.calm=6):qf X (.builtin "all") (wN X.K vg):=qf.weak (Tt e) λl H Q f=>by
 let(F m z,c,id,b,q):=f;unfold vg at b
 split at b
 .let(-g,i,b):=Jg.mp b;obtain rfl:=Zqi b;let(-v,rfl,h):=Q2 id;let(-a,rfl,j):=Tv i h;exact(a,g,9,(j.same c).sq,q _ F H (.refl c)<|zS _ F)
 ext
@[simp]def Tx(a:Yf):zG [.lst (a.map .int)]=! .int a.sum:=by
 show(Y7 _).bind _=_;rw[Ek];rfl
def Le(a:List Bool):vg [.lst (a.map .bl)]=!(.bl<|a.all id):=by
 show(BY _).bind _=_;rw[Tw];rfl
end L2.DL
namespace L2
def Lf:bootBuiltins "all"=! .builtin "all":=boot_all
end L2
namespace L2.DL
end L2.DL
namespace L2
section
variable {X:Cx}{Y:Yb}{Z: St}{H:Hp}
def Inv.turnedL {ch:Yj}(I:Inv X Y Z H s)(k:∀b o,b∉ch->↥s b=!o->j.get? b=!o)(i:∀b∈ch,xR X Y H b):Inv X Y Z H {s with heap:=j,toks:=t'}:=by
 let l:∀b u,H b=!u->b∉ch:=λb u e z=>by rw[(i b z).1]at e;exact J6 e
 refine I.step (λb p=>?_) (λb o _ _ f e _=>k b o f e) (λb o _ _ f e _=>(o.slots,k b o f e)) (λ_ _ _ _ n=>n)
  (λb o f e=>(o,k b o f e)) (λ_ _ e=>e) (λ_ _ _ e=>e) (λb O e=>(#[],by rw[e];simp)) (λm x=>?_) (λb u e=>?_) I.bare
 .let(!_,y,_,B,E,F):=i b p;exact(B,y,E,F)
 .let(o G J,L,r):=x;exact je o G J (k _ o (λz=>(i _ z).2.1 9) L,r)
 .refine(I.hok b u e).stay (λc v f q=>k c v ?_ q) (λ_ q=>q) λ_ _ q=>q
  grind
theorem xR.upd{b T:Addr}{o:HO}(h:xR X Y H b)(n:b≠T):xR X Y (upd H T o) b:=((JF n).trans h.1,h.2)
def Inv.paired {ch:Yj}  (I:Inv X Y Z H s)(f:jv x u)(i:jv y v)(j:∀b∈ch,xR X Y H b)(l:∀b∈ch,b≠s⁻¹)
 (p:h'.get? s⁻¹=!{cls:=.type "tuple",data:=.seq #[u,v]})(k:∀b o,b∉ch->↥s b=!o->h'.get? b=!o):
 Inv X Y Z (upd H s⁻¹<|.tup [x,y]) {s with heap:=h',toks:=t'}:=by
 let n:Inv X Y Z (upd H s⁻¹<|.tup [x,y]) {s with heap:=s.heap.push {cls:=.type "tuple",data:=.seq #[u,v]},toks:=s.toks}:=
  I.laid (λb o e=>Zq _ e) (Zf _) ((by simp only[sizeLine_eq,Zu,ZC];lia,_,Zr _ 9,9),[u,v],.cons f<|.cons i .nil,_,Zr _ 9,9,_,9)
 refine Inv.turnedL (s:={s with heap:=s.heap.push {cls:=.type "tuple",data:=.seq #[u,v]},toks:=s.toks}) n (λb o c e=>?_) λb c=>(j b c).upd<|l b c
 grind[Heap.get?_push_cases]
end
end L2
namespace L2.DL
def wy:YC->YD
 |[.int i]=>!(.int<|if i<0 then-i else i)
 |_=>8
@[simp]def fR(i:3):wy [.int i]=!(.int<|if i<0 then-i else i):=rfl
def bN:qf X (.builtin "abs") (wN X.K wy):=qf.weak Pk λe H Q b=>by
 let(F f z,c,id,a,q):=b;unfold wy at a
 split at a
 .obtain rfl:=Zqi a;let(-v,rfl,h):=Q2 id;exact(_,by rw[jd.mp h],q _ F H (.refl c)<|zf _ F)
 .exact J6 a
def Tz:bootBuiltins "abs"=! .builtin "abs":=by kernel_rfl
end L2.DL
namespace L2.ST
open PySem
def zA:5->5->5
 |0,z=>z
 |n+1,z=>zA n (05*z+1)
def Lg(a b z):zA (a+b) z=zA b (zA a z):=by
 induction a generalizing z with
 |zero=>rw[VH];rfl
 |succ a c=>rw[Nat.succ_add];exact c _
def Lh(n z d):zA n (z+d)=zA n z+05^n*d:=by
 induction n generalizing z d with
 |zero=>simp[zA]
 |succ n a=>
  show zA n (05*(z+d)+1)=zA n (05*z+1)+05^(n+1)*d
  grind
def rM(n):05^n%04=1:=by
 induction n with
 |zero=>rfl
 |succ n a=>lia
def T3(k z):∃u,zA (2^k) z=z+2^k*(2*u+1):=by
 induction k generalizing z with
 |zero=>calc(2*z,by show 05*z+1=z+1*(2*(2*z)+1);lia)
 |succ k b=>
  let(u,a):=b z;let e:2^(k+1)=2^k+2^k:=()
  rw[e,Lg,a,Lh,a];let c:=rM<|2^k;have(v,hv):∃v,05^2^k=04*v+1:=(05^2^k/04,());calc(2*u*(2*v+1)/2+v,?_);let:2*u*(2*v+1)/2=u*(2*v+1):=by grind
  grind
def T4(m n z):zA n z%m=zA n (z%m)%m:=by
 let h:=Lh n (z%m)<|m*(z/m);rw[Nat.mod_add_div]at h;rw[h,<-Nat.mul_assoc,Nat.mul_comm _ m,Nat.mul_assoc,Nat.add_mul_mod_self_left]
theorem E1:∀k x y,y<2^k->∃q,q<2^k/\zA q x%2^k=y
 |0,x,y,h=>by grind
 |k+1,x,y,h=>by
  let e:2^(k+1)=2*2^k:=()
  let g:0<2^k:=Nat.two_pow_pos k;let(-q,p,i):=E1 k x (y%2^k) (UI _ g);rw[e]at h ⊢;by_cases c:zA q x%(2*2^k)=y
  .grind
  .calc(q+2^k,(),?_);rw[Lg];let(-u,j):=T3 k (zA q x);rw[j];generalize zA q x=w at*;generalize 2^k=m at*;let l:w+m*(2*u+1)=w+m+2*m*u:=by grind
   rw[l,Nat.add_mul_mod_self_left];let n:=Nat.div_add_mod w m;let f:=UI w<|show 0<2*m from();rw[i]at n;let a:w%(2*m)%m=y%m:=by rwa[Nat.mod_mul_left_mod]
   let a1:w%(2*m)<m\/m<=w%(2*m):=()
   let a2:y<m\/m<=y:=()
   let b:∀t,t<2*m->m<=t->t%m=t-m:=λt r o=>by
    rw[Nat.mod_eq_sub_mod o,UY ()]
   rw[Nat.add_mod,UY (show m<2*m from())];generalize w%(2*m)=t at*;rcases a1 with a1|a1<;>rcases a2 with a2|a2
   .rw[UY a1,UY a2]at a;exact Zn a c
   .rw[UY a1,b y h a2]at a;rw[UY ()];lia
   .rw[UY a2,b t f a1]at a;rw[Nat.mod_eq_sub_mod (),UY ()];lia
   .rw[b t f a1,b y h a2]at a;exact Zn () c
def JJ(t:YA):5->SetTable.Probe->SetTable.Probe
 |0,p=>p
 |n+1,p=>JJ t n (t.advance p)
def Au(t)(a b)(p):JJ t (a+b) p=JJ t b (JJ t a p):=by
 induction a generalizing p with
 |zero=>rw[VH];rfl
 |succ a c=>rw[Nat.succ_add];exact c _
def T5(t)(n)(p):JJ t (n+1) p=t.advance (JJ t n p):=Au t n 1 p
def K8(a i b:5):SetTable.Probe:={j:=i,more:=SetTable.runEnd a i-i,i:=i,perturb:=b,dummy:=8}
def xk(a:5):5->5×5->5×5
 |0,s=>s
 |n+1,s=>xk a n (SetTable.leap a s.1 s.2)
def BZ(a i):SetTable.runEnd a i-i<=09:=by
 grind[SetTable.runEnd]
def Li(t)(m):∀p,p.more=m->p.dummy=8->JJ t (m+1) p=K8 t.mask (SetTable.leap t.mask p.i p.perturb).1 (SetTable.leap t.mask p.i p.perturb).2:=by
 induction m with
 |zero=>
  intro p a b;show t.advance p=_
  simp_all[SetTable.advance,K8]
 |succ m c=>
  intro p a b;show JJ t (m+1) (t.advance p)=_
  simp_all[SetTable.advance]
theorem Lj(t):∀r i a,∃n,n<=10*r/\JJ t n (K8 t.mask i a)=K8 t.mask (xk t.mask r %[i|a]).1 (xk t.mask r %[i|a]).2
 |0,i,a=>(0,Zf _,9)
 |r+1,i,a=>by
  have(n,b,c):=Lj t r (SetTable.leap t.mask i a).1 (SetTable.leap t.mask i a).2;let e:=BZ t.mask i;refine(SetTable.runEnd t.mask i-i+1+n,(),?_)
  rwa[Au,Li t (SetTable.runEnd t.mask i-i) (K8 t.mask i a) 9 9]
def Lk(c a b)(s):xk c (a+b) s=xk c b (xk c a s):=by
 induction a generalizing s with
 |zero=>rw[VH];rfl
 |succ a e=>rw[Nat.succ_add];exact e _
theorem E2(a):∀r s,(xk a r s).2=s.2/32^r
 |0,s=>by show s.2=_;rw[Nat.pow_zero,Nat.div_one]
 |r+1,s=>by
  show(xk a r<|SetTable.leap a s.1 s.2).2=_;rw[E2 a r];show s.2/32/32^r=_;rw[Nat.div_div_eq_div_mul,Nat.pow_succ,Nat.mul_comm 32]
theorem E3(a):∀r i,i<a+1->xk a r %[i|0]=%[zA r i%(a+1)|0]
 |0,i,h=>by
  show%[i|0]=%[i%(a+1)|0];rw[UY h]
 |r+1,i,h=>by
  show xk a r %[(i*05+1+0/32)%(a+1)|0/32]=%[zA r (05*i+1)%(a+1)|0];rw[Nat.zero_div,Nat.add_zero,E3 a r _ (UI _ ()),<-T4,Nat.mul_comm i 05]
def Ll(a r)(s)(h:s.1<a+1):(xk a r s).1<a+1:=by
 induction r generalizing s with
 |zero=>calc h
 |succ r b=>exact b _<|UI _ ()
def bG  (f:t.mask+1=2^k)(h) (g:y<=t.mask):∃n,n<10*SetTable.turns t.mask/\(JJ t n<|t.probeStart h).j=y:=by
 let a:t.probeStart h=K8 t.mask (SetTable.bits h%(t.mask+1)) (SetTable.bits h):=9;let i:SetTable.bits h<2^64:=by
  grind[SetTable.bits]
 let j:=Ll t.mask 13 %[SetTable.bits h%(t.mask+1)|SetTable.bits h]<|UI _ ();let l:(xk t.mask 13 %[SetTable.bits h%(t.mask+1)|SetTable.bits h]).2=0:=by
  grind[E2]
 have(q,m,e):=E1 k (xk t.mask 13 %[SetTable.bits h%(t.mask+1)|SetTable.bits h]).1 y ();let b:xk t.mask (13+q) %[SetTable.bits h%(t.mask+1)|SetTable.bits h]=%[y|0]:=by
  rw[Lk]
  grind[E3]
 have(n,o,c):=Lj t (13+q) (SetTable.bits h%(t.mask+1)) (SetTable.bits h);calc(n,by unfold SetTable.turns;lia,?_);rw[a,c,b];rfl
def Lm{t:YA} (h:p.dummy=8):(t.advance p).dummy=8:=by
 grind[SetTable.advance]
def T6  (h:p.dummy=8)(n):(JJ t n p).dummy=8:=by
 induction n generalizing p with
 |zero=>calc h
 |succ n a=>exact a<|Lm h
theorem Ln   :∀k fuel p,k<fuel->p.dummy=8->(∀m,m<k->∃i,t.slot (JJ t m p).j=.live i)->t.slot (JJ t k p).j=.empty->
 (∃m i,m<k/\t.slot (JJ t m p).j=.live i/\hashAt i=h/\SetTable.probe.go t hashAt h fuel p=!(.candidate (JJ t m p).j i<|JJ t (m+1) p)/\∀a b,a<m->t.slot (JJ t a p).j=.live b->hashAt b≠h)\/
 SetTable.probe.go t hashAt h fuel p=! .empty (JJ t k p).j 8/\∀a b,a<k->t.slot (JJ t a p).j=.live b->hashAt b≠h
 |0,0,p,hf,_,_,_=>()
 |0,fuel+1,p,_,hd,_,e=>by
  let e:t.slot p.j=.empty:=e;calc .inr (?_,());unfold SetTable.probe.go;rw[e,hd];rfl
 |k+1,0,p,hf,_,_,_=>()
 |k+1,fuel+1,p,hf,hd,hl,e=>by
  have(i,f):=hl 0 (Vj _);let f:t.slot p.j=.live i:=f;by_cases c:hashAt i=h
  .calc .inl (0,i,Vj _,f,c,?_,());unfold SetTable.probe.go;rw[f];show(if(hashAt i==h)=6 then _ else _)=_;rw[Zd ()];rfl
  .let l:SetTable.probe.go t hashAt h (fuel+1) p=SetTable.probe.go t hashAt h fuel (t.advance p):=by
    simp_all[SetTable.probe.go]
   rcases Ln k fuel (t.advance p) () (Lm hd) (λm n=>hl (m+1) ()) e with ⟨m,o,q,g,r,u,s⟩|⟨q,g⟩
   .refine .inl (m+1,o,(),g,r,by rwa[l],λa b n j=>?_)
    induction a with
    |zero=>
     ext
    |succ a=>exact s a b () j
   .refine .inr (by rwa[l],λa b n j=>?_)
    induction a with
    |zero=>
     ext
    |succ a=>exact g a b () j
open PySem
def vD(a:Yg):4:=∀i j,i<j->j<a.size->a.getD i 0<a.getD j 0
def Kq{α:Type}{a:Array α} (h)(d):a.getD i d=a[i]:=()
theorem E4  (u:vD a):∀fuel lo b,b-lo<=fuel->lo<=b->b<=a.size->(∀i,i<lo->a.getD i 0<j)->(∀i,b<=i->i<a.size->j<=a.getD i 0)->
 SetTable.below.go a j fuel lo b<=a.size/\(∀i,i<SetTable.below.go a j fuel lo b->a.getD i 0<j)/\∀i,SetTable.below.go a j fuel lo b<=i->i<a.size->j<=a.getD i 0
 |0,lo,b,hf,hl,g,h,h2=>by
  let e:lo=b:=()
  subst e;unfold SetTable.below.go;calc(g,h,h2)
 |fuel+1,lo,b,hf,hl,g,h,h2=>by
  unfold SetTable.below.go;by_cases c:lo<b
  .rw[Zd c];let(-m,e,p,m2,r,s):=Hg (k:=fuel+1) (x:=0) c hf;let l:m<a.size:=Zg m2 g;let o:a.getD m j=a.getD m 0:=by rw[Kq l,Kq l]
   show(if a.getD ((lo+b)/2) j<j then _ else _)<=a.size/\(∀i,i<(if a.getD ((lo+b)/2) j<j then _ else _)->_)/\∀i,(if a.getD ((lo+b)/2) j<j then _ else _)<=i->_;rw[e];by_cases d:a.getD m j<j
   .rw[Zd d];rw[o]at d;calc E4 u fuel (m+1) b s m2 g (λi f=>?_) h2;by_cases q:i=m
    .rw[q];exact d
    .exact Ul (u i m (UJ (Ur f) q) l) d
   .rw[Ze d];rw[o]at d;calc E4 u fuel lo m r p (Zz l) h λi f n=>?_;by_cases q:i=m
    .rw[q];exact Nat.le_of_not_lt d
    .exact Zz<|US (Nat.le_of_not_lt d)<|u m i (UJ f<|Ne.symm q) n
  .rw[Ze c];let e:lo=b:=()
   subst e;exact(g,h,h2)
def Cb (u:vD a)(j):SetTable.below a j<=a.size/\(∀i,i<SetTable.below a j->a.getD i 0<j)/\∀i,SetTable.below a j<=i->i<a.size->j<=a.getD i 0:=
 E4 u a.size 0 a.size () () (Zf _) () ()
def zo(t:YA)(j:5):4:=∃i,i<t.place.size/\t.place.getD i 0=j
def Lo(j):SetTable.has #[] j=7:=rfl
def Lp{t:YA}(u:vD t.place) (c:i<t.place.size)(e:t.place.getD i 0=j):t.slot j=.live i:=by
 unfold SetTable.slot;let h:SetTable.below t.place j=i:=by rw[<-e];(
  let(!l,f,g):=Cb u (t.place.getD i 0);generalize SetTable.below t.place (t.place.getD i 0)=p at*;rcases UZ p i with q|q|q
  .let a:=u p i q c;let b:=g p (Zf _) ();lia
  .exact q
  .let:=f i q;lia)
 ext
def T7 (b:t.dummies=#[]) (h:¬zo t j):t.slot j=.empty:=by
 unfold SetTable.slot;let c:¬(t.place[SetTable.below t.place j]?==!j)=6:=by
  intro z;let z:t.place[SetTable.below t.place j]?=!j:=by simpa using z
  let(a,e):=Jo.mp z;exact h (_,a,by rwa[Kq a])
 simp_all[Lo]
def T8 (u:vD t.place) (h:zo t j):∃i,t.slot j=.live i/\i<t.place.size/\t.place.getD i 0=j:=by
 let(i,a,e):=h;exact(i,Lp u a e,a,e)
def T9{t a:YA}(h:t.mask=a.mask)(p):t.advance p=a.advance p:=by
 unfold SetTable.advance;rw[h]
def Lq (h:t.mask=a.mask)(n)(p):JJ t n p=JJ a n p:=by
 induction n generalizing p with
 |zero=>rfl
 |succ n b=>show JJ t n (t.advance p)=JJ a n (a.advance p);rw[T9 h,b]
def Lr{t a:YA}(h:t.mask=a.mask)(x):t.probeStart x=a.probeStart x:=by
 unfold SetTable.probeStart;rw[h]
def uA(t:YA)(o:5->4)(x:3)(y:5):4:=∃n,(JJ t n<|t.probeStart x).j=y/\∀m,m<n->o (JJ t m<|t.probeStart x).j
def uA.mono    (h:uA t o x y)(c:t.mask=f.mask)(i:∀j,o j->l j):uA f l x y:=by
 let(-n,q,p):=h;refine(n,?_,λm e=>?_)
 .rwa[<-Lq c,<-Lr c]
 .rw[<-Lq c,<-Lr c];exact i _<|p m e
structure TabOk(t:YA)(hs:Array 3):4 where
 size:t.place.size=hs.size
 up:vD t.place
 le:∀i,i<t.place.size->t.place.getD i 0<=t.mask
 nod:t.dummies=#[]
 pow:∃k,t.mask+1=2^k
 room:t.place.size<=t.mask
 ways:∀i,i<t.place.size->uA t (zo t) (hs.getD i 0) (t.place.getD i 0)
def TB (u:vD f) (p:f.size<=m):∃y,y<=m/\∀i,i<f.size->f.getD i 0≠y:=by
 by_cases h:∀i,i<f.size->f.getD i 0=i
 .exact(m,Zf _,λi j e=>by let:=h i j;lia)
 .let(i,j,hne,hmin):∃i,i<f.size/\f.getD i 0≠i/\∀k,k<i->f.getD k 0=k:=by
   let l:∀n,n<=f.size->(∀k,k<n->f.getD k 0=k)\/∃i,i<f.size/\f.getD i 0≠i/\∀k,k<i->f.getD k 0=k:=by
    intro n
    induction n with
    |zero=>intro _;calc .inl λk g=>Zn g<|U9 _
    |succ n o=>
     intro r;rcases o ()with q|q
     .by_cases c:f.getD n 0=n
      .calc .inl λk g=>?_;by_cases e:k=n
       .rw[e];exact c
       .exact q k ()
      .exact .inr (n,(),c,q)
     .exact .inr q
   rcases l f.size (Zf _)with q|q
   .exact Zn q h
   .exact q
  calc(i,(),λk g e=>?_);rcases UZ k i with q|q|q
  .let:=hmin k q;lia
  .subst q;exact hne e
  .let a:=u i k q g;let b:i<=f.getD i 0:=by
    induction i with
    |zero=>calc Uc _
    |succ i=>
     let:=u i (i+1) () j;let:=hmin i ();lia
   lia
def TC  (T:TabOk t s)(x):∃n,n<10*SetTable.turns t.mask/\(∀m,m<n->zo t (JJ t m<|t.probeStart x).j)/\¬zo t (JJ t n<|t.probeStart x).j:=by
 let(k,g):=T.pow;let(-y,h,j):=TB T.up T.room;let(-n,b,e):=bG g x h;let a:¬zo t (JJ t n<|t.probeStart x).j:=by
  rw[e];rintro⟨i,l,q⟩;exact j i l q
 let f:∀d n,n<=d->n<10*SetTable.turns t.mask->¬zo t (JJ t n<|t.probeStart x).j->∃n,n<10*SetTable.turns t.mask/\(∀m,m<n->zo t (JJ t m<|t.probeStart x).j)/\¬zo t (JJ t n<|t.probeStart x).j:=by
  intro d
  induction d with
  |zero=>
   grind
  |succ d o=>
   intro n u b a;by_cases c:∀m,m<n->zo t (JJ t m<|t.probeStart x).j
   .exact(n,b,c,a)
   .have(m,p):=Classical.not_forall.mp c;have(v,r):=Classical.not_imp.mp p;exact o m () () r
 exact f n n (Zf _) b a
def E5 (a:Array α) (b:p<=a.size)(x):(SetTable.insertAt a p x).size=a.size+1:=by
 grind[SetTable.insertAt]
def Ls (f:Array α) (j:p<=f.size)(x d:α)(i:5):(SetTable.insertAt f p x).getD i d=if i<p then f.getD i d else if i=p then x else f.getD (i-1) d:=by
 unfold SetTable.insertAt;simp only[VI];rw[Array.getElem?_append,Array.getElem?_push,V0,V0];simp only[Array.size_push,VF];let e:min p f.size-0=p:=()
 rw[e];rcases UZ i p with c|c|c
 .let a:i<p+1:=()
  let b:¬i=p:=()
  simp only[a,b,c,if_true,if_false];simp
 .subst c;let a:¬i<i:=Zy _;simp only[UG,a,if_true,if_false];rfl
 .let a:¬i<p+1:=()
  let b:¬i<p:=()
  let g:¬i=p:=()
  simp only[a,b,g,if_false];let h:p+(i-(p+1))=i-1:=()
  rw[h];by_cases l:i-1<f.size
  .rw[Zd (by simp only[Nat.min_self];lia)]
  .rw[Ze (by simp only[Nat.min_self];lia),VS ()]
def TD  (T:TabOk t m)  (A:y<=t.mask)(B:¬zo t y)(C:uA t (zo t) x y)(L:t.place.size+1<=t.mask):TabOk (t.put y).1 (SetTable.insertAt m (t.put y).2 x)/\(t.put y).2<=m.size/\(t.put y).1.mask=t.mask:=by
 let(!r,E,F):=Cb T.up y;let G:(t.put y).2=SetTable.below t.place y:=9;let a:(t.put y).1.place=SetTable.insertAt t.place (SetTable.below t.place y) y:=9;let b:(t.put y).1.mask=t.mask:=9;let n:(t.put y).1.dummies=#[]:=by
  show(if SetTable.has t.dummies y then SetTable.eraseAt t.dummies (SetTable.below t.dummies y)else t.dummies)=_;rw[T.nod,Lo];rfl
 rw[G];let H:∀i,SetTable.below t.place y<=i->i<t.place.size->y<t.place.getD i 0:=λi I s=>by
  let:=F i I s;let:t.place.getD i 0≠y:=λz=>B (i,s,z);lia
 generalize SetTable.below t.place y=p at*;let sz:(SetTable.insertAt t.place p y).size=t.place.size+1:=E5 _ r _;let h:=Ls t.place r y 0;let o:∀j,zo t j->zo (t.put y).1 j:=by
  rintro j ⟨i,l,e⟩;by_cases c:i<p
  .exact(i,by rw[a,sz];lia,by rw[a,h,Zd c];calc e)
  .exact(i+1,by rw[a,sz];lia,by rw[a,h,Ze (),Ze (),Nat.add_sub_cancel];calc e)
 let J:=T.size;refine((?_,?_,?_,n,by rw[b];calc T.pow,(),?_),(),b)
 .rw[a,sz,E5 _ ()];lia
 .intro i j q u;rw[a]at u ⊢;rw[sz]at u;rw[h,h];by_cases f:j<p
  .rw[Zd f,Zd ()];exact T.up i j q ()
  .rw[Ze f];by_cases g:j=p
   .rw[Zd g,Zd ()];exact E i ()
   .rw[Ze g];by_cases v:i<p
    .rw[Zd v];exact T.up i (j-1) () ()
    .rw[Ze v];by_cases w:i=p
     .rw[Zd w];exact H (j-1) () ()
     .rw[Ze w];exact T.up (i-1) (j-1) (Nat.sub_lt_sub_right ()<|by assumption) ()
 .intro i l;rw[a]at l ⊢;rw[sz]at l;rw[h,b]
  split
  .exact T.le i ()
  .split
   .exact A
   .exact T.le (i-1) ()
 .intro i l;rw[a]at l ⊢;rw[sz]at l;rw[h,Ls m () x 0];by_cases f:i<p
  .rw[Zd f,Zd f];exact(T.ways i ()).mono b.symm o
  .rw[Ze f,Ze f];by_cases g:i=p
   .rw[Zd g,Zd g];exact C.mono b.symm o
   .rw[Ze g,Ze g];exact(T.ways (i-1) ()).mono b.symm o
open PySem
theorem Cc(t)(i a):∀k,k<=SetTable.runEnd t.mask i-i->JJ t k (K8 t.mask i a)={j:=i+k,more:=SetTable.runEnd t.mask i-i-k,i:=i,perturb:=a,dummy:=8}
 |0,_=>9
 |k+1,h=>by
  rw[T5,Cc t i a k ()]
  grind[SetTable.advance]
def E6 (h:i<=a):i<=SetTable.runEnd a i/\SetTable.runEnd a i<=a:=by
 grind[SetTable.runEnd]
def yO(a:Array (Option 5))(j:5):4:=∃i,a.getD j 8=!i
theorem Lu  (o:a.size=t.mask+1):∀fuel i b y,i<=t.mask->SetTable.layClean.free t.mask a fuel i b=!y->
 y<=t.mask/\a.getD y 8=8/\∃n,(JJ t n<|K8 t.mask i b).j=y/\∀m,m<n->yO a (JJ t m<|K8 t.mask i b).j
 |0,i,b,y,_,h=>by unfold SetTable.layClean.free at h;calc J6 h
 |fuel+1,i,b,y,A,h=>by
  let p:=E6 A;unfold SetTable.layClean.free at h;let r:∀{k},k<SetTable.runEnd t.mask i+1-i->k<=SetTable.runEnd t.mask i-i:=λe=>by
   rw[Nat.succ_sub p.1]at e;exact Ur e
  let s:∀{k},k<SetTable.runEnd t.mask i+1-i->i+k<a.size:=λe=>by
   rw[o];exact Nat.lt_succ_of_le<|Zh (Nat.add_le_of_le_sub' p.1<|r e) p.2
  let g:∀k,k<SetTable.runEnd t.mask i+1-i->a.getD (i+k) (!0)=a.getD (i+k) 8:=λk e=>by
   rw[Kq (s e),Kq (s e)]
  let bz:∀k,k<SetTable.runEnd t.mask i+1-i->(not<|(a.getD (i+k)<|!0).isNone)=6->yO a (i+k):=λk e u=>by
   rw[g k e]at u;unfold yO
   induction q:a.getD (i+k) 8 with
   |none=>rw[q]at u;calc JG u
   |some v=>exact(v,9)
  split at h
  .rename_i k e;let(!w,f,x):=List.find?_range_eq_some.mp e;let f:=Je.mp f;obtain rfl:=Zqi h;refine(Ur<|by let:=s f;rwa[o]at this,?_,k,?_,λm j=>?_)
   .rw[g k f]at w
    induction q:a.getD (i+k) 8 with
    |none=>rfl
    |some v=>rw[q]at w;exact JG w
   .rw[Cc t i b k (r f)]
   .rw[Cc t i b m (r<|Ul j f)];exact bz m (Ul j f)<|x m j
  .rename_i e;let x:=Jx.mp e;let B:(SetTable.leap t.mask i b).1<=t.mask:=Jp.mp<|UI _<|Vj _;let(!C,E,(n,F,G)):=Lu o fuel _ _ y B h;let l:=Li t (SetTable.runEnd t.mask i-i) (K8 t.mask i b) 9 9;let l:JJ t (SetTable.runEnd t.mask i-i+1) (K8 t.mask i b)=K8 t.mask (SetTable.leap t.mask i b).1 (SetTable.leap t.mask i b).2:=l;calc(C,E,SetTable.runEnd t.mask i-i+1+n,by rw[Au,l];calc F,λm j=>?_);by_cases c:m<=SetTable.runEnd t.mask i-i
   .rw[Cc t i b m c];exact bz m ()<|x m ()
   .let(z,rfl):∃z,m=SetTable.runEnd t.mask i-i+1+z:=(m-(SetTable.runEnd t.mask i-i+1),());rw[Au,l];exact G z ()
theorem Lv  (g:a.size=b+1):∀(fuel i c:5),i<=b->SetTable.layClean.free b a fuel i c=8->∀r,r<fuel->yO a (xk b r %[i|c]).1
 |0,i,c,_,_,r,hr=>Zn hr (U9 _)
 |fuel+1,i,c,j,h,r,hr=>by
  let l:=E6 j;unfold SetTable.layClean.free at h
  split at h
  .cases h
  .rename_i m;let n:=Jx.mp m;let o:(SetTable.leap b i c).1<=b:=Jp.mp<|UI _<|Vj _
   induction r with
   |zero=>
    let f:=n 0 ();let e:a.getD (i+0) (!0)=a.getD i 8:=by rw[Nat.add_zero,Kq (),Kq ()]
    rw[e]at f;show yO a i;unfold yO
    induction q:a.getD i 8 with
    |none=>rw[q]at f;calc JG f
    |some v=>calc(v,9)
   |succ r=>exact Lv g fuel _ _ o h r ()
def TF (b:a+1=2^k)(h) (c:y<=a):∃r,r<SetTable.turns a/\(xk a r %[SetTable.bits h%(a+1)|SetTable.bits h]).1=y:=by
 let f:SetTable.bits h<2^64:=by
  grind[SetTable.bits]
 let g:=Ll a 13 %[SetTable.bits h%(a+1)|SetTable.bits h]<|UI _ ();let i:(xk a 13 %[SetTable.bits h%(a+1)|SetTable.bits h]).2=0:=by
  grind[E2]
 have(q,j,e):=E1 k (xk a 13 %[SetTable.bits h%(a+1)|SetTable.bits h]).1 y ();calc(13+q,by unfold SetTable.turns;lia,?_);rw[Lk]
 grind[E3]
structure LayOk(t:YA)(owner:Array (Option 5))(hs:Yf):4 where
 size:owner.size=t.mask+1
 lt:∀j i,owner.getD j 8=!i->i<hs.length
 one:∀j j' i,owner.getD j 8=!i->owner.getD j' 8=!i->j=j'
 all:∀i,i<hs.length->∃j,j<=t.mask/\owner.getD j 8=!i/\uA t (yO owner) (hs.getD i 0) j
def TH{f:5->5} (h:∀a b,a<n->b<n->f a=f b->a=b):((List.range n).map f).Nodup:=by
 grind[List.pairwise_map,List.Pairwise.imp_of_mem,List.nodup_range]
def TJ   (L:LayOk t c j)(u:j.length<=t.mask):∃y,y<=t.mask/\c.getD y 8=8:=by
 apply Classical.byContradiction;intro m;let h:∀y,y<t.mask+1->∃i,c.getD y 8=!i:=λy l=>by
  induction q:c.getD y 8 with
  |none=>grind
  |some i=>simp
 let n:((List.range<|t.mask+1).map λy=>(c.getD y 8).getD 0).Nodup:=TH λa b o p e=>by
  let(i,f):=h a o;let(r,g):=h b p;rw[f,g]at e;let e:i=r:=e;subst e;exact L.one a b i f g
 let sub:((List.range<|t.mask+1).map λy=>(c.getD y 8).getD 0)⊆ List.range j.length:=λz s=>by
  let(-y,l,rfl):=Ja.mp s;let(i,f):=h y (Je.mp l);rw[f];exact Je.mpr<|L.lt y i f
 let:=V5 n sub
 grind
def TK{owner:Array (Option 5)} (a:y<owner.size)(v)(j):(owner.setIfInBounds y v).getD j 8=if j=y then v else owner.getD j 8:=by
 simp
 grind
def TL   (L:LayOk t owner l)(B:l.length<=t.mask)(C:∃k,t.mask+1=2^k)(h):
 ∃y,SetTable.layClean.free t.mask owner (SetTable.turns t.mask) (SetTable.bits h%(t.mask+1)) (SetTable.bits h)=!y/\LayOk t (owner.setIfInBounds y<|!l.length) (l++[h]):=by
 let s:SetTable.bits h%(t.mask+1)<=t.mask:=Jp.mp<|UI _<|Vj _
 induction q:SetTable.layClean.free t.mask owner (SetTable.turns t.mask) (SetTable.bits h%(t.mask+1)) (SetTable.bits h)with
 |none=>
  let(k,E):=C;let(-y,F,G):=TJ L B;let(r,H,e):=TF E h F;let(i,u):=Lv L.size _ _ _ s q r H;rw[e,G]at u;calc J6 u
 |some y=>
  let(!I,v,(n,J,M)):=Lu L.size _ _ _ y s q;let o:=TK (owner:=owner) (y:=y) (by rw[L.size];lia)<|!l.length;let w:∀j,yO owner j->yO (owner.setIfInBounds y<|!l.length) j:=by
   rintro j ⟨i,f⟩;calc(i,?_);rw[o,Ze λz=>by rw[z,v]at f;cases f];exact f
  refine(y,9,(by rw[Array.size_setIfInBounds];calc L.size,λj i f=>?_,λj x i f g=>?_,λi p=>?_))
  .rw[Ua,Uf];rw[o]at f
   split at f
   .ext
   .let:=L.lt j i f;lia
  .rw[o]at f g
   split at f
   .rename_i a;obtain rfl:=Zqi f
    split at g
    .rename_i b;rw[a,b]
    .let:=L.lt x _ g;lia
   .split at g
    .obtain rfl:=Zqi g;let:=L.lt j _ f;lia
    .exact L.one j x i f g
  .rw[Ua,Uf]at p;by_cases c:i<l.length
   .have(j,N,A,O):=L.all i c;refine(j,N,?_,?_)
    .rwa[o,Ze λz=>by rw[z,v]at A;cases A]
    .let e:(l++[h]).getD i 0=l.getD i 0:=by
      rw[Uh,Uh,UN c]
     rw[e];exact O.mono 9 w
   .let e:i=l.length:=()
    subst e;calc(y,I,by rw[o,Zd 9],?_);let e:(l++[h]).getD l.length 0=h:=by
     rw[Uh,UF (Zf _),Vp];rfl
    rw[e];exact(n,J,λm P=>w _<|M m P)
theorem Lw (g:∃k,t.mask+1=2^k):∀rest c a,LayOk t a c->c.length+rest.length<=t.mask+1->
 ∃b,rest.foldl (init:=!%[a|c.length]) (λf h=>do
  let%[a|k]<-f
  let j<-SetTable.layClean.free t.mask a (SetTable.turns t.mask) (SetTable.bits h%(t.mask+1)) (SetTable.bits h)
  pure %[a.setIfInBounds j !k|k+1])=!%[b|c.length+rest.length]/\LayOk t b (c++rest)
 |[],c,a,L,_=>by grind
 |h::rest,c,a,L,hl=>by
  rw[Zu]at hl;let(-y,e,i):=TL L () g h;let(-l,m,n):=Lw g rest (c++[h]) _ i ()
  grind
def TM (c:∃k,t.mask+1=2^k)(b)(g:b.size<=t.mask+1):∃a,SetTable.layClean t.mask b=!a/\LayOk t a b.toList:=by
 let f:LayOk t (Array.replicate (t.mask+1) 8) []:=by
  let z:∀j i,(Array.replicate (t.mask+1) (8:Option 5)).getD j 8≠!i:=λj i h=>by
   simp[Array.getElem?_replicate]at h
   split at h<;>exact J6 h
  exact((),(),(),())
 have(o,e,L):=Lw c b.toList [] _ f ()
 simp_all[SetTable.layClean]
open PySem
def TN{a:Array (Option 5)} (h:a.getD j 8=!i):j<a.size:=()
def Um(b:5)(a:Array (Option 5)):List (5×5):=(List.range<|b+1).filterMap λj=>(a.getD j 8).map<|λz=>%[j|z]
def TQ   :p∈Um mask owner↔p.1<=mask/\owner.getD p.1 8=!p.2:=by
 unfold Um;rw[List.mem_filterMap];constructor
 .rintro⟨j,a,e⟩;let(-i,b,e):=Jj.mp e;subst e;exact(Jp.mp<|Je.mp a,b)
 grind
def TR(e)(c):(Um e c).Pairwise λa b=>a.1<b.1:=by
 unfold Um;rw[List.pairwise_filterMap];calc List.pairwise_lt_range.imp λ{a b}f x g y h=>?_;let(-i,_,rfl):=Jj.mp g;let(-j,_,rfl):=Jj.mp h;exact f
def E7{α:Type}(l:List α)(i)(d):l.toArray.getD i d=l.getD i d:=()
def E8{α β:Type}(l:List α)(f:α->β)(i)(a)(d):(l.map f).getD i d=f l[i]:=()
def XA (w:∃k,mask+1=2^k)(g)(hl:g.size<=mask)(finger moves)(led plain):
 ∃s c,SetTable.laid mask finger moves led plain g=!%[s|c]/\s.mask=mask/\s.moves=moves/\s.led=led/\s.plain=plain/\s.finger=finger/\c.size=g.size/\(∀k,k<c.size->c.getD k 0<g.size)/\(∀k m,k<c.size->m<c.size->c.getD k 0=c.getD m 0->k=m)/\(∀i,i<g.size->∃k,k<c.size/\c.getD k 0=i)/\TabOk s (c.map λi=>g.getD i 0):=by
 refine let G:YA:={mask:=mask,place:=#[],dummies:=#[],finger:=0,led:=7,moves:=0,plain:=6};?_
 let(-owner,e,L):=TM (t:=G) w g ();let e:SetTable.layClean mask g=!owner:=e;let H:owner.size=mask+1:=L.size;let mem:=λp=>TQ (mask:=mask) (owner:=owner) (p:=p);let F:=TR mask owner;let B:((Um mask owner).map (·.2)).Nodup:=by
  unfold List.Nodup;rw[UQ];calc List.Pairwise.imp_of_mem (λ{a b}I J M o=>?_) F;let n:=((mem a).mp I).2;let x:=((mem b).mp J).2;rw[o]at n;let:=L.one _ _ _ n x;lia
 let y:(Um mask owner).map (·.2)⊆ List.range g.size:=λz N=>by
  let(-p,w,rfl):=Ja.mp N;let:=L.lt _ _ ((mem p).mp w).2;exact Je.mpr<|by simpa using this
 let r:List.range g.size ⊆(Um mask owner).map (·.2):=λi h=>by
  let(-j,n,x,_):=L.all i (by simpa using Je.mp h);exact Ja.mpr (%[j|i],(mem %[j|i]).mpr (n,x),9)
 let len:(Um mask owner).length=g.size:=by
  let a:=V5 B y;let b:=V5 List.nodup_range r;rw[Zql,ZB]at a b;lia
 let O:SetTable.laid mask finger moves led plain g=!%[{mask:=mask,place:=((Um mask owner).map (·.1)).toArray,dummies:=#[],finger:=finger,led:=led,moves:=moves,plain:=plain}|((Um mask owner).map (·.2)).toArray]:=by
  unfold SetTable.laid;rw[e];rfl
 generalize P:Um mask owner=lv at*;let A:∀i h,((lv.map (·.1)).toArray).getD i 0=lv[i].1:=λi h=>by rw[E7,E8 _ _ _ h]
 let go:∀i h,((lv.map (·.2)).toArray).getD i 0=lv[i].2:=λi h=>by rw[E7,E8 _ _ _ h]
 let u:=V2.mp F;refine qA _ _ (O,9,9,9,9,9,by simpa using len,λk f=>?_,λk m f l o=>?_,λi h=>?_,?_)
 .let f:k<lv.length:=by simpa using f
  rw[go k f];let:=L.lt _ _ ((mem lv[k]).mp<|UB f).2;simpa using this
 .let f:k<lv.length:=by simpa using f
  let l:m<lv.length:=by simpa using l
  rw[go k f,go m l]at o;let n:=((mem lv[k]).mp<|UB f).2;let x:=((mem lv[m]).mp<|UB l).2;rw[o]at n;let e3:=L.one _ _ _ n x;rcases UZ k m with q|q|q
  .let:=u k m f l q;lia
  .exact q
  .let:=u m k l f q;lia
 .let(-p,w,o):=Ja.mp (r<|Je.mpr h);let(k,f,rfl):=UC w;exact(k,by simpa using f,by rw[go k f];calc o)
 .let Q:∀j,yO owner j->zo {mask:=mask,place:=(lv.map (·.1)).toArray,dummies:=#[],finger:=finger,led:=led,moves:=moves,plain:=plain} j:=by
   rintro j ⟨i,v⟩;let R:=TN v;let S:%[j|i]∈lv:=(mem %[j|i]).mpr (by show j<=mask;lia,v);let(k,f,o):=UC S;exact(k,by simpa using f,by show((lv.map (·.1)).toArray).getD k 0=j;rw[A k f,o])
  refine((),λi j C v=>?_,λi h=>?_,9,w,by show((lv.map (·.1)).toArray).size<=mask;simp;lia,λk f=>?_)
  .let v:j<lv.length:=by simpa using v
   show((lv.map (·.1)).toArray).getD i 0<((lv.map (·.1)).toArray).getD j 0;rw[A i (),A j v];exact u i j () v C
  .let h:i<lv.length:=by simpa using h
   show((lv.map (·.1)).toArray).getD i 0<=mask;rw[A i h];exact((mem lv[i]).mp<|UB h).1
  .let f:k<lv.length:=by simpa using f
   let n:=((mem lv[k]).mp<|UB f).2;let E:=L.lt _ _ n;let(-j,g1,T,U):=L.all lv[k].2 E;let X:=L.one _ _ _ T n;subst X;let Y:(((lv.map (·.2)).toArray).map λi=>g.getD i 0).getD k 0=g.toList.getD lv[k].2 0:=by
    let Z:((lv.map (·.2)).toArray).map (λi=>g.getD i 0)=((lv.map (·.2)).map λi=>g.getD i 0).toArray:=by simp
    rw[Z,E7,Zw,E8 _ _ _ f];show g.getD lv[k].2 0=_;rw[VI,Uh,Vt]
   rw[Y];show uA _ _ _ (((lv.map (·.1)).toArray).getD k 0);rw[A k f];exact U.mono 9 Q
theorem Lx:∀(fuel a n:5),(∃k,a=2^k)->n<a*2^fuel->(∃k,SetTable.sizeAbove.go n fuel a=2^k)/\n<SetTable.sizeAbove.go n fuel a
 |0,a,n,b,h=>by
  unfold SetTable.sizeAbove.go;calc(b,by simpa using h)
 |fuel+1,a,n,(k,hk),h=>by
  unfold SetTable.sizeAbove.go
  split
  .exact Lx fuel (a*2) n (k+1,by rw[Nat.pow_succ,hk])<|by rw[Nat.mul_assoc,<-Nat.pow_succ'];exact h
  .exact((k,hk),())
def Ly (h:n<1000000000):(∃k,SetTable.sizeAbove n=2^k)/\n<SetTable.sizeAbove n:=
 Lx 64 08 n (03,9)<|Zg h<|by decide
theorem Lz:∀fuel a n,a<=2*n+08->SetTable.sizeAbove.go n fuel a<=2*n+08
 |0,a,n,h=>h
 |fuel+1,a,n,h=>by
  unfold SetTable.sizeAbove.go
  split
  .exact Lz fuel (a*2) n ()
  lia
def TU(n):SetTable.sizeAbove n<=2*n+08:=Lz 64 08 n ()
def TV{t:YA}  (s:hs.size<=wanted)(g:wanted<1000000000):
 ∃b a,t.relaid hs wanted=!%[b|a]/\b.led=t.led/\b.plain=t.plain/\b.mask+1=SetTable.sizeAbove wanted/\a.size=hs.size/\(∀k,k<a.size->a.getD k 0<hs.size)/\(∀k c,k<a.size->c<a.size->a.getD k 0=a.getD c 0->k=c)/\(∀i,i<hs.size->∃k,k<a.size/\a.getD k 0=i)/\TabOk b (a.map λi=>hs.getD i 0):=by
 let((k,u),h):=Ly g;let j:SetTable.sizeAbove wanted-1+1=SetTable.sizeAbove wanted:=()
 let(b,a,e,l,_,m,n,_,o,p,q,r,f):=XA (k,by rwa[j]) hs () t.finger (t.movedTo<|SetTable.sizeAbove wanted-1) t.led t.plain;exact(b,a,e,m,n,by rwa[l],o,p,q,r,f)
open PySem
theorem TabOk.fits {c:Array (3×Value)}(T:TabOk t (c.map (·.1))):t.fits c.size=6:=by
 let e:=T.size;rw[Us]at e;unfold SetTable.fits SetTable.fill;rw[T.nod];simp[e,show c.size<=t.mask by let:=T.room;lia]
def L0{a:Array (3×Value)} (b):(a.map (·.1)).getD i 0=a[i].1:=()
def E9{a:Array (3×Value)}{i:5}(b):(a[i]?.map (·.1)).getD 0=a[i].1:=()
def YI(t:YA)(p:SetTable.Probe):4:=p.j+p.more<=t.mask
def L4(t) (h:i<=t.mask):YI t (K8 t.mask i pert):=by
 let:=E6 h;show i+(SetTable.runEnd t.mask i-i)<=t.mask;lia
def TW  (h:YI t p)(n):YI t (JJ t n p):=by
 induction n generalizing p with
 |zero=>calc h
 |succ n a=>exact a<|(by
  unfold YI at h;unfold SetTable.advance
  split
  .show p.j+1+(p.more-1)<=t.mask;lia
  .let b:(SetTable.leap t.mask p.i p.perturb).1<=t.mask:=Jp.mp<|UI _<|Vj _;calc L4 t (pert:=(SetTable.leap t.mask p.i p.perturb).2) b)
def TX(t)(h):YI t (t.probeStart h):=L4 t<|Jp.mp<|UI _<|Vj _
theorem L5       {same:Value->Bool}
 (X:↥s a=!o)(Y:o.data=.set f ep t)(T:TabOk t (f.map (·.1)))(B:t.mask%2=1)
 (hq:∀i(r:i<f.size),f[i].1=h->∀Q:Bool->Yz,Q (same f[i].2) s->YF p w A (eqBool f[i].2 x) Q E s)
 (hr:∀i(r:i<f.size),∃b,f[i].2=.ref b)
 (hsn:t.led=6\/∀Q:Bool->Yz,Q 7 s->YF p w A (searchCouldBeSeen x<|(f.filter (·.1==h)).toList.map (·.2)) Q E s)
 (he:e<10*SetTable.turns t.mask)(M:∀m,m<e->zo t (JJ t m<|t.probeStart h).j)(v:¬zo t (JJ t e<|t.probeStart h).j)
 (N:∀i(r:i<f.size),f[i].1=h->same f[i].2=6->Q (.there 8) s)
 (C:(∀i(r:i<f.size),f[i].1=h->same f[i].2=7)->Q (.free (JJ t e<|t.probeStart h).j 7) s):
 ∀(fuel c:5)(H:Option SetTable.Probe),c<=e->e-c<fuel->H.getD (t.probeStart h)=JJ t c (t.probeStart h)->
  (∀m i(r:i<f.size),m<c->t.slot (JJ t m<|t.probeStart h).j=.live i->f[i].1=h->same f[i].2=7)->
  YF p w A (setSearchFrom a x h 6 fuel H) Q E s
 |0,c,H,hc,hf,_,_=>Zn hf (U9 _)
 |fuel+1,c,H,hc,hf,hst,hno=>by
  let hsz:t.place.size=f.size:=by let:=T.size;rwa[Us]at this
  show wpAny _ _ (_>>=_) _ _ _;calc Za<|wpAny_setState_of X Y T.fits ?_;dsimp only;let hg:t.gaveWay=7:=by unfold SetTable.gaveWay;rw[B];rfl
  rw[hg];simp only[UM,if_false];let live:∀m,m<e->∃i,t.slot (JJ t m<|t.probeStart h).j=.live i/\i<f.size/\t.place.getD i 0=(JJ t m<|t.probeStart h).j:=λm hm=>by
   let(-i,Z,h2,h3):=T8 T.up (M m hm);exact(i,Z,(),h3)
  let step:∀m,JJ t m (JJ t c<|t.probeStart h)=JJ t (c+m) (t.probeStart h):=λm=>(Au t c m _).symm;let I:∀g:5->3,(∀i,g i=(f[i]?.map (·.1)).getD 0)->(∃m i,c<=m/\m<e/\t.slot (JJ t m<|t.probeStart h).j=.live i/\g i=h/\t.probe g h (H.getD<|t.probeStart h)=!(.candidate (JJ t m<|t.probeStart h).j i<|JJ t (m+1)<|t.probeStart h)/\∀j l,c<=j->j<m->t.slot (JJ t j<|t.probeStart h).j=.live l->g l≠h)\/
   t.probe g h (H.getD<|t.probeStart h)=! .empty (JJ t e<|t.probeStart h).j 8/\∀j l,c<=j->j<e->t.slot (JJ t j<|t.probeStart h).j=.live l->g l≠h:=λg _=>by
   rw[hst];let sd:(JJ t c<|t.probeStart h).dummy=8:=T6 9 c;let ek:c+(e-c)=e:=()
   rcases Ln (t:=t) (hashAt:=g) (h:=h) (e-c) (10*SetTable.turns t.mask) (JJ t c<|t.probeStart h) () sd (λm hm=>by
    rw[step];let(-i,Z,_):=live (c+m) ();calc(i,Z)) (by rw[step,ek];calc T7 T.nod v)with ⟨m,i,g1,S,g3,g4,g5⟩|⟨g1,S⟩
   .rw[step]at S g4;rw[step]at g4;refine .inl (c+m,i,(),(),S,g3,g4,λj l a1 a2 a3=>g5 (j-c) l ()<|by rw[step,show c+(j-c)=j by lia];calc a3)
   .rw[step,ek]at g1;exact .inr (g1,λj l a1 a2 a3=>S (j-c) l ()<|by rw[step,show c+(j-c)=j by lia];calc a3)
  generalize F:t.probe _ h (H.getD<|t.probeStart h)=met;let O:∀i(r:i<f.size),f[i].1=h->∃m,m<e/\t.slot (JJ t m<|t.probeStart h).j=.live i:=λi r G=>by
   let(-n,n1,n2):=T.ways i ();rw[L0 r,G]at n1 n2;calc(n,?_,by rw[n1];calc Lp T.up () 9);rcases UZ n e with q|q|q
   .exact q
   .subst q;exact Zn (i,(),n1.symm) v
   .exact Zn (n2 e q) v
  rcases I _ λi=>9 with ⟨m,i,c1,c2,c3,c4,c5,c6⟩|⟨c1,c2⟩
  .let em:=F.symm.trans c5;subst em;let(-i2,k1,L,k3):=live m c2;rw[c3]at k1;cases k1;let G:f[i].1=h:=by rw[<-E9 L];exact c4
   dsimp only;let rest:YF p w A (do
    let !%[_|y]:=f[i]?|unsupported "internal:set-entry"
    let u<-holding [y] (eqBool y x)
    let%[es',_|t']<-setState a
    if 6&&u then return SetFound.there 8
    let !same:=t'.sameMemory t.moves t.mask|unsupported "set.changed-during-lookup:is-the-new-block-at-the-old-address"
    let J<-match if same then t'.slot (JJ t m<|t.probeStart h).j else .empty with
     |.live l=>match es'[l]? with
      |some %[_|y']=>do pure (if<-isSame y' y then !l else 8)
      |none=>pure 8
     |_=>pure 8
    match J with
    |none=>rule "set.search.anew";setSearchFrom a x h 6 fuel 8
    |some l=>if u then return .there !l else setSearchFrom a x h 6 fuel !(JJ t (m+1)<|t.probeStart h)) Q E s:=by
    rw[UE L];dsimp only;calc Za<|wpAny_holding<|hq i L G _ ?_;calc Za<|wpAny_setState_of X Y T.fits ?_;dsimp only
    induction hs:same f[i].2 with
    |true=>
     simp only[Bool.and_self,if_true];calc Zb<|N i L G hs
    |false=>
     simp only[Bool.and_false,UM,if_false];let hsm:t.sameMemory t.moves t.mask=!6:=by unfold SetTable.sameMemory;rw[Zd (beq_self_eq_true _)]
     rw[hsm];dsimp only;simp only[if_true];rw[c3];dsimp only;rw[UE L];dsimp only;let(b,hb):=hr i L;let his:∀{Q':Bool->Yz},Q' 6 s->YF p w A (isSame f[i].2 f[i].2) Q' E s:=λ{Q'}hq'=>by
      rw[hb];unfold isSame;dsimp only;rw[Zd (beq_self_eq_true _)];exact Zb hq'
     calc Za<|his ?_;simp only[if_true];calc Za<|Zb ?_;dsimp only;calc L5 X Y T B hq hr hsn he M v N C fuel (m+1) _ () () 9 λj l P hm' U R=>?_;by_cases d1:j<c
     .exact hno j l P d1 U R
     .by_cases d2:j=m
      .subst d2;rw[c3]at U;cases U;exact hs
      .exact Zn (by rw[E9 P];calc R)<|c6 j l () () U
   induction hld:t.led with
   |true=>
    rw[Ze ()];calc rest
   |false=>
    rw[Zd ()];rcases hsn with z|hsn
    .rw[z]at hld;cases hld
    .calc Za<|hsn _ ?_;rw[Ze ()];exact rest
  .let em:=F.symm.trans c1;subst em;dsimp only;calc Zb<|C λi r G=>?_;let(-m,m1,m2):=O i r G;by_cases d1:m<c
   .exact hno m i r d1 m2 G
   .exact Zn (by rw[E9 r];calc G)<|c2 m i () m1 m2
def TY       {same:Value->Bool}
 (r:↥s a=!o)(u:o.data=.set c F t)(T:TabOk t (c.map (·.1)))(g:t.mask%2=1)(G:t.mask<=9000)
 (v:∀i(n:i<c.size),c[i].1=h->∀Q:Bool->Yz,Q (same c[i].2) s->YF f w A (eqBool c[i].2 x) Q E s)
 (B:∀i(n:i<c.size),∃b,c[i].2=.ref b)
 (p:t.led=6\/∀Q:Bool->Yz,Q 7 s->YF f w A (searchCouldBeSeen x<|(c.filter (·.1==h)).toList.map (·.2)) Q E s)
 (q:∀i(n:i<c.size),c[i].1=h->same c[i].2=6->Q (.there 8) s)
 (j:(∀i(n:i<c.size),c[i].1=h->same c[i].2=7)->∀y,y<=t.mask->¬zo t y->uA t (zo t) h y->Q (.free y 7) s):
 YF f w A (setSearch a x h 6) Q E s:=qS (TC T h) λe=>jA λC l m=>L5 r u T g v B p C l m q (λz=>j z _ (by
  let:=TW (TX t h) e
  grind[YI]) m (e,9,l)) 100000 0 8 (Uc _) (by grind[SetTable.turns]) 9 ()
open PySem
theorem L6:∀fuel a n,a<=SetTable.sizeAbove.go n fuel a
 |0,a,n=>by simp_all[SetTable.sizeAbove.go]
 |fuel+1,a,n=>by
  unfold SetTable.sizeAbove.go
  split
  .exact Zh ()<|L6 fuel (a*2) n
  .exact Zf _
def TZ(n):08<=SetTable.sizeAbove n:=L6 64 08 n
def dO (h:m+1=2^k)(a:07<=m):m%2=1:=by
 induction k with
 |zero=>lia
 |succ k=>lia
def eW{b:Yg} (o:∀k,k<b.size->b.getD k 0<n)(p:∀k m,k<b.size->m<b.size->b.getD k 0=b.getD m 0->k=m)(q:∀i,i<n->∃k,k<b.size/\b.getD k 0=i):b.toList.Perm (List.range n):=by
 let r:b.toList.Nodup:=by
  unfold List.Nodup;rw[V2];intro i j s t u e;let c:i<b.size:=by simpa using s
  let f:j<b.size:=by simpa using t
  let:=p i j c f (by rw[Kq c,Kq f];simpa using e);lia
 calc List.perm_iff_count.mpr λa=>?_;rw[r.count,List.nodup_range.count];let:a∈b.toList↔a∈List.range n:=by
  rw[List.mem_range];constructor
  .intro h;let(k,l,e):=UC h;let g:k<b.size:=by simpa using l
   let:=o k g;rw[Kq g]at this;let e:b[k]=a:=by simpa using e
   lia
  .intro h;let(-k,l,e):=q a h;rw[Kq l]at e;rw[<-e,VV];exact VW l
 simp only[this]
def lP{α:Type}{es:Array α}{a:Yg}(d)(c:∀k,k<a.size->a.getD k 0<es.size):a.filterMap (es[·]?)=a.map λi=>es.getD i d:=by
 apply Array.toList_inj.mp;rw[Array.toList_filterMap,Array.toList_map];let:∀l:Yh,(∀i∈l,i<es.size)->l.filterMap (es[·]?)=l.map λi=>es.getD i d:=by
  intro l
  induction l with
  |nil=>intro _;rfl
  |cons i l g=>
   ext
 calc this _ λi f=>?_;let(k,h,e):=UC f;let b:k<a.size:=()
 let:=c k b
 ext
structure SetIs(hp:Heap)(a:Addr)(es:Array (3×Value))(t:YA):4 where
 at_:∃ep,hp.get? a=!{cls:=.type "set",dict:=8,data:=.set es ep t,slots:=#[]}
 tab:TabOk t (es.map (·.1))
 seven:07<=t.mask
 most:t.mask<=08*es.size+07
 room:es.size*05<t.mask*03
 refs:∀i(hi:i<es.size),∃b,es[i].2=.ref b
def SetIs.odd    (S:SetIs e a f t):t.mask%2=1:=qS S.tab.pow λk c=>dO c S.seven
def L8{b:Heap}    (c:b.get? a=!{cls:=.type "set",dict:=8,data:=.set f e t,slots:=#[]}):
 (b.update a<|Obj.putSet es' t').get? a=!{cls:=.type "set",dict:=8,data:=.set es' (e+1) t',slots:=#[]}:=by
 let:=Heap.get?_update_self (Obj.putSet es' t') c<|by rfl
 rwa[putSet_of es' t' 9]at this
def lV
 (p:↥s a=!{cls:=.type "set",dict:=8,data:=.set es H t,slots:=#[]})(T:TabOk t (es.map (·.1)))(hn:1<=es.size)(hl:es.size<=1000)(I:∀i(l:i<es.size),∃b,es[i].2=.ref b)
 (h:∀f g,f.toList.Perm es.toList->g.led=t.led->g.plain=t.plain->SetIs (s.heap.update a<|Obj.putSet f g) a f g->Q Yq {s with heap:=s.heap.update a (Obj.putSet f g)}):
 YF v w A (setRelay a<|SetTable.grown es.size) Q E s:=by
 let J:SetTable.grown es.size=es.size*04:=by unfold SetTable.grown;rw[Ze ()]
 let L:=TU<|es.size*04;let(_,M):=Ly (n:=es.size*04) ();let N:=TZ<|es.size*04;let(g,c,e,O,P,e3,x,o,R,y,S):=TV (t:=t) (hs:=es.map (·.1)) (wanted:=es.size*04) (by rw[Us];lia) ();rw[Us]at x o y;rw[J];unfold setRelay;calc Za<|wpAny_setState_of p 9 T.fits ?_;dsimp only;rw[Ze (by rw[sizeLine_eq];lia)];rw[e];let z:=lP (es:=es) %[0|Value.none] o;let m:(c.filterMap (es[·]?)).size=es.size:=by rw[z,Us];exact x
 let q:(c.filterMap (es[·]?)).toList.Perm es.toList:=by
  rw[Array.toList_filterMap];exact((eW o R y).filterMap _).trans<|by rw[filterMap_getElem?_range]
 let B:(c.filterMap (es[·]?)).map (·.1)=c.map λi=>(es.map (·.1)).getD i 0:=by
  rw[z,Array.map_map];apply Array.map_congr_left;intro i l;let(k,C,U):=Array.getElem_of_mem l;let:=o k C;rw[Kq C,U]at this;show(es.getD i %[0|Value.none]).1=_;rw[Kq this,L0 this]
 let F:TabOk g ((c.filterMap (es[·]?)).map (·.1)):=by rw[B];exact S
 let G:∀i(l:i<(c.filterMap (es[·]?)).size),∃b,(c.filterMap (es[·]?))[i].2=.ref b:=λi l=>by
  let X:(c.filterMap (es[·]?))[i]∈es.toList:=q.mem_iff.mp (by rw[VV];calc VW l);let(j,Y,Z):=UC X;let r:j<es.size:=by simpa using Y
  let(b,hb):=I j r;calc(b,?_);rw[<-Z];simpa using hb
 let u:¬((c.filterMap (es[·]?)).size !=es.size)=6:=by rw[m];simp
 refine Za<|wpAny_of_eq (a:=%[c.filterMap (es[·]?)|g]) ?_ ?_
 .show(if((c.filterMap (es[·]?)).size !=es.size)=6 then _ else _)=_;rw[Ze u]
 .dsimp only;generalize c.filterMap (es[·]?)=f at m q F G B;exact wpAny_storeSet_of p 9 (h f g q O P ((H+1,L8 p),F,(),(),(),G))<|by rw[sizeLine_eq];lia
def eS{c a:Array (3×Value)}(g:∀i(e:i<c.size),∃b,c[i].2=.ref b)   (l:x=.ref b)(m:a.toList.Perm (c.toList++[%[h|x]])):∀i(e:i<a.size),∃b,a[i].2=.ref b:=λi e=>by
 rcases Jc.mp (m.mem_iff.mp<|by rw[VV];calc VW e)with z|z
 .let(j,n,o):=UC z;let f:j<c.size:=by simpa using n
  let(b,p):=g j f;calc(b,?_);rw[<-o];simpa using p
 .rw[Jd.mp z];exact(b,l)
def cB      {same:Value->Bool}
 (S:SetIs s.heap a e t)(U:x=.ref b)(hl:e.size+1<=1000)
 (Z:∀i(G:i<e.size),e[i].1=h->∀Q:Bool->Yz,Q (same e[i].2) s->YF f w A (eqBool e[i].2 x) Q E s)
 (J:t.led=6\/∀Q:Bool->Yz,Q 7 s->YF f w A (searchCouldBeSeen x<|(e.filter (·.1==h)).toList.map (·.2)) Q E s)
 (hbv:∀Q:Bool->Yz,Q 6 s->YF f w A (hashByValue 08 x) Q E s)
 (L:∀i(G:i<e.size),e[i].1=h->same e[i].2=6->Q 7 s)
 (n:(∀i(G:i<e.size),e[i].1=h->same e[i].2=7)->∀M es' t',Heap.SameBut a s.heap M->SetIs M a es' t'->es'.toList.Perm (e.toList++[%[h|x]])->t'.led=t.led->t'.plain=t.plain->Q 6 {s with heap:=M}):
 YF f w A (setAddHashed a x h) Q E s:=by
 let(ep,r):=S.at_;let N:t.mask<=9000:=by let:=S.most;lia
 unfold setAddHashed setAddHashedIn;calc wpAny_holding<|Za<|wpAny_setState_of r 9 S.tab.fits ?_;dsimp only;let hb:byScan x e=7:=by subst U;rfl
 rw[hb];simp only[UM,if_false];calc Za<|TY r 9 S.tab S.odd N Z S.refs J (λi G h1 h2=>Zb<|L i G h1 h2) λu y hy hf hw=>?_;dsimp only;calc Za<|wpAny_setState_of r 9 S.tab.fits ?_;dsimp only;let hsz:t.place.size=e.size:=by let:=S.tab.size;rwa[Us]at this
 let O:=S.room;let H:=S.seven;let(!o,j,v):=TD S.tab hy hf hw ();rw[Us]at j;let l:(t.put y).1.led=t.led:=9;let m:(t.put y).1.plain=t.plain:=9;generalize X:t.put y=tp at o j v l m;let(g,p):=tp;dsimp only at o j v l m ⊢;let em:(SetTable.insertAt e p %[h|x]).map (·.1)=SetTable.insertAt (e.map (·.1)) p h:=by
  unfold SetTable.insertAt;simp
 rw[<-em]at o;let I:(SetTable.insertAt e p %[h|x]).toList.Perm (e.toList++[%[h|x]]):=by
  let:=SetTable.insertAt_perm e p %[h|x]
  rwa[Array.toList_push]at this
 let B:(SetTable.insertAt e p %[h|x]).size=e.size+1:=E5 e j _;let q:=eS S.refs U I;generalize SetTable.insertAt e p %[h|x]=es1 at o I B q;let Y:YF f w A (do
  storeSet a es1 g
  if not 7&&g.tooFull then setRelay a (SetTable.grown<|e.size+1)
  return 6) Q E s:=by
  calc Za (wpAny_storeSet_of r 9 ?_<|by rw[sizeLine_eq];lia);let C:=L8 (es':=es1) (t':=g) r;let F:=Heap.SameBut.update s.heap a<|Obj.putSet es1 g;by_cases c:g.tooFull=6
  .rw[Zd (by rw[c];rfl)];rw[<-B];refine Za<|lV C o () () q λP t2 R l2 p2 S2=>Zb<|n u _ P t2 (F.trans<|Heap.SameBut.update _ a _) S2 (R.trans I) (l2.trans l)<|p2.trans m
  .rw[Ze (by simpa using c)];let T:¬ g.fill*05 ≥ g.mask*03:=by
    intro z;exact c<|Zp z
   let hfl:g.fill=es1.size:=by
    unfold SetTable.fill;let:=o.size;rw[Us]at this;rw[this,o.nod];rfl
   let S1:SetIs (s.heap.update a<|Obj.putSet es1 g) a es1 g:=((ep+1,C),o,(),by let:=S.most;lia,(),q);exact Zb<|n u _ es1 g F S1 I l m
 grind[wpAny_bind,wpAny_pure]
open PySem
inductive HashAll(prog:Program)(w:World)(A:Around)(E:Ya)(s:Shared):Ye->List Int->Prop
 |nil:HashAll prog w A E s [] []
 |cons{v:Value}{vs:Ye}{h:Int}{hs:Yf}:(∀(tk:Nat)(Q:Int->Yz),(∀tk',tk<=tk'->Q h {s with toks:=tk'})->YF prog w A (pyHash v) Q E {s with toks:=tk})->HashAll prog w A E s vs hs->HashAll prog w A E s (v::vs) (h::hs)
noncomputable def EA(a:Yf):3:=reduceHash<|Builtin.Tuple.tupleHashOf a
def L9       (u:↥s a=!o)(v:o.cls=.type "tuple")(y:o.data=.seq g n)(z:A.units<cLine)
 (H:HashAll e w A.in1 E s g.toList m)(h:∀f,c<=f->Q (EA m) {s with toks:=f}):YF e w A (pyHash<|.ref a) Q E {s with toks:=c}:=by
 let B:Shared.TypeIs {s with toks:=c} (.ref a) "tuple":=(o,u,v);unfold pyHash;calc W.pyHash_slot (T:="tuple") B F.slot_tuple_hash F.entry_tuple_hash (F.args_tuple_hash_1 _) (beq_builtin_none _) (.inr z) ?_;show wpAny _ _ (Builtin.Tuple.tupleItemsOf (.ref a)>>=_) _ _ _;calc Za<|wpAny_tupleItemsOf u y ?_;calc Za ?_;rw[<-Vw];refine wpAny_forIn_list _ (λrest(b:Array 3)p=>∃left f,HashAll e w A.in1 E s rest left/\b.toList++left=m/\p={s with toks:=f}/\c<=f) _ ?_ ?_ _ _ (m,c,H,9,9,Zf _)
 .rintro x rest b p ⟨left,f,q,l,rfl,i⟩;cases q with
  |cons C r=>
   calc Za<|C f _ λt j=>?_;exact Zb (_,t,r,by simp[<-l],9,Zh i j)
 .rintro b p ⟨left,f,q,l,rfl,i⟩;cases q;rw[ZA]at l;show wpAny _ _ (retInt<|Builtin.Tuple.tupleHashOf b.toList) _ _ _;rw[l];exact Za<|wpAny_mkInt<|Zb (_,_,9,h _<|Vs i)
theorem LA :∀{a:Ye}{b:Yf},PyProof.Rows.IntsAre a b->HashAll c w A E s a (b.map hashInt)
 |_,_,.nil=>.nil
 |_,_,.cons n t r=>.cons (λe Q h=>wpAny_pyHash_int<|h _<|Ve e) (LA r)
inductive PlainV(hp:Heap):Nat->Value->Prop
 |int(n:Nat)(i:Int)(t:Tok):PlainV hp n (.int i t)
 |tup{n:Nat}{a:Addr}{o:Obj}{items:Yk}{k:Nat}:hp.get? a=!o->o.cls=.type "tuple"->o.data=.seq items k->(∀v∈items.toList,PlainV hp n v)->PlainV hp (n+1) (.ref a)
def oa  (p:PlainV s.heap n v):∀d Q,n<=d->Q 6 s->YF a w A (hashByValue d v) Q E s:=by
 induction p with
 |int n i t=>
  intro d Q _ h
  induction d<;>calc Zb h
 |tup b c e _ l=>
  intro d Q m h
  induction d with
  |zero=>lia
  |succ d=>
   let f:Shared.TypeIs s (.ref _) "tuple":=(_,b,c);calc Za<|wpAny_specialOf f F.slot_tuple_hash.lookup<|Za<|wpAny_seqItems b e<|Za ?_;rw[Option.getD_some,<-Vw];refine wpAny_forIn_list _ (λrest r g=>r.1=8/\g=s/\∀v∈rest,v∈_) _ ?_ ?_ _ _ (9,9,λv j=>j)
   .grind[wpAny_bind,wpAny_pure]
   grind[wpAny_pure]
def LC  (p:PlainV s.heap n v):∀d Q,n<=d->Q 6 s->YF a w A (eqIsQuiet d v) Q E s:=by
 induction p with
 |int n i t=>
  intro d Q _ h;calc wpAny_of_eq (eqIsQuiet_byValue d 9) h
 |tup b e f _ l=>
  intro d Q m h
  induction d with
  |zero=>lia
  |succ d=>
   let c:Shared.TypeIs s (.ref _) "tuple":=(_,b,e);unfold eqIsQuiet;calc Za<|wpAny_specialOf c F.slot_tuple_eq.lookup<|Za<|wpAny_isInstance c isSubtype_tuple_tuple<|Za<|wpAny_seqItems b f<|Za ?_;rw[Option.getD_some,<-Vw];refine wpAny_forIn_list _ (λrest r g=>r.1=8/\g=s/\∀v∈rest,v∈_) _ ?_ ?_ _ _ (9,9,λv j=>j)
   .grind[wpAny_bind,wpAny_pure]
   grind[wpAny_pure]
def LF  (p:PlainV s.heap n v):∀d Q,n<=d->Q 7 s->YF a w A (ofAClassStatement d v) Q E s:=by
 induction p with
 |int n i t=>
  intro d Q _ h
  induction d<;>calc Zb h
 |tup b c e _ l=>
  intro d Q m h
  induction d with
  |zero=>lia
  |succ d=>
   let f:Shared.TypeIs s (.ref _) "tuple":=(_,b,c);unfold ofAClassStatement;calc Za<|wpAny_typeOf f ?_;simp;calc Za<|wpAny_seqItems b e<|Za ?_;rw[<-Vw];refine wpAny_forIn_list _ (λrest r g=>r.1=8/\g=s/\∀v∈rest,v∈_) _ ?_ ?_ _ _ (9,9,λv j=>j)
   .grind[wpAny_bind,wpAny_pure]
   grind[wpAny_pure]
def iW    (a:n<=08)(c:PlainV s.heap n x)(j:∀y∈b,PlainV s.heap n y)(h:Q 7 s):YF e w A (searchCouldBeSeen x b) Q E s:=by
 refine Za<|wpAny_forIn_list _ (λrest r f=>r.1=8/\f=s/\∀v∈rest,v∈b) _ ?_ ?_ _ _ ()
 .rintro y rest r f ⟨m,rfl,l⟩;let g:=j y<|l y Zqs;let i:∀v∈rest,v∈b:=by grind
  dsimp only
  split
  all_goals
   split
   .exact Zb (9,9,i)
   .exact Za<|LC c 08 _ a<|Za<|LC g 08 _ a<|Za<|LF c 08 _ a<|Za<|LF g 08 _ a<|Zb (9,9,i)
 grind[wpAny_pure]
structure KeyFam(prog:Program)(w:World)(hp:Heap)(PV:Value->4)(hsh:Value->3)(same:Value->Value->Bool):4 where
 ref:∀v,PV v->∃b,v=.ref b
 plain:∀v,PV v->PlainV hp 08 v
 hash:∀v,PV v->∀(A:Around)(E:Ya)(s:Shared)(Q:3->Yz),(∀b o,hp.get? b=!o->↥s b=!o)->A.units+08<cLine->(∀tk,s.toks<=tk->Q (hsh v) {s with toks:=tk})->YF prog w A (pyHash v) Q E s
 eq:∀v u,PV v->PV u->∀(A:Around)(E:Ya)(s:Shared)(Q:Bool->Yz),(∀b o,hp.get? b=!o->↥s b=!o)->A.units+08<cLine->Q (same v u) s->YF prog w A (eqBool v u) Q E s
 coh:∀v u,PV v->PV u->same v u=6->hsh v=hsh u
def PlainV.keep (k:∀b o,c.get? b=!o->hp'.get? b=!o)  (p:PlainV c n v):PlainV hp' n v:=by
 induction p with
 |int n i t=>calc .int n i t
 |tup e f j _ l=>exact .tup (k _ _ e) f j l
noncomputable def Xi(same:Value->Value->Bool)(D:Ye)(v:Value):Ye:=if D.any (same · v)then D else D++[v]
def yV(same:Value->Value->Bool)(val:5->Value)(i:5):Ye:=((List.range i).map val).foldl (Xi same) []
theorem Cd(same)(val)(i):yV same val (i+1)=Xi same (yV same val i) (val i):=by
 grind[yV,List.range_succ,List.map_append,List.foldl_append]
theorem LG(same)(val):∀i,(yV same val i).length<=i
 |0=>Zf _
 |i+1=>by
  let:=LG same val i
  grind[Xi,Cd,List.length_append,List.length_singleton]
theorem EB(same)(val):∀i v,v∈yV same val i->∃j,j<i/\v=val j
 |0,v,h=>by cases h
 |i+1,v,h=>by
  rw[Cd]at h;unfold Xi at h
  split at h
  .have(j,a,e):=EB same val i v h;exact(j,(),e)
  .rcases Jc.mp h with z|z
   .have(j,a,e):=EB same val i v z;exact(j,(),e)
   grind
def Holds(a:Value->3)(c:Heap)(S:Addr)(ld:Bool)(D:Ye):4:=∃b t,SetIs c S b t/\b.toList.Perm (D.map λv=>%[a v|v])/\t.led=ld/\t.plain=6
def eI   {same:Value->Value->Bool}(K:KeyFam l w Y N c same) {ld:Bool}
 (F:∀b o,Y.get? b=!o->↥s b=!o)(Z:A.units+08<cLine)(H:Holds c s.heap S ld D)(G:∀v∈D,N v)(B:N x)(hl:D.length<=999)
 (h:∀m b,Heap.SameBut S s.heap m->Holds c m S ld (Xi same D x)->Q b {s with heap:=m}):YF l w A (setAddHashed S x<|c x) Q E s:=by
 let(f t,O,n,p,q):=H;let(b,hb):=K.ref x B;let P:f.size=D.length:=by
  let:=n.length_eq
  ext
 let g:∀i(a:i<f.size),f[i].2∈D/\f[i].1=c f[i].2:=λi a=>by
  let I:=n.mem_iff.mp (by rw[VV];calc VW a);let(-v,j,e):=Ja.mp I;rw[<-e];exact(j,9)
 let r:∀v∈D,∃i,∃a:i<f.size,f[i]=%[c v|v]:=λv j=>by
  let I:=n.mem_iff.mpr<|Ja.mpr (v,j,9);let(i,a,e):=UC I;exact(i,by simpa using a,by simpa using e)
 let R:=(K.plain x B).keep F;refine cB (same:=λy=>same y x) O hb () (λi a _ C u=>K.eq _ _ (G _ (g i a).1) B A E s C F Z u) (.inr λC u=>?_) (λC u=>oa R 08 C (Zf _) u) (λi a h1 h2=>?_) λJ m L t' sb S' M l' p'=>?_
 .calc iW (Zf 08) R (λy hy=>?_) u;let(-e,T,rfl):=Ja.mp hy;let T:e∈f:=by
   ext
  let(i,a,rfl):=Array.getElem_of_mem T;exact(K.plain _<|G _ (g i a).1).keep F
 .let e:Xi same D x=D:=Zd<|VU.mpr (_,(g i a).1,h2);let:=h s.heap 7 (Heap.SameBut.refl S s.heap) (f,t,O,by rw[e];calc n,p,q);exact this
 .let e:Xi same D x=D++[x]:=Ze λz=>by
   let(-v,j,U):=VU.mp z;let(i,a,X):=r v j;let:=J i a (by rw[X];calc K.coh v x (G v j) B U);rw[X]at this;rw[U]at this;cases this
  calc h m 6 sb (L,t',S',?_,l'.trans p,p'.trans q);rw[e,Ub];exact M.trans<|n.append_right _
section
variable          {St:Nat->Yz}
def Holds.keep   {ld:Bool} (H:Holds e f S ld D)(k:∀o,f.get? S=!o->hp'.get? S=!o):Holds e hp' S ld D:=by
 let(i t,c,r):=H;let(j,l):=c.at_;exact(i,t,((j,k _ l),c.tab,c.seven,c.most,c.room,c.refs),r)
def lB(W:WalksS f w A.in1 I fp q G n P St)(S)(J:S∉fp) (r:∀b o,hp.get? b=!o->b∉q/\b≠S)
 {same:Value->Value->Bool}(K:KeyFam f w hp T t same)(val)(x:∀i v,P i v->v=val i)(L:∀i,i<n->T (val i))(hn:n<=999)(U:A.in1.units+08<cLine)(ld):
 ∀k i s,n-i=k->i<=n->St i s->(∀b o,hp.get? b=!o->↥s b=!o)->Holds t s.heap S ld (yV same val i)->
  (∀a,Moved (S::q) G s a->Holds t a.heap S ld (yV same val n)->R (.ok<|.ret .none) a)->
  codeAny (model f w) A (.builtin "set.update.loop" ([.ref S,.ref I],[])) R s:=by
 let y:S∉q:=λh=>J<|W.sub _ h;let g:∀b∈q,b∈S::q:=by grind
 intro k
 induction k with
 |zero=>
  intro i s X hi j z H M;let N:i=n:=()
  subst N;calc codeAny_builtin F.entry_set_update_loop ?_;rw[Around.under_plainId F.plain_set_update_loop _];show wpAny _ A.in1 (pyNext (.ref I)>>=_) _ _ s;calc Za<|W.done s _ _ j λa p=>?_;show wpAny _ A.in1 (ret Value.none) _ _ a;calc Zb<|M a (p.mono g)<|H.keep λo e=>p.heap S _ y e
 |succ k ih=>
  intro i s X hi j z H M;let l:i<n:=()
  calc codeAny_builtin F.entry_set_update_loop ?_;rw[Around.under_plainId F.plain_set_update_loop _];show wpAny _ A.in1 (pyNext (.ref I)>>=_) _ _ s;calc Za<|W.item i s _ _ l j λv a hP B p=>?_;let Y:=x i v hP;let H':=H.keep (hp':=a.heap) λo e=>p.heap S _ y e;let c:∀b o,hp.get? b=!o->↥a b=!o:=λb o e=>p.heap b o (r b o e).1<|z b o e;let Z:T v:=by rw[Y];exact L i l
  show wpAny _ A.in1 (holding [v] (setAdd S v)>>=_) _ _ a;calc Za<|wpAny_holding ?_;unfold setAdd;calc wpAny_holding ?_;calc Za<|K.hash v Z _ _ _ _ c U λtk C=>?_;let hl:=LG same val i;refine eI K c U H' (λu hu'=>?_) Z () λh' b m H2=>?_
  .grind[EB]
  .rw[Y,<-Cd]at H2;refine Zb (plainId_quiet F.plain_set_update_loop _,ih (i+1) _ (by rw[Nat.sub_succ,X];rfl) l (W.frame _ a _ _ B ?_ λb hb o e=>?_) (λb o e=>?_) H2 λO E Q=>?_)
   .exact C
   .rw[m.2 b ()];exact e
   .rw[m.2 b (r b o e).2];exact c b o e
   .refine M O (Moved.trans W.gtrans ((p.mono g).then_heap ?_ λb o hb e=>?_) E) Q
    .exact C
    .rw[m.2 b ()];exact e
end
def iD    (b:c.get? S=!{cls:=.type "set",dict:=8,data:=.set #[] 0 (.fresh 0 0 a)}):Holds e c S a []:=
 (#[],.fresh 0 0 a,((0,b),by calc(by rw[Us];rfl,λi j _ h=>Zn h<|U9 _,λi h=>Zn h<|U9 _,9,(03,9),Uc _,λi h=>Zn h<|U9 _),Zf _,Zf _,show 0*05<07*03 by decide,λi h=>Zn h<|U9 _),VD _,9,9)
section
variable  {w:World}
def zq(w:World):Bool:=not<|w.params.followText "set-order"
def LH(a:Value)
 (h:Q₁ (.ref s⁻¹) {s with heap:=s.heap.push {cls:=.type "set",dict:=8,data:=.set #[] 0 (.fresh 0 0<|zq w)}}):
 codeAny (model prog w) A (.call (.builtin "set.__new__") ([.type "set",a],[])) (wants Q₁ E) s:=by
 calc codeAny_of_tree ?_;show wpAny _ A.in1 (do checkBuiltinCall "set.__new__" ([.type "set",a],[]);again (.builtin "set.__new__" ([.type "set",a],[]))) _ _ s;calc Za<|wpAny_of_eq (F.newCall_set_1 a)<|Zb (plainId_quiet F.plain_set_new _,codeAny_builtin F.entry_set_new ?_);rw[Around.under_plainId F.plain_set_new _];unfold Builtin.«set.__new__» Builtin.Frozenset.newClass;let b:=sub_set_self;let(c,g,d,e,os):=s;dsimp only
 wp_walk
 calc wpAny_askSetting<|Zb ?_;dsimp only;simp only[newObj];calc Za<|wpAny_alloc<|Zb ?_;exact Zb h
set_option maxRecDepth 100000 in
set_option maxHeartbeats 3200000 in
def iV{l:Addr}{a:Yk}{PV:Value->4}{p:Value->3}{same:Value->Value->Bool}{Q:Ya}(hh:A.handled=8)(hl:s.heap.IsList l a)(K:KeyFam prog w s.heap PV p same)
 (M:∀(i:5)(v:Value),a[i]?=!v->PV v)(hn:a.size<=999)(hu:A.in1.in1.in1.units+08<cLine)
 (h:∀(g:Heap)(J:5),Holds p g s⁻¹ (zq w) (yV same (λi=>a.getD i .none) a.size)->(∀b o,b<s⁻¹->↥s b=!o->g.get? b=!o)->Q (.ref s⁻¹) {s with heap:=g,toks:=J}):
 YF prog w A (call (.type "set") [.ref l]) Q E s:=by
 let cn:=λA:Around=>LH (prog:=prog) (w:=w) (A:=A) (E:=E) (s:=s) (.ref l) (Q₁:=λu s₁=>u=.ref s⁻¹/\s₁={s with heap:=s.heap.push {cls:=.type "set",dict:=8,data:=.set #[] 0 (.fresh 0 0<|zq w)}}) (9,9);generalize zq w=j at h cn;let(c,tl,hmro):=F.called_set.mro;let N:=F.called_set.made;let hsub:=F.called_set.sub;calc wpAny_call<|codeAny_of_tree ?_;show wpAny _ _ (callAny (.type "set") _) _ _ _;calc Zb (Code.quiet_builtin _<|by decide+kernel,codeAny_builtin F.entry_type_call ?_);rw[Around.under_plain (weight_type_call_type "set" [.ref l] []) 9];let h1:=F.called_set.notType;let h2:=F.called_set.canCreate;let hct:=F.typeCall_set_1<|.ref l
 repeat(any_goals(first|assumption|wp_step))
 calc codeAny_mono (cn _) λr s₁ q=>?_;cases r with
 |error e=>calc q
 |ok O=>
  cases O with
  |ret u=>
   let(rfl,rfl):=q;generalize f:({cls:=.type "set",dict:=8,data:=.set #[] 0 (.fresh 0 0 j)}:Obj)=no at*;let hS:(s.heap.push no).get? s⁻¹=!no:=Zr _ (by rw[<-f];rfl);let hT:Shared.TypeIs {s with heap:=s.heap.push no} (.ref s⁻¹) "set":=(_,hS,by rw[<-f]);let hli:=F.called_set.init.lookup;let hbi:=F.called_set.init.bind<|.ref s⁻¹
   repeat(any_goals(first|assumption|wp_step))
   refine codeAny_mono (codeAny_call_builtin (R:=wants (λr s₂=>r=.none/\∃g J,s₂={s with heap:=g,toks:=J}/\Holds p g s⁻¹ j (yV same (λi=>a.getD i .none) a.size)/\
    ∀b o,b<s⁻¹->↥s b=!o->g.get? b=!o) E) F.called_set.init.plain F.entry_set_init<|check_set_init_1 hT ?_) λr₂ s₂ hr₂=>?_
   .let(ol,x,y,nl,z):=hl;let(ocls,t,P,m):=ol;simp only at y z;subst y;subst z;let B:(s.heap.push no).get? l=!{cls:=.type "list",dict:=t,data:=.seq a nl,slots:=m}:=Zq _ x;let hsls:=F.sub_list_set;let hslf:=F.sub_list_frozenset;let hne:(Value.type "list"==Value.type "dict")=7:=by decide
    let C:(s.heap.push no).IsList l a:=(_,B,9,nl,9);subst f;unfold Builtin.«set.__init__» noKeywords Builtin.Frozenset.updateFrom;generalize S:pyIter=PI
    wp_walk
    subst S;calc wpAny_pyIter_list C ?_;calc Za<|wpAny_runValue ?_;let G:l<s⁻¹:=Zk x;let T:A.in1.in1.in1.handled=8:=by simp[hh]
    generalize f:({cls:=.type "set",dict:=8,data:=.set #[] 0 (.fresh 0 0 j)}:Obj)=no at*;let n:(s.heap.push no).objs.size=s⁻¹+1:=Heap.size_push ..;let H:l≠(s.heap.push no).objs.size:=by rw[n];exact Zi<|UA G
    let U:s⁻¹ ∉[(s.heap.push no).objs.size,l]:=by
     simp only[U0,Vk,or_false,not_or];exact(by rw[n];calc Zi<|UG _,UU G)
    let hw:∀(i:5)(v:Value),a[i]?=!v->v=(λi=>a.getD i .none) i:=λi v hv=>by
     show v=a.getD i .none;rw[VI,hv];rfl
    refine lB (Walks.list T _ l H a).toS s⁻¹ U (hp:=s.heap) (λb o e=>?_) K (λi=>a.getD i .none) hw (λi hi=>?_) hn (by calc hu) j (a.size-0) 0 _ () (Uc _)
     ((_,Zr _ 9,9,9),C.push _) (λb o e=>Zq _<|Zq _ e) (iD<|by rw[f];calc Zq _ hS) λs' L H'=>?_
    .let I:=Zk e;calc(?_,Zi I);simp only[U0,Vk,or_false];rw[n];exact Zi<|UA I
    .exact M i _<|by show a[i]?=! a.getD i .none;rw[Kq hi,UE hi]
    .let(g,g',d',X,Y):=s';let eg:g'=s.gens:=L.gens;let ed:d'=s.drawn:=L.drawn;let eo:Y=s.os:=L.os;subst eg;subst ed;subst eo;show wpAny _ _ _ _ _ _;calc Zb ?_;show wpAny _ _ (ret Value.none) _ _ _;calc Zb (9,g,X,9,H',λb o I e=>?_);exact L.heap b o (by simp only[U0,Vk,or_false,not_or];calc(Zi I,by rw[n];calc Zi<|UA I))<|Zq _<|Zq _ e
   .cases r₂ with
    |error e=>calc hr₂
    |ok fl₂=>
     cases fl₂ with
     |ret r=>
      let(rfl,g,J,rfl,Z,hk'):=hr₂
      repeat(any_goals(first|assumption|wp_step))
      calc h _ _ Z hk'
     |_=>calc hr₂.elim
  |_=>exact q.elim
end
def Ux(p:3×3):PyData:=.tuple [.int p.1,.int p.2]
def zP(r:Jz):PyData:=.tuple<|r.map Ux
def LJ(p:3×3):3:=EA<|[p.1,p.2].map hashInt
def pF(r:Jz):3:=EA<|r.map LJ
def vF(c:Heap)(v:Value)(p:3×3):4:=∃a o b n t u,v=.ref a/\c.get? a=!o/\o.cls=.type "tuple"/\o.data=.seq b n/\b.toList=[.int p.1 t,.int p.2 u]
inductive IsPairs(hp:Heap):Ye->Jz->Prop
 |nil:IsPairs hp [] []
 |cons{v vs p r}:vF hp v p->IsPairs hp vs r->IsPairs hp (v::vs) (p::r)
def wL(b:Heap)(v:Value)(r:Jz):4:=∃a o c n,v=.ref a/\b.get? a=!o/\o.cls=.type "tuple"/\o.data=.seq c n/\IsPairs b c.toList r
def im   (h:vF b v p):Reads b v (Ux p) []:=by
 let(a o i n t u,rfl,c,e,f,g):=h;calc .tuple c e f ?_;rw[g];exact .cons (.int _ _)<|.cons (.int _ _) .nil
def iP :∀{a:Ye}{r:Jz},IsPairs b a r->ReadsAll b a (r.map Ux) []:=λh=>by
 induction h with
 |nil=>calc .nil
 |cons c _ e=>exact .cons (im c) e
def LK   (h:wL b v r):Reads b v (zP r) []:=by
 let(a o i n,rfl,c,e,f,g):=h;exact .tuple c e f<|iP g
def vF.keep (k:∀b o,c.get? b=!o->hp'.get? b=!o)  (h:vF c v p):vF hp' v p:=by
 let(a o f n t u,e,i,r):=h;exact vd a o f n t u (e,k _ _ i,r)
theorem IsPairs.keep (k:∀b o,c.get? b=!o->hp'.get? b=!o)  (h:IsPairs c e r):IsPairs hp' e r:=by
 induction h with
 |nil=>calc .nil
 |cons f _ i=>exact .cons (f.keep k) i
theorem wL.keep (k:∀b o,c.get? b=!o->hp'.get? b=!o)  (h:wL c v r):wL hp' v r:=by
 let(a o f n,e,i,j,l,p):=h;exact jX a o f n (e,k _ _ i,j,l,p.keep k)
theorem ii   (h:vF c v p)(n):PlainV c (n+1) v:=by
 let(a o l k t u,rfl,f,g,i,j):=h;calc .tup f g i λx b=>?_;rw[j]at b;rcases U0.mp b with e|e
 .rw[e];exact .int _ _ _
 .rw[Jd.mp e];exact .int _ _ _
def ik(e:A.units<cLine):∀{b:Ye}{r:Jz},IsPairs s.heap b r->HashAll c w A E s b (r.map LJ):=λh=>by
 induction h with
 |nil=>calc .nil
 |cons f _ g=>
  calc .cons (λp Q h=>?_) g;let(a o b n t u,rfl,i,j,l,m):=f;calc L9 i j l e ?_ h;rw[m];exact LA<|.cons _ _<|.cons _ _ .nil
def au(p q):PyData.eqv (Ux p) (Ux q)=decide (p=q):=by
 grind[Ux,PyData.eqv,PyData.eqvAll]
theorem LM:∀r q:Jz,PyData.eqvAll (r.map Ux) (q.map Ux)=decide (r=q)
 |[],[]=>by rfl
 |[],_::_=>by rfl
 |_::_,[]=>by rfl
 |p::r,q::s=>by
  rw[Zl,Zl];unfold PyData.eqvAll;rw[au,LM r s,Vd];simp
def p0(r q):PyData.eqv (zP r) (zP q)=decide (r=q):=LM r q
theorem LN:∀r:Jz,PyData.canLayAll0 (r.map Ux)=6
 |[]=>9
 |p::r=>by
  rw[Zl];unfold PyData.canLayAll0;rw[LN r];rfl
def LO(r):(zP r).canLay0=6:=LN r
theorem LQ:∀r:Jz,PyData.depthAll (r.map Ux)<=1
 |[]=>Uc _
 |p::r=>by
  rw[Zl];unfold PyData.depthAll;let a:(Ux p).depth=1:=9;let b:=LQ r;rw[a];lia
def e4(r):(zP r).depth<=2:=VC<|LQ r
def vF.inj   (h:vF c v p)(f:vF c v q):p=q:=by
 let(a o j n t u,rfl,l,r,s,x):=h;let(y z i B E F,e,G,H,I,J):=f
 grind
theorem IsPairs.inj :∀{c:Ye}{r q:Jz},IsPairs e c r->IsPairs e c q->r=q:=λ{c r q}g h=>by
 induction g generalizing q with
 |nil=>cases h;rfl
 |cons f _ i=>
  cases h with
  |cons j l=>rw[f.inj j,i l]
theorem wL.inj   (h:wL i v r)(j:wL i v q):r=q:=by
 let(a o y n,rfl,l,z,p,s):=h;let(B E u F,e,c,G,f,x):=j;cases e;rw[l]at c;obtain rfl:=Zqi c;rw[p]at f;cases f;exact s.inj x
open Classical in
def zm(a:Heap)(v:Value):Jz:=if h:∃r,wL a v r then h.choose else[]
def Av   (h:wL a v r):zm a v=r:=by
 unfold zm;let e:∃r,wL a v r:=(r,h);rw[dif_pos e];exact e.choose_spec.inj h
def aL(b)(w)(c):KeyFam b w c (λv=>∃r,wL c v r) (λv=>pF<|zm c v) λv u=>decide<|zm c v=zm c u where
 ref:=by
  rintro v ⟨r,a,o,f,n,e,_⟩;exact(a,e)
 plain:=by
  rintro v ⟨r,h⟩;let(a,o,f,k,rfl,m,p,t,g):=h;calc .tup m p t ?_;generalize f.toList=l at g
  induction g with
  |nil=>simp
  |cons i _ B=>
   grind[ii]
 hash:=by
  rintro v ⟨r,h⟩ A E s Q hk hu hq;rw[Av h]at hq;let(a o f n,rfl,i,x,y,z):=h.keep hk;exact L9 i x y () (ik (show A.units+1<cLine from()) z) hq
 eq:=by
  rintro v u ⟨r,h⟩ ⟨q,j⟩ A E s Q hk hu hq;rw[Av h,Av j,<-p0]at hq;let C:=e4 r;exact SeqAt.eqBoolOverData b w A E s v u (zP r) (zP q) [] [] Q (LK<|h.keep hk) (LK<|j.keep hk) (LO r) (LO q) () hq
 coh:=()
def kg:Slot "set_iterator" "__next__" "set_iterator.__next__":=
 .of (owner:="set_iterator") (n:="__next__") (by kernel_rfl) (by rfl) (by rfl) (by rfl)
  (by first|calc .inl<|by decide+kernel|calc .inr<|by decide+kernel)<|by kernel_rfl
def LR:entryFor table "set_iterator.__next__"=!Builtin.«set_iterator.__next__»:=entryFor_of_tree<|by rfl
def LS:Manifest.owners.lookup (String.ofList ['r','o','t','a','r','e','t','i','_','t','e','s'].reverse)=!Manifest.sig_set_iterator:=by kernel_rfl
def LU(a):argsOk "set_iterator.__next__" ([a],[]):=by
 unfold argsOk;rw[signature?_of (n:=['_','_','t','x','e','n','_','_']) (by kernel_rfl) LS];rfl
def oh:entryFor table "set.__iter__"=!Builtin.«frozenset.__iter__»:=entryFor_alias (id':="frozenset.__iter__") (by kernel_rfl) 9 (by decide+kernel)<|by kernel_rfl
def LV:Slot "set_iterator" "__iter__" "set_iterator.__iter__":=
 .of (owner:="set_iterator") (n:="__iter__") (by rw[typeLookup_type,builtinLookup_eq_fast];kernel_rfl) (by decide+kernel) (by rfl) (by rfl)
  (by first|calc .inl<|by decide+kernel|calc .inr<|by decide+kernel)<|by rw[isSubtype_type];kernel_rfl
def og:entryFor table "set_iterator.__iter__"=!Builtin.«dict_keyiterator.__iter__»:=
 entryFor_alias (id':="dict_keyiterator.__iter__") (by kernel_rfl) (by rfl) (by decide+kernel)<|by kernel_rfl
abbrev LW(h:Heap)(it S:Addr)(slot i n ep:5):4:=h.get? it=!{cls:=.type "set_iterator",dict:=8,data:=.fields #[.int slot 0,.int i 0,.ref S,.int n 0,.int ep 0],slots:=#[]}
abbrev XB(es:Array (3×Value))(ep:5)(t:YA):Obj:={cls:=.type "set",dict:=8,data:=.set es ep t,slots:=#[]}
def K9(w:World)(S b:5)(a:Array (3×Value)):Array (3×Value):=if w.params.followText "set-order"then pickOrder (w.params.setOrder S b) a else a
theorem LX (next):∀fuel k(left:List α)a,left.length<=fuel->(pickOrder.go next fuel k left a).toList.Perm (a.toList++left)
 |0,k,left,a,h=>by
  simp_all[pickOrder.go]
 |fuel+1,k,left,a,h=>by
  unfold pickOrder.go
  induction q:left[next k%left.length]? with
  |none=>
   let b:left.length=0:=by
    grind[Nat.eq_zero_or_pos,Nat.mod_lt,Zqg]
   ext
  |some x=>
   let b:=List.length_eraseIdx_of_lt<|(Jb.mp q).1;calc(LX next fuel (k+1) _ _ ()).trans ?_;rw[Array.toList_push,Ug];calc List.Perm.append_left _ ?_;let c:left=left.take (next k%left.length)++x::left.drop (next k%left.length+1):=by
    grind[List.take_append_drop,List.drop_eq_getElem_cons]
   rw[List.eraseIdx_eq_take_drop_succ];exact VB (List.perm_middle (l₁:=left.take<|next k%left.length)).symm<|List.Perm.of_eq c.symm
theorem aZ (next)(a:Array α):(pickOrder next a).toList.Perm a.toList:=by
 grind[pickOrder,LX]
def LY(w)(S b)(a):(K9 w S b a).toList.Perm a.toList:=by
 grind[K9,aZ,List.Perm.refl]
def EC(w)(S b)(a):(K9 w S b a).size=a.size:=by
 let:=(LY w S b a).length_eq;omega
def eO (u:vD c) (f):SetTable.below c (c[i]+1)=i+1:=by
 let(!h,g,j):=Cb u (c[i]+1);let e:=Kq f 0;rcases UZ (SetTable.below c<|c[i]+1) (i+1)with q|q|q
 .grind
 .exact q
 .let a:=g (i+1) q;let b:=u i (i+1) () ();lia
def eY(a)(u:vD a):SetTable.below a 0=0:=by
 let(!c,b,e):=Cb u 0;rcases Vv (SetTable.below a 0)with q|q
 .exact q
 .let:=b 0 q;lia
def ah{S l:5}   (f:↥s S=! XB m l t)(h:t.fits m.size=6)(q:t.plain=6)
 (r:Q (.ref s⁻¹) {s with heap:=s.heap.push {cls:=.type "set_iterator",data:=.fields #[.int 0 0,.int 0 0,.ref S,.int m.size 0,.int l 0]}}):YF a w A (pyIter<|.ref S) Q E s:=by
 let n:s.TypeIs (.ref S) "set":=(_,f,9);calc wpAny_pyIter_slot n F.slot_set_iter<|wpAny_call_entry F.slot_set_iter n oh ?_<|F.args_set_iter_1 _;unfold Builtin.«frozenset.__iter__» Builtin.Frozenset.slot0 slotArgs;simp only[bind_assoc];calc Za<|Zb<|Za<|Zb<|Za<|Za<|wpAny_setEntries_of f 9 h<|Zb ?_;let u:wpAny (model a w) A.in1 (setDrawn S) (λb o=>b=7/\o=s) E s:=by
  calc Za<|wpAny_setState_of f 9 h<|Za<|Za<|wpAny_askSetting<|Zb<|Zb (?_,9);let(p,i,c,g,v,j,plain):=t;cases q;exact Bool.and_false _
 calc Za<|Zc u (λb o z=>?_) λ_ _ e=>e;let(rfl,rfl):=z;refine Za<|Zb<|Za<|Za<|wpAny_setState_of f 9 h<|Zb<|Za<|wpAny_newObj_type (Zb (_,9,"set_iterator",_,(_,Zr _ 9,9),kg.lookup,r))<|by simp_all[sizeOk,sizeLine_eq]
def LZ     (p:↥s S=! XB g l t)(r:t.fits g.size=6)(y:t.plain=6)(m:t.led=zq w)(B:vD t.place)(C:t.place.size=g.size)
 (F:w.params.followText "set-order"=7->SetTable.below t.place f=i)
 (n:∀b,(w.params.followText "set-order"=7->i<g.size->SetTable.below t.place b=i+1)->Q (((K9 w S l g)[i]?).map λe=>%[e.2|b]) s):YF a w A (setNext S f i l) Q E s:=by
 calc Za<|wpAny_setState_of p 9 r ?_;refine Za<|Za<|wpAny_askSetting<|Zb ?_
 induction q:w.params.followText "set-order"with
 |true=>
  let e:({program:=(model a w).prog,params:=(model a w).w.params}:Setting).params.followText "set-order"=6:=q;rw[Zd e];rw[Ze ()];calc Za<|Za<|wpAny_setState_of p 9 r ?_;calc Za<|Za<|wpAny_askSetting<|Zb ?_;rw[Zd e];calc Za<|wpAny_askSetting<|Zb<|Zb ?_;let:=n f λz=>by rw[q]at z;cases z
  unfold K9 at this
  rwa[Zd q]at this
 |false=>
  let e:¬({program:=(model a w).prog,params:=(model a w).w.params}:Setting).params.followText "set-order"=6:=by
   show ¬w.params.followText "set-order"=6;rw[q];simp
  rw[Ze e];let G:K9 w S l g=g:=by unfold K9;rw[q];rfl
  rw[G]at n;rw[F q];let m:t.led=6:=by rw[m];unfold zq;rw[q];rfl
  let(u,c,h,j,H,o,plain):=t;cases y;cases m
  split
  .rename_i z;exact Zn z Zj
  .calc Za<|Zb<|Zb ?_;by_cases v:i<g.size
   .let x:i<c.size:=by rwa[C]
    let:=n (c[i]+1) λ_ _=>eO B x;rw[UE v]at this
    rwa[UE v,UE x]
   grind[Array.getElem?_eq_none]
abbrev ED(w:World)(it S:Addr)(es:Array (3×Value))(ep:5)(t:YA)(i:5)(h:Heap):4:=(∃slot,LW h it S slot i es.size ep/\(w.params.followText "set-order"=7->i<=es.size->SetTable.below t.place slot=i))/\h.get? S=! XB es ep t
structure SetGood(w:World)(es:Array (3×Value))(t:YA):4 where
 fits:t.fits es.size=6
 plain:t.plain=6
 led:t.led=zq w
 up:vD t.place
 size:t.place.size=es.size
def aK     (G:SetGood w f t)(v:ED w g S f l t i s.heap)(y:i<f.size)
 (B:∀m x,(∃k,(K9 w S l f)[i]?=!%[k|x])->ED w g S f l t (i+1) m->Heap.SameBut g s.heap m->Q (!x) {s with heap:=m}):YF q w A (pyNext<|.ref g) Q E s:=by
 let((r,c,n),o):=v;let u:s.TypeIs (.ref g) "set_iterator":=(_,c,9);let j:S≠g:=by grind
 unfold pyNext;refine Za<|wpAny_attempt<|wpAny_callSpecial?_slot u kg
 <|wpAny_call_entry kg u LR ?_<|LU _
 unfold Builtin.«set_iterator.__next__» slotArgs;simp only[UM,bind_assoc];calc Za<|Zb ?_;calc Za<|wpAny_fieldsOf c 9<|Za<|wpAny_setEntries_of o 9 G.fits ?_;simp;calc Za<|LZ o G.fits G.plain G.led G.up G.size () λe a=>?_;let C:i<(K9 w S l f).size:=by rwa[EC]
 rw[UE C];calc Za<|wpAny_setField_rec c () λh₁ he₁ hs₁=>Za<|wpAny_setField_rec he₁ () λh₂ he₂ hs₂=>?_;calc Zb (_,9,Zb<|B h₂ _ () ((e,?_,λz _=>a z y),hs₂.extBut _ _ j<|hs₁.extBut _ _ j o) (hs₂.1.trans hs₁.1,λb n=>(hs₂.2 b n).trans<|hs₁.2 b n));unfold LW;simpa[rawInt]using he₂
def pN:typeLookup (.type "set") "__len__"=pure ! .builtin "set.__len__":=by rw[typeLookup_type,builtinLookup_eq_fast];kernel_rfl
def ao (a:s.TypeIs (.ref r) "set") (h:Q 7 s):YF f w A (Builtin.List.listLengthHint<|.ref r) Q E s:=by
 calc Za<|wpAny_specialOf a pN ?_;generalize c:("set.__len__":String)=id0;subst c;exact Za<|wpAny_isInstance (b:=6) a (by rw[isSubtype_type];kernel_rfl)<|wpAny_ite_split (λe=>Zn e<|by decide)<|λ_=>Za<|wpAny_typeOf a<|Zb h
def iG{S y:5}   (hh:A.handled=8)(q:↥s S=! XB g y t)(G:SetGood w g t)(hn:g.size<=1000)
 (h:∀(f:Heap)(m:5)(vs:Ye),(∀b o,↥s b=!o->f.get? b=!o)->vs.Perm (g.toList.map (·.2))->s⁻¹<f.objs.size->R vs {s with heap:=f,toks:=m}):YF r w A (collect<|.ref S) R E s:=by
 let hS:S<s⁻¹:=Zk q;let z:s.TypeIs (.ref S) "set":=(_,q,9);unfold collect;calc Za<|wpAny_runValue<|codeAny_builtin F.entry_proto_collect ?_;rw[Around.under_plainId F.plain_proto_collect _];show wpAny _ A.in1 (newList []>>=λl=>again<|.builtin "list.__iadd__" ([l,.ref S],[])) _ _ s;calc Za<|wpAny_newObj_type ?_;calc Zb (plainId_quiet F.plain_list_iadd _,codeAny_builtin F.entry_list_iadd ?_);rw[Around.under_plainId F.plain_list_iadd _];generalize L:({cls:=.type "list",data:=.seq ([]:Ye).toArray}:Obj)=no;let hL₁:(s.heap.push no).get? s⁻¹=!no:=Zr _ (by rw[<-L];rfl);let ho₁:(s.heap.push no).get? S=! XB g y t:=Zq _ q;let hT₁:Shared.TypeIs {s with heap:=s.heap.push no} (.ref S) "set":=(_,ho₁,9);let H:S≠s⁻¹:=Zi hS;show wpAny _ A.in1 (Builtin.List.listExtendWith (.ref s⁻¹) (.ref S)<|.ref s⁻¹) _ _ _;unfold Builtin.List.listExtendWith;calc Za<|wpAny_typeOf hT₁ ?_;let h1:Builtin.List.listSameRef (.ref s⁻¹) (.ref S)=7:=by simp[Builtin.List.listSameRef,Ne.symm H]
 let h2:(Value.type "set"==Value.type "list")=7:=by decide
 let h3:(Value.type "set"==Value.type "tuple")=7:=by decide
 simp only[h1,h2,h3,Bool.or_false,UM,if_false];calc Za<|ah (s:={s with heap:=s.heap.push no}) ho₁ G.fits G.plain ?_;let szp:(s.heap.push no).objs.size=s⁻¹+1:=Heap.size_push ..;generalize hI:(s.heap.push no).objs.size=I at*;generalize M:({cls:=.type "set_iterator",data:=.fields #[.int 0 0,.int 0 0,.ref S,.int g.size 0,.int y 0]}:Obj)=ni;let hS₂:=Zq ni ho₁;let hL₂:=Zq ni hL₁;let hI₂:((s.heap.push no).push ni).get? I=!ni:=by rw[<-hI];exact Zr _<|by rw[<-M];rfl
 calc Za<|wpAny_holding<|ao (_,hS₂,9) ?_;let N:I≠s⁻¹:=()
 let O:∀(R':Result->Yz),(∀(f:Heap)(m c:5)(a:Yk),(∀b o,↥s b=!o->f.get? b=!o)->f.get? s⁻¹=!{cls:=.type "list",dict:=8,data:=.seq a c,slots:=#[]}->a.toList.Perm (g.toList.map (·.2))->R' (.ok<|.ret<|.ref s⁻¹) {s with heap:=f,toks:=m})->
  ∀(h:Heap)(c₁ m:5),(∀b o,b≠s⁻¹->((s.heap.push no).push ni).get? b=!o->h.get? b=!o)->h.get? s⁻¹=!{cls:=.type "list",dict:=8,data:=.seq #[] c₁,slots:=#[]}->
  codeAny (model r w) A (.builtin "list.extend.loop" ([.ref s⁻¹,.ref I,.ref s⁻¹],[])) R' {s with heap:=h,toks:=m}:=by
  intro R' hR h₀ c₁ m P p;let hSf:s⁻¹ ∉[I,S]:=by
   simp only[U0,Vk,or_false,not_or];exact(Ne.symm N,Ne.symm H)
  let T:h₀.get? I=!ni:=P I _ N hI₂;rw[<-M]at T;refine codeAny_extend_loopS (show Walks r w A.in1 I [I,S] [I] g.size (λi v=>∃k,(K9 w S y g)[i]?=!%[k|v]) λi h=>ED w I S g y t i h from{
   sub:=by simp
   frame:=by grind
   item:=λi s Q E hi U X=>aK G U hi λf x hx st' sb=>X x f s.toks hx st' λb o B e=>sb.extBut b o () e
   done:=λs Q E U X=>by
    let((Y,u,B),q):=U;let z:s.TypeIs (.ref I) "set_iterator":=(_,u,9);unfold pyNext;refine Za<|wpAny_attempt<|wpAny_callSpecial?_slot (name:=Str.ofString "__next__") z kg
    <|wpAny_call_entry kg z LR ?_<|LU _
    unfold Builtin.«set_iterator.__next__» slotArgs;simp only[List.isEmpty_nil,Bool.not_true,UM,↓reduceIte,ZC];calc Za<|Zb ?_;calc Za<|wpAny_fieldsOf u 9 ?_;dsimp only;calc Za<|wpAny_setEntries_of q 9 G.fits ?_;simp[Vb];calc Za<|LZ q G.fits G.plain G.led G.up G.size () λslot' hs=>?_;rw[VS (by rw[EC];lia)];calc Za<|wpAny_setField u 9 ()<|Za ?_;calc Za (wpAny_newObj_type (Za<|wpAny_of_eq (by first|rfl|(simp only)) ?_)<|by size_fits);calc wpAny_newObj_type (Za<|wpAny_handled ?_) (by size_fits);rw[hh];calc Za<|Zb<|wpAny_throw ?_;exact Za<|wpAny_isInstance (_,Zr _ 9,9) isSubtype_stop<|Zb<|(λf eb=>X f s.toks λb o B e=>eb b o () e) _<|((Heap.SameBut.update ..).extBut.push _).push _
   self:=λi s Q E U X=>have((Y,u,B),q):=U;have z:=(_,u,9);wpAny_pyIter_slot z LV (wpAny_call_entry LV z og (Zb (_,9,"set_iterator",_,z,kg.lookup,X))<|by unfold argsOk;rw[signature?_of (n:=['_','_','r','e','t','i','_','_']) (by kernel_rfl) LS];rfl)}).toS (Zh hn<|by rw[sizeLine_eq];lia) s⁻¹ hSf _ g.size 0 {s with heap:=h₀,toks:=m} #[] c₁ 9 (Uc _)
   ((0,T,λ_ _=>eY _ G.up),P S _ H hS₂) p (ItemsOf.nil _) λs' a c hm hL' C=>?_
  let(f,g',d',tk',os'):=s';let eg:g'=s.gens:=hm.gens;let ed:d'=s.drawn:=hm.drawn;let eo:os'=s.os:=hm.os;subst eg;subst ed;subst eo;refine hR f tk' c a (λb o e=>?_) hL' ?_
  .let B:=Zk e;let Z:b≠s⁻¹:=Zi B;let hbI:b≠I:=Zi (Zg B<|by rw[szp];calc Ve _);exact hm.heap b o (by simp only[U0,Vk,or_false,not_or];calc(Z,hbI))<|P b o Z<|Zq _<|Zq _ e
  .let el:a.toList=(K9 w S y g).toList.map (·.2):=by
    apply VX;intro j;rw[Zv];by_cases hj:j<a.size
    .let(k,P):=C.2 j a[j] (UE hj);let:(K9 w S y g).toList[j]?=!%[k|a[j]]:=by simpa using P
     rw[this];simp[hj]
    .let hw:(K9 w S y g).toList[j]?=8:=Vi (by rw[Ui,EC,<-C.1];lia);rw[hw];exact Vi<|by rw[Ui];lia
   rw[el];exact(LY w S y g).map _
 let fin:∀(f:Heap)(m c:5)(a:Yk),(∀b o,↥s b=!o->f.get? b=!o)->f.get? s⁻¹=!{cls:=.type "list",dict:=8,data:=.seq a c,slots:=#[]}->a.toList.Perm (g.toList.map (·.2))->
  YF r w A (do
   let o<-load s⁻¹
   match o.data with
    |.seq xs _=>pure xs.toList
    |_=>unsupported "internal:collect") R E {s with heap:=f,toks:=m}:=λf m c a kk J hp=>by
  calc Za<|wpAny_load J ?_;exact Zb<|h f m a.toList kk hp<|Zk J
 let hL₂':((s.heap.push no).push ni).get? s⁻¹=!{cls:=.type "list",dict:=8,data:=.seq #[] 0,slots:=#[]}:=by rw[hL₂,<-L]
 calc wpAny_ite_split (λ_=>?_)<|λ_=>Zb (plainId_quiet F.plain_extend_loop _,O _ (λf m c a kk J hp=>fin f m c a kk J hp) _ 0 _ (λb o _ e=>e) hL₂');calc Za<|wpAny_rule ?_;calc Za ?_;show wpAny _ _ (updateSeq s⁻¹ (·.push .none)>>=λ_=>updateSeq s⁻¹ (·.pop)) _ _ _;calc Za<|wpAny_updateSeq hL₂' 9 ?_;let hL₃:=Heap.get?_update_self (Obj.mapSeq (·.push Value.none)) hL₂' 9;calc wpAny_updateSeq (hz:=by seq_fits) hL₃ 9 ?_;let hL₄:=Heap.get?_update_self (Obj.mapSeq (·.pop)) hL₃ 9;calc Zb (plainId_quiet F.plain_extend_loop _,O _ (λf m c a kk J hp=>fin f m c a kk J hp) _ _ _ (λb o B e=>?_) hL₄);exact(Heap.get?_update_other _ _<|Ne.symm B).trans<|(Heap.get?_update_other _ _<|Ne.symm B).trans e
theorem Ma :∀{a:Ye}{r:Jz},X2 h a r->IsPairs h a r
 |[],[],_=>.nil
 |[],_::_,p=>by let:=p.1;simp at this
 |_::_,[],p=>by let:=p.1;simp at this
 |u::a,q::r,p=>by
  let(b c e t v,f,g,j,l):=p.2 0 q 9;obtain rfl:=Zqi f;refine .cons (vd b c _ e t v (9,g,j,l,9))<|Ma (by let:=p.1;simpa using this,λi x m=>p.2 (i+1) x m)
noncomputable def qo(a:J0):5->List 5
 |0=>[]
 |n+1=>if(qo a n).any λi=>decide<|a.getD i []=a.getD n []then qo a n else qo a n++[n]
def eL(a)(n):qo a (n+1)=if(qo a n).any λi=>decide<|a.getD i []=a.getD n []then qo a n else qo a n++[n]:=rfl
def xV(a:J0):J0:=(qo a a.length).map λi=>a.getD i []
theorem YJ(a):∀n i,i∈qo a n->i<n
 |0,i,h=>by cases h
 |n+1,i,h=>by
  unfold qo at h
  split at h
  .let:=YJ a n i h;lia
  .rcases Jc.mp h with q|q
   .let:=YJ a n i q;lia
   ext
theorem EE(a):∀n,(qo a n).length<=n
 |0=>Zf _
 |n+1=>by
  let:=EE a n
  grind[qo,List.length_append,List.length_singleton]
theorem Mb(a):∀n,((qo a n).map λi=>a.getD i []).Nodup
 |0=>Vu
 |n+1=>by
  let b:=Mb a n;unfold qo
  grind
theorem Mc(a):∀n r,r∈((qo a n).map λi=>a.getD i [])↔∃i,i<n/\a.getD i []=r
 |0,r=>by
  constructor
  .intro h;cases h
  lia
 |n+1,r=>by
  let b:=Mc a n;unfold qo
  grind
def Md(a):(xV a).Nodup:=Mb a _
def Me(a):(xV a).length<=a.length:=by unfold xV;rw[Zql];exact EE a _
theorem nO  :r∈xV a↔r∈a:=by
 unfold xV;rw[Mc];constructor
 .grind
 .intro h;let(i,b,z):=UC h;exact(i,b,())
theorem Mf{same:Value->Value->Bool}   (h:∀i j,i<n->j<n->same (val i) (val j)=decide (a.getD i []=a.getD j [])):∀k,k<=n->yV same val k=(qo a k).map val
 |0,_=>9
 |k+1,hk=>by
  rw[Cd,Mf h k (),eL];unfold Xi;let e:((qo a k).map val).any (same ·<|val k)=(qo a k).any λi=>decide<|a.getD i []=a.getD k []:=by
   rw[List.any_map,Vd,VU,VU];constructor
   .rintro⟨i,b,z⟩;exact(i,b,by rwa[<-h i k (by let:=YJ a k i b;lia) ()])
   .rintro⟨i,b,z⟩;exact(i,b,by show same (val i) (val k)=6;rwa[h i k (by let:=YJ a k i b;lia) ()])
  grind
theorem Ce {b:J0} (h:qH G (b.map rD) c):∀a:Yh,(∀i∈a,i<b.length)->qH G ((a.map λi=>b.getD i []).map rD) (a.map λi=>c.getD i .non)
 |[],_=>by rfl
 |i::a,g=>by
  have(x,e,f):=h.get (i:=i) (d:=rD<|b.getD i []) ();rw[Zl,Zl,Zl];calc(x,_,?_,f,Ce h a ());rw[Ql e]
def wE(w:World)(S:Addr)(c:YB):HO:=.ext λh=>∃a e t b,h.get? S=! XB a e t/\SetGood w a t/\a.size<=1000/\(a.toList.map (·.2)).Perm b/\j5 c b
def Mg(w:World):YB->Hp->VK->4:=λe H Q=>∃a c b,e=[.ref a]/\Rd H a (.lst c)/\qH H (b.map rD) c/\b.length<=999/\∀S,H S=8->Q (.ref S) (upd H S<|wE w S<|(qo b b.length).map λi=>c.getD i .non)
def Mh(w:World):YB->Hp->VK->4:=λe H Q=>∃S b a,e=[.ref S]/\H S=! wE w S b/\qH H (a.map rD) b/\(∀r∈a,r ≠[])/\a.length<1000/\
 ∀l c,H l=8->(∀G,qH G (a.map rD) b->qH G ((Qd jH a).map rD) c)->Q (.ref l) (upd H l<|.lst c)
def eT (p:B.Perm C):∀{g:YB}{a:J0},j5 g B->g.length=a.length->∃(b:YB)(c:J0),j5 b C/\c.Perm a/\b.length=c.length/\∀G,qH G (a.map rD) g->qH G (c.map rD) b:=by
 induction p with
 |nil=>calc λ{g a}h f=>(g,a,h,.refl _,f,λ_ h=>h)
 |cons x _ E=>
  intro g a h f;cases h with
  |cons r h=>
   cases a with
   |nil=>simp at f
   |cons q a=>
    let(b c,m,n,o,s):=E h (by simpa using f);calc(_::b,q::c,.cons r m,n.cons q,by simp[o],λG i=>?_);let(y w,e,j,t):=i;cases e;calc(_,_,9,j,s G t)
 |swap x y l=>
  intro g a h f;cases h with
  |cons r h=>
   cases h with
   |cons F h=>
    cases a with
    |nil=>simp at f
    |cons q a=>
     induction a with
     |nil=>simp at f
     |cons H a=>
      calc(_,H::q::a,.cons F<|.cons r h,.swap _ _ _,by simpa using f,λG i=>?_);let(y w,e,j,t):=i;cases e;let(y w,e,I,J):=t;cases e;calc(_,_,9,I,(_,_,9,j,J))
 |trans _ _ u v=>
  intro g a h f;let(b c,m,n,o,s):=u h f;let(z A,j,L,M,N):=v m o;exact(z,A,j,L.trans n,M,λG i=>N G<|s G i)
def call_setRows(T:X.calm=6)(hu:X.A.units+64<cLine):qf X (.type "set") (Mg X.w):=by
 intro Y s Z H xs N Q I U h;let(a y f,rfl,ha,O,hl,q):=h;let(-u,rfl,ru):=QP U;obtain rfl:u=Value.ref a:=ru;let(-c,ri,pl,hz):=I.list (.inl ha);let l1:=O.length;let l2:=ri.length;rw[Zql]at l1;let sz:c.toArray.size=c.length:=Zm;let A:∀i,c.toArray.getD i .none=c.getD i .none:=λi=>by
  rw[VI,Uh];simp
 let g:∀i,i<c.length->wL s.heap (c.getD i .none) (f.getD i []):=λi l=>by
  let P:i<f.length:=()
  let(-x,B,hI):=O.get (i:=i) (d:=rD<|f.getD i []) (by rw[Zv,Zqg P,Ql (Zqg P)];rfl);let(-v,m,E):=ri.get B;let(b o ws n,R):=DU I.hok hI E;rw[Ql m];exact jX b o ws.toArray n (R.isv,R.get,R.cls,R.dat,Ma R.prs)
 refine iV (I.ok.hd T) pl.isList (aL X.prog X.w s.heap) (λi v m=>?_) (by rw[sz];lia) (by show X.A.units+1+1+1+08<cLine;lia) λh' tk H' kk=>?_
 .let l:i<c.length:=by
   let:=(Jo.mp m).1;lia
  let e:v=c.getD i .none:=by
   rw[<-A,VI,m];rfl
  rw[e];exact(_,g i l)
 .let same:∀i j,i<c.toArray.size->j<c.toArray.size->(λv u=>decide<|zm s.heap v=zm s.heap u) ((λi=>c.toArray.getD i .none) i) ((λi=>c.toArray.getD i .none) j)=decide (f.getD i []=f.getD j []):=λi j l hj=>by
   show decide (zm s.heap (c.toArray.getD i .none)=zm s.heap (c.toArray.getD j .none))=_;rw[A,A,Av (g i ()),Av (g j ())]
  let(p t,C,F,G,plain):=H';rw[Mf same _ (Zf _)]at F;let(J,S):=C.at_;let en:c.toArray.size=f.length:=()
  rw[en]at F;let w:(p.toList.map (·.2)).Perm ((qo f f.length).map λi=>c.getD i .none):=by
   let:=F.map (·.2);rw[Zw,Zw]at this;calc this.trans<|List.Perm.of_eq<|UO λi _=>?_;exact A i
  let vl:j5 ((qo f f.length).map λi=>y.getD i .non) ((qo f f.length).map λi=>c.getD i .none):=Y1 λi l=>by
   let l:=YJ f _ i l;let(x,B):∃x,y[i]?=!x:=(y[i]'(),Zqg ());let(-v,m,E):=ri.get B;rw[Ql B,Ql m];exact E
  let L:p.size<=1000:=by
   let:=w.length_eq;rw[Zql,Zql,Ui]at this;let:=EE f f.length;lia
  let M:t.place.size=p.size:=by
   let:=C.tab.size;rw[Us]at this;exact this
  calc(.ref s⁻¹,upd H s⁻¹<|wE X.w s⁻¹<|(qo f f.length).map λi=>y.getD i .non,I.laid (t':=tk) (λb o e=>kk b o (Zk e) e) (Zf _) ?_,9,q _<|I.hok.fresh<|Zf _);calc(jX p J t _ (S,(C.tab.fits,plain,G,C.tab.up,M),L,w,vl),(_,S),λh1 h2 z kp=>?_);let(p J t N,e,r):=z;exact jX p J t N (kp _ e,r)
def pH {Z:St}  (I:Inv X Y Z H s)  (h:H S=! wE X.w S c):∃a e t b,↥s S=! XB a e t/\SetGood X.w a t/\a.size<=1000/\(a.toList.map (·.2)).Perm b/\j5 c b:=(I.hok S _ h).1
def i9
 (m:wpAny (model f w) A.in1 (collect x) (λa c=>∃lt,Wk lt/\a.length<1000/\(∀g,(∀b o,↥c b=!o->g.get? b=!o)->2<=a.length->vr f w A.in1.in1 {c with heap:=g} a lt)/\
  ∀h g l,Pl a.length h a.length->Up lt h a.length->(∀b o,↥c b=!o->g.get? b=!o)->c⁻¹<=l->(∃e,g.get? l=! seqObj "list" (h.map<|jL a) e)->Q (.ref l) {c with heap:=g}) E s):
 YF f w A (call (.builtin "sorted") [x]) Q E s:=by
 calc Calls.call_function_entry kind_sorted plain_sorted entry_sorted (args_sorted1 _)<|Za<|Zb<|Za<|Zc m (λa c z=>?_) λ_ _ e=>e;let(lt,W,i,n,q):=z;let j:(c.heap.push<|seqObj "list" a.toArray 0).get? c⁻¹=! seqObj "list" a.toArray 0:=Zr _ 9;let r:∀b o,↥c b=!o->b≠c⁻¹:=λb o e=>Zi<|Zk e;refine Za<|wpAny_newList<|Za<|wpAny_holding<|wpAny_call_entry slot_list_sort (_,j,9) entry_list_sort (HD W j i (λg t=>n g λb o e=>t b o (r b o e)<|Zq _ e) λh p u=>(_,9,Zb (_,9,q h _ _ p u (λb o e=>?_) (Zf _)<|sortedHeap_at j)))<|args_list_sort _
 grind[size_push',sortedHeap_old,Nat.lt_succ_of_lt,Heap.lt_size,Heap.get?_push_of_some]
def call_sortedSet(hc:X.calm=6)(hu:X.A.units+64<cLine):qf X (.builtin "sorted") (Mh X.w):=by
 intro Y s Z H xs us Q I rv h;let(S ys F,rfl,hS,hA,J,h64,q):=h;let(-u,rfl,ru):=QP rv;obtain rfl:u=Value.ref S:=ru;let(es ep t ws,ho,G,L,pm,vl):=pH I hS;let l1:=hA.length;rw[Zql]at l1;let M:∀m:Ye,m.Perm (es.toList.map (·.2))->m.length=F.length:=λm n=>by
  let a:=n.length_eq;let b:=pm.length_eq;let c:=vl.length;lia
 calc i9<|iG (A:=X.A.in1) (E:=X.xe) (I.ok.hd hc) ho G L λh1 tk m kk n hsz1=>?_;let(g f,w,N,l2,g2):=eT (pm.symm.trans n.symm) vl ();let lv:=M m n;let lr:=N.length_eq;let A2:=g2 H hA;let O:∀r∈f,r ≠[]:=λr hr=>J r<|N.mem_iff.mp hr;calc(λi j=>jH (f.getD i [])<|f.getD j [],yI.wk λi=>f.getD i [],(),λh' P h2=>HN (by show X.A.units+1+1+04<cLine;lia) (I.hok.kept λb o e=>P b o<|kk b o e) A2 w O h2,λy h' l p u P hl R=>?_);have(e,R):=R;let T:m.length=f.length:=()
 rw[T]at p u;let z:s⁻¹<=l:=by
  let hl:h1.objs.size<=l:=hl;lia
 let U:∀i∈y.toList,∃x v,g[i]?=!x/\m[i]?=!v/\jv x v:=λi B=>by
  let hn:=p.mem B;have(x,C):∃x,g[i]?=!x:=(g[i]'(),());have(v,n,rr):=w.get C;exact(x,v,C,n,rr)
 let sp:=DS yI p u;let se:=B5 yI (((QD f).trans N).trans (QD F).symm) (X1 yI f)<|X1 yI F;let fin:=q l (y.toList.map λi=>g.getD i .non) (I.hok.fresh z) λG hG=>by
  let:=Ce (g2 G hG) y.toList λi B=>p.mem B
  rwa[sp,se]at this
 refine(.ref l,upd H l<|.lst<|y.toList.map λi=>g.getD i .non,I.laid (λb o e=>P b o<|kk b o e) z (?_,y.toList.map<|jL m,e,?_,?_),9,fin)
 .rw[Zql,p.len];exact QC ()
 .calc Y1 λi B=>?_;have(x,v,C,n,rr):=U i B;unfold jL
  rwa[Ql C,Ql n]
 .rw[R]
  congr 03
  apply Vr;simp
end L2.ST
namespace L2.DL
open PySem PySem.Spec PyProof.Rows L2.ST
def Cf:YC->YD
 |[.lst b]=>(Qx KJ b).bind λa=>if(∀r∈a,r ≠[])/\(xV a).length<1000/\a.length<=999 then !(.lst<|(Qd jH<|xV a).map j6)else 8
 |_=>8
def eB(h:∀{w:TA},PA X I w->PE X e (vN (Mh X.w)<|Bg (vN (Mg X.w) w) vK))(J:QA X E I L):QN X E e (jt Cf L):=PE.weak (h J) λZ H Q M=>by
 let(B F sd,r,n):=M;calc je B F sd (r,(ja n).mono (λds N vs g o f O=>?_) λ_ _ q=>q);let(z,c,q):=jf N;unfold Cf at c
 split at c
 .let(-b,P,c):=Jg.mp c
  split at c
  .rename_i p;obtain rfl:=Zqi c;let(-v,rfl,h):=Q2 O;rw[Ed P,jm]at h;let(a,j,rfl,R,s):=h;calc je a j b (9,R.same f.fh,vz.mp<|IsDs.same f.fh _ _ s,p.2.2,λS x=>?_);let y:∀G,qH G (b.map rD) j->qH G ((xV b).map rD) ((qo b b.length).map λi=>j.getD i .non):=λG t=>Ce t _ λi T=>YJ b _ i T;calc je S _ (xV b) (9,JK,y _<|qH.same (Kx x<|wE X.w S<|(qo b b.length).map λi=>j.getD i .non) _ _<|vz.mp<|IsDs.same f.fh _ _ s,λr U=>p.1 r<|nO.mp U,p.2.1,λl Y A t=>?_);let u:l≠S:=λz=>by simp_all[JK]
   let m:o l=8:=by rwa[JF u]at A
   let C:Ext g o g (upd o S<|wE X.w S<|(qo b b.length).map λi=>j.getD i .non):=.keep f.fh x _;exact(q.ext f) l g _ (C.trans<|.keep C.fh A _) m (Qe f.fh m) (Y,JK,vz.mpr<|t g<|y g<|vz.mp s)
  .exact J6 c
 ext
def bt_set:bootBuiltins "set"=! .type "set":=by kernel_rfl
end L2.DL
namespace L2.ST
def wu(a b:Jz):Bool:=decide (a.length<b.length)||decide (a.length=b.length)&&jH a b
theorem YK :wu a b=6↔a.length<b.length\/a.length=b.length/\jH a b=6:=by
 simp_all[wu]
def EF :wu a b=7↔b.length<a.length\/a.length=b.length/\jH a b=7:=by
 grind[YK]
def ke:Tot wu where
 asy:=λa b h=>by
  rw[YK]at h;rw[EF];rcases h with h|⟨f,e⟩
  .exact .inl h
  .exact .inr (f.symm,yI.asy _ _ e)
 neg:=λa b c h=>by
  rw[YK]at h;rw[YK,YK];rcases h with h|⟨f,e⟩
  .omega
  .rcases UZ a.length b.length with z|z|z
   .exact .inl<|.inl z
   .rcases yI.neg a b c e with y|y
    .exact by grind
    ext
   lia
 tot:=λa b f e=>by
  rw[EF]at f e;rcases f with f|⟨f,h3⟩<;>rcases e with e|⟨e,h4⟩
  .omega
  .omega
  .omega
  .exact yI.tot _ _ h3 h4
def i8  (h:l.Pairwise λa b=>jH a b=6)(p:Pl l.length c l.length)(u:Up (λi j=>decide<|((l.getD i []).length:3)<((l.getD j []).length:3)) c l.length):c.toList.map (λi=>l.getD i [])=Qd wu l:=by
 refine B5 ke ?_ ?_<|X1 ke l
 .calc VB ?_ (QD l).symm;let q:c.toList.Perm (List.range l.length):=by
   let:=Js.mp p.perm;simpa using this
  calc(q.map _).trans<|List.Perm.of_eq ?_;apply List.ext_getElem
  .simp
  .intro i v m;simp[m]
 .calc V2.mpr λa b n o r=>?_;rw[VT,VT];let sz:c.toList.length=l.length:=by rw[Ui,p.size]
  rw[Zql]at n o;let s:c.toList[a]=gx c a:=by
   simp_all[gx]
  let t:c.toList[b]=gx c b:=by
   simp_all[gx]
  rw[s,t];let f:=p.lt (Zf _)<|show a<l.length from();let g:=p.lt (Zf _)<|show b<l.length from();let e:=u a b r ();generalize gx c a=i at e f;generalize gx c b=j at e g;rw[EF];rcases e with e|⟨e,ij⟩
  .ext
  .let:=of_decide_eq_false e;rcases U4 (l.getD i []).length (l.getD j []).length with z|z
   .exact .inl z
   .calc .inr ((),yI.asy _ _ ?_);let:=V2.mp h i j f g ij
    ext
def e9  (m:IntsAre a b)(o:b.length=c.length):zi e w A s oneType' (λi=>%[jL a i|jL c i]) (λi j=>decide<|b.getD i 0<b.getD j 0) c.length:=by
 let f:∀{a:Ye}{b:Yf},IntsAre a b->∀i,i<b.length->∃t,jL a i=.int (b.getD i 0) t:=by
  intro a b h
  induction h with
  |nil=>simp
  |cons n t _ g=>
   intro i l
   induction i with
   |zero=>calc(t,9)
   |succ i=>exact g i ()
 intro i j l p E Q q
 grind[W.kat_lt_int]
def e6      (y:IntsAre f.toList n)(N:n.length=g.length)(z:g.length<1000)(B:m≠a)
 (I:↥s m=! seqObj "list" f e)(O:↥s a=! seqObj "list" #[] C)
 (h:∀l F,Pl g.length l g.length->Up (λi j=>decide<|n.getD i 0<n.getD j 0) l g.length->(∀b o,b≠m->b≠a->↥s b=!o->F.get? b=!o)->(∃c,F.get? a=! seqObj "list" (l.map<|jL g) c)->P (.done<|.ret .none) {s with heap:=F}):
 YF r w A (ksk_end a 7 g.toArray C (.ref m) f) P E s:=by
 let t:f.size=g.length:=by
  let Z:=y.length
  ext
 let kl:f=f.toList.toArray:=Array.toArray_toList.symm;let J:f.zip g.toArray=(Array.range g.length).map λi=>%[jL f.toList i|jL g i]:=by
  apply Array.ext_getElem?;intro k;rw[UW];by_cases G:k<g.length
  .rw[Array.getElem?_range,Zd G]
   grind[jL,List.getD_eq_getElem?_getD,Array.length_toList,Array.getElem?_zip_eq_some,Zqg]
  grind
 let u:∀v(l:Yg),arrOf v=l.map (λi=>%[jL f.toList i|jL g i])->failedOf v=8->Pl g.length l g.length->Up (λi j=>decide<|n.getD i 0<n.getD j 0) l g.length->YF r w A (ksk_tail a 7 C (.ref m) v) P E s:=by
  intro v l R S L T;let U:(arrOf v).map (·.2)=l.map (jL g):=by rw[R,Array.map_map];rfl
  unfold ksk_tail;dsimp only;rw[U,S];let(M,g1):∃M,(s.heap.update m<|Obj.mapSeq λ_=>#[]).get? m=! seqObj "list" #[] M:=(_,get?_update_seq I<|λ_=>#[]);let p:(s.heap.update m<|Obj.mapSeq λ_=>#[]).get? a=! seqObj "list" #[] C:=by rw[Heap.get?_update_ne _ _ _ _ (Ne.symm B)];exact O
  calc Za<|listUpdate_at I 9 ?_ (by rw[t,sizeLine_eq];lia)<|Uc _;calc Za<|wpAny_letGo ?_;calc Za (seqEpoch_at (s:={s with heap:=s.heap.update m (Obj.mapSeq λ_=>#[])}) p 9<|Za<|listUpdate_at (s:={s with heap:=s.heap.update m (Obj.mapSeq λ_=>#[])}) p 9 ?_ (Uc _)<|by rw[Ze Zj,Us,L.size,sizeLine_eq];lia);simp only[bne_self_eq_false,UM,if_false];refine Zb<|h l _ L T (λb o X H Y=>?_) ?_
  .show((s.heap.update m<|Obj.mapSeq λ_=>#[]).update a<|Obj.mapSeq λ_=>l.map<|jL g).get? b=!o;rw[Heap.get?_update_ne _ _ _ _ H,Heap.get?_update_ne _ _ _ _ X];exact Y
  .exact(_,get?_update_seq p<|λ_=>l.map<|jL g)
 unfold ksk_end;dsimp only;simp only[UM,if_false];by_cases q:g.toArray.size<2
 .rw[Zd q,Zd q];calc Za<|Zb<|u _ (Array.range g.length) J 9 (B4 _ _<|Zf _) λi j ij jn=>?_;rw[Zm]at q;lia
 .rw[Ze q,Ze q];rw[Zm]at q;rw[ksk_kind y (by rw[t];lia)];calc Za<|Zb ?_;refine Za<|Zc (HB (λi j h=>(),()) (e9 y N) (Q:=λ_ x=>∃l,arrOf x=l.map (λi=>%[jL f.toList i|jL g i])/\failedOf x=8/\Pl g.length l g.length/\Up (λi j=>decide<|n.getD i 0<n.getD j 0) l g.length)
   (J,9,9,9) (B4 _ _ ()) () z ()) ?_ λ_ _ e=>e
  exact()
def i7   {m:Yf}  (hl:m.length=n.length)(R:n.length<1000)(I:kS≠a)
 (hK:↥s kS=! seqObj "list" #[] 0)(hA:↥s a=! seqObj "list" #[] e1)
 (J:∀(i:5)(v:Value)(k:3),n[i]?=!v->m[i]?=!k->∀(h:Heap)(q:5),(∀b o,b≠kS->b≠a->↥s b=!o->h.get? b=!o)->
  YF L w A (call f [v]) (λr M=>∃t S,r=.int k t/\M={s with heap:=h,toks:=S}) (λ_ _=>False) {s with heap:=h,toks:=q})
 (h:∀N l q,Pl n.length N n.length->Up (λi j=>decide<|m.getD i 0<m.getD j 0) N n.length->(∀b o,b≠kS->b≠a->↥s b=!o->l.get? b=!o)->(∃c,l.get? a=! seqObj "list" (N.map<|jL n) c)->P (.done<|.ret .none) {s with heap:=l,toks:=q}):
 YF L w A (ksk_rest a f 7 n.toArray e1<|.ref kS) P E s:=by
 unfold ksk_rest;refine Za<|wpAny_rule ?_
 first
  |rw[List.forIn_toArray]
  |(rw[<-Vw];simp only[List.toList_toArray])
  |rw[<-Vw]
 refine Za<|ksk_fold (λi M=>∃l q z e,M={s with heap:=l,toks:=q}/\(∀b o,b≠kS->↥s b=!o->l.get? b=!o)/\l.get? kS=! seqObj "list" z e/\IntsAre z.toList (m.take i)) n 0 s
  (jX s.heap s.toks #[] 0 (9,λ_ _ _ e=>e,hK,by simpa using IntsAre.nil)) ?step ?done
 case step=>
  intro j x M Z;calc vU λl q z e=>qW λB O y H=>?_;subst B;simp only[VH]at H ⊢;let hj:j<n.length:=(Jb.mp Z).1;let(k,hkj):∃k,m[j]?=!k:=(_,Zqg ());let hz:z.size<=n.length:=by
   let h1:=H.length;rw[Ui,Uu]at h1;lia
  calc Za<|wpAny_attempt<|Zc (J j x k Z hkj l q λb o F _ Q=>O b o F Q) (λv s'' he=>?_) λ_ _ hF=>hF.elim;let(G T,rfl,rfl):=he
  try dsimp only
  let(U,hc2):∃U,(l.update kS<|Obj.mapSeq (·.push<|.int k G)).get? kS=! seqObj "list" (z.push<|.int k G) U:=(_,get?_update_seq y (·.push<|.int k G));let ek:m.take (j+1)=m.take j++[k]:=by rw[List.take_add_one,hkj];simp
  let ea:(z.push<|Value.int k G).toList=z.toList++[Value.int k G]:=by simp
  calc Za (listUpdate_at (s:={s with heap:=l,toks:=T}) y 9 ?_ (by rw[sizeLine_eq];lia)<|Zh (Yu<|Array.size_push ..)<|by rw[sizeLine_eq];lia);calc Zb (9,_,_,z.push<|.int k G,U,9,λb o F Q=>?_,hc2,by rw[ea,ek];calc ksk_snoc H);show(l.update kS<|Obj.mapSeq (·.push<|.int k G)).get? b=!o;rw[Heap.get?_update_ne _ _ _ _ F];exact O b o F Q
 case done=>
  intro M;calc vU λl q z e=>qW λC O y H=>?_;subst C;let X:IntsAre z.toList m:=by
   let e3:m.take (0+n.length)=m:=UH ();rw[e3]at H;exact H
  try dsimp only
  calc Za<|listItems_at (s:={s with heap:=l,toks:=q}) y 9 ?_;exact e6 (s:={s with heap:=l,toks:=q}) X hl R I y (O a _ (Ne.symm I) hA) λN h2 p u k2 g=>h N h2 q p u (λb o F Y Q=>k2 b o F Y<|O b o F Q) g
def ig   {kz:Yf}  (G:↥s a=! seqObj "list" l.toArray n)(M:kz.length=l.length)(H:l.length<1000)
 (z:∀(i:5)(v:Value)(k:3),l[i]?=!v->kz[i]?=!k->∀(h:Heap)(m:5),(∀b o,b≠a->↥s b=!o->h.get? b=!o)->
  YF B w A (call f [v]) (λr N=>∃t I,r=.int k t/\N={s with heap:=h,toks:=I}) (λ_ _=>False) {s with heap:=h,toks:=m})
 (h:∀C q m,Pl l.length C l.length->Up (λi j=>decide<|kz.getD i 0<kz.getD j 0) C l.length->(∀b o,b≠a->↥s b=!o->q.get? b=!o)->(∃c,q.get? a=! seqObj "list" (C.map<|jL l) c)->P (.done<|.ret .none) {s with heap:=q,toks:=m}):
 YF B w A (ksk_tree a f 7) P E s:=by
 let O:a<s⁻¹:=Zk G;let(L,ho1):∃L,(s.heap.update a<|Obj.mapSeq λ_=>(#[]:Yk)).get? a=! seqObj "list" #[] L:=(_,get?_update_seq G λ_=>#[]);let x:((s.heap.update a<|Obj.mapSeq λ_=>(#[]:Yk)).push<|seqObj "tuple" l.toArray 0).objs.size=s⁻¹+1:=by rw[size_push',Heap.size_update]
 unfold ksk_tree;calc Za<|listItems_at G 9 ?_;calc Za<|listUpdate_at G 9 ?_ (by rw[Zm,sizeLine_eq];lia)<|Uc _;calc Za<|seqEpoch_at ho1 9 ?_;calc Za (wpAny_newTuple ?_<|by show l.length<=_;rw[sizeLine_eq];lia);calc Za<|wpAny_newList ?_<|Uc _;calc wpAny_holding ?_;let F:∀{b o},↥s b=!o->b≠s⁻¹/\b≠s⁻¹+1:=λe=>(Zi<|Zk e,Zi<|UA<|Zk e);let keep:∀b o,b≠a->↥s b=!o->(((s.heap.update a<|Obj.mapSeq λ_=>(#[]:Yk)).push<|seqObj "tuple" l.toArray 0).push<|seqObj "list" #[] 0).get? b=!o:=λb o y e=>by
  calc Zq _<|Zq _ ?_;rw[Heap.get?_update_ne _ _ _ _ y];exact e
 refine i7 (s:={s with heap:=((s.heap.update a<|Obj.mapSeq λ_=>(#[]:Yk)).push<|seqObj "tuple" l.toArray 0).push (seqObj "list" #[] 0)}) (kS:=((s.heap.update a<|Obj.mapSeq λ_=>(#[]:Yk)).push<|seqObj "tuple" l.toArray 0).objs.size)
  M H (by rw[x];calc UU<|UA O) (Zr _ 9) (Zq _<|Zq _ ho1)
  (λi v k Q R q m J=>z i v k Q R q m λb o y e=>J b o (by rw[x];calc(F e).2) y<|keep b o y e)
 <|λC q m p u J g=>h C q m p u (λb o y e=>J b o (by rw[x];calc(F e).2) y<|keep b o y e) g
def Mi:YB->Hp->VK->4:=λg H Q=>∃a e c,g=[.ref a]/\Rd H a (.lst e)/\qH H (c.map rD) e/\c.Pairwise (λa b=>jH a b=6)/\c.length<1000/\(∀r∈c,r.length<=1000)/\
 ∀l f,H l=8->(∀G,qH G (c.map rD) e->qH G ((Qd wu c).map rD) f)->Q (.ref l) (upd H l<|.lst f)
def eU {Z:St}      (I:Inv X Y Z H s)(ha:Rd H a (.lst t))(hA:qH H (h.map rD) t)(hs:h.Pairwise λa b=>jH a b=6)(h64:h.length<1000)(N:∀r∈h,r.length<=1000)
 (q:∀l zs,H l=8->(∀G,qH G (h.map rD) t->qH G ((Qd wu h).map rD) zs)->Q (.ref l) (upd H l<|.lst zs)):
 YE X (call (.builtin "sorted") [.ref a] [%[Str.ofString "key"|.builtin "len"]]) (EP X Y Z Q) X.xe s:=by
 let(-f,ri,pl,hz):=I.list (.inl ha);let l1:=hA.length;let l2:=ri.length;rw[Zql]at l1;let O:f.length=h.length:=()
 let hl:=pl.isList;let keep:∀b o,↥s b=!o->(((s.heap.push<|seqObj "list" #[] 0).update s⁻¹<|Obj.mapSeq (·++f.toArray)).push<|seqObj "list" f.toArray 0).get? b=!o:=λb o q=>by
  let B:b<s⁻¹:=Zk q;calc Zq _ ?_;rw[Heap.get?_update_ne _ _ _ _ (Zi B),Heap.get?_push_ne _ _ _ (Zi B)];exact q
 let C:((s.heap.push<|seqObj "list" #[] 0).update s⁻¹<|Obj.mapSeq (·++f.toArray)).objs.size=s⁻¹+1:=by
  simp
 let w:(((s.heap.push<|seqObj "list" #[] 0).update s⁻¹<|Obj.mapSeq (·++f.toArray)).push<|seqObj "list" f.toArray 0).get? (s⁻¹+1)=! seqObj "list" f.toArray 0:=by
  rw[<-C];exact Zr _ 9
 calc call_function_entry_kw kind_sorted plain_sorted entry_sorted (ksk_s1 _ _) ?_;unfold Builtin.«sorted»;calc Za (m:=checkCount "sorted" 1 1 _)<|Zb ?_;calc Za (collect_list hl ?_<|by rw[O,sizeLine_eq];lia);calc Za (wpAny_newList ?_<|by rw[O,sizeLine_eq];lia);show wpAny _ _ _ _ _ {s with heap:=((s.heap.push<|seqObj "list" #[] 0).update s⁻¹<|Obj.mapSeq (·++f.toArray)).push (seqObj "list" f.toArray 0)};rw[C];generalize hH:((s.heap.push<|seqObj "list" #[] 0).update s⁻¹<|Obj.mapSeq (·++f.toArray)).push (seqObj "list" f.toArray 0)=hp at keep w;refine Za<|wpAny_holding<|wpAny_call_entry_kw slot_list_sort (_,w,9) entry_list_sort ?body<|ksk_l1 _ _
 case body=>
  show wpAny (model X.prog X.w) X.A.in1.in1 (Builtin.«list.sort» ([.ref (s⁻¹+1)],[%[Str.ofString "key"|.builtin "len"]])) _ _ _;rw[ksk_t4];refine ig (s:={s with heap:=hp}) (kz:=h.map λr=>(r.length:3)) w () () (λi v k E hk M y P=>?_) λz M y p u P g=>(_,9,Zb (_,9,?_))
  .let n:i<h.length:=by
    let:=(Jb.mp hk).1
    rwa[Zql]at this
   let(-x,A,hI):=hA.get (i:=i) (d:=rD<|h.getD i []) (by rw[Zv,Zqg n,Ql (Zqg n)];rfl);let(v',F,J):=ri.get A;rw[E]at F;obtain rfl:=Zqi F;let(b o S m,R):=DU I.hok hI J;obtain rfl:v=Value.ref b:=R.isv;let hb:b≠s⁻¹+1:=Zi<|UA<|Zk R.get;let ht:IsTup M b S.toArray:=(o,P b o hb<|keep b o R.get,R.cls,m,R.dat);let T:S.length=(h.getD i []).length:=R.prs.1;let ek:k=((h.getD i []).length:3):=by
    ext
   let lrow:(h.getD i []).length<=1000:=by
    rw[Ql (Zqg n)];exact N _<|UB n
   let ev:Value.int ((S.toArray.size:5):3) (y+1)=Value.int k (y+1):=by ext
   exact len_tuple (s:={s with heap:=M,toks:=y}) ht (by rw[Zm,T];lia) (y+1,y+1+1,ev,9)
  .let(c,g):=g;let U:∀b o,↥s b=!o->M.get? b=!o:=λb o e=>P b o (Zi<|UA<|Zk e)<|keep b o e;rw[O]at p u;let ud:λi j=>decide<|(h.map λr=>(r.length:3)).getD i 0<(h.map λr=>(r.length:3)).getD j 0=λi j=>decide<|((h.getD i []).length:3)<((h.getD j []).length:3):=by
    let e:∀i,(h.map λr=>(r.length:3)).getD i 0=((h.getD i []).length:3):=λi=>by
     rw[Uh,Zv,Uh]
     induction h[i]?<;>rfl
    funext i j
    rw[e,e]
   rw[ud]at u;let sp:=i8 hs p u;let L:s⁻¹<=s⁻¹+1:=Ve _;let at_:∀i∈z.toList,∃x v,t[i]?=!x/\f[i]?=!v/\jv x v:=λi n=>by
    let hn:=p.mem n;let(x,A):∃x,t[i]?=!x:=(t[i]'(),());let(v,E,J):=ri.get A;exact(x,v,A,E,J)
   let fin:=q (s⁻¹+1) (z.toList.map λi=>t.getD i .non) (I.hok.fresh L) λG hG=>by
    let:=Ce hG z.toList λi n=>p.mem n;rw[sp]at this;exact this
   refine(.ref<|s⁻¹+1,upd H (s⁻¹+1)<|.lst<|z.toList.map λi=>t.getD i .non,I.laid (a:=s⁻¹+1) (o:=.lst<|z.toList.map λi=>t.getD i .non) (t':=y) U L (?_,z.toList.map<|jL f,c,?_,?_),9,fin)
   .rw[Zql,p.len];exact QC ()
   .calc Y1 λi n=>?_;let(x v,A,E,J):=at_ i n;unfold jL;rw[Ql A,Ql E];exact J
   .rw[g]
    congr 03
    apply Vr;simp
def pe_sortLen   (j:Gl X "sorted")(l:X.mg "sorted"=8)(c:Gl X "len")(f:X.mg "len"=8)(m:PA X [e] t)
 (n:backTo b (starEach [e] X.env)=%[7|eval e X.env]::backTo b (starEach [] X.env):=by rfl)(g:(backTo b<|starEach [e] X.env).any (·.1)=7:=by rfl):PE X (.Call (.Name "sorted" p) [e] [(!"key",.Name "len" B,C)] b) (vN Mi t):=by
 intro Y s Z H Q I h;calc wpAny_Call_Name_kw (ZE I j l (show bootBuiltins "sorted"=! .builtin "sorted"by kernel_rfl) ?_ (by decide)<|by decide);calc callWith_kw (jO (m b Y s Z H _ I h) λE F=>j7 λG J=>jA λi o r=>kws_cons<|ZE i c f boot_len (kws_nil ?_) (by decide)<|by decide) n g;let(a L M,rfl,v,w,x,y,z,q):=r;let(-u,rfl,A):=QP o;obtain rfl:=A;exact eU i v w x y z q
end L2.ST
namespace L2.DL
open PySem PySem.Spec PyProof.Rows L2.ST
def Aw:YC->YD
 |[.lst e]=>(Qx KJ e).bind λc=>if c.Pairwise (λa b=>jH a b=6)/\c.length<1000/\∀r∈c,r.length<=1000 then !(.lst<|(Qd wu c).map j6)else 8
 |_=>8
def eP(h:∀{i:TA},PA X o i->PE X e (vN Mi i))(p:QA X E o s):QN X E e (jt Aw s):=PE.weak (h p) λZ H Q t=>by
 let(B F sd,r,n):=t;calc je B F sd (r,(ja n).mono (λJ u L j M c w=>?_) λ_ _ q=>q);let(z,b,q):=jf u;unfold Aw at b
 split at b
 .let(-x,y,b):=Jg.mp b
  split at b
  .rename_i f;obtain rfl:=Zqi b;let(-v,rfl,h):=Q2 w;rw[Ed y,jm]at h;let(a,A,rfl,C,m):=h;exact je a A x (9,C.same c.fh,vz.mp<|IsDs.same c.fh _ _ m,f.1,f.2.1,f.2.2,λl G g I=>(q.ext c) l j _ (.keep c.fh g _) g (Qe c.fh g) (G,JK,vz.mpr<|I j<|vz.mp m))
  .exact J6 b
 ext
def iZ (h:c.Pairwise λa b=>jH a b=6)(e:c.length<1000)(f:∀r∈c,r.length<=1000):Aw [.lst (c.map j6)]=!(.lst<|(Qd wu c).map j6):=by
 show(Qx KJ<|c.map j6).bind _=_
 simp_all[BH]
end L2.DL
namespace L2
def yq.has      (x:yq P w H h a o):∃u,h.get? a=!u:=by
 induction o with
 |lst i=>let(_,_,_,_,e):=x;calc(_,e)
 |tup i=>let(_,_,_,o,e,_):=x;calc(_,e)
 |dK c=>let(!_,_,(_,_,o,_,_,e,_)):=x;calc(_,e)
 |dT c=>let(!_,_,(_,_,o,_,_,e,_)):=x;calc(_,e)
 |set S n=>let(o _ _ _,e,_):=x;calc(_,e)
 |ins C j fs=>calc(_,x.2.2.2.1)
 |own y=>calc x
 |xd fs=>let(-_,(_,_,_,e,_),_):=x;calc(_,e)
 |rng lo l=>let(_ _ _,e):=x;calc(_,e)
 |frz p u=>calc(_,x.1)
 |tbl q=>calc(_,x)
 |met f y=>calc(_,x)
 |ext φ=>exact x.2.1
def oS(M:Model)(Γ:PySem.Ctx)(p:Pos)(s:Shared)(e:End)(b:Shared):List Frame->Sem PySem.Fin->4
 |[],.pure (.done f)=>e=.ret (.ok f)/\b=s
 |[],.pure (.again c)=>Runs M (Γ.goto c) p (M.den c) [] s e b
 |[],.raise x=>e=.ret (.error x)/\b=s
 |[],.rule _ k=>Runs M Γ p (k Yq) [] s e b
 |[],.at q k=>Runs M Γ q (k Yq) [] s e b
 |[],.load a _ k=>∃o,↥s a=!o/\Runs M Γ p (k o) [] s e b
 |[],.update a _ f k=>Runs M Γ p (k Yq) [] {s with heap:=s.heap.update a f} e b
 |[],.loadIfAlive a k=>Runs M Γ p (k<|↥s a) [] s e b
 |[],.point _ k=>Runs M Γ p (k Yq) [] s e b
 |[],.alloc o k=>Runs M Γ p (k s⁻¹) [] {s with heap:=s.heap.push o} e b
 |[],.fresh k=>Runs M Γ p (k s.toks) [] {s with toks:=s.toks+1} e b
 |[],.ask k=>Runs M Γ p (k (M.prog,M.w.params)) [] s e b
 |[],.choose i n k=>Runs M Γ p (k<|M.w.draws i (s.drawn.get i)%n) [] {s with drawn:=s.drawn.bump i} e b
 |[],.os q _ k=>Runs M Γ p (k (Os.step s.os q).2) [] {s with os:=(Os.step s.os q).1} e b
 |[],.handled own k=>Runs M Γ p (k<|if own then Γ.own else Γ.handled) [] s e b
 |[],.genState g k=>∃m,s.gens[g]?=!m/\Runs M Γ p (k m.seen) [] s e b
 |[],.stack k=>Runs M Γ p (k<|%[Γ.code|p]::Γ.below) [] s e b
 |[],.thread k=>Runs M Γ p (k 0) [] s e b
 |[],.newGen c k=>Runs M Γ p (k s.gens.size) [] {s with gens:=s.gens.push (.fresh c)} e b
 |[],.call c h g l k=>∃e₁ s₁,Runs M (Γ.enter c h p) p (M.den c) [] s e₁ s₁/\match e₁ with
  |.ret r=>Runs M Γ p (k r) [] s₁ e b
  |.susp v g₀ l₀ k₀ c₀ p₀ fs=>e=.susp v g₀ l₀ k₀ c₀ p₀ (fs++[.ret k h g l Γ.code p []])/\b=s₁
 |[],.yield v g l k=>e=.susp v g l k Γ.code p []/\b=s
 |[],.resume g r _ k=>∃j s₁,Wakes M Γ p g r s j s₁/\Runs M Γ p (k j) [] s₁ e b
 |[],_=>True
 |F::fs,t=>∃e₁ s₁,Runs M (Γ.over<|F::fs) p t [] s e₁ s₁/\match e₁ with
  |.ret r=>match F with
   |.ret k _ _ _ c₁ p₁ _=>Runs M (Γ.goto c₁) p₁ (k r) fs s₁ e b
   |.gen g k _ c₁ p₁=>Runs M (Γ.goto c₁) p₁ (k (End.ret r).result) fs (s₁.setGen g .finished) e b
  |.susp v g₀ l₀ k₀ c₀ p₀ fs₀=>match splitAtGen (F::fs)with
   |none=>e=.susp v g₀ l₀ k₀ c₀ p₀ (fs₀++F::fs)/\b=s₁
   |some %[pre,%[g,k,c₁|p₁]|rest]=>Runs M (Γ.goto c₁) p₁ (k<|.yielded v) rest (s₁.setGen g (End.susp v g₀ l₀ k₀ c₀ p₀<|fs₀++pre).genState) e b
def Mj        (q:s.gens[g]?=! .fresh c)(n:v ≠ .none):Wakes M Γ p g (.send v) s a b↔a=.justStarted/\b=s:=by
 unfold Wakes;rw[q]
 induction v<;>first|calc Zn 9 n|exact Iff.rfl
def ri       (h:Runs M Γ p t fs s e f):oS M Γ p s e f fs t:=by
 induction h with
 |done|raise|yield=>calc(9,9)
 |again _ h|rule h|«at» h|update _ h|loadIfAlive h|point h|alloc h|fresh h|ask h|choose _ h|os h|handled h|stack h|thread h|newGen h=>calc h
 |load q h|genState q h=>calc(_,q,h)
 |call a b=>calc(_,_,a,b)
 |callSusp a=>calc(_,_,a,9,9)
 |resumeFresh q a c b=>calc(_,_,by unfold Wakes;rw[q];calc(_,_,a,c,9,9),b)
 |resumeSuspended q a c b=>calc(_,_,by unfold Wakes;rw[q];calc(_,_,a,c,9,9),b)
 |resumeJustStarted q n b=>calc(_,_,(Mj q n).mpr (9,9),b)
 |resumeThrowFresh q b|resumeRunning q b|resumeFinished q b=>calc qA _ _ (by unfold Wakes;rw[q];calc(9,9),b)
 |segRet a b|segGen a b=>calc qA _ _ (a,b)
 |segSuspOut q a=>
  calc qA _ _ (a,?_);show match splitAtGen _ with|none=>_|some %[pre,%[g,k,c₁|p₁]|rest]=>_
  rw[q];calc(9,9)
 |segSuspGen q a _ b=>
  calc qA _ _ (a,?_);show match splitAtGen _ with|none=>_|some %[pre,%[g,k,c₁|p₁]|rest]=>_
  rw[q];exact b
theorem Ml       (h:Runs M Γ p t fs s e r):∀{f i},Runs M Γ p t fs s f i->e=f/\r=i:=by
 induction h with
 |done|raise|yield=>intro f i k;calc((ri k).1.symm,(ri k).2.symm)
 |again _ _ d|rule _ d|«at» _ d|update _ _ d|loadIfAlive _ d|point _ d|alloc _ d|fresh _ d|ask _ d|choose _ _ d|os _ d|handled _ d|stack _ d|thread _ d|newGen _ d=>intro f i k;calc d<|ri k
 |load q _ d|genState q _ d=>intro f i k;let(-o,m,k):=ri k;rw[q]at m;cases m;calc d k
 |call _ _ j l=>intro f i k;let(_ _,a,b):=ri k;let(rfl,rfl):=j a;calc l b
 |callSusp _ j=>intro f i k;let(_ _,a,b):=ri k;let(rfl,rfl):=j a;calc(b.1.symm,b.2.symm)
 |resumeFresh q _ _ _ j l|resumeSuspended q _ _ _ j l=>intro f i k;let(_ _,w,b):=ri k;unfold Wakes at w;rw[q]at w;let(_,_,a,_,rfl,rfl):=w;let(rfl,rfl):=j a;calc l b
 |resumeJustStarted q n _ d=>intro f i k;let(_ _,w,b):=ri k;let(rfl,rfl):=(Mj q n).mp w;calc d b
 |resumeThrowFresh q _ d|resumeRunning q _ d|resumeFinished q _ d=>intro f i k;let(_ _,w,b):=ri k;unfold Wakes at w;rw[q]at w;let(rfl,rfl):=w;calc d b
 |segRet _ _ j l|segGen _ _ j l=>intro f i k;let(_ _,a,b):=ri k;let(rfl,rfl):=j a;calc l b
 |segSuspOut q _ j=>
  intro f i k;let(_ _,a,b):=ri k;let(rfl,rfl):=j a;let b:match splitAtGen _ with|none=>_|some %[pre,%[g,k,c₁|p₁]|rest]=>_:=b
  rw[q]at b;calc(b.1.symm,b.2.symm)
 |segSuspGen q _ _ _ j l=>
  intro f i k;let(_ _,a,b):=ri k;let(rfl,rfl):=j a;let b:match splitAtGen _ with|none=>_|some %[pre,%[g,k,c₁|p₁]|rest]=>_:=b
  rw[q]at b;exact l b
def aP       (h:Wakes M Γ p g r s a f)(k:Wakes M Γ p g r s b i):a=b/\f=i:=by
 unfold Wakes at h k;let two{Γ:PySem.Ctx}{p:Pos}{t:Sem PySem.Fin}{fs:List Frame}{z:Shared}(h:∃e₁ s₁,Runs M Γ p t fs z e₁ s₁/\e₁.quiet=6/\a=e₁.result/\f=s₁.setGen g e₁.genState)(k:∃e₁ s₁,Runs M Γ p t fs z e₁ s₁/\e₁.quiet=6/\b=e₁.result/\i=s₁.setGen g e₁.genState):a=b/\f=i:=by
  grind[Ml]
 let one{x:GenResult}{z:Shared}(h:a=x/\f=z)(k:b=x/\i=z):a=b/\f=i:=by grind
 induction hg:s.gens[g]? with
 |none=>ext
 |some j=>
  rw[hg]at h k
  induction j with
  |fresh c=>
   induction r with
   |send v=>induction v<;>first|calc two h k|calc one h k
   |throw x=>calc one h k
  |suspended=>calc two h k
  |running=>calc one h k
  |finished=>exact one h k
def cL     (t:Sem α):∀p s,Sem.wp M Γ t Q E p s->Sem.wp M Γ t m n p s->Sem.wp M Γ t (λa p s=>Q a p s/\m a p s) (λa p s=>E a p s/\n a p s) p s:=by
 induction t with
 |pure x=>calc λ_ _ a b=>(a,b)
 |raise v=>calc λ_ _ a b=>(a,b)
 |unsupported|finish|yield|fork|await|register=>calc λ_ _ a _=>a
 |rule _ k e|«at» _ k e|alloc _ k e|loadIfAlive _ k e|point _ k e|fresh k e|ask k e|os _ _ k e|handled _ k e|newGen _ k e|stack k e|thread k e=>calc λ_ _ a b=>e _ _ _ a b
 |load a _ k e|genState a k e=>calc λ_ _=>y9 λo=>jB λq h=>y9 λB=>jB λu j=> (o,q,e _ _ _ h ())
 |update a _ f k e|choose _ _ k e=>calc λ_ _=>jB λw h=>jB λ_ j=> (w,e _ _ _ h j)
 |call c h g l k e=>
  intro p s(r,i,x,y)(z,s1',x',y');let(!A,rfl):=Ml x x';cases A;calc(r,i,x,e _ _ _ y y')
 |resume g r l k e=>
  intro p s(r,i,x,y)(z,s1',x',y');let(rfl,rfl):=aP x x';exact(r,i,x,e _ _ _ y y')
def Ax       (h:wpAny M A t Q E s)(k:wpAny M A t b c s):wpAny M A t (λa s=>Q a s/\b a s) (λa s=>E a s/\c a s) s:=
 λΓ p i=>cL t p s (h Γ p i)<|k Γ p i
def DT(h:Heap)(e:Addr)(d:Option Addr):4:=∃a b T c f,h.get? e=!a/\a.dict=d/\a.data=.fields b/\b[1]?=! .ref T/\T≠e/\h.get? T=!c/\c.data=.fields f/\03<f.size
def EG (h:DT s.heap e d):wpAny M A (setFlight (.ref e) f) (λ_ m=>DT m.heap e d) E s:=by
 let(n o T q r,c,p,g,i,b,j,a,l):=h;refine Za<|wpAny_field c g i<|wpAny_setField j a l<|jF n o T _ _ ((Heap.get?_update_other _ _ b).trans c,p,g,i,b,Heap.get?_update_self _ j<|Obj.isFreed_of_fields<|Obj.data_mapFields a _,Obj.data_mapFields a _,by simpa using l)
def Mm    (n:A.frames=! f::c)(r:s.heap.FunFrames t (f::c))(v:f.frame=!L)(g:↥s e=!u)(p:u.data=.fields w)(i:1<w.size):
 wpAny M A (do let a<-frameOf f;let m<-entryPlaceOf L b;let b<-EntryCells.newEntry j a .none (rawInt L) .none m;setField (.ref e) 1 b) (λ_ x=>DT x.heap e u.dict) E s:=by
 let l:e∉(f::c).filterMap (·.frame):=λy=>by
  let(_,o,C,z):=r.mem y
  ext
 calc Za<|wpAny_frameOf_fun n r v λh₁ hs₁=>Za<|wpAny_entryPlaceOf λm q=>Za<|wpAny_newObj_type ?_<|q.sizeOk5 _ _ _ _ _;let he₁:=(hs₁.2.1 e l).trans g;let he₂:=Zq {cls:=.type "traceback",dict:=8,data:=.fields ([j,.ref L,.none,rawInt L,.none]++if m.isEmpty then List.replicate 06 Value.none else m).toArray} he₁;let ne:=UU<|Zk he₁;calc wpAny_setField he₂ p i<|jF _ _ h₁.objs.size _ _ (Heap.get?_update_self _ he₂<|Obj.isFreed_of_fields<|Obj.data_mapFields p _,?_,Obj.data_mapFields p _,by simp[i],ne,(Heap.get?_update_other _ _<|Ne.symm ne).trans<|Zr h₁ 9,9,());unfold Obj.mapFields
 split<;>rfl
def Mn(i:A.frames=! c::f)(w:s.heap.FunFrames m (c::f))(n:c.frame=!L)(h:DT s.heap e d):
 wpAny M A (noteFrame (.ref e) c) (λ_ x=>DT x.heap e d) E s:=by
 let y:=h;let(C F T G H,p,z,r,t,j,u,g,v):=h;unfold noteFrame;simp only[n];calc Za<|wpAny_field p r t ?_;refine Za<|wpAny_field u g (UE v) ?_
 split
 .exact Zb y
 calc Za<|wpAny_setField u g v ?_;let a:∀b,b≠T->(s.heap.update T<|Obj.mapFields (·.setIfInBounds 03 Value.none)).get? b=↥s b:=λb l=>Heap.get?_update_other _ _<|Ne.symm l;subst z;exact Mm i (w.of_keeps λb o l B=>(o,(a b λq=>()).trans l,9)) n ((a e<|Ne.symm j).trans p) r (Jo.mp t).1
def oi  (c:A.frames=! a::b)(m:s.heap.FunFrames f (a::b))(g:a.frame=!L)(h:↥s e=!i)(j:i.data=.fields n)(l:n[1]?=!.none):
 wpAny M A (leaving a<|.ref e) (λ_ o=>DT o.heap e i.dict) E s:=Za<|Zc (by
  unfold noteFrame;simp only[g];calc Za<|wpAny_field h j l<|Mm c m g h j (Jo.mp l).1) (λ_ _ q=>EG q) λ_ _ z=>z
def Mo(c:A.frames=! a::b)(g:s.heap.FunFrames f (a::b))(i:a.frame=!L)(h:DT s.heap e d):
 wpAny M A (leaving a<|.ref e) (λ_ j=>DT j.heap e d) E s:=Za<|Zc (Mn c g i h) (λ_ _ q=>EG q) λ_ _ z=>z
def aY(i:A.frames=! f::c)(m:f.frame=!L)(j:Heap.FlyingW h (f::c) e l n s.heap)(o:DT s.heap e d)
 (q:∀g,Heap.HeldW h (f::c) e l n L g->s.heap.UpToSlots g->DT g e d->Q Yq {s with heap:=g}):wpAny M A (noteFrame (.ref e) f) Q E s:=
 Zc (Ax (wpAny_looks_onW (Q:=λ_ p=>∃g,Heap.HeldW h (f::c) e l n L g/\s.heap.UpToSlots g/\p={s with heap:=g}) i m j λg a b=>(g,a,b,9))<|Mn (E:=E) i j.2.2.1 m o) () λ_ _ z=>z.1
def eV(j:A.frames=! i::f)(n:i.frame=!L)(l:Heap.FlyingW h (i::f) e m o s.heap)(p:DT s.heap e d)
 (r:∀g,Heap.FlyingW h f e m o g->s.heap.UpToSlots g->DT g e d->Q Yq {s with heap:=g}):wpAny M A (leaving i<|.ref e) Q E s:=
 Zc (Ax (wpAny_leaves_onW (Q:=λ_ t=>∃g,Heap.FlyingW h f e m o g/\s.heap.UpToSlots g/\t={s with heap:=g}) j n l λg a b=>(g,a,b,9))<|Mo (E:=E) j l.2.2.1 n p) (λ_ _((g,a,b,c),q)=>by subst c;calc r g a b q) λ_ _ z=>z.1
structure FlyAt(l:List Env)(h₀:Heap)(H:Hp)(x C:Addr)(B h:Heap):4 where
 fly:∃t,Heap.FlyingW B l x (.ref C) (.ref t) h
 trk:∀b o,h.get? b=!o->H b≠8\/(∃u,h₀.get? b=!u)/\b∉xH l->B.get? b=!o
def yo(P:Program)(w:World):kc:=λa H s E e b=>∃c x C B,e=.ref x/\b.os=s.os/\AllBare b.gens/\Un (xH a) [] H c s.heap b.heap/\xr P w c b.heap/\FlyAt a s.heap c x C B b.heap/\∃d,DT b.heap x d/\E (.ref C) d c
structure Thrown(X:Cx)(E:XK):4 where
 on:∀(Y:Yb)(Z:St)(H:Hp)(s:Shared)(h₀:Heap)(x C:Addr)(B:Heap)(d:Option Addr),Inv X Y Z H s->(∀b u,X.s₀.heap.get? b=!u->b∉X.ex->∃u',h₀.get? b=!u')->FlyAt X.stack h₀ H x C B s.heap->DT s.heap x d->E (.ref C) d H->X.xe (.ref x) s
structure Raises(X:Cx)(E:XK):4 where
 new:∀(Y:Yb)(Z:St)(H:Hp)(s:Shared)(h':Heap)(x C:Addr)(args:Ye),Inv X Y Z H s->Heap.MadeExcOf s.heap h' x (.ref C) args->E (.ref C) 8 H->X.xe (.ref x) {s with heap:=h'}
def Thrown.passes  (T:Thrown X E):ZJ (yo X.prog X.w) X E:=by
 intro Y Z H s e i I c;let(j,x,C,B,l,os,bare,un,f,n,d,o,p):=c;subst l;exact T.on Y Z j i s.heap x C B d (I.call' os un f bare<|λb z=>Zn z ()) (λb u e q=>I.base.there b u e q) n o p
def l5 :Thrown X E0:=⟨λ_ _ _ _ _ _ _ _ _ _ _ _ _ z=>z.elim⟩
section
variable   {K:f'}
def EH {Z:St}  {h₀ j B:Heap}  (I:Inv (qu (yo P w) P w K T F N l g f M A a s H E) Y Z G J)
 (h0:∀b u,↥s b=!u->∃U,h₀.get? b=!U)(L:Heap.FlyingW B a x (.ref C) (.ref t) j)(X:J.heap.UpToSlots j)
 (trk:∀b o,↥J b=!o->G b≠8\/(∃u,h₀.get? b=!u)/\b∉xH (envOfC l g s⁻¹ f M::a)->B.get? b=!o)(dt:DT j x R)(hE:E (.ref C) R G):
 yo P w a H s E (.ref x) {J with heap:=j}:=by
 let nst:∀b u,↥s b=!u->b∉xH a->b∉xH (envOfC l g s⁻¹ f M::a):=λb u e i z=>by
  unfold xH at z i;rw[UT]at z;let z:b∈s⁻¹::a.filterMap (·.frame):=z;rcases U0.mp z with q|q
  .exact Zn (Zk e) ()
  .exact i q
 let m:∀b:Addr,b∉(qu (yo P w) P w K T F N l g f M A a s H E).ex:=λb z=>Zn (show b∈([]:Yj)from z) ();let keep:∀b o,↥J b=!o->G b≠8\/(∃u,↥s b=!u)/\b∉xH a->B.get? b=!o:=by grind
 let y:∀b o,↥s b=!o->b∈xH a->∃O,j.get? b=!{o with slots:=O}:=λb o e i=>by
  let(O,e1):=I.base.slot b o e (I.ok.frf b i) i (m b);let(_,p,r,hd):=I.ok.funs.mem i;let r:↥s b=!p:=r;rw[e]at r;obtain rfl:=Zqi r;let(Q,e2):=X b _ e1 hd;exact(Q,e2)
 refine jX G x C B (9,I.os,I.bare,(λb o e n i _=>?_,λb o e n i _=>y b o e i,λb o e n _=>I.base.free b o e n<|m b,λb o e _=>?_,I.base.tups,I.base.frzs,I.base.tbls),λb u e=>?_,((t,L),λb o e c=>?_),R,dt,hE)
 .exact L.1 b o<|keep b o (I.base.keep b o e n i<|m b)<|.inr ((o,e),i)
 .by_cases i:b∈xH a
  .let(O,q):=y b o e i;exact(_,q)
  .let(p,S):=I.base.there b o e (m b);exact(p,L.1 b p ())
 .calc(I.hok b u e).stay (λc v hc q=>L.1 c v<|keep c v q<|.inl ?_) (λ_ q=>q) λ_ _ q=>q;rcases hc with z|z
  .rw[z,e];simp
  .rw[z];simp
 .let ex:∃p,↥J b=!p:=by
   rcases c with c|⟨⟨u,hu⟩,_⟩
   .induction q:G b with
    |none=>calc Zn q c
    |some u=>exact(I.hok b u q).has
   .exact I.base.there b u hu<|m b
  let(p,S):=ex;let k:=keep b p S c;let:=L.1 b p k;let e:=e;rw[e]at this;obtain rfl:=Zqi this;exact k
def Kb:Thrown (qu (yo P w) P w K o g N i a f p A c s H E) E:=by
 calc⟨λY Z F G h₀ x C B J I q j r v=>?_⟩;let((t,l),trk):=j;let m:∀b:Addr,b∉(qu (yo P w) P w K o g N i a f p A c s H E).ex:=λb z=>Zn (show b∈([]:Yj)from z) ();exact eV I.ok.frames 9 l r λL j y n=>EH I (λb u e=>q b u e<|m b) j y trk n v
def V8:Raises (qu (yo P w) P w K U B N j h f p A g s H E) E:=by
 calc⟨λY Z X F J x C G I n L=>?_⟩;let q:∀l∈ envOfC j h s⁻¹ f p::g,∀a,l.frame=!a->a∈xH (envOfC j h s⁻¹ f p::g):=λl M a O=>Jt.mpr (l,M,O);let(-tt,r,_,_):=n.there;let m:=W.funFrames_hide I.stack q;refine Zc (Ax (wpAny_leaves_madeW (Q:=λ_ R=>∃i t,Heap.FlyingW (W.hideAll F.heap<|xH<|envOfC j h s⁻¹ f p::g) g x (.ref C) (.ref t) i/\J.UpToSlots i/\R={F with heap:=i}) I.ok.frames 9 (λb o e=>W.of_hideAll _ e) m n λi t v S tn y=>(i,t,v,y,9))
 <|oi (E:=λ_ _=>True) I.ok.frames (m.of_keeps λb o T _=>(o,n.keeps b o T,9)) 9 r 9 9) ?_ λ_ _ z=>z.1
 rintro _ _ ⟨⟨i,t,v,y,rfl⟩,dt⟩;calc EH I λb u e=>I.base.there b u e<|by show b∉([]:Yj);simp v ((Heap.UpToSlots.of_keeps n.keeps).trans y) (λb o e c=>W.hideAll_get _ e λz=>?_) dt L;rcases c with c|c
 .exact c<|I.stkFree b z
 .exact c.2 z
end
def z8(P:Program)(w:World)(K:f')(c:Yd)(a:Heap)(b:Str)(k:5)(e:Yi)(h:Sp):4:=
 ∃f g,FnOk P w K c a (yo P w) k f g e h/\vy K g e []/\W.keepIn K (.ref f)=6/\c b=! .ref f
theorem z8.mono  {K:f'}      (c:z8 P w K l e i j n o)(h:j<=k):z8 P w K l e i k n o:=by
 let(f p,F,r):=c;exact(f,p,F.mono h,r)
def Ay(c:z8 X.prog X.w X.K X.mg X.base a k u l)(T:Thrown X E)(m:Room k X.A)(n:Gl X a)(o:PA X (e::g) t)
 (h:(a==("__debug__":Str))=7:=by decide)(q:starEach (e::g) X.env=%[7|eval e X.env]::starEach g X.env:=by rfl)(i:(backTo j<|starEach g X.env).any (·.1)=7:=by rfl):
 PE X (.Call (.Name a p) (e::g) [] j) (Dy l [] E t):=by
 let(f v,F,b,r,s):=c;exact Gw F m n s r b .nil T.passes o h q i
def Fun.okX  {K:f'}   {n:Stmt}     (F:Fun K x i n f v)(S:FnScope N r (JY n))(len:∀j H Q E,u j H Q E->j.length=r.length)
 (l:∀e A c s H j Q E,Room k (A.deeper<|envOfC i (JY n) s⁻¹ f e)->u j H Q E->
  ∃t,xq (qu (yo P w) P w K y o N i (JY n) f e A c s H E) (Ko n) t/\t {nx:=λ_ z=>Q .non z,rt:=Q} (start N j) H):FnOk P w K y o (yo P w) (k+1) f v r u:=by
 let(L,O,kV,B,R,T,e,U,G,rfl,I,p):=F.ex;exact G2 I p S len λA c s H j Q E J q=>l e A c s H j Q E J q
end L2
namespace L2.DL
def xf(K:f')(b:YC->Res D):Sp:=λc H Q E=>∃F a,jp F H/\IsDs K F a c/\(b a).need (zy K F H Q) (XW K E F H)
def yY(K:f')(b:YC->Res D):Sp:=λc H Q E=>∃F a,jp F H/\IsDs K F a c/\(b a).need (yJ K F H Q) (XW K E F H)
def Res.strict{α:Type}:Res α->Res α
 |.ok a=>.ok a
 |_=>.no
@[simp]def vE (a:α):(Res.ok a).strict=.ok a:=rfl
def jK {r:Res α}  (h:r.strict.need p q):r.need p e:=by
 cases r with
 |ok a=>calc h
 |ex c fs=>calc h.elim
 |no=>exact h
def Q4(a:YC->Res D)(b:FA):FE:=λsd=>(b sd).bind λds=>(a ds).strict
@[simp]def b5(a)(b)(sd):Q4 a b sd=(b sd).bind λc=>(a c).strict:=rfl
def Wq(c:z8 X.prog X.w X.K X.mg X.base a k C (xf X.K i))(T:Thrown X E)(l:Room k X.A)(m:Gl X a)(o:QA X E (e::b) s)
 (f:(a==("__debug__":Str))=7:=by decide)(t:starEach (e::b) X.env=%[7|eval e X.env]::starEach b X.env:=by rfl)(g:(backTo h<|starEach b X.env).any (·.1)=7:=by rfl):
 QE X E (.Call (.Name a p) (e::b) [] h) (JB i s):=PE.weak (Ay c T l m o f t g) λZ H Q u=>by
 let(B F sd,r,n):=u;calc je B F sd (r,(ja n).mono (λv w x y z j A=>?_) λ_ _ q=>q);show xf X.K i (x++[]) z Q E;rw[ZA];exact(y,v,j.fh,A,ZW w j)
def YL(c:z8 X.prog X.w X.K X.mg X.base a k C (yY X.K i))(T:Thrown X E)(l:Room k X.A)(m:Gl X a)(o:QA X E (e::b) s)
 (f:(a==("__debug__":Str))=7:=by decide)(t:starEach (e::b) X.env=%[7|eval e X.env]::starEach b X.env:=by rfl)(g:(backTo h<|starEach b X.env).any (·.1)=7:=by rfl):
 QN X E (.Call (.Name a p) (e::b) [] h) (JB i s):=PE.weak (Ay c T l m o f t g) λZ H Q u=>by
 let(B F sd,r,n):=u;calc je B F sd (r,(ja n).mono (λv w x y z j A=>?_) λ_ _ q=>q);show yY X.K i (x++[]) z Q E;rw[ZA];exact(y,v,j.fh,A,DW w j)
def Cg(c:wM X.prog X.w X.K X.mg X.base a k C (yd X.K i))(l:Room k X.A)(m:Gl X a)(o:QA X E (e::b) s)
 (f:(a==("__debug__":Str))=7:=by decide)(t:starEach (e::b) X.env=%[7|eval e X.env]::starEach b X.env:=by rfl)(g:(backTo h<|starEach b X.env).any (·.1)=7:=by rfl):
 QE X E (.Call (.Name a p) (e::b) [] h) (Q4 i s):=PE.weak (XV c l m o f t g) λZ H Q u=>by
 let(B F sd,r,n):=u;calc je B F sd (r,(ja n).mono (λv w x y z j A=>?_) λ_ _ q=>q);show yd X.K i (x++[]) z Q E0;rw[ZA];exact(y,v,j.fh,A,jK<|ZW w j)
def YM(c:wM X.prog X.w X.K X.mg X.base a k C (zC X.K i))(l:Room k X.A)(m:Gl X a)(o:QA X E (e::b) s)
 (f:(a==("__debug__":Str))=7:=by decide)(t:starEach (e::b) X.env=%[7|eval e X.env]::starEach b X.env:=by rfl)(g:(backTo h<|starEach b X.env).any (·.1)=7:=by rfl):
 QN X E (.Call (.Name a p) (e::b) [] h) (Q4 i s):=PE.weak (XV c l m o f t g) λZ H Q u=>by
 let(B F sd,r,n):=u;calc je B F sd (r,(ja n).mono (λv w x y z j A=>?_) λ_ _ q=>q);show zC X.K i (x++[]) z Q E0;rw[ZA];exact(y,v,j.fh,A,jK<|DW w j)
section
variable   {K:f'}        {st:Stmt}
def Wr (F:Fun K x c st f l)(S:FnScope N j (JY st))
 (m:∀b A a s H E,Room k (A.deeper<|envOfC c (JY st) s⁻¹ f b)->wP (qu (yo P w) P w K p e N c (JY st) f b A a s H E) E 7 (Ko st) g):
 FnOk P w K p e (yo P w) (k+1) f l j (xf K<|jT N.length j.length g):=by
 refine F.okX S (λt H Q E=>j7 λF u=>jA λ_ h n=>?_) λb A a s H t Q E v=>j7 λF u=>jA λy h n=>(_,m b A a s H E v,?_)
 .unfold jT at n
  split at n
  .rw[h.length];lia
  .exact n.elim
 .unfold jT at n
  split at n
  .refine je (F,H,λ_=>8) F _ (RS.start y h,(ja n).mono (λo i=>?_) λ_ _ q=>q)
   induction o with
   |next sd=>calc λZ z B _ r=>i .non z B r.ext<|jM.mpr 9
   |ret d=>calc i
   |brk sd=>calc i.elim
   |cont sd=>exact i.elim
  .exact n.elim
def EI (F:Fun K x c st f l)(S:FnScope N j (JY st))
 (m:∀b A a s H E,Room k (A.deeper<|envOfC c (JY st) s⁻¹ f b)->wP (qu (yo P w) P w K p e N c (JY st) f b A a s H E) E 6 (Ko st) g):
 FnOk P w K p e (yo P w) (k+1) f l j (yY K<|qz N.length j.length g):=by
 refine F.okX S (λr H Q E=>j7 λF t=>jA λ_ h n=>?_) λb A a s H r Q E u=>j7 λF t=>jA λv h n=>(_,m b A a s H E u,?_)
 .unfold qz at n
  split at n
  .rw[h.length];lia
  .exact n.elim
 .unfold qz at n
  split at n
  .refine je (F,H,λ_=>8) F _ (RS.start v h,(ja n).mono (λo i=>?_) λ_ _ q=>q)
   induction o with
   |next sd=>calc i.elim
   |ret d=>calc i
   |brk sd=>calc i.elim
   |cont sd=>exact i.elim
  .exact n.elim
end
end L2.DL
namespace L2
def eM (h:n<1000000):n.log2<20:=by
 by_cases z:n=0
 .ext
 .exact(Nat.log2_lt z).mpr<|Zg h<|by decide
section
variable  {x:Str}  {tv:TE}{t:TA}  {k}
def rf(x:Str)(tv:TE):TE:=λZ H Q=>tv Z H λy b=>∃a:3,y=.int a/\a.natAbs<1000000/\Q (.str<|Str.empty++x++Str.ofString (toString a)) b
def c8(A:x.length<=1000)(f:PE X v tv):PE X (.JoinedStr [.Constant (.str x) k B,.FormattedValue v (-1) 8 C] g) (rf x tv):=by
 intro Y s Z H Q I h;calc wpAny_JoinedStr ?_;let E:(Str.empty:Str).length=0:=9;calc jO (Dr Y s Z H (λy b=>y=.str x/\b=H) I (9,9)) λu i(y,b,j,l,c,m)=>?_;subst c m;let(n,rfl):=l;calc qA x n (9,by grind[strLen_append,sizeLine_eq],wpAny_FormattedValue_plain<|jO (f Y i Z b _ j h) λu F(y,o,p,r,a,c,w,q)=>?_);subst c;let(G,rfl):=r;let z:=eM w;let J:=int_text_length_le (by decide) z;let e:(Str.empty++x++Str.ofString (toString a)).length<=sizeLine:=by grind[strLen_append,PySem.ofString_length,sizeLine_eq]
 exact wpAny_formatField_int ()<|qA _ _ (9,e,e,(.str<|Str.empty++x++Str.ofString (toString a),o,p.tok _,(_,9),q))
structure Exc(K:f')(mg:Yd)(c:Str)(C:Addr):4 where
 ns:W.nsIn K mainGlobals c=! ! .ref C
 mgc:mg c=! .ref C
 exc:W.excIn K C [.type "ValueError",.type "Exception",.type "BaseException",.type "object"] "ValueError.__new__"=6
def tG(m:Ye)(l:List (Option Value))(g:Addr->List Value->Option Value->Option Value->Option Value->Option Value->String->Option Value->Bool):4:=
 ∃C a b c e f n h,m=.ref C::a/\l=[b,c,e,f,! .builtin n,h]/\g C a b c e f n h=6
def aR
 (q:W.excIn.match_1 (λ_ _=>Bool) m l g (λ_ _=>7)=6):tG m l g:=by
 cases m with
 |nil=>calc JG q
 |cons v b=>
  induction v with
  |ref C=>
   cases l with
   |nil=>calc JG q
   |cons c l=>
    cases l with
    |nil=>calc JG q
    |cons e l=>
     cases l with
     |nil=>calc JG q
     |cons f l=>
      cases l with
      |nil=>calc JG q
      |cons h l=>
       cases l with
       |nil=>calc JG q
       |cons a l=>
        induction a with
        |none=>calc JG q
        |some u=>
         induction u with
         |builtin n=>
          cases l with
          |nil=>calc JG q
          |cons i l=>
           induction l with
           |nil=>calc vc _ _ _ _ _ _ _ (_,9,9,q)
           |cons _ _=>calc JG q
         |_=>calc JG q
  |_=>exact JG q
def Mp{K:f'}    {P:4}(i:K.In h)(q:W.excIn K C u b=6)
 (k:∀j N v w bs f y sub z c A m o p r s E,h.get? C=! excClassObj v w C N bs j f y sub z c A m o p r s b->h.Ns N E->E "__init__"=8->OwnTail h u j->P):P:=by
 unfold W.excIn at q
 split at q
 .rename_i A I F J;let(X,j,m,o,p,r,n,s,G,L,q):=aR q;simp only[Ud,Yp,Bool.not_eq_true']at q;let(((((M,O),a),Q),e),g):=q;subst M O;let H:=i _ _ J;let(v,bs,R,S,w,T,y,sub,z,c,U):=I;dsimp only at G a e g H;subst G a;let B:F=#[m,o,p,r,! .builtin n,s]:=by
   obtain⟨l⟩:=F;exact Zt Array.mk L
  subst B;exact k j S v w bs T y sub z c A m o p r s _ H (.of_isNs<|W.isNs_of_in i e) (W.nsMap_none_of_in i e g)<|W.tail_of_in i Q
 .exact JG q
def c7(C:Addr)(E:XK)(t:TA):TS:=λ_ Z H=>t Z H λa b=>a.length<=1000/\E (.ref C) 8 b
def lL   (R:Raises X E)(g:Exc X.K X.mg c C)(l:X.calm=6)(m:Gl X c)(n:PA X [e] t)(o:(c==("__debug__":Str))=7:=by decide)
 (i:starEach [e] X.env=%[7|eval e X.env]::starEach [] X.env:=by rfl):PS X (.Raise (! .Call (.Name c G) [e] [] a) 8 p) (c7 C E t):=by
 intro Y s Z H D I h;refine Mp I.mod.kin g.exc λJ N nm q bs hdct sn sub ab col dd k0 k1 k2 k3 k5 L r u f T=>wpAny_Raise_call_subU (nm:=nm) (q:=q) (N:=N) (bs:=bs) (hdct:=hdct) (sn:=sn) (sub:=sub) (ab:=ab) (col:=col) (dd:=dd) (k0:=k0) (k1:=k1) (k2:=k2) (k3:=k3) (k5:=k5)
  PySem.F.excBase_ValueError (by rfl) PySem.F.excBase_ValueError (T.hasType PySem.F.excBase_ValueError.hasBase) (I.ok.hd l) (by rw[i];rfl) f<|XQ I m g.mgc (9,?_) o
 let j:=n a Y s Z H _ I h;rw[i]at j ⊢;calc Calls.evalArgs_plain<|Zc j (λM v=>j7 λO w=>qW λb z P A=>?_) λ_ _ y=>y;let Q:=z.length;refine(9,QC (),b.bk _ _ r,u.keeps b.bk,T.keeps b.bk,λB x F=>R.new Y Z w v B x C _ b F A)
end
end L2
namespace L2.DL
def vX(x:Str):D->YD
 |.int a=>if Nat.ble a.natAbs 999999=6 then !(.str<|Str.empty++x++Str.ofString (toString a))else 8
 |_=>8
def aF  (b:-999999<=a)(c:a<=999999):∃z,vX x (.int a)=! .str z:=(_,Zd<|Nat.ble_eq.mpr ())
def Qs(c:Str)(f:FE):FS:=λsd=>(f sd).bind λ_=>.ex c []
@[simp]def br(c)(f)(sd):Qs c f sd=(f sd).bind λ_=>.ex c []:=rfl
section
variable        {k}
def gs(c:x.length<=1000)(e:QE X E v f):QE X E (.JoinedStr [.Constant (.str x) k s,.FormattedValue v (-1) 8 t] g) (jU (vX x) f):=
 PE.weak (c8 c e) λZ H Q h=>by
  let(B F sd,r,n):=h;calc je B F sd (r,(ja n).mono (λd i y j l m o=>?_) λ_ _ q=>q);let(z,b,q):=jf i;unfold vX at b
  split at b
  .rename_i a
   split at b
   .rename_i p;obtain rfl:=Zqi b;exact(a,jd.mp o,by let:=Nat.ble_eq.mp p;lia,q _ j l m<|ji.mpr 9)
   .exact J6 b
  ext
def V9  (R:Raises X E)(ex:Exc X.K X.mg c C)(h:X.calm=6)(i:Gl X c)(j:QE X E e b)(l:(c==("__debug__":Str))=7:=by decide)
 (a:starEach [e] X.env=%[7|eval e X.env]::starEach [] X.env:=by rfl):QS X E m (.Raise (! .Call (.Name c z) [e] [] f) 8 o) (Qs c b):=
 PS.weak (lL R ex h i (J2 j J3 a) l a) λT Z H p=>by
  let(B F sd,r,n):=p;let s:(J1 b jc sd).need (λg=>g.length=1/\XW X.K E B.F0 B.H0 c []) (XW X.K E F H):=by
   unfold Qs at n;unfold J1 jc
   induction hf:b sd with
   |ok d=>rw[hf]at n;calc(9,n)
   |ex t fs=>rw[hf]at n;calc XW.ext (n:XW X.K E B.F0 B.H0 t fs) r.ext
   |no=>rwa[hf]at n
  calc je B F sd (r,s.mono (λg u A v w x y=>?_) λ_ _ q=>q);let:=y.length;exact((),u.2 (.ref C) 8 v w (r.ext.trans x) (C,9,ex.ns,.inl 9))
end
end L2.DL
namespace L2
def pO(X:Cx)(Y:Yb)(Z:St)(E:XK)(e:Value)(a:Shared):4:=
 ∃c h₀ x C B,e=.ref x/\Inv X Y Z c a/\(∀b u,X.s₀.heap.get? b=!u->b∉X.ex->∃f,h₀.get? b=!f)/\(∀p∈X.pn++Y,∃u,h₀.get? p.1=!u)/\FlyAt X.stack h₀ c x C B a.heap/\∃d,DT a.heap x d/\E (.ref C) d c
section
variable   {Z: St}
def iN        (F:FnOk X.prog X.w X.K X.mg X.base (yo X.prog X.w) k f n l o)(q:Room k X.A)(t:vy X.K n l [])
 (I:Inv X Y Z H s)(r:j5 m a)(h:o m H Q E):YE X (call (.ref f) a) (EP X Y Z Q) (pO X Y Z E) s:=by
 let v:(a++[]).length=l.length:=by rw[ZA,<-r.length];exact F.len _ _ _ _ h
 let c:=t s a I.kIn v;rw[ZA]at c;refine wpAny_call<|codeAny_mono (F.run X.A X.stack s H (a,[]) a m Q E q I.env0 c r h) λr L g=>?_
 induction r with
 |error e=>
  let(w x C B,y,os,bare,un,i,j,A):=g;subst y;calc jF w s.heap x C B (9,I.call' os un i bare<|λb z=>Zn z (),λb u e G=>I.base.there b u e G,λp J=>(_,(I.pin p J).1),j,A)
 |ok j=>
  induction j with
  |ret u=>calc I.after g
  |next=>calc False.elim g
  |brk=>calc False.elim g
  |cont=>exact False.elim g
def Inv.flown{h₀ G B:Heap} (I:Inv X Y Z H s)(h0:∀b u,X.s₀.heap.get? b=!u->b∉X.ex->∃u',h₀.get? b=!u')(hp:∀p∈X.pn++Y,∃u,h₀.get? p.1=!u)
 (trk:∀b o,↥s b=!o->H b≠8\/(∃u,h₀.get? b=!u)/\b∉xH X.stack->B.get? b=!o)(Q:Heap.FlyingW B X.stack x (.ref C) (.ref t) G)(T:s.heap.UpToSlots G):Inv X Y Z H {s with heap:=G}:=by
 let J:∀b u,X.s₀.heap.get? b=!u->b∉X.fs->b∉xH X.stack:=λb u e f z=>by
  rcases U0.mp (I.stkSub b z)with q|q
  .exact Zn (Zk e)<|by rw[q];exact Nat.not_lt.mpr I.ok.above
  .exact f q
 let E:∀b o,X.s₀.heap.get? b=!o->b∈X.fs->b∉X.ex->∃R,G.get? b=!{o with slots:=R}:=λb o e f j=>by
  let(R,e1):=I.base.slot b o e (I.ok.frf b f) f j;let(_,S,L,U):=I.ok.funs.mem f;rw[e]at L;obtain rfl:=Zqi L;let(sl',e2):=T b _ e1 U;exact(sl',e2)
 let F:∀c v,s.heap.IsCell c v->G.IsCell c v:=λc v zh=>by
  let(o,ho,U):=zh;let(R,e):=T c o ho λvs q=>by ext
  exact(_,e,U)
 let(-m,hn,hl):=id I.loc;refine(I.ok,I.os,I.bare,(λb o e n f j=>?_,λb o e n f j=>E b o e f j,λb o e n j=>I.base.free b o e n j,λb o e j=>?_,I.base.tups,I.base.frzs,I.base.tbls),(m,T.ns hn,λi y v h1 h2 h3=>?_),λy c e=>?_,I.free,I.freeC,λp O=>?_,λb u e=>?_,I.len)
 .exact Q.1 b o<|trk b o (I.base.keep b o e n f j)<|.inr (h0 b o e j,J b o e f)
 .by_cases f:b∈X.fs
  .let(R,q):=E b o e f j;exact(_,q)
  .let(S,e'):=I.base.there b o e j;exact(S,Q.1 b S<|trk b S e'<|.inr (h0 b o e j,J b o e f))
 .let(-u,r,l):=hl i y v h1 h2 h3;calc(u,r,?_);rcases l with l|⟨k,c,e,z⟩
  .exact .inl l
  .exact .inr (k,c,e,F c _ z)
 .let(v,q):=I.cell y c e;exact(v,F c v q)
 .let(!q1,q2,q3,q4,q5):=I.pin p O;calc(Q.1 _ _<|trk _ _ q1<|.inr (hp p O,λz=>?_),q2,q3,q4,q5);rcases U0.mp (I.stkSub _ z)with q|q
  .exact q3 q
  .exact q4 q
 .refine(I.hok b u e).stay (λc v hc q=>Q.1 c v<|trk c v q<|.inl ?_) (λ_ q=>q) λ_ _ q=>q
  grind
abbrev Cx.inSuite(X:Cx)(x:Addr):Cx:={X with A:=X.A.mark ! .ref x,calm:=7,xe:=λ_ _=>False}
def Inv.suite(I:Inv X Y Z H s)(x:Addr):Inv (X.inSuite x) Y Z H s:=
 ((I.ok.mod,I.ok.kind,I.ok.glob,I.ok.blt,I.ok.above,I.ok.inj,I.ok.has,I.ok.cab,(),I.ok.frames,I.ok.stk,I.ok.exf,I.ok.bs,I.ok.bsz,I.ok.noex,I.ok.exfs,I.ok.funs,I.ok.frf),I.os,I.bare,I.base,I.loc,I.cell,I.free,I.freeC,I.pin,I.hok,I.len)
def Inv.unsuite (I:Inv (X.inSuite x) Y Z H s)(ok:X.Ok):Inv X Y Z H s:=(ok,I.os,I.bare,I.base,I.loc,I.cell,I.free,I.freeC,I.pin,I.hok,I.len)
theorem SP.unsuite    (h:SP (X.inSuite x) Y D f i)(ok:X.Ok):SP X Y D f i:=by
 induction f with
 |next=>let(c,e,I,q):=h;calc(c,e,I.unsuite ok,q)
 |brk=>let(c,e,I,q):=h;calc(c,e,I.unsuite ok,q)
 |cont=>let(c,e,I,q):=h;calc(c,e,I.unsuite ok,q)
 |ret u=>let(v c e,I,r,q):=h;exact je v c e (I.unsuite ok,r,q)
def kH(i:5)(C:Addr)(b:Sp)(t:TA)(c:TS):TS:=λD Z H=>t Z H λe f=>b e f (λv a=>D.nx (Z.set i<|!v) a)<|λg _ a=>g=.ref C/\c D Z a
def cr             (j:X.stack=X.env::X.outer)(L:X.env.frame=!X.env.locals)
 (hN:X.N.Nodup)(hi:X.N[i]?=!y)(hx:yZ X.env.scope y)(cc:z8 X.prog X.w X.K X.mg X.base a k ps sp)(hr:Room k X.A)(hg:Gl X a)(ha:PA X.nox (e::n) t)(ex:Exc X.K X.mg c C)(M:Gl X c)(hs:∀x,xq (X.inSuite x) (b₀::suite) ts)
 (O:(a==("__debug__":Str))=7:=by decide)(he:starEach (e::n) X.env=%[7|eval e X.env]::starEach n X.env:=by rfl)(P:(backTo g<|starEach n X.env).any (·.1)=7:=by rfl)(hd:(c==("__debug__":Str))=7:=by decide)
 (Q:swapsWith (.Call (.Name a p) (e::n) [] g) (! .Name y py) o.line X.env=pure 7:=by rfl)(hf:X.fn y=6\/X.env.scope.names.lookup y=!.local:=by trivial):
 PS X (.Try [.Assign [.Name y py] (.Call (.Name a p) (e::n) [] g) o] [.ExceptHandler (! .Name c np) 8 (b₀::suite) hpos] [] [] pos) (kH i C sp t ts):=by
 intro Y s Z H D I h;refine Za<|wpAny_standAt<|wpAny_tryStmt_except<|wpAny_execs_cons<|wpAny_Assign_Name (Zc (by
  let(f fd,F,b,hk,hm):=cc;calc wpAny_Call_Name_kw<|XQ I hg hm (W.callWith_K I.ok.mod.kin hk (Zc (ha g Y s Z H _ (I.wish _) h) (λus s1=>j7 λvs H1=>jA λJ r q=>(J.kIn,iN F hr b J.unwish r q)) λ_ _ z=>z.elim) he P) O) (λv s1 q=>?_) λe s1 l=>by
  let(H' h₀ x C' B,rfl,I,h0,hp,((t,R),trk),(_,_,S,U)):=l;cases S;let m:=R;rw[j]at m;calc wpAny_looks_onW (I.ok.frames.trans<|by rw[j]) L m λh₄ held₄ up₄=>wpAny_landsW held₄ λh₅ fl₅ up₅=>?_;let A:=fl₅;rw[<-j]at A;let E:=up₄.trans up₅;let I5:=I.flown h0 hp trk A E;calc wpAny_handleBy_cons (codeAny_handlers_test<|XQ (I5.suite x) M ex.mgc (Mp I5.kIn ex.exc λtl N nm q bs hdct sn sub ab col dd k0 k1 k2 k3 k5 mN hC hN hni T=>?_) hd) (by intro q;cases q);let(ob,hob,G):=fl₅.there;calc wpAny_excMatches_sub_self hC hob G (T.hasType PySem.F.excBase_ValueError.hasBase)<|codeAny_handlers_suite<|lands_againW fl₅ λh₆ fl₆ up₆=>?_;rw[<-j]at fl₆;calc Zc (hs x Y _ Z H' D ((I.flown h0 hp trk fl₆<|E.trans up₆).suite x) U) (λf s2 q=>q.unsuite I.ok) λ_ _ z=>z.elim) Q
 let(z H1,J,r1,q1):=q;exact ZD J hN hi hx r1 (λs2 I2=>wpAny_execs_nil<|wpAny_execs_nil (_,H1,I2,q1)) hf
end
end L2
namespace L2.DL
def wW(i:5)(c:Str)(a:FS)(sd:SD):Res D->Res Out
 |.ok d=>.ok (.next<|sd.set i<|~~~d)
 |.ex c' []=>@ite _ (c'=c) (Classical.propDecidable _) (a sd).strict .no
 |_=>.no
@[simp]def mq(i)(c)(a)(sd)(d):wW i c a sd (.ok d)=.ok (.next<|sd.set i<|~~~d):=rfl
@[simp]def pE(i)(c)(a)(sd):wW i c a sd (.ex c [])=(a sd).strict:=@if_pos _ (Classical.propDecidable _) 9 _ _ _
def wo(i:5)(c:Str)(a:YC->Res D)(b:FA)(e:FS):FS:=λsd=>(b sd).strict.bind λf=>wW i c e sd<|a f
@[simp]def sI(i)(c)(a)(b)(e)(sd):wo i c a b e sd=(b sd).strict.bind λf=>wW i c e sd<|a f:=rfl
section
variable {X:Cx}
def cW      (ex:Exc X.K X.mg c C)   (h:kh X.K E m (wo i c g t j) T Z H):
 kH i C (xf X.K g) (tQ X.K E0 t) (kh X.K E0 m j) T Z H:=by
 let(B F sd,r,n):=h;calc je B F sd (r,?_);unfold wo at n
 induction hf:t sd with
 |ex l fs=>rw[hf]at n;calc n.elim
 |no=>rwa[hf]at n
 |ok p=>
  rw[hf]at n;let n:(wW i c j sd<|g p).need (wS X.K m B F T) (XW X.K E B.F0 B.H0):=n;intro I y J b z;refine qA y p (b.fh,z,?_)
  induction hq:g p with
  |ok d=>
   rw[hq]at n;calc λv s u e A=>n _ s u (b.ff.trans e.ff)<|((r.step b).step e).setVal A
  |no=>rwa[hq]at n
  |ex l fs=>
   rw[hq]at n
   induction fs with
   |cons d r=>calc n.elim
   |nil=>
    by_cases w:l=c
    .subst w;rw[pE]at n;intro L a s u e f;let(M,G,x,_):=f;rw[ex.ns]at x;cases x;exact(G,B,s,sd,(r.step b).step e,(jK n).mono (λo(q:wS X.K m B F T o)=>q.mono<|b.ff.trans e.ff) λ_ _ q=>q)
    .let n:(@ite _ (l=c) (Classical.propDecidable _) (j sd).strict Res.no).need (wS X.K m B F T) (XW X.K E B.F0 B.H0):=n;rw[@if_neg _ (Classical.propDecidable _) w]at n;exact n.elim
def yY.d{K:f'}     (h:xf K c e H Q E):yY K c e H Q E:=by
 let(F ds,f,i,n):=h;exact(F,ds,f,i,n.mono (λ_ q=>q.new) λ_ _ q=>q)
theorem z8.d  {K:f'}      (c:z8 P w K j e i k l (yY K n)):z8 P w K j e i k l (xf K n):=by
 let(f o,F,r):=c;exact(f,o,F.imp λ_ _ _ _ h=>yY.d h,r)
def Mq             (l:X.stack=X.env::X.outer)(n:X.env.frame=!X.env.locals)
 (v:X.N.Nodup)(w:X.N[i]?=!y)(z:yZ X.env.scope y)(A:z8 X.prog X.w X.K X.mg X.base a k S (xf X.K B))(F:Room k X.A)(G:Gl X a)(I:QA X.nox E0 (e::g) J)(t:Exc X.K X.mg c C)(o:Gl X c)(L:∀x,wP (X.inSuite x) E0 m (b₀::suite) M)
 (q:(a==("__debug__":Str))=7:=by decide)(N:starEach (e::g) X.env=%[7|eval e X.env]::starEach g X.env:=by rfl)(r:(backTo f<|starEach g X.env).any (·.1)=7:=by rfl)(O:(c==("__debug__":Str))=7:=by decide)
 (s:swapsWith (.Call (.Name a p) (e::g) [] f) (! .Name y P) j.line X.env=pure 7:=by rfl)(Q:X.fn y=6\/X.env.scope.names.lookup y=!.local:=by trivial):
 QS X E m (.Try [.Assign [.Name y P] (.Call (.Name a p) (e::g) [] f) j] [.ExceptHandler (! .Name c U) 8 (b₀::suite) u] [] [] R) (wo i c B J M):=
 PS.weak (cr l n v w z A F G I t o L q N r O s Q) λT Z H h=>cW t h
end
end L2.DL
namespace L2
def Ws  {K:f'}            :
 PassesOwn (model (qu (yo P w) P w K h c N g b f i A a s H E).prog (qu (yo P w) P w K h c N g b f i A a s H E).w) (qu (yo P w) P w K h c N g b f i A a s H E).A (qu (yo P w) P w K h c N g b f i A a s H E).env (qu (yo P w) P w K h c N g b f i A a s H E).xe:=
 PassesOwn.leaving (Q₁:=λe j=>yo P w a H s E e j)
end L2
namespace L2.DL
def Ch(a:D->D->YD)(b:FE)(sd:SD)(y:D):D->Res D
 |.bl true=>(b sd).bind λw=>.ofO<|a y w
 |.bl false=>.ok (.bl 7)
 |_=>.no
@[simp]def bI(a:D->D->YD)(b:FE)(sd:SD)(y:D):Ch a b sd y (.bl 6)=(b sd).bind λw=>.ofO<|a y w:=rfl
@[simp]def bJ(a:D->D->YD)(b:FE)(sd:SD)(y:D):Ch a b sd y (.bl 7)=.ok (.bl 7):=rfl
def KB(g a:D->D->YD)(b c e:FE):FE:=λsd=>(b sd).bind λx=>(c sd).bind λy=>(Res.ofO<|g x y).bind<|Ch a e sd y
@[simp]def b4(g a:D->D->YD)(b c e:FE)(sd:SD):KB g a b c e sd=(b sd).bind λx=>(c sd).bind λy=>(Res.ofO<|g x y).bind<|Ch a e sd y:=rfl
def zw(H:Hp)(l:Addr):Hp:=λa=>if a=l then 8 else H a
def pi  (h:a≠l):zw H l a=H a:=by simp_all[zw]
def Mr {b:FS}  (R:Res Out->4)(P:5->SD->4)(s:P 0 sd)(t:∀sd,P f.length sd->R (.ok<|.next sd))
 (n:∀(i:5)(x:D)(sd:SD),f[i]?=!x->P i sd->(∃a,(JS h x sd).bind b=.ok (.next a)/\P (i+1) a)\/∃c j,(JS h x sd).bind b=.ex c j/\R (.ex c j)):R (xP h b f sd):=by
 let o:∀(k i:5)(sd:SD),f.length-i=k->i<=f.length->P i sd->R (xP h b (f.drop i) sd):=by
  intro k
  induction k with
  |zero=>
   intro i sd e q p;let:i=f.length:=()
   ext
  |succ k r=>
   intro i sd e q p;let g:i<f.length:=()
   rw[Uz g];unfold xP zt;rcases n i f[i] sd () p with ⟨a,l,m⟩|⟨c,j,l,m⟩
   .rw[l];exact r (i+1) a () g m
   .rwa[l]
 grind
def EJ:D->D->YD
 |.lst a,.lst b=>if a.length+b.length<=sizeLine then !(.lst<|a++b)else 8
 |_,_=>8
def cA:bU X (binaryOp .Add) EJ:=xF.weak Il λx y H Q j=>by
 let(F d e z,f,id,m,c,q):=j;cases d with
 |lst a=>
  cases e with
  |lst b=>
   let c:(if a.length+b.length<=sizeLine then !(D.lst<|a++b)else 8)=!z:=c
   split at c
   .obtain rfl:=Zqi c;let(l n,rfl,o,h):=id;let(r s,rfl,t,i):=m;let u:=h.length;let v:=i.length;exact jX l r n s (9,9,o.same f,t.same f,(),λp g=>q p F _ (.keep f g _) g (Qe f g) (_,JK,h.append i))
   ext
  |_=>calc J6 c
 |_=>exact J6 c
@[simp]def zy4(a b:YC):EJ (.lst a) (.lst b)=if a.length+b.length<=sizeLine then !(.lst<|a++b)else 8:=rfl
end L2.DL
namespace L2
def uz(K:f')(x:Str)(a:Stmt):4:=∃f b,W.nsIn K mainGlobals x=! ! .ref f/\Fun K x x a f b
def uz.callee  {K:f'}   {c:Stmt}   (X:K.In h)(G:h.Ns mainGlobals p)(d:uz K x c)
 (ok:∀{f:Addr}{i:FuncData},Fun K x x c f i->FnOk P w K p e zj k f i j q)
 (r:∀(kV l s:Value)(u:Option Addr)(n v:Value)(o:Ye),o.length=j.length->bindArgs (W.fnOf x x (Xw c) (Ko c) (JY c) .none kV l s u n v) (o,[])=pure (j.zip o)):wM P w K p e x k j q:=by
 let(f i,a,F):=d;exact(f,i,ok F,F.binds r,F.kp,W.mg_of X G a)
def uz.calleeX  {K:f'}   {c:Stmt}   (X:K.In h)(G:h.Ns mainGlobals p)(d:uz K x c)
 (ok:∀{f:Addr}{i:FuncData},Fun K x x c f i->FnOk P w K p e (yo P w) k f i j q)
 (r:∀(kV l s:Value)(u:Option Addr)(n v:Value)(o:Ye),o.length=j.length->bindArgs (W.fnOf x x (Xw c) (Ko c) (JY c) .none kV l s u n v) (o,[])=pure (j.zip o)):z8 P w K p e x k j q:=by
 let(f i,a,F):=d;exact(f,i,ok F,F.binds r,F.kp,W.mg_of X G a)
def tA(x:Str):It:=(λi _=>i<x.cps.size,λi H y a=>a=H/\∃c,x.cps[i]?=!c/\y=.str ⟨#[c]⟩,λi _=>x.cps.size<=i)
def aw  {K:f'} (f:Addr)(x:Str)(t:Tok):Turn P w K N (tA x) [f] f λi h=>h.IsStrIter f "str_ascii_iterator" x t i where
 mem:=by simp
 obj:=λi h a b g=>by
  let(-o,z,_,O):=a
  ext
 keep:=λi h n a k=>qS a λo=>jB λz r=>(o,k f () o z,r)
 item:=by
  intro X B C F A i Y s Z H E I m a j;let(!p,q,G,u,v,y):=m f ();let j:i<x.cps.size:=j;calc wpAny_pyNext_ascii_item a (c:=x.cps[i]) () λn l J=>?_;let L:Inv X Y Z H {s with heap:=n,toks:=s.toks+1}:=I.turned (λb o g e=>(J.2 b g).trans e) p q u v y;let(-o,e,c,d):=id l;exact(_,9,Bc e c d (by decide) (.str ⟨#[x.cps[i]]⟩,H,L,(_,9),(9,_,(),9),l,λb g=>(m b g).1))
 done:=by
  intro X B C F A i Y s Z H E I m a j;let(!p,q,G,u,v,y):=m f ();let j:x.cps.size<=i:=j;exact wpAny_pyNext_ascii_end (I.ok.hd A) a (by simp[j]) λn M=>(9,I.turned (λb o g e=>M b o g e) p q u v y)
 self:=λ_ _ _ _ _ a h=>wpAny_pyIter_striter_ascii a h
def fq(a:TE):TI:=λZ H R=>a Z H λy b=>∃x,y=.str x/\x.cps.all (·<128)=6/\R (tA x) b
def cg  (f:PE X l g):PI X r l (fq g):=by
 intro Y s Z H R I h;calc jO (f Y s Z H _ I h) λv a=>j7 λy i=>jA λc j m=>?_;let(-x,rfl,n,q):=m;let(t,rfl):=j;calc wpAny_pyIter_ascii n<|jF a⁻¹ [a⁻¹] _ _ i (9,c.kept λb o e=>Zq _ e,aw _ x t,(_,Zr _ 9,9,9),λb p=>?_,q);let e:b=a⁻¹:=by simpa using p
 subst e;exact c.fpOk (Zf _)<|c.hok.fresh<|Zf _
def cV(C:X.A.units+64<cLine)(b:Bool):xF X (compareOp<|if b then .NotIn else .In) λx y H Q=>∃(d:DL.D)(a:Yi)(p:Addr),DL.IsD X.K H d x/\DL.plN 12 d=6/\(a.map DL.D.str).all (DL.plN 12)=6/\y=.ref p/\yF X.K H p (a.map V.str)/\
 Q (.bl<|if b then not<|(a.map DL.D.str).any<|λe=>DL.sameD e d else(a.map DL.D.str).any λe=>DL.sameD e d) H:=by
 intro Y s Z H x y v u Q I l m f;let(d,a,p,id,n,g,o,r,q):=f;subst o;obtain rfl:=m;let(-c,ri,h,E):=I.tuple r;let t:∀a:Yi,DL.IsDs X.K H (a.map DL.D.str) (a.map V.str):=λa=>by
  induction a with
  |nil=>calc .nil
  |cons w a z=>exact .mk 9 z
 let(B,i):=DL.any_eq (A:=X.A.in1) (by show X.A.units+1+60<cLine;lia) I.hok n id l g (t a) ri;let j:c.toArray.any (DL.eqTo X.K H d)=(a.map DL.D.str).any λe=>DL.sameD e d:=by
  rw[show c.toArray.any (DL.eqTo X.K H d)=c.any (DL.eqTo X.K H d)by simp,DL.any_map',B,<-DL.any_map']
 induction b with
 |true=>
  refine SeqAt.notIn_tupleAt (DL.eqTo X.K H d) h (λw g=>i w<|by simpa using g) (.bl _,H,I,9,?_)
  rwa[j]
 |false=>
  refine SeqAt.in_tupleAt (DL.eqTo X.K H d) h (λw g=>i w<|by simpa using g) (.bl _,H,I,9,?_)
  rwa[j]
end L2
namespace L2.DL
def ub(x:Str):Bool:=x.cps.all (·<128)
def kq(x:Str):YC:=x.cps.toList.map λc=>.str ⟨#[c]⟩
def uM(f:FE):FA:=λsd=>(f sd).bind λd=>match d with
 |.str x=>if ub x=6 then .ok (kq x)else .no
 |_=>.no
@[simp]def mZ(f:FE)(sd:SD):uM f sd=(f sd).bind λd=>match d with
 |.str x=>if ub x=6 then .ok (kq x)else .no
 |_=>.no:=rfl
def yw(a:Bool):D->D->YD
 |.str c,.str x=>!(.bl<|if a then not<|not<|(Builtin.Str.occurrences x c 0 x.length 1).isEmpty else not<|(Builtin.Str.occurrences x c 0 x.length 1).isEmpty)
 |_,_=>8
def EK(a:Bool)(c:5)(x:Str):yw a (.str ⟨#[c]⟩) (.str x)=!(.bl<|if a then not<|decide<|c∈x.cps.toList else decide (c∈x.cps.toList)):=by
 show some (D.bl<|if a then not<|not<|(Builtin.Str.occurrences x ⟨#[c]⟩ 0 x.length 1).isEmpty else not<|(Builtin.Str.occurrences x ⟨#[c]⟩ 0 x.length 1).isEmpty)=_;rw[PySem.StrLaws.found_one]
noncomputable def yS:YC->YD
 |[.int i]=>if Nat.ble i.natAbs.log2 1900 then !(.str<|toString i)else 8
 |_=>8
def cO(h:QE X E e m):QI X E G e (uM m):=PI.weak (cg h) λZ H R o=>by
 let(B F sd,r,n):=o;calc je B F sd (r,(ja n).mono (λd a v g p s t=>?_) λ_ _ q=>q);cases d with
 |str x=>
  let a:(if ub x=6 then Res.ok (kq x)else Res.no).need (λu=>∀J j b,Ext F H j b->wC X.K j J u->R J b) (XW X.K E F H):=a
  split at a
  .rename_i w;let z:∀l:Yh,IsDs X.K g (l.map λc=>D.str ⟨#[c]⟩) (l.map λc=>V.str ⟨#[c]⟩):=λl=>by
    induction l with
    |nil=>calc .nil
    |cons c l A=>exact .mk (ji.mpr 9) A
   refine(x,ji.mp t,w,a (tA x) g p s<|BP (S:=λ_=>True) (z _) () (λi H y _ f=>?_) (λi H _ C=>?_) λi H y b _ f=>?_)
   .let:=(Jb.mp f).1
    rwa[Zql,Ui]at this
   .rwa[Zql,Ui]at C
   .let(I,c,L,M):=f
    ext
  .calc a.elim
 |_=>exact a.elim
def Ms(a:Bool):yy X (compareOp<|if a then .NotIn else .In) (yw a):=by
 intro Y s Z H x y v u Q I g h b;let(F,d,e,z,i,id,m,f,q):=b;cases d with
 |str c=>
  cases e with
  |str t=>
   obtain rfl:=Zqi f;let j:=ji.mp id;let l:=ji.mp m
   induction a with
   |true=>calc Pg Y s Z H x y v u Q I g h (c,t,j,l,q _ F H (.refl i)<|zS _ F)
   |false=>calc Pf Y s Z H x y v u Q I g h (c,t,j,l,q _ F H (.refl i)<|zS _ F)
  |_=>calc J6 f
 |_=>exact J6 f
def Mt:yy X (compareOp .In) (yw 7):=Ms 7
def dQ:yy X (compareOp .NotIn) (yw 6):=Ms 6
def Ci:qf X (.type "str") (wN X.K yS):=qf.weak Po λh H Q b=>by
 let(F j z,c,id,a,q):=b;unfold yS at a
 split at a
 .rename_i i
  split at a
  .rename_i e;obtain rfl:=Zqi a;let(l m,f,g,id):=jr.mp id;subst id f;exact(i,by rw[jd.mp g],US (Nat.ble_eq.mp e)<|by decide,q _ F H (.refl c)<|ji.mpr 9)
  .exact J6 a
 ext
def EL  (a:X.mg x=! .str v t)(b:Gl X x)(c:(x==("__debug__":Str))=7:=by decide):QE X E (.Name x e) (dC<|.str v):=ZX (Gb (v:=.str v) b a (t,9) c) λF=>ji.mpr 9
structure KTup(K:f')(mg:Yd)(x:Str)(ws:Yi):4 where
 ex:∃p,mg x=! .ref p/\∀H,yF K H p (ws.map V.str)
def cK{K:f'} {a:Yi}    (i:∀H,yF K H p (a.map V.str))(h:tD K E (jk (zO b) j<|dC<|.tup<|a.map .str) Z H Q):
 u3 (λx y H Q=>∃(d:D)(a:Yi)(p:Addr),IsD K H d x/\plN 12 d=6/\(a.map D.str).all (plN 12)=6/\y=.ref p/\yF K H p (a.map V.str)/\
 Q (.bl<|if b then not<|(a.map D.str).any<|λe=>sameD e d else(a.map D.str).any λe=>sameD e d) H) (tD K E j) (tC<|.ref p) Z H Q:=by
 let(B F sd,r,n):=h;calc je B F sd (r,(ja n).mono (λx l v m o g s=>?_) λ_ _ q=>q);let(z,c,q):=jf l;let c:(if plN 12 x&&(a.map D.str).all (plN 12)then !(D.bl<|if b then not<|(a.map D.str).any<|λe=>sameD e x else(a.map D.str).any λe=>sameD e x)else 8)=!z:=c
 split at c
 .rename_i f;rw[Ud]at f;obtain rfl:=Zqi c;exact je x a p (IsD.same g.fh _ _ s,f.1,f.2,9,i _,q _ m o g<|jo.mpr 9)
 .exact J6 c
def cD  (b:X.A.units+64<cLine)(k:KTup X.K X.mg g ws)(c:Gl X g)(e:QE X E a f)(i:(g==("__debug__":Str))=7:=by decide):QT X E (.Compare a [.In] [.Name g p] j) (J8<|jk (zO 7) f<|dC<|.tup<|ws.map .str):=by
 let(-q,l,m):=k.ex;exact PT.weak (Be (cV b 7) e (Gb (v:=.ref q) c l 9 i) 9) λZ H Q h=>cK m<|W8 h
def YN    (C:xF X (compareOp s) (v1 X.K g))(l:xF X (compareOp i) (v1 X.K G))(H:QE X E a I)(J:QE X E b L)(M:QE X E c N)
 (O:lastMarks [s,i] [b,c]=7:=by with_unfolding_all rfl):QT X E (.Compare a [s,i] [b,c] P) (J8<|KB g G I L N):=PT.weak (Pi C l H J M O) λ_ _ _ h=>by
  let(B F sd,r,n):=W8 h;calc je B F sd (r,(ja n).mono (λx Q v R H1 e S=>?_) λ_ _ q=>q);calc je B R sd (r.step e,(ja Q).mono (λy T w U H2 f t=>?_) λ_ _ q=>q.ext e);let(-z,Y,m):=jf (ja T);calc jX U x y z (f.fh,IsD.same f.ff _ _ S,t,Y,λv3 A Z j i3=>?_);cases z with
  |bl k=>
   refine(k,jo.mp i3,?_)
   induction k with
   |true=>
    rw[Zd 9];calc je B A sd (((r.step e).step f).step j,(ja m).mono (λu n4 v4 F4 H4 o i4=>?_) λ_ _ q=>q.ext<|e.trans<|f.trans j);let(-z',p,q):=jf n4;calc jX F4 y u z' (o.fh,IsD.same (j.ff.trans o.ff) _ _ t,i4,p,q.ext<|e.trans<|f.trans<|j.trans o)
   |false=>
    rw[Ze (by decide)];calc m _ A Z (e.trans<|f.trans j)<|jo.mpr 9
  |_=>exact m.elim
structure ClsD(K:f')(mg:Yd)(c:Str)(C:Addr)(fs:Yi):4 where
 ns:W.nsIn K mainGlobals c=! ! .ref C
 mgc:mg c=! .ref C
 cls:Cls K C
 no:∀f∈fs,u0 K C f
noncomputable def vh(f:Str):Yi->YC->YD
 |g::a,d::b=>if g=f then !d else vh f a b
 |_,_=>8
theorem Mu{K:f'}  :∀{fs:Yi}{b:YC}{a:YB}{d:D},IsDs K H b a->fs.length=a.length->vh f fs b=!d->∃x,(fs.zip a).lookup f=!x/\IsD K H d x
 |[],b,a,d,_,_,h=>J6 h
 |g::c,[],a,d,i,l,h=>by
  simp_all[IsDs.nil_iff]
 |g::c,e::b,a,d,i,l,h=>by
  let(x r,rfl,m,j):=jr.mp i;unfold vh at h;rw[Vz];by_cases q:g=f
  .ext
  .rw[Ze q]at h;let(-y,n,o):=Mu j (by simpa using l) h
   grind
def jz(c f:Str):D->YD
 |.ins c' fs ds=>if c'=c then vh f fs ds else 8
 |_=>8
def JT   (k:ClsD X.K X.mg c C fs)(m:f∈fs)(o:QE X E e p)(s:attributeBase e f X.env (eval e X.env)=eval e X.env:=by rfl):QE X E (.Attribute e f t) (jU (jz c f) p):=PE.weak (Pt o s) λZ H Q u=>by
 let(B F sd,r,n):=u;calc je B F sd (r,(ja n).mono (λd w v y A b G=>?_) λ_ _ q=>q);let(-z,g,q):=jf w;cases d with
 |ins h I J=>
  let i:(if h=c then vh f I J else 8)=!z:=g;by_cases j:h=c
  .rw[Zd j]at i;subst j;let(a S L T,rfl,l,M,N,O):=qx.mp G;rw[k.ns]at l;cases l;let(-x,P,R):=Mu O N i;exact jF a C L _ x (9,b.fh _ _ M,k.cls,k.no f m,P,q _ y A b R)
  ext
 |_=>exact J6 g
theorem Mv(f)(v):∀fs:List (Str×V),f∉fs.map (·.1)->xt f v fs=fs++[%[f|v]]
 |[],_=>9
 |%[g|x]::r,h=>by
  rw[Zl,U0,not_or]at h;show(if g=f then%[g|v]::r else%[g|x]::xt f v r)=_;rw[Ze λz=>h.1 z.symm,Mv f v r h.2];rfl
def tI(K:f')(c:Str)(a:Yi)(g:FA):TS:=λT Z H=>∃B F sd x C l fs f e,RS K B F H sd Z/\(∀(i:5)(p:Bool)(d:D),sd[i]? ≠ ! ! SV.own p d)/\Z[0]?=! ! .ref x/\B.H0 x=8/\F x=8/\W.nsIn K mainGlobals c=! ! .ref C/\H x=!(.ins C l<|fs.zip f)/\fs.length=f.length/\(fs++a).Nodup/\(fs++a).length<900/\IsDs K F e f/\
 (g sd).need (λm=>∀h j b,Ext B.F0 B.H0 h j->h x=8->j x=!(.ins C l<|(fs++a).zip b)->(fs++a).length=b.length->IsDs K h (e++m) b->T.nx Z j) (XW K E0 B.F0 B.H0)
def Mw:xq X [] (tI X.K c [] jc):=xq.weak Ba λT Z H g=>by
 let(B,F,sd,x,C,h,fs,i,b,r,no,p,q,j,s,l,m,t,u,o,n):=g;let n:∀e f a,Ext B.F0 B.H0 e f->e x=8->f x=!(.ins C h<|(fs++[]).zip a)->(fs++[]).length=a.length->IsDs X.K e (b++[]) a->T.nx Z f:=n;simp at n;exact n F H i r.ext j l m o
def Cj(k:ClsD X.K X.mg c C fs)(M:f∈fs)(N:PE X o (yL 0))(O:QE X E0 e P)(Q:xq X R (tI X.K c b g))(S:swapsWith e (! .Attribute o f j) s.line X.env=pure 7:=by rfl):
 xq X (.Assign [.Attribute o f j] e s::R) (tI X.K c (f::b)<|J1 P g):=xq.weak (ZF (Pu N O S) Q) λT Z H U=>by
 let(B,F,sd,x,t,A,h,l,u,r,no,E,G,Y,w,I,J,hn,hm,hi,n):=U;calc je B F sd (r,(ja n).mono (λd n1 v L H1 p i1=>?_) λ_ _ q=>q.ext r.ext);let c1:t=C:=by
  rw[k.ns]at w;cases w;rfl
 subst c1;let y:=p.hh _ _ I;let m:L x=8:=p.new x Y (by rw[I];simp);let lz:(h.zip l).map (·.1)=h:=by rw[List.map_fst_zip ()]
 let hfn:f∉h:=by grind
 let ll:(h.zip l).length<1000:=by
  grind
 calc(.ref x,E,x,t,A,_,9,y,k.cls,k.no f M,ll,?_);rw[Mv f v _ (by rwa[lz])];let ez:h.zip l++[%[f|v]]=(h++[f]).zip (l++[v]):=by rw[List.zip_append J];rfl
 rw[ez];let i:=r.step p;refine vc B L sd x t A (h++[f]) (l++[v],u++[d],((i.ext.ff,λa o e=>?_,λa o e=>?_,i.ext.new),i.len,i.val,(),()),no,E,G,m,w,JK,by simp[J],by simpa using hn,by simpa using hm,IsDs.snoc (IsDs.same p.ff _ _ hi) i1,(ja n1).mono (λds n2 F2 H2 z e2 f2 q1 q2 q3=>?_) λ_ _ q=>q)
 .rw[JF (Kw e m)];exact i.ext.fh _ _ e
 .rw[JF (Kw e G)];exact i.ext.hh _ _ e
 .exact n2 F2 H2 z e2 f2 (by simpa using q1) (by simpa using q2)<|by simpa using q3
def d8(K:f')(c:Str)(a:Yi)(j:YC->Res YC):Sp:=λl H Q _=>∃F g x C h i,jp F H/\l=.ref x::i/\IsDs K F g i/\F x=8/\W.nsIn K mainGlobals c=! ! .ref C/\H x=! .ins C h []/\
 (j g).need (λm=>∀b e f,Ext F (zw H x) b e->b x=8->e x=!(.ins C h<|a.zip f)->a.length=f.length->IsDs K b m f->Q .non e) (XW K E0 F<|zw H x)
def yN(n ar:5)(g:FA)(a:YC):Res YC:=if a.length+1=ar then g (8::JX (n-1) a)else .no
def wF{K:f'}     (s:jp F H)(h:IsDs K F c j):
 RS K (F,zw H x,λ_=>8) F H (8::JX N.length c) (some (.ref x)::L2.start N j)/\∀(i:5)p d,(8::JX N.length c:SD)[i]? ≠ ! ! SV.own p d:=by
 let f:=RS.start (N:=N) s h;let no:∀(i:5)p d,(8::JX N.length c:SD)[i]? ≠ ! ! SV.own p d:=λi p d q=>by
  induction i with
  |zero=>cases q
  |succ i=>
   let(-l,_,r,_,n,_):=f.own q;let(o,u):=n.has
   ext
 refine(((.refl _,s,λa o e=>by
  simp_all[zw],λ_ e _=>e),by simp[f.len],λ{i d}q=>?_,λq=>Zn q<|no _ _ _,λ_ q _ _=>Zn q<|no _ _ _),no)
 induction i with
 |zero=>cases q
 |succ i=>exact f.val q
section
variable   {K:f'}    {st:Stmt}
def fV   (F:Fun K x l st f t)(S:FnScope (y::N) p (JY st))(u:a.Nodup)(v:a.length<900)
 (z:∀j A b s H E,Room k (A.deeper<|envOfC l (JY st) s⁻¹ f j)->xq (qu zj P w K B m (y::N) l (JY st) f j A b s H E).nox (Ko st) (tI K c a g)):
 FnOk P w K B m zj (k+1) f t p (d8 K c a<|yN (y::N).length p.length g):=by
 refine F.ok S (λG H Q E=>uK λF I x C q o=>vV λ_ e i _ _ _ n=>?_) λj A b s H G Q E J=>uK λF I x C q o=>vV λL e i M O R n=>(_,z j A b s H E J,?_)
 .unfold yN at n
  split at n
  .rename_i h;rw[e,<-h,Zu,i.length]
  .exact n.elim
 .subst e;unfold yN at n
  split at n
  .let T:L2.start (y::N) (.ref x::o)=some (.ref x)::L2.start N o:=by
    unfold L2.start;simp
   rw[T];let(r,no):=wF L i;exact vc _ F _ x C q [] ([],[],r,no,9,by simp_all[zw],M,O,R,9,u,v,.nil,n)
  .exact n.elim
end
def t7(P:Program)(w:World)(K:f')(e:Yd)(b:Heap)(c:Str)(a:Yi)(k:5)(g:Yi)(i:YC->Res YC):4:=
 ∃C f h,ClsD K e c C a/\Mk K C f/\FnOk P w K e b zj k f h g (d8 K c a i)/\vy K h g []
def Xj(c:Str)(a:Yi)(b:YC->Res YC)(e:FA):FE:=λsd=>(e sd).bind λf=>(b f).bind λg=>.ok<|.ins c a g
def YO         (M:t7 X.prog X.w X.K X.mg X.base c i k ps R)(S:Room (k+1) X.A)(T:Gl X c)(U:QA X E0 (e::t) fa)
 (y:(c==("__debug__":Str))=7:=by decide)(he:starEach (e::t) X.env=%[7|eval e X.env]::starEach t X.env:=by rfl)(z:(backTo u<|starEach t X.env).any (·.1)=7:=by rfl):
 QN X E0 (.Call (.Name c p) (e::t) [] u) (Xj c i R fa):=by
 let(C f fd,A,mk,F,b):=M;calc PE.weak (λY s Z H Q I h=>wpAny_Call_Name_kw<|XQ I T A.mgc (W.callWith_K I.ok.mod.kin mk.kp (jO (U u Y s Z H _ I h) λus E=>j7 λN v=>jA λO r q=>(O.kIn,Pz mk F S b .nil GM O r q)) he z) y) λZ H Q=>qj λB F sd=>jB λr n=>je B F sd (r,(ja n).mono (λds n1 N w v j i1 x g l j8 ne=>?_) λ_ _ q=>q);let J:w x=8:=by
  induction q:w x with
  |none=>rfl
  |some o=>rw[j.fh _ _ q]at l;cases l
 let L:H x=8:=by
  induction q:H x with
  |none=>rfl
  |some o=>rw[j.hh _ _ q]at l;cases l
 let E:∀{G:Hp},jp G v->jp G (zw (upd (upd v g<|.own x) x<|.ins C g []) x):=λ{G}s a o q=>by
  let m:=s _ _ q
  rwa[pi (Kw m l),JF (Kw m l),JF (Kw m j8)]
 let s2:jp w (upd (upd v g<|.own x) x<|.ins C g []):=λa o q=>by
  let m:=j.fh _ _ q
  rwa[JF (Kw m l),JF (Kw m j8)]
 let P:Ext F H w (zw (upd (upd v g<|.own x) x<|.ins C g []) x):=(j.ff,E j.fh,E j.hh,j.new);rw[ZA];exact vd w ds x C g N (s2,9,i1,J,A.ns,JK,(ja n1).mono (λt n3 F2 H2 xs e2 f2 h2 l2 i2=>(9,n3 x F2 H2 (P.trans e2) L f2<|je C g xs (A.ns,h2,l2,i2))) λ_ _ q=>q.ext P)
def Mx(K:f')(c a:Str)(fs:Yi)(g:Stmt):4:=∃C e b,W.nsIn K mainGlobals c=! ! .ref C/\Cls K C/\(∀f∈fs,u0 K C f)/\Mk K C e/\Fun K "__init__" a g e b
def Ck(F c:Hp):4:=∀a b,c a=! .tup b->F a=! .tup b
section
variable {K:f'}  {F H F' H':Hp}
def RS.frz1C   (r:RS K B F H sd Z)(I:sd[i]?=! ! .own p d):∃F',jp F F'/\Ck F F'/\RS K B F' H (sd.set i<|~~~d) Z:=by
 let(-l,J,Q,L,f,_):=r.own I;let(o,e):=f.has;let R:i<sd.length:=(Jb.mp I).1;let G:jp F (upd F l o):=Kx L o;let S:Ck F (upd F l o):=λa xs q=>by
  by_cases z:a=l
  .subst z;rw[JK]at q;obtain rfl:=Zqi q;cases d with
   |lst O=>let(-_,h,_):=f;ext
   |dct ks O=>let(-_,h,_):=f;ext
   |ins c fs O=>let(_ _ _,_,h,_):=f;ext
   |_=>exact f.elim
  .rw[JF z]at q;exact q
 refine(upd F l o,G,S,(r.ext.ff.trans G,λb u q=>?_,r.ext.hh,λa y s=>?_),by rw[Va,r.len],λ{j x}q=>?_,λ{j p x}q=>?_,λ{j k p1 p2 d1 d2 m}n y s T=>?_)
 .by_cases z:b=l
  .simp_all[JK]
  .rw[JF z]at q;exact r.ext.fh _ _ q
 .let z:a≠l:=λz=>s (by rw[z];calc Q);rw[JF z];exact r.ext.new a y s
 .by_cases z:i=j
  .subst z;let(E,_):=KI q;cases E;exact(_,J,f.frz e L)
  .rw[Q6 z]at q;let(-v,U,X):=r.val q;exact(v,U,IsD.same G _ _ X)
 .by_cases z:i=j
  .ext
  .rw[Q6 z]at q;let(-m,Y,m2,m3,m4,m5):=r.own q;let ne:m≠l:=λe=>r.apart z I q J ();exact(m,Y,m2,by rwa[JF ne],m4.ext G λu q'=>q',m5)
 .let z1:i≠j:=λz=>by subst z;let(E,_):=KI y;cases E
  let z2:i≠k:=λz=>by subst z;let(E,_):=KI s;cases E
  rw[Q6 z1]at y;rw[Q6 z2]at s;exact r.apart n y s T
theorem RS.frzC:∀(c:Yh){F:Hp}{sd:SD},RS K B F H sd Z->∃F',jp F F'/\Ck F F'/\RS K B F' H (qM c sd) Z
 |[],F,sd,r=>(F,.refl _,λ_ _ q=>q,r)
 |i::c,F,sd,r=>by
  unfold qM
  split
  .rename_i p d h;let(-v,f,j,l):=r.frz1C h;let(-n,o,s,u):=RS.frzC c l;exact(n,f.trans o,λa e q=>j a e<|s a e q,u)
  .exact RS.frzC c r
def EM:D->Bool
 |.tup a=>a.all Ky
 |d=>Ky d
noncomputable def Xk(F H b:Hp):Hp:=λa=>match H a,b a with
 |none,some (.tup c)=>! .tup c
 |_,_=>F a
theorem yG:∀{c:YC}{e:YB},c.all Ky=6->IsDs K F c e->IsDs K F' c e
 |[],e,_,h=>by simp_all[IsDs.nil_iff]
 |d::c,e,s,h=>by
  let(x r,rfl,f,i):=jr.mp h;rw[Uv,Ud]at s;exact jr.mpr (x,r,9,f.scal s.1,yG s.2 i)
theorem Mz (s:jp F H)(m:jp F i)(l:Ck F i)(e:Ext i H g n):∀{f:YC}{c:YB},f.all EM=6->IsDs K g f c->IsDs K (Xk F H g) f c
 |[],c,_,h=>by simp_all[IsDs.nil_iff]
 |d::f,c,hd,h=>by
  let(x r,rfl,b,j):=jr.mp h;rw[Uv,Ud]at hd;exact jr.mpr (x,r,9,by
   cases d with
   |tup f=>
    let(a,c,rfl,b,j):=jy.mp b;calc jy.mpr (a,c,9,?_,yG hd.1 j);let b:g a=! .tup c:=b;show Xk F H g a=! .tup c;unfold Xk
    induction h:H a with
    |none=>rw[b]
    |some o=>
     induction q:i a with
     |none=>rw[e.new a q (by rw[h];simp)]at b;calc J6 b
     |some u=>
      let:=e.ff _ _ q;rw[b]at this;obtain rfl:=Zqi this;calc l _ _ q
   |_=>calc b.scal hd.1,Mz s m l e hd.2 j)
def EN:D->Bool
 |.lst a=>a.all EM
 |_=>7
def Az(a:Yh)(f:FE):FE:=λsd=>(f<|qM a sd).bare.bind λd=>if EN d then .ok d else .no
def nU   (h:u4 K E0 (Az j m) Z H Q):u4 K E0 m Z H Q:=by
 let(B F sd,r,n):=h;let(-p,s,t,u):=r.frzC j;refine je B p _ (u,(xI r.ext.fh<|ja n).mono (λd f l v w e b g x=>?_) λc fs q=>q)
 split at f
 .rename_i i;cases d with
  |lst C=>
   let(-y,z,A):=x;refine f l (Xk F H v) w (by
    refine(λa o q=>?_,λa o q=>?_,e.hh,λa E G=>?_)
    .unfold Xk
     rwa[r.ext.fh _ _ q]
    .unfold Xk at q
     split at q
     .rename_i b g;obtain rfl:=Zqi q;exact e.fh _ _ g
     .exact e.hh _ _<|r.ext.fh _ _ q
    simp_all[Xk]) b ?_ (y,z,Mz r.ext.fh s t e i A)
   unfold Xk;rw[b,g]
   induction q:F l with
   |none=>rfl
   |some o=>rw[r.ext.fh _ _ q]at b;cases b
  |_=>exact JG i
 .exact f.elim
end
def iX(z:Yh)(N:Yi)(cap:List (Option 5))(l:X.N.Nodup)(n:X.N[A]?=!y)(o:yZ X.env.scope y)(B:X.calm=6)(p:Ki a X.env N X.N cap=6)(E:QI X E0 r b F)
 (G:∀e C s H g,QG (JL X a N e C s H g) r t)(I:∀e C s H g,QT (JL X a N e C s H g) E0 c J)(L:∀e C s H g,QE (JL X a N e C s H g) E0 i f)(u:swapsWith (.ListComp i [(r,b,[c],0)] a v) (! .Name y M) j.line X.env=pure 6:=by rfl)
 (w:X.fn y=6\/X.env.scope.names.lookup y=!.local:=by trivial)(O:∀x,foldedSetIterable b X.env x=pure x:=by intro _;rfl):
 QS X E0 m (.Assign [.Name y M] (.ListComp i [(r,b,[c],0)] a v) j) (qp A<|Az z<|K7 cap F t J f):=PS.weak (IQ u l n o w N cap B p E G I L O) λT Z H h=>SW (λ_ _ _ q=>Eo<|nU q) h
abbrev FJ:=Str->SD->Res D
def xN:FJ:=λa _=>if a.length<=sizeLine then .ok (.str a)else .no
def qG(x:Str)(r:FJ):FJ:=λa sd=>if(a++x).length<=sizeLine then r (a++x) sd else .no
def wd(g:D->Option Str)(b:FE)(r:FJ):FJ:=λa sd=>(b sd).bind λd=>match g d with
 |some z=>if z.length<=sizeLine/\(a++z).length<=sizeLine then r (a++z) sd else .no
 |none=>.no
def K0:D->Option Str
 |.str x=>! reprText x
 |_=>8
def QJ(X:Cx)(E:XK)(e:List Expr)(f:FJ):4:=∀(Y:Yb)(s:Shared)(Z:St)(H:Hp)(a:Str)(Q:VK),Inv X Y Z H s->tD X.K E (f a) Z H Q->
 Joins (model X.prog X.w) X.A X.xe (evalEach e X.env) a (λb c=>b.length<=sizeLine/\EP X Y Z Q (.str b c.toks) {c with toks:=c.toks+1}) s
section
variable         {k}
def A0:QJ X E [] xN:=λY s Z H a Q I b=>by
 let(B F sd,r,n):=b;unfold xN at n
 split at n
 .rename_i h;exact(h,.str a,H,I.tok _,(_,9),n _ F H (.refl r.ext.fh)<|ji.mpr 9)
 .exact n.elim
def Xl(b:QJ X E c r):QJ X E (.Constant (.str x) k q::c) (qG x r):=λY s Z H e Q I f=>by
 let(B F sd,g,n):=f;unfold qG at n
 split at n
 .rename_i h;calc jO (Dr Y s Z H (λy a=>y=.str x/\a=H) I (9,9)) λu i=>j7 λy a=>qW λj l m o=>?_;subst m o;let(p,rfl):=l;exact(x,p,9,h,b Y i Z a _ Q j<|je B F sd (g,n))
 .exact n.elim
def A1(o:QE X E e p)(g:QJ X E t r):QJ X E (.FormattedValue e 114 8 C::t) (wd K0 p r):=λY s Z H a Q I v=>by
 let(B F sd,i,n):=v;refine wpAny_FormattedValue_repr<|jO (o Y s Z H (λy c=>∃z:Str,y=.str z/\(reprText z).length<=sizeLine/\(a++reprText z).length<=sizeLine/\tD X.K E (r<|a++reprText z) Z c Q) I<|je B F sd (i,(ja n).mono (λd b y w c f x=>?_) λ_ _ q=>q)) λu G(y,c,j,A,z,f,l,m,q)=>?_
 .cases d with
  |str z=>
   let b:(if(reprText z).length<=sizeLine/\(a++reprText z).length<=sizeLine then r (a++reprText z) sd else .no).need (zy X.K F H Q) (XW X.K E F H):=b
   split at b
   .rename_i h;exact(z,ji.mp x,h.1,h.2,B,w,sd,i.step f,b.mono (λd q=>q.ext f) λ_ _ q=>q.ext f)
   .calc b.elim
  |_=>exact b.elim
 .subst f;let(J,rfl):=A;exact wpAny_pyReprObj_str (wpAny_formatField_str (_,_,9,m,g Y _ Z c _ Q (j.tok _) q) (_,_,9,m,g Y _ Z c _ Q ((j.tok _).tok _) q) l) l
def A3  (h:QJ X E (a::b::c) f):QE X E (.JoinedStr (a::b::c) e) (f Str.empty):=λY s Z H Q I q=>wpAny_JoinedStr<|h Y s Z H Str.empty Q I q
end
end L2.DL
namespace L2
open PySem
def JM  (a:h.kind=.function:=by rfl)(b:h.isCoroutine=7:=by rfl)(c:h.isGenerator=7:=by rfl)(d:N.Nodup:=by decide+kernel)(e:N.take P.length=P:=by rfl)
 (f:∀x∈P,h.names.lookup x=!.local\/h.names.lookup x=!.cell:=by decide+kernel)(g:∀y∈h.names,y.2 ≠ .free:=by decide+kernel):FnScope N P h:=(a,b,c,d,e,f,g)
def xA   (i:5)(a:X.N.Nodup)(b:X.N[i]?=!x:=by rfl)(c:yZ X.env.scope x:=by trivial)(e:X.fn x=6\/X.env.scope.names.lookup x=!.local:=by trivial):PG X (.Name x f) (We i):=JP a b c e
section
variable {p:Ye->Prop}
def tN(h:∀a,p [a]):∀b:Ye,b.length=1->p b:=λb e=>by
 let(a,rfl):=List.length_eq_one_iff.mp e;exact h a
def nR(h:∀a b,p [a,b]):∀c:Ye,c.length=2->p c:=λc e=>by
 cases c with
 |nil=>ext
 |cons a c=>exact tN (p:=λc=>p<|a::c) (λb=>h a b) c<|UL e
def tM(h:∀a b c,p [a,b,c]):∀f:Ye,f.length=03->p f:=λf e=>by
 cases f with
 |nil=>ext
 |cons a f=>exact nR (p:=λf=>p<|a::f) (λb c=>h a b c) f<|UL e
def nQ(h:∀a b c d,p [a,b,c,d]):∀f:Ye,f.length=04->p f:=λf e=>by
 induction f with
 |nil=>ext
 |cons a f=>exact tM (p:=λf=>p<|a::f) () f<|UL e
def oj(h:∀a b c d e,p [a,b,c,d,e]):∀f:Ye,f.length=05->p f:=λf e=>by
 induction f with
 |nil=>ext
 |cons a f=>exact nQ (p:=λf=>p<|a::f) () f<|UL e
end
end L2
namespace L2.DL
section
variable    {fo fa:FE}
def YP(fo a:FE):FE:=λsd=>(fo sd).bind λd=>match d with
 |.dct b ds=>(a sd).bind λk=>.ofO<|(Qr k).map λq=>(jS b ds q).getD .non
 |_=>.no
@[simp]def ng(fo a:FE)(sd:SD):YP fo a sd=(fo sd).bind λd=>(BS d).bind λo=>(a sd).bind λk=>.ofO<|(Qr k).map λq=>(jS o.1 o.2 q).getD .non:=by
 unfold YP
 induction fo sd with
 |ok d=>cases d<;>rfl
 |ex c fs=>rfl
 |no=>rfl
def cy(u:X.A.units+1<cLine)(x:QE X E o fo)(A:QE X E e fa)(C:M1 X o "get" a e b):QE X E (.Call (.Attribute o "get" a) [e] [] b) (YP fo fa):=PE.weak (Rc u x A C) λZ H Q G=>by
 let(B F sd,r,n):=G;calc je B F sd (r,(ja n).mono (λd i v I H1 c j=>?_) λ_ _ q=>q);cases d with
 |dct l J=>
  rw[qc]at j;let(p L,rfl,M,N,O):=j;let m:=c.fh _ _ M;calc(p,9,.inl (_,.inl m),B,I,sd,r.step c,(ja i).mono (λk P w s t f R=>?_) λ_ _ q=>q.ext c);let(-z,g,q):=jf P;let(h,S,g):=Jj.mp g;subst g;let(T,U):=X6 h N O;refine(qR (l.zip L) h,?_,?_)
  .rw[WF S R];exact xS.k<|f.hh _ _ m
  .induction hv:jS l J h with
   |none=>
    rw[hv]at q;rw[U hv];calc q _ s t (c.trans f)<|jM.mpr 9
   |some d=>
    rw[hv]at q;let(-y,Y,iy):=T d hv;rw[Y];calc q _ s t (c.trans f)<|IsD.same f.ff _ _ iy
 |_=>exact i.elim
end
end L2.DL
namespace L2.ST
noncomputable def wO(k:jI)(D:List jI):Bool:=D.any λx=>decide<|x=k
def nL  :wO k D=6↔k∈D:=by
 simp_all[wO]
def Wt(D:List jI)(k:jI):List jI:=if wO k D=6 then D else D++[k]
def yk(a:List jI):List jI:=a.foldl Wt []
def M0(D:List jI)(k:jI):(Wt D k).length=if wO k D then D.length else D.length+1:=by
 unfold Wt
 induction h:wO k D
 .rw[Ze (),Ze (),Ua];rfl
 .rw[Zd 9,Zd 9]
def aO(D:List jI)(k a:jI):wO a (Wt D k)=(wO a D||decide (a=k)):=by
 unfold Wt;by_cases h:wO k D=6
 .ext
 .rw[Ze h,Vd,U7,nL,nL,decide_eq_true_eq,List.mem_append,List.mem_singleton]
theorem M3:∀(a D:List jI),(a.foldl Wt D).length<=D.length+a.length
 |[],D=>Zf _
 |k::a,D=>by
  let h:=M3 a<|Wt D k;rw[M0]at h;rw[U8,Zu]
  split at h<;>lia
def M4(a:List jI):(yk a).length<=a.length:=by
 let:=M3 a []
 rwa[ZC,VH]at this
theorem M5:∀(a D:List jI),(D++a).Nodup->a.foldl Wt D=D++a
 |[],D,_=>(ZA _).symm
 |k::a,D,h=>by
  let b:k∉D:=λz=>by
   rw[List.nodup_append]at h;exact h.2.2 k z k Zqs 9
  let e:Wt D k=D++[k]:=Ze λz=>b<|nL.mp z;rw[U8,e,M5 a (D++[k]) (by rw[Ug];calc h),Ug];rfl
def dedL_nodup (h:a.Nodup):yk a=a:=M5 a [] h
def lW  (h:KP k v=6):v.scannable=6:=by
 rcases KH h with ⟨i,t,rfl,rfl⟩|⟨x,t,rfl,rfl⟩<;>rfl
abbrev yx(prog:Program)(w:World)(h:Heap)(S:Addr)(D:List jI):4:=h.SetOf (Qk prog w) S (λk=>wO k D) D.length
def zX       (H:h.SetOf (Qk c w) S T n)(e:∀k,T k=wO k D)(f:n=D.length):yx c w h S D:=by
 let:T=λk=>wO k D:=funext e;subst this;subst f;exact H
section
variable          {St:Nat->Yz}
def yx.keep   (H:yx c w e S D)(k:∀o,e.get? S=!o->hp'.get? S=!o):yx c w hp' S D:=by
 let(o f i t,j,r):=H;exact jX o f i t (k _ j,r)
def aW (W:WalksS a w A.in1 I M z G c.length P St)(S:Addr)(m:S∉M)
 (n:∀i v k,P i v->c[i]?=!k->KP k v=6)(hn:c.length<=999):
 ∀(k i:5)(s:Shared),c.length-i=k->i<=c.length->St i s->yx a w s.heap S (yk<|c.take i)->
  (∀f,Moved (S::z) G s f->yx a w f.heap S (yk c)->R (.ok<|.ret .none) f)->
  codeAny (model a w) A (.builtin "set.update.loop" ([.ref S,.ref I],[])) R s:=by
 let p:S∉z:=λh=>m<|W.sub _ h;let g:∀b∈z,b∈S::z:=λb q=>Zqm _ q;intro k
 induction k with
 |zero=>
  intro i s N O j H B;let C:i=c.length:=()
  subst C;rw[Vl]at H;calc codeAny_builtin F.entry_set_update_loop ?_;rw[Around.under_plainId F.plain_set_update_loop _];show wpAny _ A.in1 (pyNext (.ref I)>>=_) _ _ s;calc Za<|W.done s _ _ j λf r=>?_;show wpAny _ A.in1 (ret Value.none) _ _ f;calc Zb<|B f (r.mono g)<|H.keep λo e=>r.heap S _ p e
 |succ k Q=>
  intro i s N O j H B;let l:i<c.length:=()
  let t:c[i]?=!c[i]:=Zqg l;calc codeAny_builtin F.entry_set_update_loop ?_;rw[Around.under_plainId F.plain_set_update_loop _];show wpAny _ A.in1 (pyNext (.ref I)>>=_) _ _ s;calc Za<|W.item i s _ _ l j λv f T u r=>?_;let E:=n i v _ T t;let U:=H.keep (hp':=f.heap) λo e=>r.heap S _ p e;show wpAny _ A.in1 (holding [v] (setAdd S v)>>=_) _ _ f;calc Za<|wpAny_holding ?_;unfold setAdd;calc wpAny_holding ?_;calc Za<|(Qk a w).pyHash (k:=c[i]) E ?_;let hl:=M4<|c.take i;let ht:(c.take i).length=i:=by rw[Uu];lia
  calc wpAny_setAddHashed_of (knd:=Qk a w) (s:={f with toks:=f.toks+1}) E (lW E) U (by unfold scanBound;lia) λX x Y=>?_;let Z:yk (c.take<|i+1)=Wt (yk<|c.take i) c[i]:=by
   rw[UV,t];unfold yk;rw[UR];rfl
  let H3:yx a w X S (yk<|c.take<|i+1):=by
   rw[Z];exact zX Y (λk'=>(aO _ _ _).symm) (M0 _ _).symm
  refine Zb (plainId_quiet F.plain_set_update_loop _,Q (i+1) _ () l (W.frame _ f _ _ u (Ve _) λb q o e=>?_) H3 λJ y L=>?_)
  .rw[x.2 b λh:b=S=>m<|by rw[<-h];calc q];exact e
  .calc B J (Moved.trans W.gtrans ((r.mono g).then_heap (Ve _) λb o q e=>?_) y) L;rw[x.2 b λh:b=S=>q<|by rw[h];calc Zqs];exact e
end
def eZ   (b:c.get? S=!{cls:=.type "set",dict:=8,data:=.set #[] 0 (.fresh 0 0 f)}):yx a w c S []:=
 jX _ #[] 0 _ (b,(9,9,9),9,λe g=>by simp at g,λk=>by simp[wO],by grind[scanBound],9,9)
set_option maxRecDepth 100000 in
set_option maxHeartbeats 3200000 in
def iY{l:Addr}{a:Yk}{q:List jI}{Q:Ya}(hh:A.handled=8)(hl:s.heap.IsList l a)(M:a.size=q.length)
 (t:∀(i:5)(v:Value)(k:jI),a[i]?=!v->q[i]?=!k->KP k v=6)(hn:q.length<=999)
 (h:∀(g:Heap)(J:5),yx prog w g s⁻¹ (yk q)->(∀b o,b<s⁻¹->↥s b=!o->g.get? b=!o)->Q (.ref s⁻¹) {s with heap:=g,toks:=J}):
 YF prog w A (call (.type "set") [.ref l]) Q E s:=by
 let cn:=λA:Around=>LH (prog:=prog) (w:=w) (A:=A) (E:=E) (s:=s) (.ref l) (Q₁:=λu s₁=>u=.ref s⁻¹/\s₁={s with heap:=s.heap.push {cls:=.type "set",dict:=8,data:=.set #[] 0 (.fresh 0 0<|zq w)}}) (9,9);generalize zq w=x at cn;let(c,tl,hmro):=F.called_set.mro;let N:=F.called_set.made;let hsub:=F.called_set.sub;calc wpAny_call<|codeAny_of_tree ?_;show wpAny _ _ (callAny (.type "set") _) _ _ _;calc Zb (Code.quiet_builtin _<|by decide+kernel,codeAny_builtin F.entry_type_call ?_);rw[Around.under_plain (weight_type_call_type "set" [.ref l] []) 9];let h1:=F.called_set.notType;let h2:=F.called_set.canCreate;let hct:=F.typeCall_set_1<|.ref l
 repeat(any_goals(first|assumption|wp_step))
 calc codeAny_mono (cn _) λr s₁ m=>?_;cases r with
 |error e=>calc m
 |ok O=>
  cases O with
  |ret u=>
   let(rfl,rfl):=m;generalize f:({cls:=.type "set",dict:=8,data:=.set #[] 0 (.fresh 0 0 x)}:Obj)=no at*;let hS:(s.heap.push no).get? s⁻¹=!no:=Zr _ (by rw[<-f];rfl);let hT:Shared.TypeIs {s with heap:=s.heap.push no} (.ref s⁻¹) "set":=(_,hS,by rw[<-f]);let hli:=F.called_set.init.lookup;let hbi:=F.called_set.init.bind<|.ref s⁻¹
   repeat(any_goals(first|assumption|wp_step))
   refine codeAny_mono (codeAny_call_builtin (R:=wants (λr s₂=>r=.none/\∃g J,s₂={s with heap:=g,toks:=J}/\yx prog w g s⁻¹ (yk q)/\
    ∀b o,b<s⁻¹->↥s b=!o->g.get? b=!o) E) F.called_set.init.plain F.entry_set_init<|check_set_init_1 hT ?_) λr₂ s₂ hr₂=>?_
   .let(ol,y,z,nl,B):=hl;let(ocls,n,P,j):=ol;simp only at z B;subst z;subst B;let C:(s.heap.push no).get? l=!{cls:=.type "list",dict:=n,data:=.seq a nl,slots:=j}:=Zq _ y;let hsls:=F.sub_list_set;let hslf:=F.sub_list_frozenset;let hne:(Value.type "list"==Value.type "dict")=7:=by decide
    let G:(s.heap.push no).IsList l a:=(_,C,9,nl,9);subst f;unfold Builtin.«set.__init__» noKeywords Builtin.Frozenset.updateFrom;generalize S:pyIter=PI
    wp_walk
    subst S;calc wpAny_pyIter_list G ?_;calc Za<|wpAny_runValue ?_;let H:l<s⁻¹:=Zk y;let T:A.in1.in1.in1.handled=8:=by simp[hh]
    generalize f:({cls:=.type "set",dict:=8,data:=.set #[] 0 (.fresh 0 0 x)}:Obj)=no at*;let p:(s.heap.push no).objs.size=s⁻¹+1:=Heap.size_push ..;let I:l≠(s.heap.push no).objs.size:=by rw[p];exact Zi<|UA H
    let U:s⁻¹ ∉[(s.heap.push no).objs.size,l]:=by
     simp only[U0,Vk,or_false,not_or];exact(by rw[p];calc Zi<|UG _,UU H)
    let W:=(Walks.list (prog:=prog) (w:=w) T _ l I a).toS;rw[M]at W;refine aW W s⁻¹ U (λi v k hv hk=>t i v k hv hk) hn (q.length-0) 0 _ 9 (Uc _)
     ((_,Zr _ 9,9,9),G.push _) (eZ<|by rw[f];calc Zq _ hS) λs' L H'=>?_
    .let(g,g',d',X,Y):=s';let eg:g'=s.gens:=L.gens;let ed:d'=s.drawn:=L.drawn;let eo:Y=s.os:=L.os;subst eg;subst ed;subst eo;show wpAny _ _ _ _ _ _;calc Zb ?_;show wpAny _ _ (ret Value.none) _ _ _;calc Zb (9,g,X,9,H',λb o hb e=>?_);exact L.heap b o (by simp only[U0,Vk,or_false,not_or];calc(Zi hb,by rw[p];calc Zi<|UA hb))<|Zq _<|Zq _ e
   .cases r₂ with
    |error e=>calc hr₂
    |ok fl₂=>
     cases fl₂ with
     |ret r=>
      let(rfl,g,J,rfl,Z,hk'):=hr₂
      repeat(any_goals(first|assumption|wp_step))
      calc h _ _ Z hk'
     |_=>calc hr₂.elim
  |_=>exact m.elim
def Cm(X:Cx)(S:Addr)(n:5):HO:=.ext λh=>∃T,h.SetOf (Qk X.prog X.w) S T n
def M6(X:Cx):YB->Hp->VK->4:=λc H Q=>∃a b,c=[.ref a]/\Rd H a (.lst<|b.map kV)/\b.length<=999/\∀S,H S=8->Q (.ref S) (upd H S<|Cm X S (yk b).length)
def M7(X:Cx):YB->Hp->VK->4:=λa H Q=>∃S n,a=[.ref S]/\H S=! Cm X S n/\n<=999/\Q (.int n) H
def call_setK(n:X.calm=6):qf X (.type "set") (M6 X):=by
 intro Y s Z H M N Q I p h;let(a y,rfl,A,B,q):=h;let(-u,rfl,C):=QP p;obtain rfl:=C;let(-E,ri,F,O):=I.list (.inl A);let R:=ri.length;refine iY (I.ok.hd n) F.isList () (λi v k g S=>?_) B λU tk j G=>?_
 .let(-v',c,J):=ri.get (i:=i) (x:=kV k) ();rw[List.getElem?_toArray,c]at g;obtain rfl:=Zqi g;exact Xt (P:=X.prog) (w:=X.w) J
 .calc(.ref s⁻¹,upd H s⁻¹<|Cm X s⁻¹ (yk y).length,I.laid (λb o e=>G b o (Zk e) e) (Zf _) ?_,9,q _<|I.hok.fresh<|Zf _);let(o l m t,f,r):=id j;calc((_,j),(_,f),λh1 h2 z L=>?_);let(T o l m t,f,r):=z;exact jF T o l m t (L _ f,r)
def call_lenK:qf X (.builtin "len") (M7 X):=by
 intro Y s Z H l m Q I b h;let(S n,rfl,c,p,q):=h;let(-u,rfl,e):=QP b;obtain rfl:u=Value.ref S:=e;let(!(T,o,r,v,t,f,a,g,_,_,w,i,j),_,_):=show yq X.prog X.w H s.heap S (Cm X S n)from I.hok S _ c;exact call_len_set f a g i () (.int n,H,I.tok _,(_,by rw[j]),q)
end L2.ST
namespace L2.DL
open PySem PySem.Spec PyProof.Rows L2.ST
def Co:YC->YD
 |[.lst b]=>(Qx Qr b).bind λa=>if a.length<=999 then ! .int (yk a).length else 8
 |_=>8
theorem M8{K:f'} :∀{c:YC}{a:List jI}{b:YB},Qx Qr c=!a->IsDs K F c b->b=a.map kV
 |[],a,b,h,i=>by
  obtain rfl:=Zqi h;calc i
 |d::c,a,b,h,i=>by
  let(x r,rfl,e,f):=i;let(-k,g,h):=Jg.mp h;let(-l,j,rfl):=Jj.mp h;rw[WF g e,M8 j f];rfl
def cJ(h:∀{f:TA},PA X i f->PE X e (vN (M7 X)<|Bg (vN (M6 X) f) vK))(j:QA X E i l):QE X E e (jt Co l):=PE.weak (h j) λZ H Q m=>by
 let(B F sd,r,n):=m;calc je B F sd (r,(ja n).mono (λA o C p G c s=>?_) λ_ _ q=>q);let(z,b,q):=jf o;unfold Co at b
 split at b
 .let(-g,t,b):=Jg.mp b
  split at b
  .rename_i u;obtain rfl:=Zqi b;let(-v,rfl,h):=Q2 s;rw[jm]at h;let(a I,rfl,w,x):=h;obtain rfl:=M8 t x;let J:=M4 g;calc qA a g (9,w.same c.fh,u,λS y=>(S,_,9,JK,(),?_));exact q _ p _ (c.trans<|.keep c.fh y _)<|jd.mpr 9
  .exact J6 b
 .exact J6 b
end L2.DL
namespace L2
section
variable   {Z: St}
def Inv.freeze   (I:Inv X Y Z H s)(h:H d=! .dK f)(l:↥s d=!o):Inv X Y Z (upd H d<|.frz o<|.dK f) s:=by
 refine I.step (ch:=[]) () (λb o _ _ _ e _=>e) (λb o _ _ _ e _=>(o.slots,e)) (λb o _ _ n=>?_) (λb o _ e=>(o,e)) (λb i e=>?_) (λb o u e=>?_) (λb r e=>(#[],?_)) (λm p=>p) (λb u e=>?_) I.bare
 .rwa[JF λz=>by simp_all]
 .rwa[JF λz=>by simp_all]
 .rwa[JF λz=>by simp_all]
 .rw[JF λz=>(),e];simp
 .by_cases j:b=d
  .subst j;rw[JK]at e;obtain rfl:=Zqi e;exact(l,(I.hok b _ h).stay (λ_ _ _ q=>q) λc q=>by rwa[JF λz=>by simp_all] λc i q=>by rwa[JF λz=>by simp_all])
  .rw[JF j]at e;exact(I.hok b u e).stay (λ_ _ _ q=>q) λc q=>by rwa[JF λz=>by simp_all] λc i q=>by rwa[JF λz=>by simp_all]
end
def tF(d:Addr)(o:Obj)(a:List (jI×V)):It:=
 (λi H=>H d=!(.frz o<|.dK a)/\i<a.length,
  λi H v b=>∃T k x,v=.ref T/\H T=8/\b=upd H T (.tup [kV k,x])/\a[i]?=!%[k|x],
  λi H=>H d=!(.frz o<|.dK a)/\a.length<=i)
def cN(a d:Addr)(n b i:5)(h:Heap):4:=∃ok c,IsItemIter h a d i n b ok c
theorem KV.at :∀{j:List (κ × V)}{l:List (κ × Value)}{i:5}{a:κ × V},KV j l->j[i]?=!a->∃v,l[i]?=!%[a.1|v]/\jv a.2 v:=by
 intro j l i a c;unfold KV at c
 induction c generalizing i with
 |nil=>intro e;simp at e
 |@cons p q _ _ n u o=>
  induction i with
  |zero=>
   intro f;simp at f;subst f;calc(q.2,by rw[n.1];rfl,n.2)
  |succ i=>
   intro f;let(-v,r,s):=o (by simpa using f);exact(v,by simpa using r,s)
def fj  (h:KP k v=6):jv (kV k) v:=by
 rcases KH h with ⟨i,t,rfl,rfl⟩|⟨x,t,rfl,rfl⟩
 .exact(t,9)
 .exact(t,9)
def M9  {Z:St}      (f:∀c a,o.data=.dict c a->a=m)(I:Inv X Y Z H s)(h:H d=!(.frz o<|.dK b)):
 ∃e,KV b e/\s.heap.DictAt (Qk X.prog X.w) d e m:=by
 let(!i,_,_,(e,g,p,c,a,j,n,l,r)):=show yq X.prog X.w H s.heap d (.frz o<|.dK b)from I.hok d _ h;rw[i]at j;obtain rfl:=Zqi j;let:=f c a l;subst this;exact(e,g,o,c,i,n,l,r)
def ee:entryFor table "dict_itemiterator.__iter__"=!Builtin.«dict_keyiterator.__iter__»:=
 entryFor_alias (id':="dict_keyiterator.__iter__") (by kernel_rfl) (by rfl) (by decide+kernel)<|by kernel_rfl
def ic  {K:f'}   (d b:Addr)(o:Obj)(f:List (jI×V))(S:5)(m:∀es n,o.data=.dict es n->n=S):Turn P w K (.Tuple T kx pos) (tF d o f) [b] b (cN b d f.length S)where
 mem:=by simp
 obj:=λi h g c a=>by
  let(ok,p,e):=g;rw[Jd.mp a];exact(_,e,λv q=>by cases q)
 keep:=λi h h' g y=>by
  let(ok,p,e):=g;exact qA ok p<|y b () _ e
 item:=by
  intro X B C F a i Y s Z H E I t g G;subst B C F;let(J,L):=G;let(M,j,l):=M9 m I J;let(ok p,e):=g;let u:f.length=M.length:=j.length;rw[u]at e;let(-v,hv,rv):=KV.at j (Zqg L);calc wpAny_pyNext_items_item e l hv λN h' r O ht hz y=>?_;calc(_,9,wpAny_letOwnedTupleGo_items (s:={s with heap:=h'}) O λU b1 x=>?_);let x:Heap.SameBut b h' U:=x;let lt:b≠s⁻¹:=Zi<|Zk e;let I2:=I.paired (t':=s.toks) (h':=U) (ch:=[b]) (fj r) rv t (λc a=>by rw[Jd.mp a];calc lt) (x.extBut _ _ (Ne.symm lt) ht)<|λc o a q=>by
   let a:c≠b:=λz=>a (by simp[z]);exact x.extBut c o a<|y c o a q
  calc(.ref s⁻¹,_,I2,9,je _ _ _ (9,I.hok.fresh<|Zf _,9,Zqg L),qA N v<|by rw[u];calc b1,λc a=>?_);rw[Jd.mp a];exact(JF lt).trans (t b ()).1
 done:=by
  intro X B C F a i Y s Z H E I t g G;subst B C F;let(J,L):=G;let(M,j,l):=M9 m I J;let(ok p,e):=g;let u:f.length=M.length:=j.length;rw[u]at e;calc wpAny_pyNext_items_end (I.ok.hd a) e l (Vi ()) λh' eb=>(9,I.turnedL (t':=s.toks) (ch:=[b]) (λc o a q=>?_) λc a=>t c a);exact eb c o λz=>a<|by simp[z] q
 self:=λA i s Q E g h=>by
  let(ok p,e):=g;let R:s.TypeIs (.ref b) "dict_itemiterator":=(_,e,9);calc wpAny_pyIter_slot R PySem.F.slot_dict_itemiterator_iter<|wpAny_call_entry PySem.F.slot_dict_itemiterator_iter R ee ?_<|PySem.F.args_dict_itemiterator_iter_1 _;show wpAny _ _ (ret<|.ref b) _ _ s;exact Zb (_,9,"dict_itemiterator",_,R,PySem.F.slot_dict_itemiterator_next.lookup,h)
def gb:V->YB->Hp->VK->4:=λx b H Q=>∃d a,x=.ref d/\b=[]/\H d=! .dK a/\∀p,H p=8->Q (.ref p) (upd H p<|Wi p d)
def cI(R:It->Hp->4):VK:=λx b=>∃p d a,x=.ref p/\b p=! Wi p d/\b d=! .dK a/\∀o,R (tF d o a) (upd b d<|.frz o<|.dK a)
def cx(K:f')(a:TE):TI:=λZ H R=>uG K "dict" gb a Z H<|cI R
def lA      (B:PE X e C)
 (a:attributeBase e "items" X.env (eval e X.env)=eval e X.env:=by rfl)(f:(i.endLine==j.line)=6:=by rfl):
 PI X (.Tuple y Q S) (.Call (.Attribute e "items" i) [] [] j) (cx X.K C):=by
 intro Y s Z H R I h;calc jO (G9 PySem.F.plainAttrs_dict PySem.F.slot_dict_items PySem.F.type_dict_items HV B a f Y s Z H _ I h) λu m(x,T,n,E,p,d,r,F,G,l,q)=>?_;subst F;obtain rfl:=E;let(!g,_,_):=n.hok p _ G;let(!_,_,(J,t,o,L,z,A,M,N,O)):=Bj n.hok l;let v:m.heap.DictAt (Qk X.prog X.w) d J z:=qA o L (A,M,N,O);let w:=n.freeze l A;calc wpAny_pyIter_items g v<|jF m⁻¹ [m⁻¹] _ _ _ (9,w.kept<|λb o e=>Zq _ e,ic d m⁻¹ o r z (),qA _ _<|by rw[t.length];calc Zr _ 9,λc P=>?_,q o);rw[Jd.mp P];exact w.fpOk (Zf _)<|w.hok.fresh<|Zf _
end L2
namespace L2.DL
noncomputable def gZ:jI->D
 |.inl i=>.int i
 |.inr x=>.str x
def XC(a:List jI)(b:YC):YC:=List.zipWith (λk x=>D.tup [gZ k,x]) a b
def Cp:D->Res YC
 |.dct a b=>.ok (XC a b)
 |_=>.no
def sm(f:FE):FA:=λsd=>(f sd).bind Cp
@[simp]def sV(f:FE)(sd:SD):sm f sd=(f sd).bind Cp:=rfl
def ie{K:f'}      (h:g d=!(.frz o<|.dK<|a.zip c))(y:a.length=c.length)(j:IsDs K g e c):wC K g (tF d o<|a.zip c) (XC a e):=λi z A l m=>by
 let n:=m _ _<|l _ _ h;let B:=j.length;let C:(a.zip c).length=a.length:=by rw[List.length_zip];lia
 let E:(XC a e).length=a.length:=by unfold XC;rw[List.length_zipWith];lia
 calc(λr=>((n,()),λv F s=>?_),λr=>(n,()));let(T k x,rfl,t,rfl,f):=s;let p:i<e.length:=()
 have(G,u,w):=j.get (Zqg p);rw[VM]at f;let(f,b):=f;rw[u]at b;cases b;let q:=Ext.alloc m t<|.tup [kV k,x];refine(.tup [gZ k,e[i]],_,?_,q,jy.mpr (T,_,9,.of JK,.mk (by
  induction k with
  |inl i=>calc jd.mpr 9
  |inr x=>calc ji.mpr 9)<|.mk (IsD.same (l.trans q.ff) _ _ w) .nil))
 unfold XC;rw[List.getElem?_zipWith,f,Zqg p]
def ae (J:QN X E e f)(a:attributeBase e "items" X.env (eval e X.env)=eval e X.env:=by rfl)(c:(i.endLine==j.line)=6:=by rfl):
 QI X E (.Tuple x S T) (.Call (.Attribute e "items" i) [] [] j) (sm f):=PI.weak (lA J a c) λZ H R L=>by
 let(B F sd,r,n):=L;calc je B F sd (r,(ja n).mono (λz s l A U h C G M=>?_) λ_ _ q=>q);unfold Cp at s
 split at s
 .rename_i v Y;let(-w,g,N,O):=M;refine(.inr<|.inr<|.inl (9,.inl (_,g)),l,v.zip w,9,9,g,λp t=>je p l (v.zip w) (9,JK,?_,λo=>?_))
  .let m:l≠p:=λz=>by rw[z,t]at g;exact J6 g
   exact(JF m).trans g
  .let P:A p=8:=Qe h.fh t;let Hp:H p=8:=Qe h.hh t;let m:l≠p:=λz=>by rw[z,t]at g;exact J6 g
   refine s _ (upd A l<|.frz o<|.dK<|v.zip w) _ (h.ff.trans<|Kx G _,λb u q=>?_,λb u q=>?_,λb Q I=>?_)<|ie JK N<|IsDs.same (Kx G _) _ _ O
   .by_cases z:b=l
    .subst z;rw[JK]at q ⊢;exact q
    .rw[JF z]at q ⊢;let:b≠p:=λy=>by rw[y,P]at q;exact J6 q
     rw[JF this];exact h.fh _ _ q
   .let z:b≠l:=λy=>by rw[y,C]at q;exact J6 q
    let y:b≠p:=λy=>by rw[y,Hp]at q;exact J6 q
    rw[JF z,JF y];exact h.hh _ _ q
   .let z:b≠l:=λy=>I (by rw[y];calc C);rw[JF z];exact h.new b Q I
 .exact s.elim
def uT(i:5)(sd:SD):Option (Option SV)->Res D->Res Out
 |some (~~~.int a),r=>r.bind λd=>match d with
  |.int b=>.ok (.next<|sd.set i<|~~~(.int<|a+b))
  |_=>.no
 |_,_=>.no
def wY(i:5)(f:FE):FS:=λsd=>uT i sd sd[i]?<|f sd
@[simp]def sZ(i:5)(f:FE)(sd:SD):wY i f sd=uT i sd sd[i]? (f sd):=rfl
@[simp]def bO(i:5)(sd:SD)(a b:3):uT i sd (!~~~.int a) (.ok<|.int b)=.ok (.next<|sd.set i<|~~~(.int<|a+b)):=rfl
def cS         (o:X.N.Nodup)(s:X.N[i]?=!x)(t:yZ X.env.scope x)(u:QE X E e c)
 (w:X.fn x=6\/X.env.scope.names.lookup x=!.local:=by trivial):QS X E m (.AugAssign (.Name x f) .Add e y) (wY i c):=PS.weak (OU o s t u OV w) λT Z H z=>by
 let(B F sd,r,n):=z;unfold wY at n;generalize A:sd[i]?=q at n
 induction q with
 |none=>calc False.elim n
 |some q=>induction q with
  |none=>calc False.elim n
  |some q=>induction q with
   |own p d=>calc False.elim n
   |val d=>cases d with
    |int a=>
     let(-v,C,g):=r.val A;rw[jd]at g;subst g;let n:((c sd).bind λd=>match d with
      |.int b=>Res.ok (Out.next<|sd.set i<|~~~(.int<|a+b))
      |_=>.no).need _ _:=n
     calc(_,C,B,F,sd,r,(ja n).mono (λd h v G I j l=>?_) λ_ _ q=>q.ext r.ext);cases d with
     |int b=>
      rw[jd]at l;calc(_,_,9,l,h _ G I j.ff<|(r.step j).setVal<|jd.mpr 9)
     |_=>calc False.elim h
    |_=>exact False.elim n
def A4(a:Yh)(f:FE):FE:=λsd=>(f<|qM a sd).strict.bind λd=>if Ky d then .ok d else .no
@[simp]def mR(a:Yh)(f:FE)(sd:SD):A4 a f sd=(f<|qM a sd).strict.bind λd=>if Ky d then .ok d else .no:=rfl
def cR (b:Yh)(h:QE X E e f):QE X E e (A4 b f):=PE.weak h λZ H Q g=>by
 let(B F sd,r,n):=g;let(-i,s,j):=r.frz b;refine je B i _ (j,(jK<|ja n).mono (λd a v t l m o=>?_) λc fs q=>q)
 split at a
 .rename_i p;exact a v F l (.grow r.ext.fh m.hh)<|o.scal p
 .exact a.elim
end L2.DL
namespace L2
def iC   (B:c.StaysIn s.heap)(C:s.heap.FunFrames c l)(F:s.heap.TracedAtW c e p G S)
 (h:∀g T,c.get? T=8->(∀b,b≠T->g.get? b=↥s b)->(∃o r,↥s T=!o/\o.data=.fields r)->c.StaysIn g->g.FunFrames c l->(∃t,g.TracedAtW c e p G t)->Q Yq {s with heap:=g}):wpAny M A (setFlight (.ref e) f) Q E s:=by
 let(H,r,T,I,J,v,L,w,x,u,y,j,i,N):=F;let O:=(Jo.mp N).1;let m:∀b,b≠T->(s.heap.update T<|Obj.mapFields (·.setIfInBounds 03<|f.elim Value.none λa=>rawInt a)).get? b=↥s b:=λb n=>Heap.get?_update_other _ _ n.symm;let P:∀b o,↥s b=!o->(∀R,o.data ≠ .fields R)->b≠T:=λb o q n z=>by
  subst z;rw[j]at q;cases q;exact n _ i
 unfold setFlight;calc Za<|wpAny_field v w x ?_;rw[Zd ()];refine wpAny_setField j i O<|h _ T u m (I,J,j,i) (λb o q=>(m b λz=>by rw[z,u]at q;cases q).trans<|B b o q) (C.of_keeps λb o q n=>(o,(m b<|P b o q n).trans q,9))<|vd (f.elim Value.none λa=>rawInt a) H r T _ _ ((m e y.symm).trans v,L,w,x,u,y,Heap.get?_update_self _ j<|Obj.isFreed_of_fields<|Obj.data_mapFields i _,Obj.data_mapFields i _,?_)
 ext
def iq    (i:A.frames=! g::f)(j:g.frame=!L)(r:a.StaysIn s.heap)(l:a.get? e=8)(t:s.heap.FunFrames a (g::f))(m:s.heap.TracedAtW a e p C F)
 (u:∀h,Heap.FlyingW a f e p C h->s.heap.UpToSlots h->Q Yq {s with heap:=h}):wpAny M A (leaving g<|.ref e) Q E s:=by
 by_cases c:F=rawInt L
 .subst c;exact Za<|wpAny_noteFrame_againW j m<|wpAny_setFlight_noneW r t m λh G H I J=>u h (G,l,H.2.2,I) λb o q n=>(o.slots,J b o q n)
 .let(oe,vs,T,oT,ts,N,(O,P),v,R,g5,g6,w,x,y):=m;subst O;let S:=(Jo.mp y).1;let B:∀b,b≠T->(s.heap.update T<|Obj.mapFields (·.setIfInBounds 03 Value.none)).get? b=↥s b:=λb n=>Heap.get?_update_other _ _ n.symm;let U:∀b o,↥s b=!o->(∀X,o.data ≠ .fields X)->b≠T:=by grind
  unfold leaving noteFrame;simp only[j];calc Za<|Za<|wpAny_field N v R<|Za<|wpAny_field w x y ?_;rw[Ze λz=>c<|Yp.mp z];exact Za<|wpAny_setField w x S<|wpAny_newEntryW i (t.of_keeps ()) j () (λb o q=>(B b λz=>()).trans<|r b o q) l v () P λh=>qW λY Z x3 x4=>u h (Y,l,Z.2.2,x3) λb o q n=>x4 b o ((B b<|U b o q n).trans q) n
structure FlyAny(l:List Env)(h₀:Heap)(H:Hp)(x C:Addr)(B h:Heap):4 where
 st:B.StaysIn h
 no:B.get? x=8
 fr:h.FunFrames B l
 tr:∃t fl,h.TracedAtW B x (.ref C) (.ref t) fl
 trk:∀b o,h.get? b=!o->H b≠8\/(∃u,h₀.get? b=!u)/\b∉xH l->B.get? b=!o
structure ThrownA(X:Cx)(E:XK):4 where
 on:∀(Y:Yb)(Z:St)(H:Hp)(s:Shared)(x C:Addr)(B:Heap)(d:Option Addr),Inv X Y Z H s->FlyAny X.stack X.s₀.heap H x C B s.heap->DT s.heap x d->E (.ref C) d H->X.xe (.ref x) s
def iO  {K:f'}            :ThrownA (qu (yo P w) P w K y l N n i f F A a s H E) E:=by
 calc⟨λY Z G o x C B d I g p q=>?_⟩;let(t m,r):=g.tr;calc Zc (Ax (iq (Q:=λ_ v=>∃h,Heap.FlyingW B a x (.ref C) (.ref t) h/\o.heap.UpToSlots h/\v={o with heap:=h}) I.ok.frames 9 g.st g.no g.fr r λh c j=>(h,c,j,9))<|Mo (E:=λ_ _=>True) I.ok.frames g.fr 9 p) ?_ λ_ _ z=>z.1;rintro _ _ ⟨⟨h,c,j,rfl⟩,dt'⟩;exact EH I (λb u e=>(u,e)) c j g.trk dt' q
theorem MA{h a B c:Heap}(e:∀b,B.get? b=8->c.get? b=8):∀{l:List Env},(∀b∈xH l,a.get? b=h.get? b)->h.FunFrames B l->a.FunFrames c l
 |[],_,_=>trivial
 |env::rest,k,(g,(L,o,f,g3,g4,g5),r)=>by
  let i:L∈xH (env::rest):=by
   unfold xH;rw[UT,f];exact Zqs
  refine(g,(L,o,f,e L g3,(k L i).trans g4,g5),MA e (λb j=>k b ?_) r)
  simp_all[xH]
def iE         (J:X.stack=X.env::X.outer)(hfr:X.env.frame=!X.env.locals)(hex:X.ex=[])(T:ThrownA X E)(at_:Xx X C s H ex):Thrown (JL X p N cl C s H ex) E:=by
 let(L Z0,I0,f0,hC):=at_;calc⟨λY Z H' s' h₀ x D B d I h0 fl dt hE=>?_⟩;let((t,fly),trk):=fl;let fly':Heap.FlyingW B (X.env::X.outer) x (.ref D) (.ref t) s'.heap:=by rw[<-J];exact fly
 let note:noteFrame (.ref x) (compEnvC p cl C X.env)=noteFrame (.ref x) X.env:=9;show YE X (noteFrame (.ref x)<|compEnvC p cl C X.env) (λ_ s''=>ZN X C (.ref x) s'') (ZN X C) s';rw[note];calc aY (I0.ok.frames.trans<|by rw[J]) hfr fly' dt λh1 held up1 dt1=>?_;let(-m,hm,_):=id I.loc;let hm1:h1.Ns C m:=up1.ns hm;calc(m,hm1,λr f cenv _=>?_);let(!hc1,hc2,hc3,hc4):=held;let(oC es ep,hoC,hdC,_):=id hm1;let nC:∀b o ws,h1.get? b=!o->o.data=.fields ws->b≠C:=by grind
 let i:∀b o,↥s b=!o->b≠C:=λb o q=>Zi<|Zg (Zk q) hC;let frC:∀b∈xH X.stack,b≠C:=λb a=>by
  let(_,M,j,_):=I.ok.funs.mem a;exact i b M j
 let(g,hB'):∃g,W.hideAll B [C]=g:=(_,9);let inB:∀b o,g.get? b=!o->B.get? b=!o:=λb o q=>by rw[<-hB']at q;exact W.of_hideAll _ q
 let toB:∀b o,B.get? b=!o->b≠C->g.get? b=!o:=λb o q n=>by rw[<-hB'];exact W.hideAll_get _ q<|by simpa using n
 let O:∀b,B.get? b=8->g.get? b=8:=λb q=>by
  induction z:g.get? b with
  |none=>rfl
  |some o=>rw[inB b o z]at q;cases q
 let nBC:∀b o,g.get? b=!o->b≠C:=λb o q z=>by
  let P:g.get? C=8:=by rw[<-hB'];exact W.hideAll_none [C] ()
  rw[z,P]at q;cases q
 let st2:g.StaysIn r:=λb o q=>(f.2 b<|nBC b o q).trans<|hc1 b o<|inB b o q;let fr2:r.FunFrames g X.stack:=MA O (λb a=>f.2 b<|frC b a) (by rw[J];calc hc3);let(oe,vs,T0,oT,ts,g1,g2,g3,g4,g5,g6,g7,g8,g9):=hc4;let tr2:r.TracedAtW g x (.ref D) (.ref t) (rawInt X.env.locals):=jF oe vs T0 oT ts ((f.2 x<|nC _ _ _ g1 g3).trans g1,g2,g3,g4,O T0 g5,g6,(f.2 T0<|nC _ _ _ g7 g8).trans g7,g8,g9);unfold PySem.passOn;calc Za<|wpAny_field (s:={s' with heap:=r}) ((f.2 x<|nC _ _ _ g1 g3).trans g1) g3 g4 ?_;rw[Ze ()];let dt2:DT r x d:=by
  let(oe vs T oT ts,a1,a2,a3,a4,a5,a6,a7,a8):=dt1;exact jF oe vs T oT ts ((f.2 x<|nC _ _ _ a1 a3).trans a1,a2,a3,a4,a5,(f.2 T<|nC _ _ _ a6 a7).trans a6,a7,a8)
 calc Za<|Zc (Ax (iC (s:={s' with heap:=r}) (Q:=λ_ s2=>∃w T',g.get? T'=8/\(∀b,b≠T'->w.get? b=r.get? b)/\(∃o vs,r.get? T'=!o/\o.data=.fields vs)/\g.StaysIn w/\w.FunFrames g X.stack/\(∃R,w.TracedAtW g x (.ref D) (.ref t) R)/\s2={s' with heap:=w}) st2 fr2 tr2 λw T' t1 t2 t3 A S U=>qA w T' (t1,t2,t3,A,S,U,9))<|EG (E:=λ_ _=>True) (s:={s' with heap:=r}) dt2) ?_ λ_ _ z=>z.1;rintro _ _ ⟨⟨w,T',t1,t2,t3,A,S,U,rfl⟩,dt3⟩;calc wpAny_throw ?_;let K1:∀b o,B.get? b=!o->b≠C->w.get? b=!o:=λb o q n=>A b o<|toB b o q n;let nex:∀b u,X.s₀.heap.get? b=!u->b∉ex:=λb u q a=>by
  rcases(f0 b a).2.2.2.1 with z|z
  .rw[hex]at z;cases z
  .exact Zn (Zk q)<|Nat.not_lt.mpr z
 let G:∀b o,↥s b=!o->b∈xH X.stack->b∉ex->∃sl,w.get? b=!{o with slots:=sl}:=λb o q a l=>by
  let(_,M,j,hd):=I.ok.funs.mem a;let j:↥s b=!M:=j;rw[q]at j;obtain rfl:=Zqi j;let(sl,e1):=I.base.slot b o q (I.ok.frf b a) a l;let(sl',e2):=up1 b _ e1 hd;let e3:r.get? b=!{o with slots:=sl'}:=(f.2 b<|frC b a).trans e2;calc(sl',(t2 b λz=>?_).trans e3);let(oz wz,P,z2):=t3;rw[<-z]at P;let P:r.get? b=!oz:=P;rw[e3]at P;cases P;exact hd _ z2
 refine T.on L Z0 H' _ x D g d (I0.call' (s':={s' with heap:=w}) (ch:=ex) I.os (λb o e n a l=>?_,λb o e n a l=>G b o e a l,λb o e n l=>I.base.free b o e n l,λb o e l=>?_,I.base.tups,I.base.frzs,I.base.tbls) (λb u e=>?_) I.bare λb a=>((f0 b a).2.2.2.1,(f0 b a).2.1,(f0 b a).2.2.2.2.1,(f0 b a).2.2.2.2.2)) (A,O x hc2,S,?_,λb o e c=>?_) dt3 hE
 .exact K1 b o (trk b o (I.base.keep b o e n a l)<|.inr (h0 b o e l,a))<|i b o e
 .by_cases a:b∈xH X.stack
  .let(sl,q):=G b o e a l;exact(_,q)
  .let(M,e'):=I.base.there b o e l;exact(M,K1 b M (trk b M e'<|.inr (h0 b o e l,a))<|i b o e)
 .refine(I.hok b u e).stay (λc v hc q=>K1 c v (trk c v q<|.inl ?_) ?_) (λ_ q=>q) λ_ _ q=>q
  .rcases hc with z|z
   .rw[z,e];simp
   .rw[z];simp
  .intro z;let fC:H' C=8:=I.free;rcases hc with y|y
   .rw[<-y,z,fC]at e;exact J6 e
   .rw[z,fC]at y;exact J6 y
 .let(R,q):=U;exact qA t R q
 .let key:∃F,B.get? b=!F/\b≠C:=by
   rcases c with c|⟨⟨u,hu⟩,a⟩
   .induction q:H' b with
    |none=>calc Zn q c
    |some u=>
     let(F,h2'):=(I.hok b u q).has;exact(F,trk b F h2'<|.inl c,λz=>by rw[z]at q;rw[show H' C=8 from I.free]at q;calc J6 q)
   .let(o1,e1):=I0.base.there b u hu (by rw[hex];simp);let(F,e2):=I.base.there b o1 e1 (nex b u hu);exact(F,trk b F e2<|.inr (h0 b o1 e1<|nex b u hu,a),i b o1 e1)
  let(-F,k1,k2):=key;let:=K1 b F k1 k2;let e:=e;rw[e]at this;cases this;exact toB b o k1 k2
end L2
namespace L2.DL
def pW        (N)(cap)(l:X.calm=6)(e:Ki a X.env N X.N cap=6)(m:QI X E j b n)
 (o:∀g C s H c,QG (JL X a N g C s H c) j t)(p:∀g C s H c,Xx X C s H c->QE (JL X a N g C s H c) E i f)(q:∀x,foldedSetIterable b X.env x=pure x:=by intro _;rfl):
 QN X E (.ListComp i [(j,b,[],0)] a r) (Qw cap n t f):=PE.weak (GS N cap l e m o p q) λ_ _ _ h=>Ec h
abbrev HP:=List<|Addr×D
def js:HP->Addr->YD
 |[],_=>8
 |p::r,a=>if a=p.1 then !p.2 else js r a
noncomputable def WJ:HP->Addr->D->HP
 |[],_,_=>[]
 |p::r,a,d=>if a=p.1 then%[p.1|d]::r else p::WJ r a d
def Cq(a):js [] a=8:=rfl
theorem QU(p)(r:HP)(a):js (p::r) a=if a=p.1 then !p.2 else js r a:=rfl
theorem EO:∀{c:HP}{a:Addr}{d:D}b,js c a≠8->js (WJ c a d) b=if b=a then !d else js c b
 |[],a,d,b,h=>Zn 9 h
 |p::r,a,d,b,h=>by
  unfold WJ;by_cases z:a=p.1
  .simp_all[QU]
  .rw[Ze z,QU,QU];rw[QU,Ze z]at h;rw[EO b h]
   grind
structure RT(K:f')(B B':Bs)(F H:Hp)(sd:SD)(hp:HP)(Z:St):4 where
 rs:RS K B' F H sd Z
 f0:B'.F0=B.F0
 pa:B'.pa=B.pa
 out:∀a,js hp a=8->B'.H0 a=B.H0 a
 obj:∀a d,js hp a=!d->B.F0 a=8/\B.H0 a=8/\zD K F B'.H0 a d
section
variable {K:f'}  {F F' H H':Hp}  {hp:HP}
def RT.sub(t:RT K B c F H sd hp Z):jp B.H0 c.H0:=λa o e=>by
 induction q:js hp a with
 |none=>rwa[t.out a q]
 |some d=>rw[(t.obj a d q).2.1]at e;exact J6 e
def RT.ext0(t:RT K B c F H sd hp Z) (e:Ext c.F0 c.H0 f i):Ext B.F0 B.H0 f i:=
 (by rw[<-t.f0];calc e.ff,e.fh,t.sub.trans e.hh,λa l j=>e.new a (by rwa[t.f0]) λz=>j<|Qe t.sub z)
def RT.go(t:RT K B e F H sd hp Z)(s:jp F F')(r:RS K e F' H' c Z'):RT K B e F' H' c hp Z':=
 (r,t.f0,t.pa,t.out,λa d h=>gN (t.obj a d h) λf i j=>(f,i,j.ext s λ_ q=>q))
def RT.free(t:RT K B e F H sd hp Z)(h:js hp a=!d):F a=8:=gN (t.obj a d h) λf i c=>qS c.has λo j=>t.rs.ext.new a (by rwa[t.f0]) ()
def RT.lies(t:RT K B c F H sd hp Z)(h:js hp a=!d):zD K F H a d:=(t.obj a d h).2.2.ext (.refl _) λo q=>t.rs.ext.hh _ _ q
def RT.no_own(t:RT K B c F H sd hp Z)(h:js hp a=!d) (e:c.H0 l=8):l≠a:=λz=>by
 have(o,f):=(t.obj a d h).2.2.has
 ext
def RT.ret  (t:RT K B c F H sd hp Z)(h:BD K m B Q d):BD K m c Q d:=by
 let p:zy K B.F0 B.H0 Q d->zy K c.F0 c.H0 Q d:=λh v f j e i=>h v f j (t.ext0 e) i;let q:yJ K B.F0 B.H0 Q d->yJ K c.F0 c.H0 Q d:=λh l f j e n r o=>h l f j (t.ext0 e) (Qe t.sub n) r o
 induction m with
 |none=>
  let h:nH K B.F0 B.H0 Q d:=h;show nH K c.F0 c.H0 Q d
  grind[nH]
 |some b=>
  induction b with
  |true=>calc q h
  |false=>exact p h
def RT.xw   (t:RT K B f F H sd hp Z)(h:XW K E B.F0 B.H0 c fs):XW K E f.F0 f.H0 c fs:=λi a j l e q=>h i a j l (t.ext0 e) q
def RT.chg(t:RT K B f F H sd hp Z)  (j:js hp a=!d)(h:zD K F (upd H a o) a s):RT K B (f.F0,upd f.H0 a o,f.pa) F (upd H a o) sd (WJ hp a s) Z:=by
 let v:=t.free j;have(x,E,X):=t.obj a d j;let n:js hp a≠8:=by ext
 refine(((t.rs.ext.ff,DC o t.rs.ext.fh v,λb u e=>?_,λb G I=>?_),t.rs.len,t.rs.val,λ{i p e}q=>?_,t.rs.apart),t.f0,t.pa,λb c=>?_,λb e c=>?_)
 .let e:upd f.H0 a o b=!u:=e;by_cases z:b=a
  .simp_all[JK]
  .rw[JF z]at e ⊢;exact t.rs.ext.hh _ _ e
 .by_cases z:b=a
  .rwa[z]
  .exact t.rs.ext.new b G λy=>I<|by show upd f.H0 a o b=8;rwa[JF z]
 .let(-l,J,r,L,O,Q):=t.rs.own q;let ne:=t.no_own j r;exact(l,J,(JF ne).trans r,L,O.ext (.refl _)<|λu R=>by rwa[JF ne],λz=>(Q z).mono λu R=>by rwa[JF ne])
 .rw[EO b n]at c;by_cases z:b=a
  .ext
  .rw[Ze z]at c;show upd f.H0 a o b=B.H0 b;rw[JF z];exact t.out b c
 .rw[EO b n]at c;by_cases z:b=a
  .rw[Zd z]at c;obtain rfl:=Zqi c;subst z;exact(x,E,h.ext (.refl _) λu q=>by simp_all[JK])
  .rw[Ze z]at c;have(S,T,U):=t.obj b e c;exact(S,T,U.ext (.refl _) λu q=>by show upd f.H0 a o b=!u;rwa[JF z])
def wA(F b:Hp)(hp:HP):Hp:=λa=>match js hp a with
 |some _=>b a
 |none=>F a
theorem RT.frz(t:RT K B f F H sd hp Z):∃s,jp F s/\RS K B s H sd Z/\∀a d,js hp a=!d->IsD K s d (.ref a):=by
 let y:∀b d,js hp b=!d->wA F f.H0 hp b=f.H0 b:=λb d e=>by unfold wA;rw[e]
 let n:∀b,js hp b=8->wA F f.H0 hp b=F b:=λb e=>by unfold wA;rw[e]
 let j:jp F (wA F f.H0 hp):=λb u e=>by
  induction q:js hp b with
  |none=>rw[n b q];calc e
  |some d=>rw[t.free q]at e;exact J6 e
 refine(wA F f.H0 hp,j,((?_,λb u e=>?_,t.sub.trans t.rs.ext.hh,λb J r=>?_),t.rs.len,λq=>qS (t.rs.val q) λv=>jB λr L=>(v,r,IsD.same j _ _ L),λ{i p e}q=>?_,t.rs.apart),λb e x=>?_)
 .rw[<-t.f0];exact t.rs.ext.ff.trans j
 .induction q:js hp b with
  |none=>rw[n b q]at e;calc t.rs.ext.fh _ _ e
  |some d=>rw[y b d q]at e;exact t.rs.ext.hh _ _ e
 .induction q:js hp b with
  |none=>rw[n b q];calc t.rs.ext.new b (by rw[t.f0];calc J)<|by rw[t.out b q];calc r
  |some d=>exact Zn (t.obj b d q).2.1 r
 .let(-l,O,E,Q,R,S):=t.rs.own q;let T:js hp l=8:=by
   induction z:js hp l with
   |none=>rfl
   |some U=>exact Zn 9<|t.no_own z E
  exact(l,O,Qe t.sub E,by rw[n l T];calc Q,R.ext j λ_ q=>q,λz=>by rw[<-t.pa];calc S z)
 .let(!X,Y,G):=t.obj b e x;let(o,I):=G.has;calc IsD.same (λc u q=>?_) _ _<|G.frz I<|t.free x;by_cases z:c=b
  .subst z;rw[JK]at q;rw[y c e x,I];exact q
  .rw[JF z]at q;exact j _ _ q
end
mutual
def der (g:HP):D->D
 | .adr a=>match js g a with
  |some d=>d
  |none=>.adr a
 | .lst e=>.lst (zu g e)
 | .non=>.non
 | .bl b=>.bl b
 | .int i=>.int i
 | .str x=>.str x
 | .ty n=>.ty n
 | .scr h=>.scr h
 | .tup e=>.tup e
 | .dct f e=>.dct f e
 | .ins c fs e=>.ins c fs e
 | .exc c=>.exc c
 | .exr c n=>.exr c n
 | .ucl c=>.ucl c
 | .dcf f e=>.dcf f e
 | .pin a d=>.pin a d
def zu (a:HP):YC->YC
 | []=>[]
 |d::b=>der a d::zu a b
end
theorem pP(b)(a):der b (.adr a)=match js b a with
 |some d=>d
 |none=>.adr a:=by rw[der]
def nA(a)(b):der a (.lst b)=.lst (zu a b):=by rw[der]
def aG(a):zu a []=[]:=by rw[zu]
def zx2(a)(d)(b):zu a (d::b)=der a d::zu a b:=by rw[zu]
section
variable {K:f'}{B:Bs}{F H:Hp}{sd:SD}{hp:HP}{Z: St}
mutual
theorem IsD.der (f:∀a d,js hp a=some d->IsD K F d (.ref a)):∀(d:D) (v:V),IsD K F d v->IsD K F (der hp d) v
 | .adr a,v,h=>by
  obtain rfl:=jN.mp h
  grind[pP]
 | .lst i,v,h=>by
  obtain⟨a,e,j,l,n⟩:=jm.mp h;exact jm.mpr ⟨a,e,j,l,IsDs.der f i e n⟩
 | .non,v,h=>by rwa [L2.DL.der]
 | .bl b,v,h=>by rwa [L2.DL.der]
 | .int b,v,h=>by rwa [L2.DL.der]
 | .str b,v,h=>by rwa [L2.DL.der]
 | .ty b,v,h=>by rwa [L2.DL.der]
 | .scr b,v,h=>by rwa [L2.DL.der]
 | .tup b,v,h=>by rwa [L2.DL.der]
 | .dct b c,v,h=>by rwa [L2.DL.der]
 | .ins b c d,v,h=>by rwa [L2.DL.der]
 | .exc b,v,h=>by rwa [L2.DL.der]
 | .exr b c,v,h=>by rwa [L2.DL.der]
 | .ucl b,v,h=>by rwa [L2.DL.der]
 | .dcf b c,v,h=>by rwa [L2.DL.der]
 | .pin b c,v,h=>by rwa [L2.DL.der]
theorem IsDs.der (f:∀a d,js hp a=some d->IsD K F d (.ref a)):∀c e,IsDs K F c e->IsDs K F (zu hp c) e
 | [],e,h=>by rwa [aG]
 |d::c,e,h=>have ⟨x,r,i,j,l⟩:=jr.mp h;jr.mpr ⟨x,r,i,IsD.der f d x j,IsDs.der f c r l⟩
end
def derI(hp:HP):Yh->SD->SD
 |[],sd=>sd
 |i::a,sd=>derI hp a (match sd[i]? with
  |some (~~~d)=>sd.set i (~~~der hp d)
  |_=>sd)
def A5{α:Type}{l:List α} {a:α}(h:l[i]?=!a):l.set i a=l:=by
 apply VX;intro j;by_cases z:i=j
 .subst z;rw[U6 (Jb.mp h).1,h]
 .rw[Zx z]
def RS.reval  (r:RS K B F H sd Z)(c:sd[i]?=!~~~d)(h:∀v,IsD K F d v->IsD K F e v):RS K B F H (sd.set i<|~~~e) Z:=by
 let(v,f,j):=r.val c;let:=r.setVal (i:=i)<|h v j
 rwa[A5 f]at this
theorem RS.derI(e:∀a d,js hp a=!d->IsD K F d (.ref a)):∀c{sd:SD},RS K B F H sd Z->RS K B F H (derI hp c sd) Z
 |[],sd,r=>r
 |i::c,sd,r=>by
  unfold L2.DL.derI
  split
  .rename_i d h;exact RS.derI e c<|r.reval h λv q=>IsD.der e d v q
  .exact RS.derI e c r
end
inductive Out2 where
 |next(sd:SD)(hp:HP)|ret(d:D)|brk(sd:SD)(hp:HP)|cont(sd:SD)(hp:HP)
def u2(K:f')(m:Option Bool)(B:Bs)(F:Hp)(T:Ends):Out2->4
 |.next sd c=>∀Z e a b,jp F a->RT K B e a b sd c Z->T.nx Z b
 |.brk sd c=>∀Z e a b,jp F a->RT K B e a b sd c Z->T.bk Z b
 |.cont sd c=>∀Z e a b,jp F a->RT K B e a b sd c Z->T.ct Z b
 |.ret d=>BD K m B T.rt d
abbrev xi:=SD->HP->Res Out2
def uF(K:f')(E:XK)(m:Option Bool)(g:xi):TS:=λT Z H=>∃B b F sd a,RT K B b F H sd a Z/\(g sd a).need (u2 K m B F T) (XW K E B.F0 B.H0)
abbrev wQ(X:Cx)(E:XK)(m:Option Bool)(st:Stmt)(g:xi):4:=PS X st<|uF X.K E m g
abbrev zK(X:Cx)(E:XK)(m:Option Bool)(st:List Stmt)(g:xi):4:=xq X st<|uF X.K E m g
def mm(a:HP):Out->Out2
 |.next sd=>.next sd a
 |.ret d=>.ret d
 |.brk sd=>.brk sd a
 |.cont sd=>.cont sd a
section
variable {K:f'}
def u2.mono (h:u2 K m B F T o)(e:jp F l):u2 K m B l T o:=by
 induction o with
 |next sd j=>calc λZ c f i s r=>h Z c f i (e.trans s) r
 |brk sd j=>calc λZ c f i s r=>h Z c f i (e.trans s) r
 |cont sd j=>calc λZ c f i s r=>h Z c f i (e.trans s) r
 |ret d=>exact h
def RT.lift(t:RT K B j F H sd l Z) (h:u2 K m B F T (mm l o)):wS K m j F T o:=by
 induction o with
 |next c=>calc λe f i s r=>h e j f i s<|t.go s r
 |brk c=>calc λe f i s r=>h e j f i s<|t.go s r
 |cont c=>calc λe f i s r=>h e j f i s<|t.go s r
 |ret d=>exact t.ret h
end
section
variable {X:Cx}{E:XK}  {st:Stmt}  {g:FS}{g1 g2:xi}
def yM(g:FS):xi:=λsd a=>(g sd).bind λo=>.ok<|mm a o
def Kr(h:QS X E m st g):wQ X E m st (yM g):=PS.weak h λT Z H=>xK λB a F sd c=>jB λt n=>je a F sd (t.rs,(ja n).mono (λo b=>t.lift b) λ_ _ q=>t.xw q)
def EQ:xi:=λsd a=>.ok<|.next sd a
def Kl(g1 g2:xi):xi:=λsd hp=>(g1 sd hp).bind λo=>match o with
 |.next a b=>g2 a b
 |o=>.ok o
def MB:zK X E m [] EQ:=xq.weak Ba λT Z H=>xK λB a F sd b=>jB λt n=>n Z a F H (.refl _) t
def A6(h:wQ X E m st g1):zK X E m [st] g1:=Dt h
def Wu(f:wQ X E m st g1)(h:zK X E m e g2):zK X E m (st::e) (Kl g1 g2):=xq.weak (ZF f h) λT Z H i=>by
 let(B j F sd l,t,n):=i;refine jF B j F sd l (t,(ja n).mono (λo c=>?_) λ_ _ q=>q)
 induction o with
 |next a b=>calc λv p r w s u=>jF B p r a b (u,c.mono (λo q=>q.mono s) λ_ _ q=>q)
 |ret d=>calc c
 |brk a b=>calc c
 |cont a b=>exact c
abbrev ku:=SD->HP->Res Bool
def rj(K:f')(E:XK)(f:ku):TT:=λZ H Q=>∃B b F sd a,RT K B b F H sd a Z/\(f sd a).need (uY F H Q) (XW K E F H)
abbrev t4(X:Cx)(E:XK)(e:Expr)(f:ku):4:=PT X e<|rj X.K E f
def ro(f:FT):ku:=λsd _=>f sd
def a9 (h:QT X E e f):t4 X E e (ro f):=PT.weak h λZ H Q=>xK λB a F sd b=>jB λt n=>je a F sd (t.rs,n)
def wq(c:ku)(g1 g2:xi):xi:=λsd a=>(c sd a).bind λb=>if b then g1 sd a else g2 sd a
def MC   (l:t4 X E c o)(p:zK X E m a g1)(r:zK X E m b g2):wQ X E m (.If c a b s) (wq o g1 g2):=PS.weak (Du l p r) λT Z H u=>by
 let(B f F sd h,t,n):=u;refine jF B f F sd h (t,(ja n).mono (λb i j v e=>?_) λ_ _ q=>q.ext<|t.ext0 t.rs.ext)
 induction b with
 |true=>calc jF B f j sd h (t.go e.ff<|t.rs.step e,i.mono (λ_ q=>q.mono e.ff) λ_ _ q=>q)
 |false=>exact jF B f j sd h (t.go e.ff<|t.rs.step e,i.mono (λ_ q=>q.mono e.ff) λ_ _ q=>q)
def qC(b:D->xi):YC->xi
 |[],sd,e=>.ok (.next sd e)
 |x::f,sd,e=>(b x sd e).bind λo=>match o with
  |.next a c=>qC b f a c
  |.cont a c=>qC b f a c
  |.brk a c=>.ok (.next a c)
  |.ret d=>.ok (.ret d)
def Ks(a:Tg)(b:xi)(x:D):xi:=λsd hp=>(JS a x sd).bind λs=>b s hp
def YQ(a:FA)(c:Tg)(b:xi):xi:=λsd e=>(a sd).bind λf=>qC (Ks c b) f sd e
def ME         (wk:wC X.K v J a)(r:RT X.K B B1 v H1 sd w Z)(n1:(qC (Ks t g1) a sd w).need (u2 X.K m B v T) (XW X.K E B.F0 B.H0)):
 ∃W:5->5->St->Hp->4,(∃m,W 0 m Z H1)/\∀i m' Z H,W i m' Z H->J.stop i H/\T.nx Z H\/J.go i H/\∃N:St->Hp->4,(∀s h,N s h->∃m2,m2<m'/\W (i+1) m2 s h)/\∀x h,J.yld i H x h->gT t X.K x Z h λO G=>uF X.K E m g1 {T with nx:=N,ct:=N,bk:=T.nx} O G:=by
 refine(λi k Z H=>k=a.length-i/\i<=a.length/\∃I u sd w,jp v u/\RT X.K B I u H sd w Z/\(qC (Ks t g1) (a.drop i) sd w).need (u2 X.K m B u T) (XW X.K E B.F0 B.H0),
  (a.length,9,Uc _,B1,v,sd,w,.refl _,r,n1),?_)
 rintro i k O G ⟨rfl,hi,I,u,sd2,P,Q,L,z⟩;let(!w1,w2):=wk i u G Q L.rs.ext.fh;by_cases j:i<a.length
 .have(go,yl):=w1 j;refine .inr (go,λs h=>∃R l b c,jp v l/\RT X.K B R l h b c s/\(qC (Ks t g1) (a.drop<|i+1) b c).need (u2 X.K m B l T) (XW X.K E B.F0 B.H0),
   λs h(R,l,b,c,q1,q2,q3)=>(a.length-(i+1),(),9,j,R,l,b,c,q1,q2,q3),λx H3 y=>?_)
  let(d l,hd,n,i3):=yl x H3 y;rw[Uz j]at z;let S:a[i]=d:=by ext
  rw[S]at z;let r3:=L.go n.ff<|L.rs.step n;refine Ac r3.rs i3 (ja<|ja z) λU s n4 _ r4=>jF B I l U P (r3.go (.refl _) r4,n4.mono (λo M=>?_) λ_ _ q=>q)
  induction o with
  |next e f=>calc λY A C H5 p F=>(A,C,e,f,(Q.trans n.ff).trans p,F,M.mono (λ_ q=>q.mono<|n.ff.trans p) λ_ _ q=>q)
  |cont e f=>calc λY A C H5 p F=>(A,C,e,f,(Q.trans n.ff).trans p,F,M.mono (λ_ q=>q.mono<|n.ff.trans p) λ_ _ q=>q)
  |brk e f=>calc λY A C H5 p F=>M Y A C H5 (n.ff.trans p) F
  |ret d=>exact M
 .let he:i=a.length:=()
  calc .inl (w2 (),?_);subst he;rw[Vh]at z;exact z O I u G (.refl _) L
def MF    (f:PassesOwn (model X.prog X.w) X.A X.env X.xe)(i:X.calm=6)(j:QI X E h a l)(o:QG X h t)(p:zK X E m b g1)
 (c:∀x,foldedSetIterable a X.env x=pure x:=by intro _;rfl):wQ X E m (.For h a b [] s) (YQ l t g1):=PS.weak (Dv f i j o p c) λT Z H=>xK λB u F sd f=>jB λr n=>je u F sd (r.rs,(ja n).mono (λw v J y z e wk=>ME wk (r.go e.ff<|r.rs.step e)<|v.mono (λ_ q=>q.mono e.ff) λ_ _ q=>q) λ_ _ q=>q.ext<|r.ext0 r.rs.ext)
end
@[simp]def kG(a:HP)(sd:SD):mm a (.next sd)=.next sd a:=rfl
@[simp]def sN(g:FS)(sd:SD)(a:HP):yM g sd a=(g sd).bind λo=>.ok<|mm a o:=rfl
def kW(g:xi):Out2->Res Out2
 |.next sd a=>g sd a
 |o=>.ok o
@[simp]def zxA(g:xi)(sd:SD)(a:HP):kW g (.next sd a)=g sd a:=rfl
@[simp]def bq(a b:xi)(sd:SD)(c:HP):Kl a b sd c=(a sd c).bind (kW b):=by
 rfl
@[simp]def MG(c:ku)(e f:xi)(sd:SD)(a:HP):wq c e f sd a=(c sd a).bind λb=>if b then e sd a else f sd a:=rfl
@[simp]def sK(f:FT)(sd:SD)(a:HP):ro f sd a=f sd:=rfl
@[simp]def Cr(a:FA)(c:Tg)(b:xi)(sd:SD)(e:HP):YQ a c b sd e=(a sd).bind λf=>qC (Ks c b) f sd e:=rfl
@[simp]def bA(a:HP)(sd:SD):derI a [] sd=sd:=rfl
def bC(a:HP)(i:5)(sd:SD):Option (Option SV)->SD
 |some (~~~d)=>sd.set i (~~~der a d)
 |_=>sd
@[simp]def bB(a:HP)(i:5)(sd:SD)(d:D):bC a i sd (!~~~d)=sd.set i (~~~der a d):=rfl
@[simp]def oW(a:HP)(i:5)(b:Yh)(sd:SD):derI a (i::b) sd=derI a b (bC a i sd sd[i]?):=by
 rfl
def MI(b:D->xi)(c:YC):Out2->Res Out2
 |.next sd a=>qC b c sd a
 |.cont sd a=>qC b c sd a
 |.brk sd a=>.ok (.next sd a)
 |.ret d=>.ok (.ret d)
@[simp]def eN(b:D->xi)(a:YC)(sd:SD)(c:HP):MI b a (.next sd c)=qC b a sd c:=rfl
def eH(b:D->xi)(x:D)(a:YC)(sd:SD)(c:HP):qC b (x::a) sd c=(b x sd c).bind (MI b a):=by
 rfl
@[simp]def lQ(a:Tg)(b:xi)(x:D)(sd:SD)(c:HP):Ks a b x sd c=(JS a x sd).bind λs=>b s c:=rfl
theorem ER :∀{ds:YC}{sd:SD}{hp:HP}(P:5->SD->HP->4),P 0 sd hp->(∀(i:5)(x:D)(sd:SD)(hp:HP),ds[i]?=!x->P i sd hp->∃a c,b x sd hp=.ok (.next a c)/\P (i+1) a c)->
 ∃a c,qC b ds sd hp=.ok (.next a c)/\P ds.length a c
 |[],sd,hp,P,h0,_=>(sd,hp,9,h0)
 |x::r,sd,hp,P,h0,g=>by
  let(h j,l,m):=g 0 x sd hp 9 h0;let(e f,n,o):=ER (λi=>P<|i+1) m λi y sd hp q p=>g (i+1) y sd hp q p;calc(e,f,?_,o);rw[eH,l,jh,eN,n]
@[simp]def mW(sd:SD):BN sd=.ok (.dct [] []):=rfl
def vq(K:f')(F H:Hp)(b:HP):4:=∀a d,js b a=!d->F a=8/\zD K F H a d
def RT.lent{K:f'}     (t:RT K B e F H sd c Z):vq K F H c:=λ_ _ h=>(t.free h,t.lies h)
section
variable {K:f'}
def RT.drop(t:RT K B n F H sd o Z):RS K B F H sd Z:=(t.ext0 t.rs.ext,t.rs.len,t.rs.val,λq=>qS (t.rs.own q) λl=>ve λc e f i j=>(l,c,Qe t.sub e,f,i,λz=>by rw[<-t.pa];calc j z),t.rs.apart)
end
abbrev qU:=SD->HP->Res (D×HP)
abbrev z7:=SD->HP->Res (YC×HP)
abbrev wJ:=SD->HP->Res (Bool×HP)
def vL(K:f')(E:XK)(f:qU):TE:=λZ H Q=>∃B e F sd b,RT K B e F H sd b Z/\(f sd b).need (λp=>∀v g a c,jp F a->RT K B g a c sd p.2 Z->IsD K a p.1 v->Q v c) (XW K E B.F0 B.H0)
abbrev ye(X:Cx)(E:XK)(e:Expr)(f:qU):4:=PE X e<|vL X.K E f
def kN(K:f')(E:XK)(f:z7):TA:=λZ H Q=>∃B g F sd b,RT K B g F H sd b Z/\(f sd b).need (λp=>∀c h a e,jp F a->RT K B h a e sd p.2 Z->IsDs K a p.1 c->Q c e) (XW K E B.F0 B.H0)
abbrev wG(X:Cx)(E:XK)(es:List Expr)(f:z7):4:=PA X es<|kN X.K E f
def kM(K:f')(E:XK)(f:wJ):TT:=λZ H Q=>∃B e F sd a,RT K B e F H sd a Z/\(f sd a).need (λp=>∀g b c,jp F b->RT K B g b c sd p.2 Z->Q p.1 c) (XW K E B.F0 B.H0)
abbrev uV(X:Cx)(E:XK)(e:Expr)(f:wJ):4:=PT X e<|kM X.K E f
section
variable    {a b e o i:Expr}  {fa fb fe fo fi:FE}  {fr:z7}
def x6(fe:FE):qU:=λsd hp=>(fe sd).bind λd=>.ok %[d|hp]
def Q1(h:QE X E e fe):ye X E e (x6 fe):=PE.weak h λZ H Q=>xK λB f F sd p=>jB λt n=>je f F sd (t.rs,(ja n).mono (λd g v j l c m=>g v f j l c.ff (t.go c.ff<|t.rs.step c) m) λ_ _ q=>q.ext<|t.ext0 t.rs.ext)
def wm(fo fi:FE):qU:=λsd c=>(fo sd).bind λo=>match o with
 |.adr a=>match js c a with
  |some (.lst f)=>(fi sd).bind λk=>(Res.ofO<|jR (.lst f) k).bind λz=>.ok %[z|c]
  |_=>.no
 |_=>.no
def MJ(p:QE X E o fo)(r:QE X E i fi)(s:XS i):ye X E (.Subscript o i u) (wm fo fi):=PE.weak (ZL mi p r s) λZ H Q A=>by
 let(B g F sd U,t,n):=A;refine je g F sd (t.rs,(ja n).mono (λd c v C Y h G=>?_) λ_ _ q=>q.ext<|t.ext0 t.rs.ext)
 split at c
 .rename_i a;obtain rfl:=jN.mp G
  split at c
  .rename_i es I;let f:=t.go h.ff<|t.rs.step h;calc je g C sd (f.rs,(ja c).mono (λy J w L M j N=>?_) λ_ _ q=>q.ext<|t.ext0 f.rs.ext);let l:=f.go j.ff<|f.rs.step j;have(O,P,R):=l.lies I;have(z,m,q):=jf (ja J);cases y with
   |int k=>
    have(x,S,T):=Ai R m;calc jX a O k x (9,jd.mp N,xx.of P,S,q _ g L M (h.ff.trans j.ff) l T)
   |_=>exact J6 m
  .exact c.elim
 .exact c.elim
def xj(g:D->D->YD)(fa fb:qU):qU:=λsd c=>(fa sd c).bind λp=>(fb sd p.2).bind λq=>(Res.ofO<|g p.1 q.1).bind λz=>.ok %[z|q.2]
def ES{K:f'}    (h:vL K E (xj g l m) Z H Q):u3 (v1 K g) (vL K E l) (vL K E m) Z H Q:=by
 let(B r F sd s,t,n):=h;calc jF B r F sd s (t,(ja n).mono (λp x v y A T C G I=>jF B y A sd p.2 (G,(ja x).mono (λq J w L M U j c N=>?_) λ_ _ q=>q)) λ_ _ q=>q);let(-z,O,k):=jf (ja J);exact jX M p.1 q.1 z (c.rs.ext.fh,IsD.same j _ _ I,N,O,λu P R f S=>k u L P R ((C.trans j).trans f.ff) (c.go f.ff<|c.rs.step f) S)
def XD  (c:yy X (binaryOp f) g)(j:ye X E a l)(m:ye X E b n):ye X E (.BinOp a f b p) (xj g l n):=PE.weak (Dw c j m) λ_ _ _ h=>ES h
def MK (c:zV X (v1 X.K g))(f:ye X E a j)(l:ye X E b m)(n:XS b):ye X E (.Subscript a b p) (xj g j m):=PE.weak (ZL c f l n) λ_ _ _ h=>ES h
def ET(fa:qU):wJ:=λsd c=>(fa sd c).bind λp=>match p.1 with
 |.bl b=>.ok %[b|p.2]
 |_=>.no
def aC  (h:yy X (compareOp c) g)(j:ye X E a l)(m:ye X E b r)(s:behindInMarks c b=7):uV X E (.Compare a [c] [b] u) (ET<|xj g l r):=PT.weak (Be h j m s) λZ H Q w=>by
 let(B x F sd y,t,n):=w;calc ES<|jF B x F sd y (t,(ja n).mono (λp f v z A C G I J=>?_) λ_ _ q=>q);let(d,L):=p;cases d with
 |bl k=>calc(k,jo.mp J,f z A C G I)
 |_=>exact f.elim
def Xm:z7:=λ_ hp=>.ok %[[]|hp]
def Km(f:qU)(g:z7):z7:=λsd hp=>(f sd hp).bind λp=>(g sd p.2).bind λq=>.ok %[p.1::q.1|q.2]
def Cs:wG X E [] Xm:=PA.weak Wf λZ H Q=>xK λB c F sd f=>jB λt n=>n [] c F H (.refl _) t .nil
def Wv(g:ye X E e h)(j:wG X E c fr)(l:starEach (e::c) X.env=%[7|eval e X.env]::starEach c X.env:=by rfl):wG X E (e::c) (Km h fr):=PA.weak (KQ g j l) λZ H Q=>xK λB m F sd r=>jB λt n=>jF B m F sd r (t,(ja n).mono (λp s v u w N x y z=>jF B u w sd p.2 (y,(ja s).mono (λq A C G I J f L M=>A (v::C) G I J (x.trans f) L<|.mk (IsD.same f _ _ z) M) λ_ _ q=>q)) λ_ _ q=>q)
def A7(fr:z7):qU:=λsd hp=>(fr sd hp).bind λp=>if p.1.length<=1000 then .ok %[.tup p.1|p.2]else .no
def ML (h:wG X E m fr):ye X E (.Tuple m z r) (A7 fr):=PE.weak (Gv h) λZ H Q s=>by
 let(B u F sd v,t,n):=s;refine jF B u F sd v (t,(ja n).mono (λp f j w A C x g l=>?_) λ_ _ q=>q)
 split at f
 .let G:=l.length;calc(QC (),λq y=>?_);let c:=Ext.alloc g.rs.ext.fh y<|.tup j;exact f _ w _ _ (x.trans c.ff) (g.go c.ff<|g.rs.step c)<|jy.mpr (q,j,9,.of JK,IsDs.same c.ff _ _ l)
 .exact f.elim
def YR(i:5)(f:qU):xi:=λsd hp=>(f sd hp).bind λp=>.ok<|.next (sd.set i<|~~~p.1) p.2
def EU{i:5}  (g:X.N.Nodup)(h:X.N[i]?=!x)(j:yZ X.env.scope x)(l:ye X E e r)(s:swapsWith e (! .Name x c) u.line X.env=pure 7:=by rfl)(w:X.fn x=6\/X.env.scope.names.lookup x=!.local:=by trivial):
 wQ X E m (.Assign [.Name x c] e u) (YR i r):=PS.weak (ZH g h j l s w) λT Z H=>xK λB y F sd z=>jB λt n=>jF B y F sd z (t,(ja n).mono (λp A v C G I J f L=>A _ C G I J<|f.go (.refl _)<|f.rs.setVal L) λ_ _ q=>q)
def Ct(fo fi:FE)(f:qU):xi:=λsd g=>(f sd g).bind λp=>(fo sd).bind λo=>match o with
 |.adr a=>match js p.2 a with
  |some (.lst c)=>(fi sd).bind λk=>match k with
   |.int k=>match ze c.length k with
    |some q=>.ok (.next sd<|WJ p.2 a<|.lst<|c.set q p.1)
    |none=>.no
   |_=>.no
  |_=>.no
 |_=>.no
def ai(G:QE X E o fo)(I:QE X E i fi)(J:ye X E e L)(j:∀v,assign (.Subscript o i c) X.env v=(do
 let l<-holding [v] (eval o X.env)
 let x<-holding [v,l] (eval i X.env)
 standAt c
 holding [v,l,x] (setItem l x v)
 release [v,l,x] []):=by intro _;rfl)(M:swapsWithSole [.Subscript o i c] e y.line X.env=pure 7:=by rfl)(N:swappedStores [.Subscript o i c] e X.env=pure 8:=by rfl)
 (O:(assignEach [.Subscript o i c] X.env).map (·.2)=[assign (.Subscript o i c) X.env]:=by rfl):wQ X E m (.Assign [.Subscript o i c] e y) (Ct fo fi L):=PS.weak (Gi J (Gh G I G4 j) M N O) λT Z H P=>by
 let(B Q F sd R,t,n):=P;refine jF B Q F sd R (t,(ja n).mono (λp S v z U H1 Y f i1=>je z U sd (f.rs,(ja S).mono (λd g v2 F2 H2 r i2=>?_) λ_ _ q=>q.ext<|f.ext0 f.rs.ext)) λ_ _ q=>q)
 split at g
 .rename_i a;obtain rfl:=jN.mp i2;let s:=f.go r.ff<|f.rs.step r
  split at g
  .rename_i es j;calc je z F2 sd (s.rs,(ja g).mono (λk h w F3 H3 u i3=>?_) λ_ _ q=>q.ext<|f.ext0 s.rs.ext);let A:=s.go u.ff<|s.rs.step u
   split at h
   .rename_i k
    split at h
    .rename_i q hk;have(xs,g1,C):=A.lies j;exact jX a xs k q (9,jd.mp i3,g1,by rwa[C.length],h Z _ F3 _ ((Y.trans r.ff).trans u.ff)<|A.chg j (_,JK,C.set q<|IsD.same (r.ff.trans u.ff) _ _ i1))
    .exact h.elim
   .exact h.elim
  .exact g.elim
 .exact g.elim
def KM(i:5)(f:qU):xi:=λsd hp=>match sd[i]? with
 |some (some<|.own false<|.lst ds)=>(f sd hp).bind λp=>if ds.length<sizeLine then .ok (.next (sd.set i<|!(.own 7<|.lst<|ds++[p.1])) p.2)else .no
 |_=>.no
def MM{i:5} (C:PE X o (yL i))(G:ye X E e I)
 (g:∀{x:TE}{t:TA},PE X o x->PA X [e] t->PE X (.Call (.Attribute o "append" c) [e] [] f) (kP X.K "list" Bi x t))
 (J:swapsWith (.Call (.Attribute o "append" c) [e] [] f) 8 h.line X.env=pure 7:=by rfl)
 (j:starEach [e] X.env=%[7|eval e X.env]::starEach [] X.env:=by rfl):wQ X E m (.Expr (.Call (.Attribute o "append" c) [e] [] f) h) (KM i I):=
 PS.weak (ZG (g C<|KQ G Wf j) J) λT Z H L=>by
  let(B M F sd g,t,n):=L;unfold KM at n
  split at n
  .rename_i Y r;let(-l,s,h2,h3,(N,O,h5),_):=t.rs.own r;refine(.ref l,s,.inl (9,N,xx.of O),B,M,F,sd,g,t,(ja n).mono (λp u v P Q H1 R w S=>?_) λ_ _ q=>q)
   split at u
   .let(-l',y,g2,g3,(z,U,A),_):=w.rs.own r;rw[s]at y;cases y;let hl:=A.length;exact je l z v (9,9,U,(),u Z P Q _ R<|w.go (.refl _)<|w.rs.chg r s (z++[v],JK,A.snoc S))
   .exact u.elim
  .exact n.elim
end
def EV(K:f')(E:XK)(g:qU):TS:=λT Z H=>∃B f F sd c,RT K B f F H sd c Z/\(g sd c).need (λp=>∀v h a i b e,jp F b->RT K B i b e a p.2 h->IsD K b p.1 v->T.rt v e) (XW K E B.F0 B.H0)
abbrev zL(X:Cx)(E:XK)(sts:List Stmt)(g:qU):4:=xq X sts<|EV X.K E g
section
variable     {f2 g2 ga:qU}{g1:xi}{fc:wJ}  {st:Stmt}
def WK(h:ye X E e f2):zL X E [.Return (!e) a] f2:=xq.weak (Dt<|Bb h) λT Z H=>xK λB b F sd c=>jB λt n=>jF B b F sd c (t,n.mono () λ_ _ q=>q)
def qY(g1:xi)(g2:qU):qU:=λsd c=>(g1 sd c).bind λo=>match o with
 |.next a b=>g2 a b
 |_=>.no
def KC(g:wQ X E m st g1)(h:zL X E e g2):zL X E (st::e) (qY g1 g2):=xq.weak (ZF g h) λT Z H i=>by
 let(B j F sd l,t,n):=i;refine jF B j F sd l (t,(ja n).mono (λo c=>?_) λ_ _ q=>q)
 induction o with
 |next a b=>calc λJ r u L s w=>jF B r u a b (w,c.mono (λp q v x f y z A C G I=>q v x f y z A (s.trans C) G I) λ_ _ q=>q)
 |ret d=>calc c.elim
 |brk a b=>calc c.elim
 |cont a b=>exact c.elim
def b7(fc:wJ)(ga g2:qU):qU:=λsd a=>(fc sd a).bind λp=>if p.1 then ga sd p.2 else g2 sd p.2
def EW(y:uV X E c fc)(z:zL X E a ga)(A:zL X E f g2):zL X E (.If c a [] C::f) (b7 fc ga g2):=xq.weak (ZF (Du y z Ba) A) λT Z H G=>by
 let(B I F sd J,t,n):=G;calc jF B I F sd J (t,(ja n).mono (λp r s u L w x=>?_) λ_ _ q=>q);let(k,e):=p
 induction k with
 |true=>calc jF B s u sd e (x,r.mono (λp q v g b h i j l m o=>q v g b h i j (w.trans l) m o) λ_ _ q=>q)
 |false=>exact jF B s u sd e (x,r.mono (λp q v g b h i j l m o=>q v g b h i j (w.trans l) m o) λ_ _ q=>q)
end
structure ExtW(K:f')(F H:Hp)(hp:HP)(F' H':Hp)(hp':HP):4 where
 ff:jp F F'
 fh:jp F' H'
 hh:∀a o,js hp a=8->H a=!o->H' a=!o
 new:∀a,F a=8->H a≠8->F' a=8
 len:vq K F' H' hp'
 dom:∀a,js hp' a=8↔js hp a=8
theorem A8:∀{b:HP}{a:Addr},js b a=8↔a∉b.map (·.1)
 |[],a=>by simp[Cq]
 |p::r,a=>by
  rw[QU,Zl,U0,not_or];by_cases z:a=p.1
  .ext
  .rw[Ze z,A8]
   ext
def zr(H:Hp)(b:HP):Hp:=λa=>match js b a with
 |none=>H a
 |some _=>8
def Ww   (h:js b a=8):zr H b a=H a:=by unfold zr;rw[h]
def MN    (h:js b a=!d):zr H b a=8:=by unfold zr;rw[h]
def zx(K:f')(f:YC->HP->Res (D×HP)):Sp:=λg H Q _=>∃F b a,jp F H/\IsDs K F b g/\vq K F H a/\(f b a).need (λp=>∀v c e,ExtW K F H a c e p.2->IsD K c p.1 v->Q v e) (XW K E0 F<|zr H a)
def Qy(n ar:5)(g:qU)(a:YC)(b:HP):Res (D×HP):=if a.length=ar then(g (JX n a) b).bind λp=>if p.2.map (·.1)=b.map (·.1)then .ok p else .no else .no
section
variable {K:f'}
def RT.call(t:RT K B n F H sd c Z)(w:ExtW K F H c G r s):∃I,RT K B I G r sd s Z:=by
 let J:=λa o h e=>w.hh a o h<|t.rs.ext.hh _ _ e;refine((n.F0,λa=>match js c a with
  |none=>n.H0 a
  |some _=>r a,n.pa),((t.rs.ext.ff.trans w.ff,w.fh,λa o e=>?_,λa L j=>?_),t.rs.len,λq=>qS (t.rs.val q) λv=>jB λj O=>(v,j,IsD.same w.ff _ _ O),λ{i p d}q=>?_,t.rs.apart),t.f0,t.pa,λa f=>?_,λa d f=>?_)
 .grind
 .induction z:js c a with
  |none=>
   let j:(match js c a with
    |none=>n.H0 a
    |some _=>r a)≠8:=j
   rw[z]at j;calc w.new a (t.rs.ext.new a L j) λy=>j<|Qe t.rs.ext.hh y
  |some d=>
   let(o,Q):=(t.lies z).has;exact w.new a (t.free z) ()
 .let(-l,R,S,T,x,U):=t.rs.own q;let E:js c l=8:=by
   induction z:js c l with
   |none=>rfl
   |some d'=>exact Zn 9<|t.no_own z S
  let(o,Q):=x.has;refine(l,R,?_,w.new l T (),x.ext w.ff λu q=>w.hh _ _ E q,λz=>(U z).mono λu q=>w.hh _ _ E q)
  ext
 .let f:=(w.dom a).mp f;show(match js c a with
   |none=>n.H0 a
   |some _=>r a)=B.H0 a
  rw[f];exact t.out a f
 .induction z:js c a with
  |none=>rw[(w.dom a).mpr z]at f;cases f
  |some X=>
   let(!Y,c2,_):=t.obj a X z;refine(Y,c2,(w.len a d f).2.ext (.refl _) λo q=>?_)
   ext
def RT.hidden(t:RT K B f F H sd c Z):Ext B.F0 B.H0 F (zr H c):=by
 let e:=t.ext0 t.rs.ext;refine(e.ff,λa o q=>?_,λa o q=>?_,e.new)
 .cases z:js c a with
  |none=>rw[Ww z];calc e.fh _ _ q
  |some d=>rw[t.free z]at q;exact J6 q
 .cases z:js c a with
  |none=>rw[Ww z];calc e.hh _ _ q
  |some d=>rw[(t.obj a d z).2.1]at q;exact J6 q
end
section
variable   {K:f'}    {st:Stmt}
def Cu (F:Fun K x h st f L)(S:FnScope N C (JY st))
 (M:∀c A b s H E,Room k (A.deeper<|envOfC h (JY st) s⁻¹ f c)->xq (qu zj P w K O m N h (JY st) f c A b s H E).nox (Ko st) (EV K E0 g)):
 FnOk P w K O m zj (k+1) f L C (zx K<|Qy N.length C.length g):=by
 refine F.ok S (λG H Q E=>qj λF I l=>qW λ_ i _ n=>?_) λc A b s H G Q E R=>qj λF I l=>qW λT i J n=>(_,M c A b s H E R,?_)
 .unfold Qy at n
  split at n
  .rw[i.length];lia
  .exact n.elim
 .unfold Qy at n
  split at n
  .let t:RT K (F,zr H l,λ_=>8) (F,H,λ_=>8) F H (JX N.length I) l (L2.start N G):=(RS.start T i,9,9,λa j=>(Ww j).symm,λa d j=>((J a d j).1,MN j,(J a d j).2));refine jF _ _ F _ l (t,(ja n).mono (λp u v Z' U B2 X Y Z r i1=>?_) λ_ _ q=>q)
   split at u
   .rename_i hd;let B:∀a,js p.2 a=8↔js l a=8:=λa=>by rw[A8,A8,hd]
    let e:=r.ext0 r.rs.ext;refine u v X Y (Z,r.rs.ext.fh,λa o j q=>e.hh a o<|(Ww j).trans q,λa h0 h1=>?_,r.lent,B) i1
    induction z:js l a with
    |none=>calc e.new a h0 λy=>h1<|(Ww z).symm.trans y
    |some d=>
     induction y:js p.2 a with
     |none=>ext
     |some d'=>exact r.free y
   .exact u.elim
  .exact n.elim
end
def Qp(a:YC->HP->Res (D×HP))(b:FA):qU:=λsd hp=>(b sd).bind λds=>a ds hp
def KN        (c:wM X.prog X.w X.K X.mg X.base a k S (zx X.K m))(o:Room k X.A)(r:Gl X a)(s:QA X E0 (e::b) u)
 (g:(a==("__debug__":Str))=7:=by decide)(x:starEach (e::b) X.env=%[7|eval e X.env]::starEach b X.env:=by rfl)(h:(backTo j<|starEach b X.env).any (·.1)=7:=by rfl):
 ye X E0 (.Call (.Name a p) (e::b) [] j) (Qp m u):=PE.weak (XV c o r s g x h) λZ H Q y=>by
 let(B z F sd A,t,n):=y;calc je z F sd (t.rs,(ja n).mono (λC E G I J f L=>?_) λ_ _ q=>q.ext<|t.ext0 t.rs.ext);let l:=t.go f.ff<|t.rs.step f;show zx X.K m (G++[]) J Q E0;rw[ZA];calc je I C A (f.fh,L,l.lent,E.mono (λp M v N O w i=>?_) λ_ _ q=>q.ext l.hidden);let(P,R):=l.call w;exact M v P N O (f.ff.trans w.ff) R i
abbrev FX:=SD->Res (D×SD)
def ox(K:f')(E:XK)(f:FX):TE:=λZ H Q=>∃B F sd,RS K B F H sd Z/\(f sd).need (λp=>∀v a b,jp F a->RS K B a b p.2 Z->IsD K a p.1 v->Q v b) (XW K E B.F0 B.H0)
abbrev QX(X:Cx)(E:XK)(e:Expr)(f:FX):4:=PE X e<|ox X.K E f
open Classical in
def vk(g:Addr->Res (D×SD)):Res (D×SD):=if h:∃o,∀a,g a=.ok o then .ok (Classical.choose h)else .no
def pe  (h:∀a,g a=.ok o):vk g=.ok o:=by
 let b:∃o,∀a,g a=.ok o:=(o,h);unfold vk;rw[dif_pos b];let c:=Classical.choose_spec b 0;rw[h 0]at c;exact c.symm
def ei   (h:(vk g).need p q)(a):(g a).need p q:=by
 unfold vk at h
 split at h
 .grind
 .exact h.elim
def yf(i:5)(f:qU):FX:=λsd=>match sd[i]? with
 |some (some<|.own false d)=>vk λa=>(f (sd.set i<|~~~.adr a) [%[a|d]]).bind λp=>match js p.2 a with
  |some b=>.ok %[p.1|sd.set i ! .own 7 b]
  |none=>.no
 |_=>.no
def zJ{K:f'}        (r:RS K B F H sd Z)(x:sd[i]?=! ! .own p d)(s:Z[i]?=! ! .ref l)(y:B.H0 l=8)(E:F l=8)(G:zD K F H l d):
 RT K B (B.F0,λa=>if a=l then H l else B.H0 a,B.pa) F H (sd.set i<|~~~.adr l) [%[l|d]] Z:=by
 let c:=r.setVal (i:=i) (d:=.adr l)<|jN.mpr 9;rw[A5 s]at c;let n:∀{a:Addr}{e:D},js [%[l|d]] a=!e->a=l/\e=d:=λ{a e}q=>by
  simp_all[QU,Cq]
 refine(((c.ext.ff,c.ext.fh,λa o e=>?_,λa I f=>?_),c.len,c.val,λ{j L O}q=>?_,c.apart),9,9,λa u=>?_,λa e u=>?_)
 .let e:(if a=l then H l else B.H0 a)=!o:=e;by_cases z:a=l
  .rw[Zd z]at e;rwa[z]
  .rw[Ze z]at e;exact c.ext.hh _ _ e
 .by_cases z:a=l
  .rwa[z]
  .let f:(if a=l then H l else B.H0 a)≠8:=f;rw[Ze z]at f;exact c.ext.new a I f
 .let v:i≠j:=by grind
  let(-b,J,Q,R,S,T):=c.own q;rw[Q6 v]at q;let ne:b≠l:=λz=>r.apart v x q s<|z ▸ J;exact by grind
 .grind[QU]
 .let(rfl,rfl):=n u;refine(Qe r.ext.ff E,y,G.ext (.refl _) λo q=>?_)
  ext
def XE     (h:ye X E e o):QX X E e (yf i o):=PE.weak h λZ H Q u=>by
 let(B F sd,r,n):=u;unfold yf at n
 split at n
 .rename_i d f;let(-l,g,w,x,y,_):=r.own f;refine jF B _ F _ _ (zJ r f g w x y,(ja<|ei n l).mono (λp c v M A C s t G=>?_) λ_ _ q=>q)
  split at c
  .rename_i I a;calc c v A C s ?_ G;let J:=t.drop.setOwn (i:=i) (t.obj l I a).2.1 (t.free a) (t.lies a) λj p e q z=>by
    have(b,m,L,_):=t.rs.own q;rw[z]at m;cases m;exact Zn 9<|t.no_own a L
   rwa[List.set_set,A5 g]at J
  .exact c.elim
 .exact n.elim
section
variable     {f:FX}
def XF(i:5)(f:FX):FS:=λsd=>(f sd).bind λp=>.ok<|.next<|p.2.set i<|~~~p.1
@[simp]def p7(i)(f)(sd):XF i f sd=(f sd).bind λp=>.ok<|.next<|p.2.set i<|~~~p.1:=rfl
def Cv   (b:X.N.Nodup)(c:X.N[i]?=!x)(g:yZ X.env.scope x)(h:QX X E e f)(j:swapsWith e (! .Name x a) l.line X.env=pure 7:=by rfl)(o:X.fn x=6\/X.env.scope.names.lookup x=!.local:=by trivial):
 QS X E m (.Assign [.Name x a] e l) (XF i f):=PS.weak (ZH b c g h j o) λT Z H=>qj λB F sd=>jB λr n=>je B F sd (r,(ja n).mono (λp s v t u w y z=>s _ t u w<|y.setVal z) λ_ _ q=>q)
def XG(i:5)(f:FX):FS:=λsd=>match sd[i]? with
 |some (some<|.own false<|.lst _)=>(f sd).bind λp=>match p.2[i]? with
  |some (some<|.own false<|.lst ds)=>if ds.length<sizeLine then .ok (.next<|p.2.set i<|!(.own 7<|.lst<|ds++[p.1]))else .no
  |_=>.no
 |_=>.no
def MO  (A:PE X o (yL i))(C:QX X E e f)
 (G:∀{s:TE}{t:TA},PE X o s->PA X [e] t->PE X (.Call (.Attribute o "append" a) [e] [] b) (kP X.K "list" Bi s t))
 (I:swapsWith (.Call (.Attribute o "append" a) [e] [] b) 8 g.line X.env=pure 7:=by rfl)
 (h:starEach [e] X.env=%[7|eval e X.env]::starEach [] X.env:=by rfl):QS X E m (.Expr (.Call (.Attribute o "append" a) [e] [] b) g) (XG i f):=
 PS.weak (ZG (G A<|KQ C Wf h) I) λT Z H J=>by
  let(B F sd,r,n):=J;unfold XG at n
  split at n
  .rename_i S L;let(-l,j,U,Y,(M,N,h5),_):=r.own L;refine(.ref l,j,.inl (9,M,xx.of N),B,F,sd,r,(ja n).mono (λp c v O H1 P u Q=>?_) λ_ _ q=>q)
   split at c
   .rename_i ds w
    split at c
    .let(-l',x,g2,g3,(y,R,z),_):=u.own w;rw[j]at x;cases x;let hl:=z.length;exact je l y v (9,9,R,(),c Z O _ P<|u.chg w j (y++[v],JK,z.snoc Q))
    .exact c.elim
   .exact c.elim
  .exact n.elim
end
def tW:FS:=λ_=>.no
def gi   {a:Stmt}:QS X E m a tW:=λY s Z H T I=>qj λB F sd=>jB λr n=>n.elim
section
variable    {g:qU}
def zU(i:5)(g:qU):qU:=λsd a=>g (qM [i] sd) a
def EX (h:zL X E a g):zL X E a (zU i g):=xq.weak h λT Z H=>xK λB c F sd e=>jB λt n=>qS (t.rs.frz [i]) λf=>jB λs r=>jF B c f _ e (t.go s r,(n).mono (λp q v j b l m o u w x=>q v j b l m o (s.trans u) w x) λ_ _ q=>q)
def wx:D->D->YD:=λd e=>match d with
 |.dct _ _=>8
 |.dcf _ _=>8
 |d=>jR d e
def MP:zV X (v1 X.K wx):=Iv
def vJ(b:Yh)(f:FE):qU:=λsd a=>(f<|derI a b sd).strict.bind λd=>if Ky d then .ok %[d|a]else .no
def MQ(b:Yh)(h:QE X E e j):ye X E e (vJ b j):=PE.weak h λZ H Q l=>by
 let(B m F sd x,t,n):=l;let(-o,y,p,r):=t.frz;refine je B o _ (p.derI r b,(jK<|ja n).mono (λd a v z f s u=>?_) λc fs q=>q)
 split at a
 .rename_i w;let i:Ext F H F f:=.grow t.rs.ext.fh s.hh;exact a v m F f (.refl _) (t.go i.ff<|t.rs.step i)<|u.scal w
 .exact a.elim
def aE:xF X (binaryOp .FloorDiv) (rI (λ_ j=>0<j/\j.natAbs<yE) λi j=>.int<|i/j):=gG λi j _ _ _ _ _ a q=>have b:j.natAbs<2^1000:=Zg a.2<|VG 9;have l:=(Nat.log2_lt ()).mpr b;floordiv_int () (by rwa[Int.fdiv_eq_ediv_of_nonneg i ()]) (.inl<|PyProof.noPylong_of_log2 ())
def Cw:=km (λ_ j=>Uw 0 j.toNat&&Uw j.natAbs yE) λi j=>.int<|i/j
def l6:yy X (binaryOp .FloorDiv) Cw:=Ag aE () λ_ _ F=>zf _ F
def e7 (h:0<j)(a:j.natAbs<yE):Cw (.int i) (.int j)=!(.int<|i/j):=by
 show(if Uw 0 j.toNat&&Uw j.natAbs yE then _ else _)=_
 ext
end
section
variable {K:f'}    {hp hp2:HP}
theorem EY:∀{c b:HP}{a:Addr},js (c++b) a=(js c a).or (js b a)
 |[],b,a=>9
 |p::r,b,a=>by
  rw[List.cons_append,QU,QU];by_cases z:a=p.1
  .ext
  .rw[Ze z,Ze z];exact EY
def RT.comp(t:RT K B p F H sd hp Z)(f:RT K p r F H i hp2 Z):RT K B r F H i (hp2++hp) Z:=by
 refine(f.rs,f.f0.trans t.f0,f.pa.trans t.pa,λa c=>?_,λa e c=>?_)
 .rw[EY]at c;cases z:js hp2 a with
  |some e=>ext
  |none=>rw[z]at c;exact(f.out a z).trans<|t.out a c
 .rw[EY]at c
  induction z:js hp2 a with
  |some s=>
   rw[z]at c;cases c;let(!n,j,l):=f.obj a _ z;calc(by rwa[<-t.f0],Qe t.sub j,l)
  |none=>
   rw[z]at c;let(!n,j,l):=t.obj a e c;exact(n,j,l.ext (.refl _) λo q=>f.sub _ _ q)
def RT.split(t:RT K B i F H sd (%[l|d]::hp) Z)(E:js hp l=8):∃n,RT K n i F H sd [%[l|d]] Z/\∀f,RS K n F H f Z->RT K B n F H f hp Z:=by
 let j:∀{a:Addr},a≠l->js (%[l|d]::hp) a=js hp a:=λz=>by rw[QU,Ze z]
 let p:js (%[l|d]::hp) l=!d:=by rw[QU,Zd 9]
 let(!s,G,u):=t.obj l d p;refine((i.F0,λa=>if a=l then 8 else i.H0 a,i.pa),(t.rs,9,9,λa c=>?_,λa e c=>?_),λf r=>(r,t.f0,t.pa,λa c=>?_,λa e c=>?_))
 .grind[QU]
 .rw[QU,Cq]at c;by_cases z:a=l
  .rw[Zd z]at c;cases c;rw[z];exact(t.f0.symm ▸ s,Zd 9,u)
  ext
 .show(if a=l then 8 else i.H0 a)=B.H0 a;by_cases z:a=l
  .ext
  .rw[Ze z];exact t.out a<|(j z).trans c
 .let ne:a≠l:=by grind
  have(v,x,y):=t.obj a e ((j ne).trans c);refine(v,x,y.ext (.refl _) λo q=>?_)
  ext
end
abbrev nI:=SD->HP->Res (D×SD×HP)
def rh(K:f')(E:XK)(f:nI):TE:=λZ H Q=>∃B e F sd b,RT K B e F H sd b Z/\(f sd b).need (λp=>∀v g a c,jp F a->RT K B g a c p.2.1 p.2.2 Z->IsD K a p.1 v->Q v c) (XW K E B.F0 B.H0)
abbrev d9(X:Cx)(E:XK)(e:Expr)(f:nI):4:=PE X e<|rh X.K E f
open Classical in
def vn(b:HP)(g:Addr->Res (D×SD×HP)):Res (D×SD×HP):=if h:∃o,∀a,js b a=8->g a=.ok o then .ok (Classical.choose h)else .no
def pA   (c:∃a,js b a=8)(h:∀a,js b a=8->g a=.ok o):vn b g=.ok o:=by
 let e:∃o,∀a,js b a=8->g a=.ok o:=(o,h)
 grind[vn]
def aI    (h:(vn b g).need p q) (c:js b a=8):(g a).need p q:=by
 unfold vn at h
 split at h
 .grind
 .exact h.elim
def tL(i:5)(sd:SD)(b:HP)(a:Addr)(p:D×HP):Res (D×SD×HP):=match p.2 with
 |q::hp1=>if q.1=a/\js hp1 a=8 then .ok %[p.1,sd.set i ! .own 7 q.2|hp1]else .no
 |[]=>.no
def A9(i:5)(f:qU):nI:=λsd b=>match sd[i]? with
 |some (some<|.own false d)=>vn b λa=>(f (sd.set i<|~~~.adr a)<|%[a|d]::b).bind<|tL i sd b a
 |_=>.no
def cz     (h:ye X E e G):d9 X E e (A9 i G):=PE.weak h λZ H Q I=>by
 let(B B' F sd m,t,n):=I;unfold A9 at n
 split at n
 .rename_i d o;let(-l,r,u,J,L,_):=t.rs.own o;let M:js m l=8:=by
   induction z:js m l with
   |none=>rfl
   |some d'=>exact Zn 9<|t.no_own z u
  calc jF B _ F _ _ (t.comp<|zJ t.rs o r u J L,(ja<|aI n M).mono (λp a v B2 N O s P R=>?_) λ_ _ q=>q);let(y,S):=p;unfold tL at a
  split at a
  .rename_i q w T;cases T
   split at a
   .rename_i x
    induction x.1
    have(U,c,f):=P.split x.2;let g:js [%[q.1|q.2]] q.1=!q.2:=by grind[QU]
    let A:=c.drop.setOwn (i:=i) (c.obj q.1 q.2 g).2.1 (c.free g) (c.lies g) λj p e q z=>by
     have(b,C,Y,_):=c.rs.own q;rw[z]at C;cases C;exact Zn 9<|c.no_own g Y
    rw[List.set_set,A5 r]at A;exact a v U N O s (f _ A) R
   .exact a.elim
  .exact a.elim
 .exact n.elim
section
variable    {e o i:Expr}    {f:FX}
def fm(z:D)(q:D×HP):Res (D×HP):=match z with
 |.adr a=>match js q.2 a with
  |some (.lst b)=>(Res.ofO<|jR (.lst b) q.1).bind λz=>.ok %[z|q.2]
  |_=>.no
 |_=>.no
def EZ(a b:qU):qU:=λsd c=>(a sd c).bind λp=>(b sd p.2).bind<|fm p.1
def pS(m:ye X E o r)(s:ye X E i c)(u:XS i):ye X E (.Subscript o i A) (EZ r c):=PE.weak (ZL mi m s u) λZ H Q C=>by
 let(B G F sd I,t,n):=C;calc jF B G F sd I (t,(ja n).mono (λp J v L M H1 N O g=>jF B L M sd p.2 (O,(ja J).mono (λq b w P R S T h U=>?_) λ_ _ q=>q)) λ_ _ q=>q);unfold fm at b
 split at b
 .rename_i a Y;rw[Y]at g;obtain rfl:=jN.mp g
  split at b
  .rename_i es ha;have(xs,g1,c):=h.lies ha;have(z,l,k):=jf (ja b);let(y,hp2):=q;cases y with
   |int j=>
    have(x,hx,ix):=Ai c l;calc jX a xs j x (9,jd.mp U,xx.of g1,hx,k _ P R S (N.trans T) h ix)
   |_=>exact J6 l
  .exact b.elim
 .exact b.elim
def Fa(a:YC->HP->Res (D×HP))(b:z7):qU:=λsd c=>(b sd c).bind λp=>a p.1 p.2
def aV     (c:wM X.prog X.w X.K X.mg X.base a k T (zx X.K r))(s:Room k X.A)(u:Gl X a)(x:wG X E0 (e::b) h)
 (j:(a==("__debug__":Str))=7:=by decide)(y:starEach (e::b) X.env=%[7|eval e X.env]::starEach b X.env:=by rfl)(l:(backTo m<|starEach b X.env).any (·.1)=7:=by rfl):
 ye X E0 (.Call (.Name a p) (e::b) [] m) (Fa r h):=PE.weak (XV c s u x j y l) λZ H Q z=>by
 let(B A F sd C,t,n):=z;calc jF B A F sd C (t,(ja n).mono (λp E G U I J L g M=>?_) λ_ _ q=>q);show zx X.K r (G++[]) J Q E0;rw[ZA];calc je I p.1 p.2 (g.rs.ext.fh,M,g.lent,E.mono (λq N v O P w i=>?_) λ_ _ q=>q.ext g.hidden);let(R,S):=g.call w;exact N v R O P (L.trans w.ff) S i
def Cy(i:5)(f:nI):xi:=λsd a=>(f sd a).bind λp=>.ok<|.next (p.2.1.set i<|~~~p.1) p.2.2
def lO{i:5}  (c:X.N.Nodup)(g:X.N[i]?=!x)(h:yZ X.env.scope x)(j:d9 X E e l)(r:swapsWith e (! .Name x a) s.line X.env=pure 7:=by rfl)(u:X.fn x=6\/X.env.scope.names.lookup x=!.local:=by trivial):
 wQ X E m (.Assign [.Name x a] e s) (Cy i l):=PS.weak (ZH c g h j r u) λT Z H=>xK λB w F sd y=>jB λt n=>jF B w F sd y (t,(ja n).mono (λp z v A C G I b J=>z _ A C G I<|b.go (.refl _)<|b.rs.setVal J) λ_ _ q=>q)
def MS(a:Tg)(b:xi)(c:HP)(p:D×SD):Res Out2:=match p.1 with
 |.int j=>if X9 j then qC (Ks a b) (JZ 0 j.toNat) p.2 c else .no
 |_=>.no
def Cz(f:FX)(a:Tg)(b:xi):xi:=λsd c=>(f sd).bind<|MS a b c
def p4     (s:PassesOwn (model X.prog X.w) X.A X.env X.xe)(z:X.calm=6)(h:Gl X "range")(A:X.mg "range"=8)(C:QX X E a f)(G:QG X I t)(J:zK X E m c g)(l:starEach [a] X.env=%[7|eval a X.env]::starEach [] X.env:=by rfl)(L:starEach [a] X.env=[%[7|eval a X.env]]:=by rfl)
 (r:∀x,foldedSetIterable (.Call (.Name "range" p) [a] [] M) X.env x=pure x:=by intro _;rfl):wQ X E m (.For I (.Call (.Name "range" p) [a] [] M) c [] N) (Cz f t g):=PS.weak (Dv s z (Gj h A (KQ C Wf l) L) G J r) λT Z H O=>by
 let(B P F sd s,t,n):=O;calc je P F sd (t.rs,(ja n).mono (λq b v S U u Q w=>?_) λ_ _ q=>t.xw q);unfold MS at b
 split at b
 .rename_i j R
  split at b
  .rename_i y;rw[R]at w;rw[jd.mp w];exact(j,9,(BQ y).1,(BQ y).2,ME (II 0 _) (t.go u Q)<|b.mono (λ_ q=>q.mono u) λ_ _ q=>q)
  .exact b.elim
 .exact b.elim
end
open Classical in
def yW(n:5)(g:Yj->Res Out):Res Out:=if h:∃o,∀a,a.length=n->g a=.ok o then .ok (Classical.choose h)else .no
def MT   (h:∀a,a.length=n->g a=.ok o):yW n g=.ok o:=by
 let b:∃o,∀a,a.length=n->g a=.ok o:=(o,h);unfold yW;let c:(List.replicate n (0:Addr)).length=n:=List.length_replicate
 grind
def uP:D->D->YD
 |.lst a,.lst []=>! .bl a.isEmpty
 |_,_=>8
def gP(J:X.A.units+64<cLine):yy X (compareOp .Eq) uP:=by
 intro Y s Z H x y v u Q I m n(F,d,e,z,a,id,o,c,q);cases d with
 |lst g=>
  cases e with
  |lst p=>
   induction p with
   |cons _ _=>calc J6 c
   |nil=>
    cases c;let(l L,rfl,r,t):=jm.mp id;let(b M,rfl,w,A):=jm.mp o;obtain rfl:=m;obtain rfl:=n;obtain rfl:=IsDs.nil_iff.mp A;have(_,f,N,B,h):=(r.same a).ok I.hok;let(_,i,O,C,j):=(w.same a).ok I.hok;cases C;let P:=t.length;let E:=B.length
    induction g with
    |nil=>
     let G:f=[]:=by grind
     subst G;calc PySem.P.eq_list (e:=λ_=>6) h j 9 () () (.bl 6,H,I,9,q _ F H (.refl a)<|zS _ F)
    |cons d g=>
     refine PySem.P.eq_list_lengths h j ?_ () (.bl 7,H,I,9,q _ F H (.refl a)<|zS _ F)
     grind
  |_=>calc J6 c
 |_=>exact J6 c
def capO(cap:List (Option 5))(k:5)(sd:SD):SD:=match(cap[k]?).join with
 |some j=>match sd[j]? with
  |some (some<|.own false d)=>(qw cap sd).set k ! .own 7 d
  |_=>qw cap sd
 |none=>qw cap sd
def aB  {i:5} (q:(qw cap sd)[i]?=! !x):∃d,x=.val d:=by
 unfold qw at q;rw[Zv]at q
 induction hc:cap[i]? with
 |none=>ext
 |some o=>
  rw[hc]at q
  induction o with
  |none=>cases q
  |some j=>
   grind
theorem RS.capO{K:f'}{B:Bs}{F H:Hp}{sd:SD}{Z:St}(cap)(k)(r:RS K B F H sd Z):RS K B F H (capO cap k sd) (Wg cap Z):=by
 unfold L2.DL.capO
 split
 .rename_i j c
  split
  .rename_i d n;let(-l,s,u,v,x,_):=r.own n;let y:(Wg cap Z)[k]?=! ! .ref l:=by
    unfold Wg;rw[Zv]
    induction hc:cap[k]? with
    |none=>rw[hc]at c;calc J6 c
    |some o=>
     rw[hc]at c;let c:o=!j:=c;subst c;show some (Option.bind (!j) λj=>(Z[j]?).join)=_;rw[Option.bind_some,s];rfl
   let f:=(r.cap cap).setOwn (i:=k) (d:=d) (l:=l) u v x λi p e q=>by
    let(E,z):=aB q;cases z
   rw[A5 y]at f;exact f
  .exact r.cap cap
 .exact r.cap cap
def WL(cap:List (Option 5))(k:5)(b:FA)(a:Tg)(f:FE):FE:=λsd=>(b sd).bind λds=>if WE (capO cap k sd) a=6/\ds.length<sizeLine then(yQ (λx=>(JS a x<|capO cap k sd).bind f) ds).bind λc=>.ok<|.lst c else .no
def MU{K:f'}         (o:u4 K E (WL cap c N t f) Z H Q):XU cap (mw K E N) (gT t K) (tD K E f) Z H Q:=by
 let(B F sd,r,n):=o;refine je B F sd (r,(ja n).mono (λb p J L O m wk=>?_) λ_ _ q=>q)
 split at p
 .rename_i o;let(P,hz):=o;refine(λi k s Z e=>k=b.length-i/\i<=b.length/\∃a g,Ext L O a e/\RS K B a e (capO cap c sd) Z/\IsDs K a g s/\g.length=i/\
   (yQ (λx=>(JS t x<|capO cap c sd).bind f)<|b.drop i).need (λu=>yJ K a e Q<|.lst<|g++u) (XW K E a e),(b.length,9,Uc _,L,[],.refl m.fh,(r.step m).capO cap c,.nil,9,?_),?_)
  .exact(ja p).mono (λu q=>(q).ext m) λ_ _ q=>q.ext m
  rintro i k s Z2 e ⟨rfl,hi,a,g,w,z,A,hl,C⟩;let ly:=A.length;calc((),?_);let(!R,S):=wk i a e w.ff w.fh;by_cases j:i<b.length
  .let(go,T):=R j;calc .inr (go,λx U y=>?_);let(d X,Y,h,i3):=T x U y;let n3:=Ih Y C;calc Ac (z.step h) i3 (ja n3) λG Z' n4 hb M=>?_;let(b1,b2):=Eb P hb;calc je B X G (M,n4.mono (λy n5 v F4 H4 l i4=>(b.length-(i+1),(),9,j,F4,g++[y],(w.trans h).trans l,(M.step l).forget b1 b2,(IsDs.same (h.ff.trans l.ff) _ _ A).snoc i4,(),n5.mono (λu q=>?_) λ_ _ q=>q.ext<|h.trans l)) λ_ _ q=>q.ext h);rw[Ug];exact q.ext<|h.trans l
  .let he:i=b.length:=()
   subst he;calc .inl (S<|Zf _,λD I=>?_);rw[Vh]at C;let q:yJ K a e Q (.lst<|g++[]):=C;rw[ZA]at q;exact q D a _ (.keep z.ext.fh I _) I (Qe z.ext.fh I) (s,JK,A)
 .exact p.elim
def lu        (N:Yi)(cap:List (Option 5))(c:5)(n:X.calm=6)(e:Ki a X.env N X.N cap=6)(o:QI X E m b p)
 (q:∀i C s H j,QG (JL X a N i C s H j) m t)(r:∀i C s H j,QE (JL X a N i C s H j) E l f)(u:∀x,foldedSetIterable b X.env x=pure x:=by intro _;rfl):
 QN X E (.ListComp l [(m,b,[],0)] a v) (WL cap c p t f):=PE.weak (GT (g:=gT t X.K) (te:=tD X.K E f) N cap n e o q r u) λ_ _ _ h=>MU h
def iH(N)(cap)(c)(i:X.N.Nodup)(j:X.N[z]?=!y)(l:yZ X.env.scope y)(A:X.calm=6)(n:Ki a X.env N X.N cap=6)(B:QI X E o b F)
 (G:∀p C s H r,QG (JL X a N p C s H r) o t)(I:∀p C s H r,QE (JL X a N p C s H r) E e f)(u:swapsWith (.ListComp e [(o,b,[],0)] a v) (! .Name y J) g.line X.env=pure 6:=by rfl)
 (w:X.fn y=6\/X.env.scope.names.lookup y=!.local:=by trivial)(L:∀x,foldedSetIterable b X.env x=pure x:=by intro _;rfl):
 QS X E m (.Assign [.Name y J] (.ListComp e [(o,b,[],0)] a v) g) (jG z<|WL cap c F t f):=
 PS.weak (IP u i j l w N cap A n B G I L) λT Z H h=>Ew (λ_ _ _ q=>MU q) h
@[simp]def bu(cap)(k)(b)(a)(f)(sd):WL cap k b a f sd=(b sd).bind λc=>if WE (capO cap k sd) a=6/\c.length<sizeLine then(qg a f (capO cap k sd) c).bind λe=>.ok<|.lst e else .no:=rfl
def KD(K:f')(f:YC->HP->Res (D×HP)):Sp:=λg H Q E=>∃F b a,jp F H/\IsDs K F b g/\vq K F H a/\(f b a).need (λp=>∀v c e,ExtW K F H a c e p.2->IsD K c p.1 v->Q v e) (XW K E F<|zr H a)
section
variable   {K:f'}    {st:Stmt}
def MV (F:Fun K x h st f L)(S:FnScope N C (JY st))
 (M:∀c A b s H E,Room k (A.deeper<|envOfC h (JY st) s⁻¹ f c)->xq (qu (yo P w) P w K O m N h (JY st) f c A b s H E) (Ko st) (EV K E g)):
 FnOk P w K O m (yo P w) (k+1) f L C (KD K<|Qy N.length C.length g):=by
 refine F.okX S (λG H Q E=>qj λF I l=>qW λ_ i _ n=>?_) λc A b s H G Q E R=>qj λF I l=>qW λT i J n=>(_,M c A b s H E R,?_)
 .unfold Qy at n
  split at n
  .rw[i.length];lia
  .exact n.elim
 .unfold Qy at n
  split at n
  .let t:RT K (F,zr H l,λ_=>8) (F,H,λ_=>8) F H (JX N.length I) l (L2.start N G):=(RS.start T i,9,9,λa j=>(Ww j).symm,λa d j=>((J a d j).1,MN j,(J a d j).2));refine jF _ _ F _ l (t,(ja n).mono (λp u v Z' U B2 X Y Z r i1=>?_) λ_ _ q=>q)
   split at u
   .rename_i hd;let B:∀a,js p.2 a=8↔js l a=8:=λa=>by rw[A8,A8,hd]
    let e:=r.ext0 r.rs.ext;refine u v X Y (Z,r.rs.ext.fh,λa o j q=>e.hh a o<|(Ww j).trans q,λa h0 h1=>?_,r.lent,B) i1
    induction z:js l a with
    |none=>calc e.new a h0 λy=>h1<|(Ww z).symm.trans y
    |some d=>
     induction y:js p.2 a with
     |none=>ext
     |some d'=>exact r.free y
   .exact u.elim
  .exact n.elim
end
section
variable      {fe fo fi:FE}{fr:FA}    {pos pos' p:Pos}
def MW (c:z8 X.prog X.w X.K X.mg X.base a k R (KD X.K l))(T:Thrown X E)(m:Room k X.A)(o:Gl X a)(r:QA X E (e::b) fr)
 (g:(a==("__debug__":Str))=7:=by decide)(s:starEach (e::b) X.env=%[7|eval e X.env]::starEach b X.env:=by rfl)(h:(backTo pos<|starEach b X.env).any (·.1)=7:=by rfl):
 ye X E (.Call (.Name a p) (e::b) [] pos) (Qp l fr):=PE.weak (Ay c T m o r g s h) λZ H Q u=>by
 let(B x F sd y,t,n):=u;calc je x F sd (t.rs,(ja n).mono (λz A C G I f J=>?_) λ_ _ q=>q.ext<|t.ext0 t.rs.ext);let j:=t.go f.ff<|t.rs.step f;show KD X.K l (C++[]) I Q E;rw[ZA];calc je G z y (f.fh,J,j.lent,A.mono (λp L v M N w i=>?_) λ_ _ q=>q.ext j.hidden);let(O,P):=j.call w;exact L v O M N (f.ff.trans w.ff) P i
def C0(a:YC->Res D)(fr:z7):qU:=λsd b=>(fr sd b).bind λp=>(a p.1).bind λd=>.ok %[d|p.2]
def pf (c:z8 X.prog X.w X.K X.mg X.base a k P (xf X.K l))(T:Thrown X E)(m:Room k X.A)(o:Gl X a)(r:wG X E (e::f) g)
 (h:(a==("__debug__":Str))=7:=by decide)(s:starEach (e::f) X.env=%[7|eval e X.env]::starEach f X.env:=by rfl)(i:(backTo pos<|starEach f X.env).any (·.1)=7:=by rfl):
 ye X E (.Call (.Name a p) (e::f) [] pos) (C0 l g):=PE.weak (Ay c T m o r h s i) λZ H Q u=>by
 let(B w F sd x,t,n):=u;calc jF B w F sd x (t,(ja n).mono (λp y z A C G I b J=>?_) λ_ _ q=>q);show xf X.K l (z++[]) G Q E;rw[ZA];exact(C,p.1,b.rs.ext.fh,J,(ja y).mono (λd L v M N j O=>L v A M N (I.trans j.ff) (b.go j.ff<|b.rs.step j) O) λ_ _ q=>q.ext<|b.ext0 b.rs.ext)
def wT(f:FT):wJ:=λsd a=>(f sd).bind λb=>.ok %[b|a]
def MX(h:QT X E e f):uV X E e (wT f):=PT.weak h λZ H Q=>xK λB c F sd l=>jB λt n=>je c F sd (t.rs,(ja n).mono (λb g i j a=>g c i j a.ff<|t.go a.ff<|t.rs.step a) λ_ _ q=>q.ext<|t.ext0 t.rs.ext)
def vO(a:Yh)(f:FT):ku:=λsd b=>(f<|derI b a sd).strict
def dH(a)(h:QT X E e b):t4 X E e (vO a b):=PT.weak h λZ H Q=>xK λB o F sd r=>jB λt n=>qS t.frz λf=>jA λs g i=>je B f _ (g.derI i a,(jK<|n).mono (λd j u l m=>j F l<|.grow t.rs.ext.fh m.hh) λc fs q=>q)
def wU(fo fi:FE):qU:=λsd b=>(fo sd).bind λo=>match o with
 |.adr a=>match js b a with
  |some (.dct c e)=>(fi sd).bind λk=>(Res.ofO<|(Qr k).bind λq=>jS c e q).bind λz=>.ok %[z|b]
  |_=>.no
 |_=>.no
def cw(l:X.A.units+1<cLine)(m:QE X E o fo)(r:QE X E i fi)(s:vo i):ye X E (.Subscript o i pos) (wU fo fi):=PE.weak (D5 l m r s) λZ H Q u=>by
 let(B e F sd U,t,n):=u;refine je e F sd (t.rs,(ja n).mono (λd b v A Y f C=>?_) λ_ _ q=>q.ext<|t.ext0 t.rs.ext)
 split at b
 .rename_i a;obtain rfl:=jN.mp C
  split at b
  .rename_i ks ds G;let c:=t.go f.ff<|t.rs.step f;calc je e A sd (c.rs,(ja b).mono (λy I w J L g M=>?_) λ_ _ q=>q.ext<|t.ext0 c.rs.ext);let j:=c.go g.ff<|c.rs.step g;have(xs,N,O,P):=j.lies G;have(z,h,q):=jf (ja I);have(k,R,h):=Jg.mp h;have(x,S,T):=(X6 k O P).1 z h;calc(a,x,9,?_,q x e J L (f.ff.trans g.ff) j T);rw[WF R M,<-S];exact Ei<|.inl N
  .exact b.elim
 .exact b.elim
def MY(fo c:FE)(sd:SD)(p:D×HP):Res Out2:=(fo sd).bind λo=>match o with
 |.adr a=>match js p.2 a with
  |some (.dct b e)=>(c sd).bind λk=>match Qr k with
   |some q=>if b.length<sizeLine then .ok (.next sd<|WJ p.2 a<|.dct (KZ b q)<|Wo b e q p.1)else .no
   |none=>.no
  |_=>.no
 |_=>.no
def AA(fo a:FE)(b:qU):xi:=λsd c=>(b sd c).bind<|MY fo a sd
def pQ(u:X.A.units+1<cLine)(x:QE X E o fo)(y:QE X E i fi)(z:ye X E e A)(C:swapsWith e (! .Subscript o i pos') pos.line X.env=pure 7:=by rfl):
 wQ X E m (.Assign [.Subscript o i pos'] e pos) (AA fo fi A):=PS.weak (GJ u x y z C) λT Z H G=>by
 let(B I F sd J,t,n):=G;refine jF B I F sd J (t,(ja n).mono (λp L v l M H1 N b O=>je l M sd (b.rs,(ja L).mono (λd c v2 P H2 g Q=>?_) λ_ _ q=>q.ext<|b.ext0 b.rs.ext)) λ_ _ q=>q)
 split at c
 .rename_i a;obtain rfl:=jN.mp Q;let h:=b.go g.ff<|b.rs.step g
  split at c
  .rename_i ks ds r;calc je l P sd (h.rs,(ja c).mono (λk f w R H3 j S=>?_) λ_ _ q=>q.ext<|b.ext0 h.rs.ext);let s:=h.go j.ff<|h.rs.step j
   split at f
   .rename_i q U
    split at f
    .have(xs,Y,h5,h6):=s.lies r;let(ys,y1,y2,y3):=Ir h5 h6 (IsD.same (g.ff.trans j.ff) _ _ O);exact(a,_,9,by rw[WF U S];calc wK.k Y (),f Z _ R _ ((N.trans g.ff).trans j.ff)<|s.chg r (ys,by rw[JK,y1],y2,y3))
    .exact f.elim
   .exact f.elim
  .exact c.elim
 .exact c.elim
end
def vM(K:f')(E:XK)(e:FA)(f:D):TA:=λZ H Q=>∃B F sd,RS K B F H sd Z/\(e sd).need (λg=>∀c l a b,Ext F H a b->IsDs K a g c->H l=8->a l=8->zD K a b l f->Q (c++[.ref l]) b) (XW K E F H)
open Classical in
def vm(g:Addr->Res D):Res D:=if h:∃r,∀a,g a=r then Classical.choose h else .no
def MZ  (h:∀a,g a=r):vm g=r:=by
 let b:∃r,∀a,g a=r:=(r,h);unfold vm;rw[dif_pos b];exact(Classical.choose_spec b 0).symm.trans<|h 0
def eQ   (h:(vm g).need p q)(a):(g a).need p q:=by
 unfold vm at h
 split at h
 .grind
 .exact h.elim
def C1(a:YC->HP->Res (D×HP))(b:D)(c:FA):FE:=λsd=>(c sd).bind λe=>vm λl=>(a (e++[.adr l]) [%[l|b]]).bind λp=>.ok p.1
def aM(h:QN X E e (dC d0))(a:starEach [e] X.env=%[7|eval e X.env]::starEach [] X.env:=by rfl):PA X [e] (vM X.K E jc d0):=PA.weak (KQ h Wf a) λZ H Q=>qj λB F sd=>jB λr n=>je B F sd (r,λl b c e f g i=>n [] l b c e 9 f g i)
def Fb(f:QE X E e g)(h:PA X b (vM X.K E i j))(m:starEach (e::b) X.env=%[7|eval e X.env]::starEach b X.env:=by rfl):PA X (e::b) (vM X.K E (J1 g i) j):=PA.weak (KQ f h m) λZ H Q=>qj λB F sd=>jB λr n=>je B F sd (r,(ja n).mono (λx o v p I a s=>je B p sd (r.step a,(ja o).mono (λJ t u l w y c z A C G=>t (v::u) l w y (a.trans c) (.mk (IsD.same c.ff _ _ s) z) (Qe a.hh A) C G) λ_ _ q=>q.ext a)) λ_ _ q=>q)
def gr (c:z8 X.prog X.w X.K X.mg X.base b k ps (KD X.K u))(T:Thrown X E)(G:Room k X.A)(I:Gl X b)(J:PA X (e::h) (vM X.K E L j))
 (m:(b==("__debug__":Str))=7:=by decide)(M:starEach (e::h) X.env=%[7|eval e X.env]::starEach h X.env:=by rfl)(s:(backTo t<|starEach h X.env).any (·.1)=7:=by rfl):
 QE X E (.Call (.Name b p) (e::h) [] t) (C1 u j L):=PE.weak (Ay c T G I J m M s) λZ H Q N=>by
 let(B F sd,r,n):=N;calc je B F sd (r,(ja n).mono (λO P R l x A f S h1 h2 h3=>?_) λ_ _ q=>q);show KD X.K u (R++[.ref l]++[]) A Q E;rw[ZA];let g:∀{a:Addr},a≠l->js [%[l|j]] a=8:=λz=>by rw[QU,Ze z];rfl
 let ne:∀a o,H a=!o->a≠l:=by grind
 let U:vq X.K x A [%[l|j]]:=λa d q=>by
  simp_all[QU]
 refine je x (O++[.adr l]) [%[l|j]] (f.fh,S.snoc<|jN.mpr 9,U,(ja<|eQ P l).mono (λp Y v F2 H2 w i=>?_) λc fs q=>?_)
 .refine Y v F2 H2 (f.ff.trans w.ff,w.fh,λa o q=>w.hh a o (g<|ne a o q)<|f.hh a o q,λa q0 C=>w.new a (f.new a q0 C) λz=>?_) i
  induction y:H a with
  |none=>calc C y
  |some o=>rw[f.hh a o y]at z;cases z
 .refine q.ext (f.ff,λa o y=>?_,λa o y=>?_,f.new)
  .let na:a≠l:=by grind
   rw[Ww (g na)];exact f.fh a o y
  .rw[Ww (g<|ne a o y)];exact f.hh a o y
def dU  {K:f'}      :FnOk P w K b a (yo P w) k f c e (KD K λ_ _=>.no):=(λ_ _ _ _=>qj λ_ _ _=>qW λ_ _ _ n=>n.elim,λ_ _ _ _ _ _ _ _ _ _ _ _ _=>qj λ_ _ _=>qW λ_ _ _ n=>n.elim)
structure Ev where
 P:Program
 w:World
 K:f'
 mg:Yd
 base:Heap
 C:5->Addr
 t:5->Tok
abbrev Ca(e:Ev):=wM e.P e.w e.K e.mg e.base
abbrev zc(e:Ev):=z8 e.P e.w e.K e.mg e.base
def kw(K:f')(T:5->Stmt):List (Str×5)->4
 |[]=>True
 |p::r=>uz K p.1 (T p.2)/\kw K T r
def Nn(K:f'):Yi->4
 |[]=>True
 |x::r=>W.nsIn K mainGlobals x=!8/\Nn K r
def dfs_cons{K:f'}    (h:uz K x (T i))(q:kw K T r):kw K T (%[x|i]::r):=(h,q)
def nn_cons{K:f'}  (h:W.nsIn K mainGlobals x=!8)(q:Nn K r):Nn K (x::r):=(h,q)
theorem Fc{K:f'} :∀{l:List (Str×5)}{j:5}{p:Str×5},kw K T l->l[j]?=!p->uz K p.1 (T p.2)
 |[],j,p,_,h=>by simp at h
 |q::r,0,p,d,h=>by
  obtain rfl:=by simpa using h
  calc d.1
 |q::r,j+1,p,d,h=>Fc d.2 (by simpa using h)
theorem Na{K:f'}  (X:K.In h)(G:h.Ns mainGlobals a):∀{l:Yi},Nn K l->∀x∈l,a x=8
 |[],_,x,q=>by simp at q
 |y::r,d,x,q=>by
  rcases U0.mp q with z|z
  .rw[z];exact W.mg_none_of X G d.1
  .exact Na X G d.2 x z
abbrev dD(mg:Yd)(bl:Yi):4:=∀x∈bl,mg x=8
def JH   (m:dD a bl)(h:x∈bl:=by decide):a x=8:=m x h
structure Al(e:Ev)(T:5->Stmt)(tbl:List (Str×5))(bl:Yi):4 where
 h:∃h,e.K.In h/\h.Ns mainGlobals e.mg
 d:kw e.K T tbl
 m:dD e.mg bl
section
variable {e:Ev}{T:Nat->Stmt}{tbl:List (Str×Nat)}{bl:Yi}{x:Str}{k:Nat}{ps:Yi}{sp:Sp}
abbrev Nb(x:Str)(st:Stmt)(ps:Yi):4:=∀(kV doc pm:Value)(an:Option Addr)(cdv ct:Value)(us:Ye),us.length=ps.length->bindArgs (W.fnOf x x (Xw st) (Ko st) (JY st) .none kV doc pm an cdv ct) (us,[])=pure (ps.zip us)
def xM(a:Al e T tbl bl)(j i:5)(ok:∀{f:Addr}{b:FuncData},Fun e.K x x (T i) f b->FnOk e.P e.w e.K e.mg e.base zj k f b ps sp)(h:tbl[j]?=!%[x|i]:=by rfl)
 (c:Nb x (T i) ps:=by intro _ _ _ _ _ _;first|calc nR λ_ _=>9|calc tM λ_ _ _=>9|calc tN λ_=>9|calc nQ λ_ _ _ _=>9|calc oj λ_ _ _ _ _=>9|calc g λ_ _ _ _ _ _=>9):Ca e x k ps sp:=by
 let(-_,X,G):=a.h;exact(Fc a.d h).callee X G ok c
def xC(a:Al e T tbl bl)(j i:5)(ok:∀{f:Addr}{b:FuncData},Fun e.K x x (T i) f b->FnOk e.P e.w e.K e.mg e.base (yo e.P e.w) k f b ps sp)(h:tbl[j]?=!%[x|i]:=by rfl)
 (c:autoParam (Nb x (T i) ps) xM._auto_2):zc e x k ps sp:=by
 let(-_,X,G):=a.h;exact(Fc a.d h).calleeX X G ok c
end
def j8{X:Cx}(h:X.N.Nodup:=by dsimp only[JL,qu,Cx.nox];decide+kernel):X.N.Nodup:=h
def qv  (i:5)  (b:X.N[i]?=!x:=by rfl)(c:autoParam (nF X.env.scope x) pv._auto_2)(e:(x==("__debug__":Str))=7:=by decide)(a:(x==("__classdict__":Str))=7:=by decide):QE X E (.Name x f) (jb i):=PE.weak (pv i b c e a) λZ H Q g=>by
 let(B F sd,r,n):=g;unfold jb at n
 split at n
 .rename_i d q;let(-v,h,j):=r.val q;exact(v,h,n v F H (.refl r.ext.fh) j)
 .exact n.elim
end L2.DL
namespace L2
def Fd      {mA:Yd} (f:h.Ns1 d mA)(e:mA "row"=!u)(r:jv (.int n) u):yq P w H h d (DL.RowO d n):=by
 let a:=f;let(g i j,b,c):=f;exact((mA,u,a,e,r),(_,b),λl m(mA,u,(g,i,j,b,c),r)k=>(mA,u,je g i j (k _ b,c),r))
end L2
namespace L2.DL
end L2.DL
set_option maxHeartbeats 4000000
namespace My
open PySem L2 L2.DL
@[simp high]def gt1{α:Type}(b a:α)(l):(b::a::l)[1]?=!a:=rfl
@[simp high]def se1{α:Type}(a b v:α)(l):(a::b::l).set 1 v=a::v::l:=rfl
@[simp high]def gt2{α:Type}(b c a:α)(l):(b::c::a::l)[2]?=!a:=rfl
@[simp high]def se2{α:Type}(a b c v:α)(l):(a::b::c::l).set 2 v=a::b::v::l:=rfl
@[simp high]def gt3{α:Type}(b c e a:α)(l):(b::c::e::a::l)[03]?=!a:=rfl
@[simp high]def se3{α:Type}(a b c e v:α)(l):(a::b::c::e::l).set 03 v=a::b::c::v::l:=rfl
@[simp high]def gt4{α:Type}(b c e f a:α)(l):(b::c::e::f::a::l)[04]?=!a:=rfl
@[simp high]def se4{α:Type}(a b c e f v:α)(l):(a::b::c::e::f::l).set 04 v=a::b::c::e::v::l:=rfl
@[simp high]def gt5{α:Type}(b c e f g a:α)(l):(b::c::e::f::g::a::l)[05]?=!a:=rfl
@[simp high]def se5{α:Type}(a b c e f g v:α)(l):(a::b::c::e::f::g::l).set 05 v=a::b::c::e::f::v::l:=rfl
@[simp high]def gt6{α:Type}(b c e f g h a:α)(l):(b::c::e::f::g::h::a::l)[06]?=!a:=rfl
@[simp high]def se6{α:Type}(a b c e f g h v:α)(l):(a::b::c::e::f::g::h::l).set 06 v=a::b::c::e::f::g::v::l:=rfl
@[simp high]def gt7{α:Type}(b c e f g h i a:α)(l):(b::c::e::f::g::h::i::a::l)[07]?=!a:=rfl
@[simp high]def se7{α:Type}(a b c e f g h i v:α)(l):(a::b::c::e::f::g::h::i::l).set 07 v=a::b::c::e::f::g::h::v::l:=rfl
@[simp high]def gt8{α:Type}(b c e f g h i j a:α)(l):(b::c::e::f::g::h::i::j::a::l)[08]?=!a:=rfl
@[simp high]def se8{α:Type}(a b c e f g h i j v:α)(l):(a::b::c::e::f::g::h::i::j::l).set 08 v=a::b::c::e::f::g::h::i::v::l:=rfl
@[simp high]def gt9{α:Type}(b c e f g h i j m a:α)(l):(b::c::e::f::g::h::i::j::m::a::l)[09]?=!a:=rfl
@[simp high]def se9{α:Type}(a b c e f g h i j m v:α)(l):(a::b::c::e::f::g::h::i::j::m::l).set 09 v=a::b::c::e::f::g::h::i::j::v::l:=rfl
@[simp high]def oM{α:Type}(b c e f g h i j m n a:α)(l):(b::c::e::f::g::h::i::j::m::n::a::l)[10]?=!a:=rfl
@[simp high]def o8{α:Type}(b c e f g h i j m n a v:α)(l):(b::c::e::f::g::h::i::j::m::n::a::l).set 10 v=b::c::e::f::g::h::i::j::m::n::v::l:=rfl
@[simp high]def oK{α:Type}(c e f g h i j m n o b a:α)(l):(c::e::f::g::h::i::j::m::n::o::b::a::l)[11]?=!a:=rfl
@[simp high]def o7{α:Type}(c e f g h i j m n o a b v:α)(l):(c::e::f::g::h::i::j::m::n::o::a::b::l).set 11 v=c::e::f::g::h::i::j::m::n::o::a::v::l:=rfl
@[simp high]def oJ{α:Type}(e f g h i j m n o p b c a:α)(l):(e::f::g::h::i::j::m::n::o::p::b::c::a::l)[12]?=!a:=rfl
@[simp high]def o6{α:Type}(e f g h i j m n o p a b c v:α)(l):(e::f::g::h::i::j::m::n::o::p::a::b::c::l).set 12 v=e::f::g::h::i::j::m::n::o::p::a::b::v::l:=rfl
@[simp high]def oI{α:Type}(f g h i j m n o p q b c e a:α)(l):(f::g::h::i::j::m::n::o::p::q::b::c::e::a::l)[13]?=!a:=rfl
@[simp high]def o5{α:Type}(f g h i j m n o p q a b c e v:α)(l):(f::g::h::i::j::m::n::o::p::q::a::b::c::e::l).set 13 v=f::g::h::i::j::m::n::o::p::q::a::b::c::v::l:=rfl
noncomputable def Kt(a:Yf)(k:3):3:=a.getD k.toNat 0
noncomputable def jY(a:Yf)(t:3):3:=a.getD t.toNat 0
def QH(r:Jz)(a:Yf):3:=xu<|r.map λp=>jY a p.1+p.2
def Xn  {k:5}(h:k<l.length):xh l (k:3)=l[k]?:=by
 simp_all[xh,ze]
def lM{a:Yf} (b:0<=t)(c:t<(a.length:3)):xh (a.map D.int) t=!(.int<|jY a t):=by
 simp_all[ze,xh,jY]
def QV{α:Type}{f:α->D}{l:List α}{i:5} (h:(l.map f)[i]?=!x):∃p,l[i]?=!p/\x=f p:=by
 rw[Zv]at h
 induction q:l[i]? with
 |none=>rw[q]at h;cases h
 |some p=>rw[q]at h;exact(p,9,(Zqi h).symm)
structure RowOk(n:3)(r:Jz):4 where
 ne:r ≠[]
 once:jE r
 mem:∀p∈r,0<=p.1/\p.1<n
 len:r.length<=12
noncomputable def jg(f:J0):D:=.lst<|f.map j6
def Nc(f g:J0):sameD (jg f) (jg g)=decide (f=g):=by
 by_cases h:f=g
 .simp_all[BJ]
 .rw[Zo h];exact k7.mpr λz=>h<|by grind[jg,BH]
noncomputable def qF(all:J0)(row:Jz):Bool:=(all.filter λone=>(not<|decide<|one=row)&&JI one row).isEmpty
def YS(all a:J0)(row:Jz):J0:=if qF all row=6/\row∉a then a++[row]else a
def Nd(all a:J0):J0:=a.foldl (YS all) []
def Qg(a:J0):J0:=Qd jH<|Nd a a
theorem C4(all:J0):∀(b a:J0),(b.foldl (YS all) a).length<=a.length+b.length/\(∀r,r∈b.foldl (YS all) a↔r∈a\/r∈b/\qF all r=6)/\(a.Nodup->(b.foldl (YS all) a).Nodup)
 |[],a=>by simp
 |row::b,a=>by
  have(c,e,f):=C4 all b (YS all a row);unfold YS at c e f ⊢
  grind
theorem yu  :r∈Qg a↔r∈a/\qF a r=6:=by
 unfold Qg Nd;rw[(QD (ltb:=jH) _).mem_iff,(C4 a a []).2.1];simp
def JE(f:J0)(a:Yf):3:=yh<|f.map λr=>QH r a
def ag{α:Type}(l:List α)(x y:α):(l++[x]).set l.length y=l++[y]:=()
def ph{α:Type}(l:List α)(x):ze (l++[x]).length (l.length:3)=!l.length:=by
 unfold ze;rw[Zd (),Zd (by rw[Ua,Uf];lia),Vb]
@[simp]def fH(f):QR [jg f]=! jg f:=rfl
@[simp]def kC(f):X8 (jg f)=! f.map j6:=rfl
@[simp]def k9(r):X8 (j6 r)=! r.map qb:=rfl
@[simp]def mE(f):jQ [jg f]=! .int f.length:=by show some (D.int (f.map j6).length)=_;rw[Zql]
@[simp]def zvH(f):uN [jg f,.ty "list"]=! .bl 6:=rfl
@[simp]def ztj(f):uN [j6 f,.ty "tuple"]=! .bl 6:=rfl
@[simp]def ztv(p):uN [qb p,.ty "tuple"]=! .bl 6:=rfl
@[simp]def mD(p):jQ [qb p]=! .int 2:=rfl
@[simp]def mI(p):jR (qb p) (.int 0)=! .int p.1:=rfl
@[simp]def mH(p):jR (qb p) (.int 1)=! .int p.2:=rfl
def Nf(n)(r):plN (n+03) (j6 r)=6:=by
 show(r.map qb).all (plN<|n+2)=6;rw[List.all_map,Uy];exact λp _=>9
def C5(n)(f):plN (n+04) (jg f)=6:=by
 show(f.map j6).all (plN<|n+03)=6;rw[List.all_map,Uy];exact λr _=>Nf n r
def cH(f g):xa (jg f) (jg g)=!(.bl<|decide<|f=g):=by rw[BK (C5 08 f) (C5 08 g),Nc]
def dX(f g):wg (jg f) (jg g)=!(.bl<|not<|decide<|f=g):=by rw[Im (C5 08 f) (C5 08 g),Nc]
structure FormOk(n:3)(f:J0):4 where
 ne:f ≠[]
 rows:∀r∈f,RowOk n r
 len:f.length<=100
def af (h:l ≠[])(w:3):yh (l.map (·+w))=yh l+w:=by
 let(a,b):=Bo h;refine(DB () λy c=>?_).symm
 grind
def aa (h:l ≠[])(w:3):xu (l.map (·+w))=xu l+w:=by
 let(a,b):=Xy h;refine(GX () λy c=>?_).symm
 grind
def xp(r:Jz):4:=(r.map (·.1)).Pairwise (·<·)
def Ng (h:xp r):r.Pairwise λx y=>qs x y=6:=by
 unfold xp at h;rw[UQ]at h;refine h.imp λ{a b}z=>?_
 simp_all[qs]
def z9 :JI r o=6↔∀p∈r,∃w,JC o p.1=!w/\p.2<=w:=by
 unfold JI;rw[Uy];calc forall_congr' λp=>forall_congr' λ_=>?_;unfold zn
 induction JC o p.1 with
 |none=>simp
 |some w=>simp
theorem KE (e:JI a b=6)(f:JI b c=6):JI a c=6:=by
 rw[z9]at*;intro p g;let(-w,h,i):=e p g;let(-v,j,l):=f _ (Qq h);exact(v,j,Int.le_trans i l)
def Nh (e:jE a)(f:JI a b=6)(g:JI b a=6):∀p∈a,p∈b:=by
 rw[z9]at*;intro p c;let(-w,h,l):=f p c;let i:=Qq h;let(-v,j,m):=g _ i;rw[e.look c]at j
 grind
theorem Fe (f:jE a)(g:jE b)(h:xp a)(i:xp b)(c:JI a b=6)(e:JI b a=6):a=b:=
 Xb vH (Ng h) (Ng i) λp=>(Nh f c e p,Nh g e c p)
theorem Ff:∀{a:J0},a ≠[]->(∀r∈a,jE r/\xp r)->∃m∈a,∀o∈a,JI o m=6->o=m
 |[],h,_=>Zn 9 h
 |x::a,_,ok=>by
  by_cases q:a=[]
  .ext
  .have(m,b,c):=Ff q ()
   grind[Zqm,Zqs,KE,Fe]
def vG  :qF a m=6↔∀o∈a,JI o m=6->o=m:=by
 grind[qF,List.isEmpty_iff,List.filter_eq_nil_iff]
structure Good(n:3)(f:J0):4 where
 ne:f ≠[]
 rows:∀r∈f,RowOk n r
 rise:∀r∈f,xp r
 len:f.length<=40
 anti:∀r∈f,∀s∈f,JI r s=6->r=s
 srt:f.Pairwise λa b=>jH a b=6
def lK(j n:5):min (j:3) (n:3)=((min j n:5):3):=by
 lia
def Ni (l:List α) (a:0<=k):QB l (!k) 8 8=l.drop k.toNat:=by
 let e:sliceBounds (!k) 8 8 l.length=%[((min k.toNat l.length:5):3),(l.length:3)|1]:=by
  let(j,rfl):=Int.eq_ofNat_of_zero_le a;unfold sliceBounds;simp only;rw[Ze (Int.not_lt.mpr a),lK];exact 9
 unfold QB;rw[e,sliceRange_one];let b:(λx:5=>l[x]?)=λx:5=>l.toArray[x]?:=by simp
 rw[b,pick_run l.toArray (min k.toNat l.length)<|l.length-min k.toNat l.length];by_cases c:k.toNat<=l.length
 .rw[Vq c,UH ()]
 .rw[Nat.min_eq_right (),Vo (Zf _),Vo ()];exact List.take_nil
def Nj{α:Type}{f:α->Bool}{l:List α} {p:α}(h:∀q∈l.take i,f q=7)(a:l[i]?=!p)(b:f p=6):l.find? f=!p:=by
 let c:=(Jb.mp a).1;let e:l=l.take i++p::l.drop (i+1):=by
  let g:l.drop i=p::l.drop (i+1):=by
   rw[Uz c]
   congr 1
   exact(Jb.mp a).2
  rw[<-g,UK]
 rw[e,List.find?_append,List.find?_eq_none.mpr λq j=>by rw[h q j];simp];simp[b]
structure ThingsOk(ts:Yf):4 where
 ne:ts ≠[]
 len:ts.length<=04
 rng:∀t∈ts,0<=t/\t<12
 up:ts.Pairwise (·<·)
def C6 (h:xp r):jE r:=by
 unfold xp at h;unfold jE List.Nodup;exact h.imp λh e=>()
def et (h:jE r) (b:p∈r)(c:q∈r)(e:p.1=q.1):p=q:=by
 induction r with
 |nil=>cases b
 |cons a r f=>
  grind[jE,List.map_cons,List.nodup_cons]
def Nk   (a:p∈r):jY hs p.1+p.2<=QH r hs:=
 (Xy<|λz=>()).2 _ ()
def pV  (a:r ≠[]):∃p∈r,QH r b=jY b p.1+p.2:=qS (Ja.mp (Xy<|λz=>a<|Jh.mp z).1) λp=>jB λc e=>(p,c,e.symm)
def Fg   (b:r ≠[]):QH r c<=x↔∀p∈r,jY c p.1+p.2<=x:=by
 constructor
 .intro h p a;exact Int.le_trans (Nk a) h
 .intro h;let(p,a,e):=pV b;rw[e];exact h p a
def WM   (a:r∈f):JE f hs<=QH r hs:=
 (Bo<|λz=>()).2 _ ()
def Xo  (a:f ≠[]):∃r∈f,JE f hs=QH r hs:=qS (Ja.mp (Bo<|λz=>a<|Jh.mp z).1) λp=>jB λb e=>(p,b,e.symm)
structure Over(f:J0)(hs:Yf):4 where
 ne:f ≠[]
 rne:∀r∈f,r ≠[]
 once:∀r∈f,jE r
 bnd:∀r∈f,∀p∈r,0<=p.1/\p.1<(hs.length:3)
theorem lH  (h:(JC r t).isSome=6):∃w,JC r t=!w/\%[t|w]∈r:=by
 induction q:JC r t with
 |none=>ext
 |some w=>exact(w,9,Qq q)
structure RoundOk(n:3)(fs:List J0):4 where
 len:(fs.length:3)=n
 low:1<=n
 most:n<=12
 forms:∀f∈fs,FormOk n f
def uf  (R:RoundOk n fs) (h:i.length=fs.length):∀f∈fs,Over f i:=λf e=>((R.forms f e).ne,λr c=>((R.forms f e).rows r c).ne,λr c=>((R.forms f e).rows r c).once,λr c p j=>by
 let:=((R.forms f e).rows r c).mem p j;let:=R.len;lia)
def o9(fs:List J0):D:=.lst<|fs.map jg
@[simp]def kA(fs):X8 (o9 fs)=! fs.map jg:=rfl
open L2.ST
theorem Fh:∀{b a:Yf},a.Pairwise (·<·)->b.Pairwise (·<·)->(∀x∈a,x∈b)->a.length<=b.length/\(a.length=b.length->a=b)
 |[],a,_,_,h=>by
  induction a with
  |nil=>simp
  |cons x a=>cases h x Zqs
 |y::b,[],_,_,_=>by simp
 |y::b,x::a,hx,hy,h=>by
  rw[List.pairwise_cons]at hx hy;rcases U0.mp (h x Zqs)with q|q
  .have(c,f):=Fh hx.2 hy.2 λz e=>by
    grind
   ext
  .let(c,_):=Fh (Jk.mpr hx) hy.2 λz e=>by
    grind
   grind
theorem Nl:∀{a b:Jz},a.map (·.1)=b.map (·.1)->(∀(i:5)p q,a[i]?=!p->b[i]?=!q->p.2<=q.2)->a≠b->jH a b=6
 |[],[],_,_,h=>Zn 9 h
 |[],_::_,e,_,_=>by simp at e
 |_::_,[],e,_,_=>by simp at e
 |p::a,q::b,e,hw,hn=>by
  let g:=hw 0 p q 9 9;rw[W5];by_cases z:p=q
  .rw[Zd z];refine Nl (List.cons.inj e).2 (λi p q c f=>hw (i+1) p q c f) ()
  grind[X0]
def lC (s:xp a)(j:xp b)(h:JI a b=6)(t:a≠b):wu a b=6:=by
 let u:=z9.mp h;let v:=C6 j;let(l,m):=Fh s j λx y=>by
  let(-p,c,rfl):=Ja.mp y;let(-w,f,_):=u p c;exact Ja.mpr (%[p.1|w],Qq f,9)
 rw[Zql,Zql]at l m;rw[YK];rcases Nat.lt_or_eq_of_le l with q|q
 .exact .inl q
 .let e:=m q;calc .inr (q,Nl e (λi p r c n=>?_) t);let(-w,f,g):=u p (Ue c);let z:p.1=r.1:=by
   let o:(a.map (·.1))[i]?=!p.1:=by rw[Zv,c];rfl
   let A:(b.map (·.1))[i]?=!r.1:=by rw[Zv,n];rfl
   rw[e,A]at o;exact(Zqi o).symm
  let:=et v (Ue n) (Qq f) z.symm;rw[this];exact g
def AB  (T:Tot c) (f:l.Nodup):(Qd c l).Pairwise λa b=>c a b=6:=by
 let e:(Qd c l).Nodup:=(QD l).nodup_iff.mpr f;calc List.Pairwise.imp ?_<|(X1 T l).and e;rintro a b ⟨g,h⟩
 induction q:c a b with
 |true=>rfl
 |false=>exact Zn (T.tot _ _ q g) h
def xB(a:J0):J0:=Qd wu<|Qd jH<|xV a
theorem mj  :r∈xB a↔r∈a:=by
 grind[xB,nO,QD]
def Nm(c:J0):(xB c).Pairwise λa b=>wu a b=6:=AB ke<|(QD _).nodup_iff.mpr<|Md c
def No(a:J0):(xB a).length<=a.length:=by
 unfold xB;rw[(QD _).length_eq,(QD _).length_eq];exact Me a
def wr(kept:J0)(r:Jz):J0:=if kept.any (λo=>JI o r)=6 then kept else kept++[r]
def yi(a:J0):J0:=(xB a).filter<|qF a
theorem Np (p:∀r∈a,xp r):∀i,i<=(xB a).length->((xB a).take i).foldl wr []=((xB a).take i).filter (qF a)
 |0,_=>by simp
 |i+1,I=>by
  let G:=Np p i ();let t:=Nm a;let s:∀r,r∈xB a↔r∈a:=λr=>mj;generalize xB a=L at I G t s;let c:i<L.length:=()
  rw[Wh (Zqg c),UR,Vm,G];let u:∀o∈L.take i,wu o L[i]=6:=λo e=>by
   let(j,v,rfl):=UC e;rw[Uu]at v;rw[List.getElem_take];exact V2.mp t j i () c ()
  let y:=(s L[i]).mp<|UB c;show wr ((L.take i).filter<|qF a) L[i]=_;unfold wr
  induction q:qF a L[i]with
  |true=>
   let low:=vG.mp q;rw[Ze,V6 q,List.filter_nil];intro z;have(o,e,A):=VU.mp z;let e:=(Jf.mp e).1;let b:=u o e;rw[low o ((s o).mp<|List.mem_of_mem_take e) A]at b;let:=ke.asy _ _ b
   ext
  |false=>
   let M:¬ ∀o∈a,JI o L[i]=6->o=L[i]:=λz=>by rw[vG.mpr z]at q;cases q
   let(o,e,A,hne):∃o∈a,JI o L[i]=6/\o≠L[i]:=by
    exact by grind
   let(-g,B,C):=Ff (λz=>by
    let:o∈a.filter λo=>JI o L[i]:=Jf.mpr (e,A);rw[z]at this;cases this) λr h=>(C6<|p r (Jf.mp h).1,())
   let(H,E):=Jf.mp B;let l:=vG.mpr λx J m=>C x (Jf.mpr (J,KE m E)) m;let n:g≠L[i]:=by grind
   let f:g∈L.take i:=by
    let(j,v,F):=UC ((s g).mpr H);rcases UZ j i with w|w|w
    .rw[<-F,List.mem_take_iff_getElem];exact by grind
    .subst w;exact Zn F.symm n
    .let b:=V2.mp t i j c v w;rw[F]at b;let:=ke.asy _ _ b;rw[lC (p g H) (p _ y) E n]at this;cases this
   rw[Zd (VU.mpr (g,Jf.mpr (f,l),E)),V7 (by rw[q];simp),List.filter_nil,ZA]
def Nq(c:J0):Qd jH (yi c)=Qg c:=by
 let f:(yi c).Nodup:=by
  let:(xB c).Nodup:=by
   calc(Nm c).imp λ{a b}h e=>?_;let:=ke.asy _ _ h
   ext
  exact List.Pairwise.sublist List.filter_sublist this
 refine Xb yI (AB yI f) (AB yI<|(C4 c c []).2.2 Vu) λr=>?_
 grind[yi,yu,mj,QD]
structure PairsOk(ts:Yf)(r:Jz):4 where
 ne:r ≠[]
 len:r.length<=04
 mem:∀p∈r,p.1∈ts
 up:r.Pairwise λp q=>p.1<q.1
def l0 (h:r.Pairwise λp q=>p.1<q.1):jE r:=by
 unfold jE List.Nodup;rw[UQ];exact h.imp λh e=>()
def PairsOk.row  (T:ThingsOk c)(P:PairsOk c r):RowOk 12 r:=(P.ne,l0 P.up,λp e=>T.rng _<|P.mem p e,Zh P.len ())
def eX  (a:s ≠[])(f:jE r)(h:JI s r=6):QH s hs<=QH r hs:=by
 rw[Fg a];intro p b;let(-w,c,e):=z9.mp h p b;let:=Nk (hs:=hs)<|Qq c
 grind
def YT (ok:∀r∈b,jE r/\xp r) (f:r∈b):∃s∈Qg b,JI s r=6:=by
 let l:=z9.mpr λp g=>(p.2,(ok r f).1.look g,Vc _);let ne:b.filter (λo=>JI o r)≠[]:=λz=>by
  ext
 let(-m,i,h):=Ff ne ();let(c,a):=Jf.mp i;exact(m,yu.mpr (c,vG.mpr λo j e=>h o (Jf.mpr (j,KE e a)) e),a)
def ir  (l:g ≠[])(ok:∀r∈g,r ≠[]/\jE r/\xp r):JE (Qg g) hs=JE g hs:=by
 let(-r,j,e):=Xo (hs:=hs) l;let(-s,f,m):=YT (λr h=>(ok r h).2) j;let a:=WM (hs:=hs) f;let b:=eX (hs:=hs) (ok s (yu.mp f).1).1 (ok r j).2.1 m;let ne:Qg g ≠[]:=by grind
 let(-n,i,o):=Xo (hs:=hs) ne;let c:=WM (hs:=hs) (yu.mp i).1;lia
def pU (h:f.length+g.length<=1000):jC (jg f) (jg g)=!(jg<|f++g):=by
 show(if(f.map j6).length+(g.map j6).length<=sizeLine then _ else _)=_;rw[Zql,Zql,Zd (QC h)];unfold jg;simp
def Wx(c):(Qg c).Pairwise λa b=>jH a b=6:=AB yI<|(C4 c c []).2.2 Vu
structure JRow(r:Jz):4 where
 ne:r ≠[]
 rise:xp r
 bnd:∀p∈r,0<=p.1/\p.1<12
def JRow.once (h:JRow r):jE r:=C6 h.rise
def JRow.len (h:JRow r):r.length<=12:=by
 let e:∀(l:Yf)(a:3),l.Pairwise (·<·)->(∀x∈l,a<=x/\x<12)->(l.length:3)<=max 0 (12-a):=by
  intro l
  induction l with
  |nil=>simp;lia
  |cons x l f=>
   intro a c i;rw[List.pairwise_cons]at c;let n:=i x Zqs;let:=f (x+1) c.2 ()
   grind
 let:=e _ 0 h.rise λx j=>by
  let(-p,c,rfl):=Ja.mp j;exact h.bnd p c
 grind
def asc(x:Str):4:=x.cps.all (·<128)=6
def kf :asc x↔∀c∈x.cps.toList,c<128:=by
 unfold asc;rw[<-Array.all_toList,Uy];simp
def lq(a b:Str):(a++b).length=a.length+b.length:=Array.size_append
def pZ(a b:Str):(a++b).cps.toList=a.cps.toList++b.cps.toList:=Array.toList_append
structure TxtOk(n:5)(x:Str):4 where
 len:x.length<=n
 asc:asc x
def TxtOk.app  (e:TxtOk m a)(f:TxtOk n b):TxtOk (m+n) (a++b):=(by rw[lq];let:=e.len;let:=f.len;lia,kf.mpr λc i=>by
 rw[pZ]at i;rcases Jc.mp i with h|h
 .exact kf.mp e.asc c h
 .calc kf.mp f.asc c h)
def TxtOk.mono  (c:TxtOk m a)(h:m<=n):TxtOk n a:=(Zh c.len h,c.asc)
def KF  (h:(decide (x.length<=n)&&x.cps.all (·<128))=6):TxtOk n x:=by
 rw[Ud]at h;exact(of_decide_eq_true h.1,h.2)
def C7  (c:TxtOk m a)(e:TxtOk n b)(h:m+n<=1000):jC (.str a) (.str b)=!(.str<|a++b):=Zd<|QC<|by let:=c.len;let:=e.len;lia
def lI  (b:TxtOk n a)(h:n<=1000):jQ [.str a]=! .int a.length:=Zd<|QC<|by let:=b.len;lia
def lc   (b:TxtOk n a)(h:n<=1000)(f:0<=k)(i:k<(a.length:3)):∃c,jR (.str a) (.int k)=! .str ⟨#[c]⟩/\a.cps.toList[k.toNat]?=!c/\c<128:=by
 let g:k.toNat<a.cps.toList.length:=by
  rw[Ui];let:a.length=a.cps.size:=9;lia
 calc(a.cps.toList[k.toNat],?_,(),kf.mp b.asc _<|UB g);show(if a.length<=sizeLine then(xh a.cps.toList k).map λc=>D.str ⟨#[c]⟩ else 8)=_;rw[Zd (QC<|by let:=b.len;lia)];let e:xh a.cps.toList k=!a.cps.toList[k.toNat]:=by
  unfold xh ze;rw[Zd f,Zd (by rwa[Ui])];exact()
 rw[e];rfl
def lZ:∀k:Fin 64,Nat.ble (k.val:3).natAbs.log2 1900=6/\(decide ((toString (k.val:3):Str).length<=2)&&(toString (k.val:3):Str).cps.all (·<128))=6:=by decide+kernel
noncomputable def jD(k:5):Str:=(toString (k:3):Str)
def iu:∀k:Fin 26,("abcdefghijklmnopqrstuvwxyz":Str).cps.toList[k.val]?=! 97+k.val:=by decide+kernel
def AC{k:5}(h:k<64):yS [.int (k:3)]=!(.str<|jD k)/\TxtOk 2 (jD k):=by
 let(a,b):=lZ (k,h);exact(Zd a,KF b)
def low(x:Str):4:=∀c∈x.cps.toList,97<=c/\c<123
@[simp]def r9(n:5)(g:FS)(a b c d e:D):jT n 05 g [a,b,c,d,e]=(g<|~~~a::~~~b::~~~c::~~~d::~~~e::List.replicate (n-05) 8).bind y8:=rfl
structure Pl where
 name:Str
 givens:Yi
 rows:List (Str×Str×Jz)
noncomputable def j1(r:Str×Str×Jz):D:=.tup [.str r.1,.str r.2.1,j6 r.2.2]
def AD(p:Pl):D:=.tup [.str p.name,.lst (p.givens.map .str),.lst (p.rows.map j1)]
def J5(p:Pl):D:=.ins "Plan" ["name","givens","rows"] [.str p.name,.lst (p.givens.map .str),.lst (p.rows.map j1)]
def JA(a:List Pl):D:=.ins "Book" ["plans"] [.lst (a.map J5)]
def gw(p:Str×3):D:=.tup [.str p.1,.int p.2]
structure ItOk(ahead:3)(its:Jz):4 where
 rng:∀p∈its,0<=p.1/\p.1<ahead
 far:∀p∈its,-1000000000000000000000000000000<p.2/\p.2<1000000000000000000000000000000
@[simp]def fL(r):jR (j1 r) (.int 0)=! .str r.1:=rfl
@[simp]def fK(r):jR (j1 r) (.int 1)=! .str r.2.1:=rfl
@[simp]def fJ(r):jR (j1 r) (.int 2)=! j6 r.2.2:=rfl
@[simp]def zxT(p):jR (AD p) (.int 0)=! .str p.name:=rfl
@[simp]def zxx(p):jR (AD p) (.int 1)=!(.lst<|p.givens.map .str):=rfl
@[simp]def oY(p):jR (AD p) (.int 2)=!(.lst<|p.rows.map j1):=rfl
@[simp]def fN(p):jR (gw p) (.int 0)=! .str p.1:=rfl
@[simp]def fM(p):jR (gw p) (.int 1)=! .int p.2:=rfl
@[simp]def zwH(a):jz "Book" "plans" (JA a)=!(.lst<|a.map J5):=rfl
@[simp]def fX(p):jz "Plan" "name" (J5 p)=! .str p.name:=rfl
@[simp]def zvS(p):jz "Plan" "givens" (J5 p)=!(.lst<|p.givens.map .str):=rfl
@[simp]def fW(p):jz "Plan" "rows" (J5 p)=!(.lst<|p.rows.map j1):=rfl
def WN(a:List Pl):List (Str×3):=a.map λp=>%[p.name|(⇑p:3)]
def bX(a:List (Str×3))(how:Str)(n:5):4:=how="all"\/how="first"\/%[how|(n:3)]∈a
def XH  (h:asc x):plN (n+1) (.str x)=6:=by
 show PyData.strOk x=6;unfold PyData.strOk;rw[<-Array.all_toList,Uy];exact λc a=>Zp<|Ul (kf.mp h c a) ()
def aQ{α:Type}{f:5->α} (h:((List.range n).map f).Nodup) (c:a<n)(g:b<n)(e:f a=f b):a=b:=by
 let h:=V2.mp<|UQ.mp h
 grind
def tV(l:Yh):Bool:=l[0]?==!120||l[0]?==!121||l[0]?==!113||l[2]?==!113
structure WB(ps:List Pl):4 where
 l1:1<=ps.length
 l2:ps.length<=20
 nd:(ps.map (·.name)).Nodup
 ok:∀p∈ps,TxtOk 12 p.name/\1<=p.name.length/\p.name ≠"all"/\p.name ≠"first"
 how:∀(i:5)(p:Pl),ps[i]?=!p->∀r∈p.rows,r.2.1="all"\/r.2.1="first"\/r.2.1∈(ps.take i).map (·.name)
 sz:∀p∈ps,p.rows.length<=40/\⇑p<=12
@[simp]def mQ(a)(f)(sd):Az a f sd=(f<|qM a sd).bare.bind λd=>if EN d then .ok d else .no:=rfl
@[simp]def mX(c)(a)(b)(e)(sd):Xj c a b e sd=(e sd).bind λf=>(b f).bind λg=>.ok<|.ins c a g:=rfl
@[simp]def Nr(i j k)(r)(sd):JS (.tup [i,j,k]) (j1 r) sd=.ok (((sd.set i<|~~~.str r.1).set j<|~~~.str r.2.1).set k<|~~~j6 r.2.2):=rfl
@[simp]def zvZ(x):Qr (.str x)=! .inr x:=rfl
def dT(t:List (Str×3)):D:=.dct (t.map λp=>.inr p.1)<|t.map λp=>.int p.2
def yB(t:List (Str×3))(x:Str):Option 3:=(t.find? λp=>decide<|p.1=x).map (·.2)
def lm :(Uq a:jI)=.inr b ↔a=b:=()
theorem C8:∀(t:List (Str×3))(x:Str),jS (t.map λp=>.inr p.1) (t.map λp=>.int p.2) (.inr x)=(yB t x).map .int
 |[],_=>9
 |p::t,x=>by
  rw[Zl,Zl];unfold jS yB;rw[List.find?_cons];by_cases h:p.1=x
  .ext
  .rw[Ze λz=>h<|lm.mp z,Zo h];exact C8 t x
@[simp]def dm(t)(x):jR (dT t) (.str x)=(yB t x).map .int:=C8 t x
@[simp]def dq(a)(t)(x):zO a (.str x) (dT t)=!(.bl<|if a then not<|(yB t x).isSome else(yB t x).isSome):=by
 show some (D.bl<|if a then not<|(jS (t.map λp=>.inr p.1) (t.map λp=>.int p.2)<|.inr x).isSome else(jS (t.map λp=>.inr p.1) (t.map λp=>.int p.2)<|.inr x).isSome)=_;rw[C8,Option.isSome_map]
def cM(t:List (Str×3))(x:Str):yR (.inr x) (t.map λp=>.inr p.1)=t.any λp=>decide<|p.1=x:=by
 grind[yR,List.any_map]
def Nt  (h:x∉t.map (·.1))(v:3):D.dct (KZ (t.map λp=>.inr p.1)<|.inr x) (Wo (t.map λp=>.inr p.1) (t.map λp=>.int p.2) (.inr x)<|.int v)=dT (t++[%[x|v]]):=by
 simp_all[KZ,Wo,dT,cM]
def nM  :yB t x=8↔x∉t.map (·.1):=by
 grind[yB,Option.map_eq_none_iff,List.find?_eq_none]
def dL  (h:x∉a.map (·.1)):yB (a++b) x=yB b x:=by
 unfold yB;rw[List.find?_append,Option.map_eq_none_iff.mp (nM.mpr h)];rfl
noncomputable def we(how:Str):Bool:=not<|decide (how="all")||decide (how="first")
def wV(t:List (Str×3))(p:Pl):3:=p.rows.length+((p.rows.filter λr=>we r.2.1).map λr=>(yB t r.2.1).getD 0).sum
def uE(t:List (Str×3))(p:Pl):List (Str×3):=t++[%[p.name|wV t p]]
def xJ(a:List Pl):List (Str×3):=a.foldl uE []
def Fi(a)(p):xJ (a++[p])=xJ a++[%[p.name|wV (xJ a) p]]:=by
 unfold xJ;rw[UR];rfl
theorem Nu:∀(l:List Pl)(t:List (Str×3)),∃u,l.foldl uE t=t++u
 |[],t=>([],())
 |p::l,t=>by
  let(u,e):=Nu l (uE t p)
  simp_all[uE]
theorem Nv:∀(l:List Pl)t,(l.foldl uE t).map (·.1)=t.map (·.1)++l.map (·.name)
 |[],t=>by simp
 |p::l,t=>by
  rw[U8,Nv l];unfold uE;simp
theorem AE(l:List Pl):(xJ l).map (·.1)=l.map (·.name):=by
 unfold xJ;rw[Nv];rfl
def WB.fresh (W:WB c)  (o:c[i]?=!p):p.name∉(xJ<|c.take i).map (·.1):=by
 rw[AE];intro z;let f:i<c.length:=();let(-y,l,e):=Ja.mp z;let(j,n,q):=UC l;rw[Uu]at n;let r:=V2.mp (UQ.mp W.nd) j i () f ()
 ext
def WB.at (W:WB c)  (f:c[i]?=!p):yB (xJ c) p.name=! wV (xJ<|c.take i) p:=by
 let e:xJ c=(c.drop<|i+1).foldl uE (xJ (c.take i)++[%[p.name|wV (xJ<|c.take i) p]]):=by
  rw[<-Fi];unfold xJ;rw[<-UR];let j:c.take (i+1)=c.take i++[p]:=by rw[UV,f];rfl
  rw[<-j,UK]
 let(u,l):=Nu (c.drop<|i+1) (xJ (c.take i)++[%[p.name|wV (xJ<|c.take i) p]]);rw[e,l,Ug,dL (W.fresh f)]
 simp_all[yB]
def WB.part (W:WB c)  (l:c[i]?=!p) (n:r∈p.rows):(yB (xJ<|c.take i) r.2.1).isSome=we r.2.1:=by
 let f:∀w:Str,(∀y∈c,y.name≠w)->yB (xJ<|c.take i) w=8:=λw o=>nM.mpr<|by
  grind[AE]
 rcases W.how i p l r n with z|z|z
 .rw[z,f "all" λy j=>(W.ok y j).2.2.1];rfl
 .rw[z,f "first" λy j=>(W.ok y j).2.2.2];rfl
 .let q:(yB (xJ<|c.take i) r.2.1).isSome=6:=by
   induction h:yB (xJ<|c.take i) r.2.1 with
   |some v=>rfl
   |none=>exact Zn (by rwa[AE])<|nM.mp h
  have(y,j,e):=Ja.mp z;let ok:=W.ok y ()
  simp_all[we]
def WB.hasc (W:WB c){i:5} (f:c[i]?=!p) (j:r∈p.rows):asc r.2.1:=by
 rcases W.how i p f r j with z|z|z
 .rw[z];exact(KF (n:=03)<|by decide+kernel).asc
 .rw[z];exact(KF (n:=05)<|by decide+kernel).asc
 .have(y,l,e):=Ja.mp z;rw[<-e];exact(W.ok y ()).1.asc
def e5{α:Type}(f:α->3)(l:List α):EN (.lst<|l.map λr=>D.int<|f r)=6:=by
 show(l.map λr=>D.int<|f r).all EM=6;rw[Uy];intro x a;let(-y,_,rfl):=Ja.mp a;rfl
def ap{α:Type}(f)(l:List α):zG [.lst (l.map λr=>D.int<|f r)]=! .int (l.map f).sum:=by
 rw[<-Tx,Zw];rfl
def dN (W:WB a)(i):(xJ<|a.take i).length<=20:=by
 let e:(xJ<|a.take i).length=((xJ<|a.take i).map (·.1)).length:=by simp
 rw[e,AE,Zql,Uu];let:=W.l2;lia
def m6(c:5):Bool:=decide (97<=c)&&decide (c<123)
def si(c:5):Bool:=decide (48<=c)&&decide (c<58)
noncomputable def kept:Yi:=["plan","given","all","first","part"]
def AF(x:Str):Bool:=decide (1<=x.length)&&(decide (x.length<=12)&&((kept.all λw=>not<|decide<|w=x)&&(m6 (x.cps.toList.headD 0)&&x.cps.toList.all λc=>m6 c||si c)))
def zp(x:Str):4:=TxtOk 12 x/\AF x=6
def vZ(x:Str):Bool:=decide (x.length<=12)&&x.cps.all (·<128)&&AF x
def YU (h:vZ x=6):zp x:=by
 unfold vZ at h;rw[Ud]at h;exact(KF h.1,h.2)
def zp.ne (h:zp x):1<=x.length/\x ≠"all"/\x ≠"first":=by
 let h:=h.2;unfold AF at h;rw[Ud,Ud,Ud,decide_eq_true_eq]at h;let k:=Uy.mp h.2.2.1;let c:=k "all" (by decide+kernel);let e:=k "first" (by decide+kernel);exact(h.1,λz=>by rw[z]at c;simp at c,λz=>by rw[z]at e;simp at e)
structure PL(ahead:List Pl)(p:Pl):4 where
 nm:zp p.name
 fresh:∀q∈ahead,q.name≠p.name
 tn:∀x∈p.givens++p.rows.map (·.1),zp x
 td:(p.givens++p.rows.map (·.1)).Nodup
 g1:1<=⇑p
 g2:⇑p<=12
 r1:1<=p.rows.length
 r2:p.rows.length<=40
 its:∀(k:5)(r:Str×Str×Jz),p.rows[k]?=!r->ItOk ((⇑p:3)+k) r.2.2/\1<=r.2.2.length/\r.2.2.length<=40
 how:∀r∈p.rows,bX (WN ahead) r.2.1 r.2.2.length
 wt:wV (xJ ahead) p<=2000
def LB(a:List Pl):4:=∀(i:5)(p:Pl),a[i]?=!p->PL (a.take i) p
def LB.snoc  (h:LB f)(l:PL f p):LB (f++[p]):=λk x c=>by
 by_cases z:k<f.length
 .rw[UN z]at c;rw[List.take_append_of_le_length ()];exact h k x c
 .rw[UF ()]at c;let i:k-f.length=0:=by
   induction e:k-f.length with
   |zero=>rfl
   |succ j=>rw[e]at c;simp at c
  rw[i]at c;cases c;let:k=f.length:=()
  rwa[this,List.take_left' 9]
def LB.mem (h:LB c) (e:p∈c):∃i,PL (c.take i) p:=by
 let(i,f):=List.getElem?_of_mem e;exact(i,h i p f)
def LB.wb (h:LB c)(l:1<=c.length)(n:c.length<=20):WB c:=by
 refine(l,n,?_,λp e=>?_,λi p f r o=>?_,λp e=>?_)
 .rw[List.nodup_iff_pairwise_ne,UQ,V2];intro i j f v q;exact(h j c[j] ()).fresh c[i]<|Ue (i:=i) ()
 .let(i,P):=h.mem e;exact(P.nm.1,P.nm.ne.1,P.nm.ne.2.1,P.nm.ne.2.2)
 .rcases(h i p f).how r o with z|z|z
  .exact .inl z
  .exact .inr<|.inl z
  .let(-y,s,u):=Ja.mp z;exact .inr<|.inr<|Ja.mpr (y,s,Zt Prod.fst u)
 .let(i,P):=h.mem e;exact(P.r2,P.g2)
theorem Fj{a:List Pl}:∀n,∀q∈xJ (a.take n),∃i p,a[i]?=!p/\q=%[p.name|wV (xJ<|a.take i) p]
 |0,q,h=>by cases h
 |n+1,q,h=>by
  induction b:a[n]? with
  |none=>
   let l:=Jw.mp b;rw[UH ()]at h;let e:=UH l;calc Fj n q ()
  |some p=>
   let c:a.take (n+1)=a.take n++[p]:=by rw[UV,b];rfl
   rw[c,Fi]at h;rcases Jc.mp h with z|z
   .exact Fj n q z
   .exact(n,p,b,Jd.mp z)
def LB.wts (h:LB c):∀q∈xJ c,q.2<=2000:=λq j=>by
 let(i p,f,e):=Fj c.length q (by rwa[Vl]);rw[e];exact(h i p f).wt
def bnd:5->3
 |0=>0
 |n+1=>06+06*bnd n
def LB.plain (h:LB f):plN 12 (.lst<|f.map AD)=6:=by
 show(f.map AD).all (plN 11)=6;rw[Uy];intro x l;let(-p,o,rfl):=Ja.mp l;let(i,P):=h.mem o;let hasc:∀r∈p.rows,asc r.1/\asc r.2.1:=λr e=>by
  calc((P.tn r.1<|Uo _<|Ja.mpr (r,e,9)).1.asc,?_);rcases P.how r e with z|z|z
  .rw[z];exact(KF (n:=03)<|by decide+kernel).asc
  .rw[z];exact(KF (n:=05)<|by decide+kernel).asc
  .let(-y,c,q):=Ja.mp z;let(j,Q):=h.mem (List.mem_of_mem_take c);rw[<-Zt Prod.fst q];exact Q.nm.1.asc
 let s:plN 10 (.lst<|p.givens.map .str)=6:=by
  show(p.givens.map D.str).all (plN 09)=6;rw[Uy];intro y c;let(-z,u,rfl):=Ja.mp c;exact XH (P.tn z<|Vn _ u).1.asc
 let v:plN 10 (.lst<|p.rows.map j1)=6:=by
  show(p.rows.map j1).all (plN 09)=6;rw[Uy];intro y c;let(-r,e,rfl):=Ja.mp c;let(B,E):=hasc r e;show[D.str r.1,D.str r.2.1,j6 r.2.2].all (plN 08)=6;rw[Uv,Uv,Uv,XH B,XH E,Nf 05];rfl
 show[D.str p.name,D.lst (p.givens.map .str),D.lst (p.rows.map j1)].all (plN 10)=6;rw[Uv,Uv,Uv,XH P.nm.1.asc,s,v];rfl
theorem Nw{α:Type}:∀{l m:List α},l.Nodup->(∀x∈l,x∈m)->l.length<=m.length
 |[],m,_,_=>Uc _
 |x::l,m,h,s=>by
  let(a b,rfl):=List.append_of_mem (s x Zqs);have(e,c):=Jl.mp h;let f:=Nw (m:=a++b) c λy g=>by
   grind
  grind
def yc(t g:J0):J0:=Qg<|t++g
structure Fm(n:3)(U:J0)(f:J0):4 where
 good:Good n f
 sub:∀r∈f,r∈U
def Fm.len  (F:Fm n U f)(h:U.length<=28):f.length<=28:=Zh (Nw (F.good.srt.imp λ{a b}h e=>by
 let:=yI.asy _ _ h
 ext) F.sub) h
def md:J0->List J0->List J0
 |t,[]=>[t]
 |t,g::a=>t::md (yc t g) a
@[simp]def sF(a)(sd)(b):x6 a sd b=(a sd).bind λd=>.ok %[d|b]:=rfl
@[simp]def pI(g)(a b)(sd)(c):xj g a b sd c=(a sd c).bind λp=>(b sd p.2).bind λq=>(Res.ofO<|g p.1 q.1).bind λz=>.ok %[z|q.2]:=rfl
@[simp]def zwd(a)(b)(sd)(c):Qp a b sd c=(b sd).bind λe=>a e c:=rfl
@[simp]def bj(sd)(a):Xm sd a=.ok %[[]|a]:=rfl
@[simp]def aT(f)(g)(sd)(a):Km f g sd a=(f sd a).bind λp=>(g sd p.2).bind λq=>.ok %[p.1::q.1|q.2]:=rfl
@[simp]def bi(a)(sd)(b):A7 a sd b=(a sd b).bind λp=>if p.1.length<=1000 then .ok %[.tup p.1|p.2]else .no:=rfl
@[simp]def oZ(i)(f)(sd)(a):YR i f sd a=(f sd a).bind λp=>.ok<|.next (sd.set i<|~~~p.1) p.2:=rfl
@[simp]def nh(i)(g)(sd)(a):zU i g sd a=g (qM [i] sd) a:=rfl
@[simp]def mP(b)(f)(sd)(a):vJ b f sd a=(f<|derI a b sd).strict.bind λd=>if Ky d then .ok %[d|a]else .no:=rfl
def eK(g:qU):Out2->Res (D×HP)
 |.next sd a=>g sd a
 |_=>.no
@[simp]def n9(g)(sd)(a):eK g (.next sd a)=g sd a:=rfl
@[simp]def AG(a:xi)(g:qU)(sd:SD)(b:HP):qY a g sd b=(a sd b).bind (eK g):=by
 rfl
@[simp]def WO(a)(ga g)(sd)(b):b7 a ga g sd b=(a sd b).bind λp=>if p.1 then ga sd p.2 else g sd p.2:=rfl
def tK(p:D×HP):Res (Bool×HP):=match p.1 with
 |.bl b=>.ok %[b|p.2]
 |_=>.no
@[simp]def tP(b)(a):tK %[.bl b|a]=.ok %[b|a]:=rfl
@[simp]def zxa(f)(sd)(a):ET f sd a=(f sd a).bind tK:=rfl
def j0(p:3):D:=.lst [.int p]
def YV(a)(d):js [%[a|d]] a=!d:=Zd 9
def pz(a)(d e):WJ [%[a|d]] a e=[%[a|e]]:=Zd 9
def Nx(a)(d)(R:HP):js (%[a|d]::R) a=!d:=Zd 9
def ay(a)(d e)(R:HP):WJ (%[a|d]::R) a e=%[a|e]::R:=Zd 9
def Ny    {R:HP}(b:fo sd=.ok (.adr a))(c:fi sd=.ok (.int 0)):wm fo fi sd (%[a|j0 p]::R)=.ok %[.int p|%[a|j0 p]::R]:=by
 unfold wm;rw[b,jh];show(match js (%[a|j0 p]::R) a with
  |some (.lst e)=>(fi sd).bind λk=>(Res.ofO<|jR (.lst e) k).bind λz=>.ok %[z|%[a|j0 p]::R]
  |_=>.no)=_
 rw[Nx,c];rfl
def AH    (h:sd[i]?=! ! .own 7 d)(b:∀a,f (sd.set i<|~~~.adr a) [%[a|d]]=.ok %[v|[%[a|d1]]]):yf i f sd=.ok %[v|sd.set i ! .own 7 d1]:=by
 unfold yf;rw[h];refine pe λa=>?_
 simp_all[YV]
def AI{n ar:5}    (h:b.length=ar)(e:g (JX n b) [%[a|d]]=.ok %[v|[%[a|c]]]):Qy n ar g b [%[a|d]]=.ok %[v|[%[a|c]]]:=by
 simp_all[Qy]
def aS{n ar:5}    {R:HP}(h:b.length=ar)(e:g (JX n b) (%[a|d]::R)=.ok %[v|%[a|c]::R]):Qy n ar g b (%[a|d]::R)=.ok %[v|%[a|c]::R]:=by
 simp_all[Qy]
def pc{j:3}(h:0<=j)(a:j<10000000000000000000000000000000000000000):j.natAbs<yE:=Zg (show j.natAbs<10000000000000000000000000000000000000000 from())<|VG 9
def zZ   (h:a sd=.ok (.next sd'))(c:b sd'=r):jq a b sd=r:=()
def wX     (h:a sd c=.ok (.next sd' hp'))(e:b sd' hp'=r):qY a b sd c=r:=()
def Ku   (h:g sd=.ok (.next sd')):yM g sd a=.ok (.next sd' a):=()
def AJ    (h:f sd=.ok %[v|a]):XF i f sd=.ok (.next<|a.set i<|~~~v):=()
def Fk     (e:sd[i]?=! !(.own 7<|.lst c))(h:f sd=.ok %[v|a])(g:a[i]?=! !(.own 7<|.lst b))(j:b.length<sizeLine):XG i f sd=.ok (.next<|a.set i<|!(.own 7<|.lst<|b++[v])):=by
 simp_all[XG]
def YW    (f:∀a,e [.adr a,.int m] [%[a|j0 p]]=.ok %[.int (p%m)|[%[a|j0 (p/m)]]])(h:sd[i]?=! !(.own 7<|j0 p))(b:FE)(j:∀a,b (sd.set i<|~~~.adr a)=.ok (.int m))(g:D->D->YD)(c:FE) (l:∀a,c (sd.set i<|~~~.adr a)=.ok d)(n:g d (.int<|p%m)=!z):
 yf i (xj g (x6 c)<|Qp e<|J1 (jb i)<|J1 b jc) sd=.ok %[z|sd.set i !(.own 7<|j0<|p/m)]:=by
 calc AH h λa=>?_;let o:(sd.set i<|~~~.adr a)[i]?=!~~~.adr a:=by
  grind
 ext
def Kc (a:asc x)(b:asc y):xa (.str x) (.str y)=!(.bl<|decide<|x=y):=by
 rw[BK (XH a) (XH b)]
 simp_all[sameD]
def WP:asc "all":=by unfold asc;decide+kernel
def WQ:asc "first":=by unfold asc;decide+kernel
def Fl:xa (.str "all") (.str "all")=! .bl 6:=by rw[Kc WP WP];congr 2
def Fn:xa (.str "first") (.str "all")=! .bl 7:=by rw[Kc WQ WP];congr 2
def Fo:xa (.str "first") (.str "first")=! .bl 6:=by rw[Kc WQ WQ];congr 2
def x8(a:Yf)(b:Jz):Yf:=b.map λp=>jY a p.1+p.2
def kF(a:Yf)(r:Str×Str×Jz):3:=if r.2.1="all"then xu (x8 a r.2.2)else yh (x8 a r.2.2)
def wZ(a:List (Str×Str×Jz))(b:Yf):Yf:=a.foldl (λf r=>f++[kF f r]) b
structure RowsOk(n:5)(rows:List (Str×Str×Jz)):4 where
 len:rows.length<=60
 pos:1<=rows.length
 how:∀r∈rows,r.2.1="all"\/r.2.1="first"
 ne:∀r∈rows,r.2.2 ≠[]
 sh:∀r∈rows,r.2.2.length<=60
 rng:∀(k:5)r,rows[k]?=!r->∀p∈r.2.2,0<=p.1/\p.1<(n:3)+k
theorem BZ:∀a b,(wZ a b).length=b.length+a.length
 |[],b=>9
 |r::a,b=>by
  show(wZ a<|b++[kF b r]).length=_;rw[BZ a,Ua,Uf,Zu];lia
def dW  (h:a ≠[]):x8 found a ≠[]:=λz=>h<|Jh.mp z
def p6(a)(b):(x8 a b).length=b.length:=by unfold x8;simp
def pr  (h:∀p∈b,0<=p.1/\p.1<(a.length:3)):qg (.tup [0,1]) (jk jC (jk jR (jb 2)<|jb 0)<|jb 1) [8,8,~~~(.lst<|a.map .int)] (b.map qb)=.ok ((x8 a b).map .int):=by
 unfold x8;rw[Zw];exact Kz λp c=>by
  let:=lM (h p c).1 (h p c).2;simp[this]
def RowsOk.at  (ok:RowsOk n c) (o:f.length=n)  (h:c[i]?=!r):(∀p∈r.2.2,0<=p.1/\p.1<((wZ (c.take i) f).length:3))/\(wZ (c.take i) f).length=n+i/\i<c.length/\r∈c:=by
 let j:=(Jb.mp h).1;let e:(wZ (c.take i) f).length=n+i:=by rw[BZ,Uu];lia
 calc(λp l=>?_,e,j,Ue h);let:=ok.rng i r h p l;lia
def YX{α:Type}{f:α->D}(a:List α)(x:α):jR (.lst<|(a++[x]).map f) (.int<|-1)=! f x:=by
 show xh ((a++[x]).map f) (-1)=_;unfold xh ze;rw[Ze (),Zd (by rw[Zql,Ua,Uf];lia)];let e:((-1:3)+(((a++[x]).map f).length:3)).toNat=a.length:=by
  rw[Zql,Ua,Uf];lia
 ext
def Xp{α:Type}{l:List α}(h:l ≠[]):∃a x,l=a++[x]:=(l.dropLast,l.getLast h,(List.dropLast_concat_getLast h).symm)
def rE(k:5)(x:Jz):Str×Str×Jz:=%["r"++jD k,"all"|x]
def rF(many n:5):Str×Str×Jz:=%["end","first"|(List.range n).map λk:5=>%[(many:3)+k|0]]
def pln(a:Str)(many:5)(f:J0):Pl:=(a,(List.range many).map λk=>"g"++jD k,((List.range f.length).map λk:5=>rE k<|f.getD k [])++[rF many f.length])
def wa    (h:a sd c=.ok (.next sd' hp'))(e:b sd' hp'=r):Kl a b sd c=r:=()
def Nz     (h:c sd a=.ok 6)(e:b sd a=r):wq c b f sd a=r:=by
 rwa[MG,h]
def N0     (h:c sd a=.ok 7)(e:b sd a=r):wq c f b sd a=r:=by
 rwa[MG,h]
def az     (h:sd[i]?=! ! .own 7 d)(j:∀a,a≠b->f (sd.set i<|~~~.adr a) [%[a|d],%[b|c]]=.ok %[v|[%[a|d1],%[b|c]]]):A9 i f sd [%[b|c]]=.ok %[v,sd.set i ! .own 7 d1|[%[b|c]]]:=by
 unfold A9;rw[h];let e:∀a,js [%[b|c]] a=8↔a≠b:=λa=>by
  simp_all[QU,Cq]
 calc pA (b+1,()) λa g=>?_;rw[j a ((e a).mp g),jh];exact Zd (9,g)
def l9     (h:f sd c=.ok %[v,a|b]):Cy i f sd c=.ok (.next (a.set i<|~~~v) b):=by
 simp_all[Cy]
def aN      (h:f sd=.ok %[.int n|a])(g:n<=1000):Cz f c b sd e=qC (Ks c b) (JZ 0 n) a e:=by
 unfold Cz;rw[h,jh];exact Zd<|IG () ()
@[simp]def bo(a b)(sd)(c):EZ a b sd c=(a sd c).bind λp=>(b sd p.2).bind<|fm p.1:=rfl
@[simp]def zvQ(a)(b)(sd)(c):Fa a b sd c=(b sd c).bind λp=>a p.1 p.2:=rfl
def c9    (h:a≠b)(e:xh c k=!z):fm (.adr a) %[.int k|[%[b|d],%[a|.lst c]]]=.ok %[z|[%[b|d],%[a|.lst c]]]:=by
 simp_all[fm,QU]
def vR:Pl:=("",[],[])
abbrev Rw:=Str×Str×Jz
structure RwP(ps:List Pl)(n:3)(r:Rw):4 where
 nm:asc r.1
 how:r.2.1="all"\/r.2.1="first"\/∃q∈ps,r.2.1=q.name/\r.2.2.length=⇑q
 ne:r.2.2 ≠[]
 sh:r.2.2.length<=10
 rng:∀p∈r.2.2,0<=p.1/\p.1<n
 wt:∀p∈r.2.2,-1000000000000000000000000000000<=p.2/\p.2<=1000000000000000000000000000000
structure PlP(ps:List Pl)(p:Pl):4 where
 g1:1<=⇑p
 g2:⇑p<=04
 r1:1<=p.rows.length
 r2:p.rows.length<=12
 row:∀(k:5)r,p.rows[k]?=!r->RwP ps ((⇑p:3)+k) r
structure BkP(ps:List Pl):4 where
 len:ps.length<=04
 nm:∀(i:5)p,ps[i]?=!p->asc p.name/\p.name ≠"all"/\p.name ≠"first"
 inj:∀(i j:5)p q,ps[i]?=!p->ps[j]?=!q->p.name=q.name->i=j
 ok:∀(i:5)p,ps[i]?=!p->PlP (ps.take i) p
def BkP.at (B:BkP c) {p:Pl}(h:c[i]?=!p):i<c.length/\i<04/\asc p.name/\p.name ≠"all"/\p.name ≠"first":=have e:=(Jb.mp h).1;have l:=B.len;(e,(),B.nm i p h)
theorem BkP.find (B:BkP l){i:5} (h:l[i]?=!p):l.find? λq=>decide<|q.name=p.name=!p:=by
 calc Nj (λq n=>?_) h<|Zp 9;let(j,c):=Ji.mp n;let f:=(Jb.mp c).1;rw[Uu]at f;rw[VZ ()]at c;calc Zo λe=>?_;let:=B.inj j i q p c h e;lia
def qy(rc:Str->List 3->3)(a:Yf)(r:Rw):3:=if r.2.1="all"then xu (x8 a r.2.2)else if r.2.1="first"then yh (x8 a r.2.2)else rc r.2.1 (x8 a r.2.2)
def jP(rc:Str->List 3->3)(a:List Rw)(b:Yf):Yf:=a.foldl (λf r=>f++[qy rc f r]) b
def xl(a:List Pl):5->Pl->List 3->List 3
 |0,_,_=>[]
 |n+1,p,b=>jP (λx c=>(xl a n ((a.find? λq=>decide<|q.name=x).getD vR) c).getLastD 0) p.rows b
def Fp {a:List Rw}   (h:a[i]?=!r):jP rc (a.take<|i+1) hs=jP rc (a.take i) hs++[qy rc (jP rc (a.take i) hs) r]:=by
 simp_all[jP,UV]
theorem Fq(rc):∀a b,(jP rc a b).length=b.length+a.length
 |[],b=>9
 |r::a,b=>by
  show(jP rc a<|b++[qy rc b r]).length=_;rw[Fq rc a,Ua,Uf,Zu];lia
def aq    :(xl ps (n+1) p hs).length=hs.length+p.rows.length:=Fq _ _ _
def aU    (P:PlP b p):∃a,xl ps (n+1) p hs=a++[(xl ps (n+1) p hs).getLastD 0]:=by
 let ne:xl ps (n+1) p hs ≠[]:=λz=>by
  let c:=aq (ps:=ps) (n:=n) (p:=p) (hs:=hs);let f:=P.r1
  grind
 let(a x,e):=Xp ne
 ext
def PlP.at  (P:PlP l p)  (n:c.length=⇑p){i:5}{r:Rw}(h:p.rows[i]?=!r):(∀y∈r.2.2,0<=y.1/\y.1<((jP rc (p.rows.take i) c).length:3))/\(jP rc (p.rows.take i) c).length=⇑p+i/\i<p.rows.length:=by
 let f:=(Jb.mp h).1;let e:(jP rc (p.rows.take i) c).length=⇑p+i:=by rw[Fq,Uu];lia
 calc(λy j=>?_,e,f);let:=(P.row i r h).rng y j;lia
def BkP.snoc  (B:BkP c)(l:c.length<04)(P:PlP c p)(o:asc p.name/\p.name ≠"all"/\p.name ≠"first")(n:∀q∈c,q.name≠p.name):BkP (c++[p]):=by
 let f:∀(i:5)q,(c++[p])[i]?=!q->i<c.length/\c[i]?=!q\/i=c.length/\q=p:=λi q h=>by
  rcases U4 i c.length with z|z
  .rw[UN z]at h;exact .inl (z,h)
  .rw[UF z]at h;rcases Vv (i-c.length)with y|y
   .rw[y]at h;cases h;exact .inr ((),9)
   .rw[Vi (by rw[Uf];lia)]at h;cases h
 refine((),λi q h=>?_,λi j q r h s e=>?_,λi q h=>?_)
 .rcases f i q h with ⟨_,z⟩|⟨rfl,rfl⟩
  .exact B.nm i q z
  .exact o
 .rcases f i q h with ⟨_,z⟩|⟨rfl,rfl⟩<;>rcases f j r s with ⟨_,y⟩|⟨rfl,rfl⟩
  .exact B.inj i j q r z y e
  .exact Zn e<|n q<|Ue z
  .exact Zn e.symm<|n r<|Ue y
  .rfl
 .rcases f i q h with ⟨y,z⟩|⟨rfl,rfl⟩
  .rw[List.take_append_of_le_length ()];exact B.ok i q z
  ext
def BkP.giv (B:BkP e):∀q∈e,1<=⇑q/\⇑q<=04:=λq f=>by
 let(i,c):=Ji.mp f;exact((B.ok i q c).g1,(B.ok i q c).g2)
def BkP.ascs (B:BkP c):∀q∈c,asc q.name:=λq e=>qS (Ji.mp e) λi f=>(B.at f).2.2.1
def qJ(a:List Pl)(n:5)(x:Str)(b:Yf):3:=(xl a n ((a.find? λq=>decide<|q.name=x).getD vR) b).getLastD 0
def Fs(a)(n)(p)(b):xl a (n+1) p b=jP (qJ a n) p.rows b:=rfl
theorem BkP.how (B:BkP f){i:5} (l:f[i]?=!p){k:5}{r:Rw}(n:p.rows[k]?=!r):r.2.1="all"\/r.2.1="first"\/asc r.2.1/\r.2.1 ≠"all"/\r.2.1 ≠"first"/\∃j q,j<i/\f[j]?=!q/\r.2.1=q.name/\r.2.2.length=⇑q:=by
 rcases((B.ok i p l).row k r n).how with z|z|⟨q,z1,z2,z3⟩
 .exact .inl z
 .exact .inr<|.inl z
 .let(j,c):=Ji.mp z1;let e:=(Jb.mp c).1;rw[Uu]at e;rw[VZ ()]at c;let(!_,_,o,s,u):=B.at c;exact .inr<|.inr (by rwa[z2],by rwa[z2],by rwa[z2],j,q,(),c,z2,z3)
def BkP.part (B:BkP c){j n:5} (i:c[j]?=!q)(l:Yf):∃f,xl c (n+1) q l=f++[qJ c (n+1) q.name l]:=by
 let(f,e):=aU (B.ok j q i);calc(f,?_);unfold qJ
 rwa[B.find i]
def XI:YC->Res YC:=yN 2 2<|J1 (jt QR<|J1 (jb 1) jc) jc
def XJ:YC->Res YC:=yN 04 04<|J1 (jb 1)<|J1 (jt QR<|J1 (jb 2) jc)<|J1 (jt QR<|J1 (jb 03) jc) jc
def AK:FS:=jq (qE (J8<|jk kj (jb 1)<|jt jQ<|J1 (jb 0) jc) (jJ<|jk jR (jb 0)<|jb 1) JN)<|jJ<|dC<|.int 0
def Wy:YC->Res D:=jT 2 2 AK
def C9(a:Yf)(k:5):Wy [.scr a,.int k]=.ok (.int<|Kt a k):=by
 unfold Kt;by_cases h:k<a.length
 .let e:xh a (k:3)=!a[k]:=by rw[Xn h];simp
  simp_all[Wy,AK]
 .simp[Wy,AK,h]
def CA:qU:=qY (YR 2<|xj xU (wm (jb 0)<|dC<|.int 0)<|x6<|jb 1)<|qY (Ct (jb 0) (dC<|.int 0)<|xj Cw (wm (jb 0)<|dC<|.int 0)<|x6<|jb 1)<|x6<|jb 2
def KG:YC->HP->Res (D×HP):=Qy 03 2 CA
def N1 (a:Addr)(R:HP)(h:0<m)(b:m<10000000000000000000000000000000000000000):KG [.adr a,.int m] (%[a|j0 p]::R)=.ok %[.int (p%m)|%[a|j0 (p/m)]::R]:=by
 calc aS 9 ?_;let c:=Ny (fo:=jb 0) (fi:=dC<|.int 0) (sd:=[~~~.adr a,~~~.int m,8]) (p:=p) (R:=R) 9 9;let e:Ct (jb 0) (dC<|.int 0) (xj Cw (wm (jb 0)<|dC<|.int 0)<|x6<|jb 1) [~~~.adr a,~~~.int m,~~~(.int<|p%m)] (%[a|j0 p]::R)=.ok (.next [~~~.adr a,~~~.int m,~~~(.int<|p%m)]<|%[a|j0 (p/m)]::R):=by
  unfold Ct;rw[pI,Ny 9 9];simp;rw[e7 h<|pc () b];show(match js (%[a|j0 p]::R) a with
   |some (.lst f)=>_
   |_=>Res.no)=_
  rw[Nx];show Res.ok (Out2.next _<|WJ (%[a|j0 p]::R) a<|j0<|p/m)=_;rw[ay]
 simp_all[CA,JX]
def Wz (a)(h:0<m)(b:m<10000000000000000000000000000000000000000):KG [.adr a,.int m] [%[a|j0 p]]=.ok %[.int (p%m)|[%[a|j0 (p/m)]]]:=N1 a [] h b
def AL:qU:=b7 (ET<|xj uO (Qp KG<|J1 (jb 0)<|J1 (dC<|.int 04) jc)<|x6<|dC<|.int 0) (xj yC (Qp KG<|J1 (jb 0)<|J1 (dC<|.int 09) jc)<|x6<|dC<|.int 04)<|xj yC (Qp KG<|J1 (jb 0)<|J1 (jk jC (jk yD (dC<|.int 2)<|jk qX (dC<|.int 10)<|dC<|.int 09)<|dC<|.int 1) jc)<|x6<|jk qX (dC<|.int 10)<|dC<|.int 09
def CB:YC->HP->Res (D×HP):=Qy 1 1 AL
noncomputable def KO(p:3):3:=if 0<p%04 then p/04%09-04 else p/04%2000000001-1000000000
def Ft(p:3):3:=if 0<p%04 then p/04/09 else p/04/2000000001
def hW (a):CB [.adr a] [%[a|j0 p]]=.ok %[.int (KO p)|[%[a|j0 (Ft p)]]]:=by
 calc AI 9 ?_;let b:=Wz (p:=p) (m:=04) a () ();let f:=Wz (p:=p/04) (m:=09) a () ();let c:qX (.int 10) (.int 09)=! .int 1000000000:=9;let e:yD (.int 2) (.int 1000000000)=! .int 2000000000:=9;unfold KO Ft;by_cases h:0<p%04
 .simp_all[AL,JX]
 .simp[AL,JX,b,Wz (m:=2000000001) a () (),c,e,h]
def CC:qU:=qY (yM<|qp 03<|qD jc)<|qY (YQ (vC<|J1 (jb 2) jc) (.one 04)<|Kl (YR 05<|Qp KG<|J1 (jb 0)<|J1 (jb 1) jc)<|KM 03<|A7<|Km (x6<|jb 05)<|Km (Qp CB<|J1 (jb 0) jc) Xm)<|zU 03<|x6<|jt Wp<|J1 (jb 03) jc
def CF:YC->HP->Res (D×HP):=Qy 06 03 CC
def x9(m p:3):5->3
 |0=>p
 |n+1=>Ft (x9 m p n/m)
def Fu(m p:3)(k:5):3×3:=%[x9 m p k%m|KO (x9 m p k/m)]
def qB(m p:3)(n:5):Jz:=(List.range n).map<|Fu m p
def aJ(m p:3)(n:5):qB m p (n+1)=qB m p n++[Fu m p n]:=by
 unfold qB;rw[List.range_succ,Ub];rfl
theorem YY(m p:3)(n:5):(qB m p n).length=n:=by unfold qB;simp
def N2 {c:5}(a:Addr)(h:0<m)(q:m<1000)(r:c<=10):CF [.adr a,.int m,.int c] [%[a|j0 p]]=.ok %[j6 (qB m p c)|[%[a|j0 (x9 m p c)]]]:=by
 calc AI 9 ?_;let f:Uk [.int c]=.ok (JZ 0 c):=by rw[WH () ()];rfl
 let(g j,e,(u,v,l,n)):=ER (b:=Ks (.one 04)<|Kl (YR 05<|Qp KG<|J1 (jb 0)<|J1 (jb 1) jc)<|KM 03<|A7<|Km (x6<|jb 05)<|Km (Qp CB<|J1 (jb 0) jc) Xm) (ds:=JZ 0 c) (sd:=[~~~.adr a,~~~.int m,~~~.int c,!(.own 7<|.lst []),8,8]) (hp:=[%[a|j0 p]])
  (P:=λi sd hp=>∃u v,sd=[~~~.adr a,~~~.int m,~~~.int c,!(.own 7<|.lst<|(qB m p i).map qb),u,v]/\hp=[%[a|j0 (x9 m p i)]]) (qA 8 8 (9,9)) (by
   rintro i x sd hp o ⟨u,v,rfl,rfl⟩;let(rfl,s):=BT o;let t:=Wz (p:=x9 m p i) a h ();let w:=hW (p:=x9 m p i/m) a;let y:=JQ<|show(qB m p i).length<=1000 by rw[YY];lia
   simp_all[aJ,KM,x9,Fu,qb])
 subst l n;rw[WI]at e;simp[CC,JX,f,e];rfl
def CG:qU:=qY (yM<|qp 05<|qD<|J1 (jk xU (JB Wy<|J1 (jb 0)<|J1 (jb 1) jc)<|jk qX (dC<|.int 10)<|dC<|.int 09) jc)<|qY (yM<|XF 06<|yf 05<|xj jC (x6<|dC<|.int 1)<|Qp KG<|J1 (jb 05)<|J1 (dC<|.int 04) jc)<|qY (yM<|qp 07<|qD jc)<|qY (YR 08<|vJ [03]<|jk uP (jb 03)<|qD jc)<|qY (Cz (yf 05<|xj jC (x6<|dC<|.int 1)<|Qp KG<|J1 (jb 05)<|J1 (jb 04) jc) (.one 09)<|Kl (yM<|qp 10<|qD<|J1 (jk jC (jk yD (jk xU (JB Wy<|J1 (jb 0)<|J1 (jk jC (jk jC (jb 1)<|dC<|.int 1)<|jb 09) jc)<|jk qX (dC<|.int 10)<|dC<|.int 64)<|jk qX (dC<|.int 10)<|dC<|.int 20)<|jk xU (JB Wy<|J1 (jb 0)<|J1 (jb 1) jc)<|jk qX (dC<|.int 10)<|dC<|.int 20) jc)<|Kl (yM<|XF 11<|yf 10<|xj wx (x6<|qD<|J1 (dC<|.str "all")<|J1 (dC<|.str "first")<|J1 (dC<|.str "all")<|J1 (dC<|.str "first")<|J1 (dC<|.str "part") jc)<|Qp KG<|J1 (jb 10)<|J1 (dC<|.int 05) jc)<|Kl (yM<|XF 12<|yf 10<|xj jC (x6<|dC<|.int 1)<|Qp KG<|J1 (jb 10)<|J1 (dC<|.int 04) jc)<|Kl (yM<|qE (KU (J8<|jk xa (jb 11)<|dC<|.str "part")<|J8<|jb 08) (jG 11<|dC<|.str "all") JN)<|Kl (wq (ro<|J8<|jk xa (jb 11)<|dC<|.str "part") (Kl (yM<|jG 08<|dC<|.bl 6)<|Kl (Cy 13<|A9 10<|EZ (x6<|jb 03)<|Fa KG<|Km (x6<|jb 10)<|Km (vJ [03]<|jt jQ<|J1 (jb 03) jc) Xm)<|Kl (yM<|jG 11<|jU (jz "Plan" "name")<|jb 13)<|yM<|jG 12<|jt jQ<|J1 (jU (jz "Plan" "givens")<|jb 13) jc) EQ)<|yM<|XG 07<|yf 10<|A7<|Km (x6<|jk jC (dC<|.str "m")<|jt yS<|J1 (jb 09) jc)<|Km (x6<|jb 11)<|Km (Qp CF<|J1 (jb 10)<|J1 (jk jC (jb 06)<|jb 09)<|J1 (jb 12) jc) Xm)<|zU 07<|x6<|Xj "Plan" ["name","givens","rows"] XJ<|J1 (jb 2)<|J1 (Qw [8] (vC<|J1 (jb 06) jc) (.one 0)<|jk jC (dC<|.str "g")<|jt yS<|J1 (jb 0) jc)<|J1 (jb 07) jc
def CH:YC->HP->Res (D×HP):=Qy 14 05 CG
def qi(a:Yf)(s:5):5:=(1+Kt a s%1000000000%04).toNat
def zQ(a:Yf)(s:5)(m:3):5:=(1+Kt a s%1000000000/04%m).toNat
def y7(a:Yf)(s k:5):3:=Kt a (s+1+k)%10000000000000000000000000000000000000000000000000000000000000000*100000000000000000000+Kt a s%100000000000000000000
def xE(c:3):Str:=if c%05=1\/c%05=03 then"first"else"all"
def v5(a:List Pl)(c:3):Pl:=a.getD (c%(a.length:3)).toNat vR
abbrev zR(ps:List Pl)(c:3)(used:Bool):4:=c%05=04/\used=7
def xG(a:Yf)(s:5)(b:List Pl):5->List Rw×Bool
 |0=>%[[]|b.isEmpty]
 |k+1=>if zR b (y7 a s k) (xG a s b k).2 then%[(xG a s b k).1++[%["m"++jD k,(v5 b<|y7 a s k/05/04).name|qB ((qi a s:3)+k) (y7 a s k/05/04/b.length) (v5 b<|y7 a s k/05/04).givens.length]]|6]
  else%[(xG a s b k).1++[%["m"++jD k,xE (y7 a s k)|qB ((qi a s:3)+k) (y7 a s k/05/04) (1+y7 a s k/05%04).toNat]]|(xG a s b k).2]
def N3(a)(s)(b)(k):xG a s b (k+1)=if zR b (y7 a s k) (xG a s b k).2 then%[(xG a s b k).1++[%["m"++jD k,(v5 b<|y7 a s k/05/04).name|qB ((qi a s:3)+k) (y7 a s k/05/04/b.length) (v5 b<|y7 a s k/05/04).givens.length]]|6]
 else%[(xG a s b k).1++[%["m"++jD k,xE (y7 a s k)|qB ((qi a s:3)+k) (y7 a s k/05/04) (1+y7 a s k/05%04).toNat]]|(xG a s b k).2]:=rfl
def wc(a:Yf)(s:5)(b:Str)(c:List Pl)(m:3):Pl:=(b,(List.range<|qi a s).map λk=>"g"++jD k,(xG a s c<|zQ a s m).1)
def Fv(a)(s):1<=qi a s/\qi a s<=04:=by unfold qi;lia
def Fw(c)(s) (e:1<=m)(f:m<=08):1<=zQ c s m/\zQ c s m<=08/\(zQ c s m:3)<=m:=by
 unfold zQ;let a:=Int.emod_nonneg (Kt c s%1000000000/04)<|show m≠0 from();let b:=VY (Kt c s%1000000000/04)<|show 0<m from();lia
def N4 (h:f ≠[])(c:3):v5 f c∈f/\xh (f.map J5) (c%(f.length:3))=!(J5<|v5 f c):=by
 let i:0<f.length:=Jm.mpr h;let a:=Int.emod_nonneg c (show(f.length:3)≠0 by lia);let b:=VY c<|show 0<(f.length:3)from();unfold v5;let(j,hj):∃j:5,c%(f.length:3)=(j:3):=((c%(f.length:3)).toNat,());rw[hj]at a b ⊢;let g:j<f.length:=()
 let e:=Xn (l:=f.map J5) (k:=j) (by rw[Zql];calc g);rw[e,Vb,Zv,Uh,Zqg g];exact(UB g,9)
theorem YZ(a)(s)(b):∀k,(xG a s b k).1.length=k
 |0=>9
 |k+1=>by
  unfold xG
  split
  .rw[Ua,YZ a s b k];rfl
  .rw[Ua,YZ a s b k];rfl
theorem Fx   :∀{k:5},(xG ns s ps k).2=7->ps ≠[]
 |0,h,z=>by rw[z]at h;cases h
 |k+1,h,z=>by
  unfold xG at h
  split at h
  .cases h
  .exact Fx h z
theorem Fy   (l:∀q∈g,1<=⇑q/\⇑q<=04):∀(k:5),k<=60->∀(i:5)r,(xG e s g k).1[i]?=!r->RwP g ((qi e s:3)+i) r
 |0,_,i,r,h=>by cases h
 |k+1,hk,i,r,h=>by
  let A:=Fv e s;let t:TxtOk 1 "m":=KF (by decide+kernel);let m:=(t.app (AC (k:=k) ()).2).asc;let b:∀(p:3)(n:5),∀x∈qB ((qi e s:3)+k) p n,-1000000000000000000000000000000<=x.2/\x.2<=1000000000000000000000000000000:=λp n x f=>by
   let(-i,_,rfl):=Ja.mp f;show _<=KO _/\KO _<=_
   grind[KO]
  let a:∀(p:3)(n:5),∀x∈qB ((qi e s:3)+k) p n,0<=x.1/\x.1<(qi e s:3)+k:=λp n x f=>by
   let(-j,_,rfl):=Ja.mp f;exact(Int.emod_nonneg _ (),VY _ ())
  let c:∀(p:3)(n:5),1<=n->qB ((qi e s:3)+k) p n ≠[]:=λp n B z=>by
   grind[YY]
  let last:∀(x:Rw),((xG e s g k).1++[x])[i]?=!r->i<k/\(xG e s g k).1[i]?=!r\/i=k/\r=x:=λx f=>by
   let C:=YZ e s g k;rcases U4 i k with z|z
   .rw[UN ()]at f;exact .inl (z,f)
   .rw[UF ()]at f;let u:i-(xG e s g k).1.length=0:=by
     rcases Vv (i-(xG e s g k).1.length)with y|y
     .exact y
     .rw[Vi (by rw[Uf];lia)]at f;cases f
    rw[u]at f;cases f;exact()
  unfold xG at h
  split at h
  .rename_i v;rcases last _ h with ⟨_,z⟩|⟨rfl,rfl⟩
   .exact Fy l k () i r z
   .let(!o,_):=N4 (Fx v.2) (y7 e s i/05/04);let(!w,E):=l _ o;exact(m,.inr<|.inr (_,o,9,YY _ _ _),c _ _ w,by rw[YY];lia,a _ _,b _ _)
  .rcases last _ h with ⟨_,z⟩|⟨rfl,rfl⟩
   .exact Fy l k () i r z
   .calc(m,?_,c _ _ (),by rw[YY];lia,a _ _,b _ _);unfold xE
    split
    .exact .inr<|.inl 9
    .exact .inl 9
def dJ     (a:∀q∈ps,1<=⇑q/\⇑q<=04)(b:1<=m)(c:m<=08):PlP ps (wc ns s nm ps m):=by
 let f:=Fv ns s;let g:=Fw ns s b c;let e:(wc ns s nm ps m).givens.length=qi ns s:=by
  show((List.range<|qi ns s).map λk=>"g"++jD k).length=_;simp
 let i:(wc ns s nm ps m).rows.length=zQ ns s m:=YZ ns s ps _;exact((),(),(),(),λk r h=>by rw[e];calc Fy a _ () k r h)
def hV(ns:Yf){s:5}   (hs:s<=60)(hl:ps.length<=20)(hg:∀q∈ps,1<=⇑q/\⇑q<=04)(u:1<=m)(h2:m<=08)(a:Addr):CH [.scr ns,.int s,.str nm,.adr a,.int m] [%[a|.lst (ps.map J5)]]=.ok %[J5 (wc ns s nm ps m)|[%[a|.lst (ps.map J5)]]]:=by
 calc AI 9 ?_;let eg:=Fv ns s;let en:=Fw ns s u h2;let c1:=C9 ns s;let q9:qX (.int 10) (.int 09)=! .int 1000000000:=9;let H:qX (.int 10) (.int 64)=! .int 10000000000000000000000000000000000000000000000000000000000000000:=by
  show some (D.int<|10^64)=_
  congr 2
 let I:qX (.int 10) (.int 20)=! .int 100000000000000000000:=9;let l1:TxtOk 1 "m":=KF (by decide+kernel);let l2:TxtOk 1 "g":=KF (by decide+kernel);let O:asc "part":=by unfold asc;decide+kernel
 let U:xa (.str "part") (.str "part")=! .bl 6:=by rw[Kc O O];congr 2
 let p2:xa (.str "all") (.str "part")=! .bl 7:=by rw[Kc WP O];congr 2
 let p3:xa (.str "first") (.str "part")=! .bl 7:=by rw[Kc WQ O];congr 2
 let(P,hP):∃P,P=Kt ns s%1000000000:=(_,9);let X:1+P%04=(qi ns s:3):=by unfold qi;lia
 let hn:1+P/04%m=(zQ ns s m:3):=by
  grind[zQ]
 let hu:uP (.lst<|ps.map J5) (.lst [])=! .bl ps.isEmpty:=by show some (D.bl (ps.map J5).isEmpty)=_;simp
 generalize hR:ps.map J5=PD at hu;unfold CG;refine wX (sd':=[~~~.scr ns,~~~.int s,~~~.str nm,~~~.adr a,~~~.int m,!(.own 7<|j0 P),8,8,8,8,8,8,8,8]) (Ku ?_) ?_
 .simp_all[JX,j0]
 calc wX (Ku<|AJ<|YW (λa=>Wz a () ()) 9 _ (λ_=>9) _ _ (λ_=>9) (z:=.int<|qi ns s)<|by rw[<-X];rfl) ?_;refine wX (sd':=[~~~.scr ns,~~~.int s,~~~.str nm,~~~.adr a,~~~.int m,!(.own 7<|j0<|P/04),~~~(.int<|qi ns s),!(.own 7<|.lst []),8,8,8,8,8,8]) (Ku ?_) ?_
 .simp
 refine wX (sd':=[~~~.scr ns,~~~.int s,~~~.str nm,~~~.adr a,~~~.int m,!(.own 7<|j0<|P/04),~~~(.int<|qi ns s),!(.own 7<|.lst []),~~~.bl ps.isEmpty,8,8,8,8,8]) (hp':=[%[a|.lst PD]]) ?_ ?_
 .simp_all[der,YV,Res.strict]
 let hn0:=hn;generalize hB:Kl (yM<|qp 10 _) _=b;let Y:∃E o h l g,qC (Ks (.one 09) b) (JZ 0<|zQ ns s m) [~~~.scr ns,~~~.int s,~~~.str nm,~~~.adr a,~~~.int m,!(.own 7<|j0<|P/04/m),~~~(.int<|qi ns s),!(.own 7<|.lst<|[]),~~~.bl ps.isEmpty,8,8,8,8,8] [%[a|.lst PD]]=.ok (.next [~~~.scr ns,~~~.int s,~~~.str nm,~~~.adr a,~~~.int m,!(.own 7<|j0<|P/04/m),~~~(.int<|qi ns s),!(.own 7<|.lst<|(wc ns s nm ps m).rows.map j1),~~~.bl (xG ns s ps<|zQ ns s m).2,E,o,h,l,g] [%[a|.lst PD]]):=by
  let(sd' hp',e,(E,o,h,l,g,J,hh)):=ER (b:=Ks (.one 09) b) (ds:=JZ 0<|zQ ns s m) (sd:=[~~~.scr ns,~~~.int s,~~~.str nm,~~~.adr a,~~~.int m,!(.own 7<|j0<|P/04/m),~~~(.int<|qi ns s),!(.own 7<|.lst<|[]),~~~.bl ps.isEmpty,8,8,8,8,8]) (hp:=[%[a|.lst PD]])
   (P:=λi sd hp=>∃E o h l g,sd=[~~~.scr ns,~~~.int s,~~~.str nm,~~~.adr a,~~~.int m,!(.own 7<|j0<|P/04/m),~~~(.int<|qi ns s),!(.own 7<|.lst<|(xG ns s ps i).1.map j1),~~~.bl (xG ns s ps i).2,E,o,h,l,g]/\hp=[%[a|.lst PD]]) (jF 8 8 8 8 8 (9,9)) (by
    intro i x sd hp hx;calc xK λE o h l g=>jB λy A=>?_;subst y;subst A;let(rfl,hi):=BT hx;rw[Int.zero_add];let Z:=C9 ns<|s+1+i;rw[show((s+1+i:5):3)=(s:3)+1+(i:3)by lia]at Z;let m0:=()
    let m1:=()
    let m2:=BR (i:=Kt ns (s+1+i)%10000000000000000000000000000000000000000000000000000000000000000) (j:=100000000000000000000)<|Ta (Zg (show _<10000000000000000000000000000000000000000000000000000000000000000 from())<|VG 9)<|VG 9;let eC:Kt ns (s+1+i)%10000000000000000000000000000000000000000000000000000000000000000*100000000000000000000+Kt ns s%100000000000000000000=y7 ns s i:=9;subst hB;let(Q,dt):=AC (k:=i) ();let R:=C7 l1 dt ();let lS:=YZ ns s ps i;let F:((xG ns s ps i).1.map j1).length<sizeLine:=JQ (by rw[Zql,lS];lia);rw[N3];let L:=Fx (ns:=ns) (s:=s) (ps:=ps) (k:=i);generalize xG ns s ps i=st at F L;let(t,f):=st;let F:(t.map j1).length<sizeLine:=F;let L:f=7->ps ≠[]:=L;let(C,hC):∃C,C=y7 ns s i:=(_,9);rw[<-hC]at eC ⊢;let(n,hcn):∃n:5,1+C/05%04=(n:3):=((1+C/05%04).toNat,());let hnt:(1+C/05%04).toNat=n:=()
    rw[hnt];rw[lQ,IY,jh];let S:∃B,wx (.lst [.str "all",.str "first",.str "all",.str "first",.str "part"]) (.int<|C%05)=! .str B/\(B="part"/\xE C="all"/\C%05=04\/B="all"/\xE C="all"/\C%05≠04\/B="first"/\xE C="first"/\C%05≠04):=by
     unfold xE;obtain z|z|z|z|z:C%05=0\/C%05=1\/C%05=2\/C%05=03\/C%05=04:=()
     .rw[z];exact(_,9,())
     .rw[z];exact(_,9,())
     .rw[z];exact(_,9,())
     .rw[z];exact(_,9,())
     .rw[z];exact(_,9,())
    let(-B,S,hw):=S;let M:∀(b6:xi)(r:Res Out2),(∀u:Str,u="part"/\zR ps C f\/u=xE C/\¬zR ps C f/\xa (.str u) (.str "part")=! .bl 7->b6 [~~~.scr ns,~~~.int s,~~~.str nm,~~~.adr a,~~~.int m,!(.own 7<|j0<|P/04/m),~~~(.int<|qi ns s),!(.own 7<|.lst<|t.map j1),~~~.bl f,~~~.int i,!(.own 7<|j0<|C/05/04),~~~.str u,~~~.int n,g] [%[a|.lst PD]]=r)->Kl (yM<|qE (KU (J8<|jk xa (jb 11)<|dC<|.str "part")<|J8<|jb 08) (jG 11<|dC<|.str "all") JN) b6 [~~~.scr ns,~~~.int s,~~~.str nm,~~~.adr a,~~~.int m,!(.own 7<|j0<|P/04/m),~~~(.int<|qi ns s),!(.own 7<|.lst<|t.map j1),~~~.bl f,~~~.int i,!(.own 7<|j0<|C/05/04),~~~.str B,~~~.int n,g] [%[a|.lst PD]]=r:=λb6 r k=>by
     rcases hw with ⟨N,z2,z3⟩|⟨N,z2,z3⟩|⟨N,z2,z3⟩
     .subst N
      induction f with
      |true=>calc wa (sd':=[~~~.scr ns,~~~.int s,~~~.str nm,~~~.adr a,~~~.int m,!(.own 7<|j0<|P/04/m),~~~(.int<|qi ns s),!(.own 7<|.lst<|t.map j1),~~~.bl 6,~~~.int i,!(.own 7<|j0<|C/05/04),!(.val<|.str "all"),~~~.int n,g]) (hp':=[%[a|.lst PD]]) (by simp[U]) ()
      |false=>exact wa (sd':=[~~~.scr ns,~~~.int s,~~~.str nm,~~~.adr a,~~~.int m,!(.own 7<|j0<|P/04/m),~~~(.int<|qi ns s),!(.own 7<|.lst<|t.map j1),~~~.bl 7,~~~.int i,!(.own 7<|j0<|C/05/04),!(.val<|.str "part"),~~~.int n,g]) (hp':=[%[a|.lst PD]]) (by simp[U]) ()
     .subst N;exact wa (sd':=[~~~.scr ns,~~~.int s,~~~.str nm,~~~.adr a,~~~.int m,!(.own 7<|j0<|P/04/m),~~~(.int<|qi ns s),!(.own 7<|.lst<|t.map j1),~~~.bl f,~~~.int i,!(.own 7<|j0<|C/05/04),!(.val<|.str "all"),~~~.int n,g]) (hp':=[%[a|.lst PD]]) (by simp[p2]) ()
     .subst N;exact wa (sd':=[~~~.scr ns,~~~.int s,~~~.str nm,~~~.adr a,~~~.int m,!(.own 7<|j0<|P/04/m),~~~(.int<|qi ns s),!(.own 7<|.lst<|t.map j1),~~~.bl f,~~~.int i,!(.own 7<|j0<|C/05/04),!(.val<|.str "first"),~~~.int n,g]) (hp':=[%[a|.lst PD]]) (by simp[p3]) ()
    let w:=λ(p:3)(c:5)(hc:c<=10)=>λa=>N2 (p:=p) (m:=(qi ns s:3)+i) (c:=c) a () () hc;by_cases hp:zR ps C f
    .rw[Zd hp];let(!qm,qa):=N4 (L hp.2) (C/05/04);let ql:=hg _ qm;let hps:0<ps.length:=Jm.mpr<|L hp.2;let lPD:PD.length=ps.length:=by rw[<-hR,Zql]
     rw[hR]at qa;generalize v5 ps (C/05/04)=q at qa ql;calc([~~~.scr ns,~~~.int s,~~~.str nm,~~~.adr a,~~~.int m,!(.own 7<|j0<|P/04/m),~~~(.int<|qi ns s),!(.own 7<|.lst<|(t++[%["m"++jD i,q.name|qB ((qi ns s:3)+i) (C/05/04/ps.length) ⇑q]]).map j1),~~~.bl 6,~~~.int i,!(.own 7<|j0<|x9 ((qi ns s:3)+i) (C/05/04/ps.length) ⇑q),~~~.str q.name,~~~.int ⇑q,~~~J5 q],[%[a|.lst PD]],?_,_,_,_,_,_,9,9);refine wa (sd':=[~~~.scr ns,~~~.int s,~~~.str nm,~~~.adr a,~~~.int m,!(.own 7<|j0<|P/04/m),~~~(.int<|qi ns s),!(.own 7<|.lst<|t.map j1),~~~.bl f,~~~.int i,!(.own 7<|j0<|C),h,l,g]) (hp':=[%[a|.lst PD]]) (Ku ?_) ?_
     .simp[c1,Z,H,I,m2,eC,j0]
     calc wa (Ku<|AJ<|YW (λa=>Wz a () ()) 9 _ (λ_=>9) _ _ (λ_=>9) (z:=.str B) S) ?_;calc wa (Ku<|AJ<|YW (p:=C/05) (λa=>Wz a () ()) 9 _ (λ_=>9) _ _ (λ_=>9) (z:=.int n)<|by rw[<-hcn];rfl) ?_;calc M _ _ λu G=>?_;let e1:u="part":=by
      rcases G with z|z
      .exact z.1
      .exact Zn hp z.2.1
     subst e1;refine wa (sd':=[~~~.scr ns,~~~.int s,~~~.str nm,~~~.adr a,~~~.int m,!(.own 7<|j0<|P/04/m),~~~(.int<|qi ns s),!(.own 7<|.lst<|t.map j1),~~~.bl 6,~~~.int i,!(.own 7<|j0<|C/05/04/ps.length),~~~.str q.name,~~~.int ⇑q,~~~J5 q]) (hp':=[%[a|.lst PD]]) (Nz (by simp[U]) ?_) ?_
     .calc wa (sd':=[~~~.scr ns,~~~.int s,~~~.str nm,~~~.adr a,~~~.int m,!(.own 7<|j0<|P/04/m),~~~(.int<|qi ns s),!(.own 7<|.lst<|t.map j1),~~~.bl 6,~~~.int i,!(.own 7<|j0<|C/05/04),!(.val<|.str "part"),~~~.int n,g]) (hp':=[%[a|.lst PD]]) () ?_;let zd:∀b:Addr,b≠a->der [%[b|j0 (C/05/04)],%[a|D.lst PD]] (.adr a)=.lst PD:=λb T=>by
       unfold der;rw[QU,Ze λz=>T z.symm,YV]
      refine wa (l9<|az (d1:=j0<|C/05/04/ps.length) (v:=J5 q) 9 λb T=>?_) ?_
      .let tk:=N1 (p:=C/05/04) (m:=(ps.length:3)) b [%[a|D.lst PD]] () ();let ixq:=c9 (b:=b) (d:=j0<|C/05/04/ps.length) (λz=>T z.symm) qa;simp[zd b T,Res.strict,lPD,tk,ixq,Ky]
      let fn:jz "Plan" "name" (J5 q)=! .str q.name:=9;let fg:jz "Plan" "givens" (J5 q)=!(.lst<|q.givens.map .str):=9;generalize J5 q=qd at fn fg;simp[fn,fg]
     .let w:=w (C/05/04/ps.length) ⇑q ();refine Ku<|(Fk 9 (AH (d1:=j0<|x9 ((qi ns s:3)+i) (C/05/04/ps.length) ⇑q) (v:=j1 %["m"++jD i,q.name|qB ((qi ns s:3)+i) (C/05/04/ps.length) ⇑q]) 9 λa=>?_) 9 F).trans ?_
      .let w:=w a;simp[Q,R,w,j1]
      .rw[Ub];rfl
    .rw[Ze hp];calc([~~~.scr ns,~~~.int s,~~~.str nm,~~~.adr a,~~~.int m,!(.own 7<|j0<|P/04/m),~~~(.int<|qi ns s),!(.own 7<|.lst<|(t++[%["m"++jD i,xE C|qB ((qi ns s:3)+i) (C/05/04) n]]).map j1),~~~.bl f,~~~.int i,!(.own 7<|j0<|x9 ((qi ns s:3)+i) (C/05/04) n),~~~(.str<|xE C),~~~.int n,g],[%[a|.lst PD]],?_,_,_,_,_,_,9,9);refine wa (sd':=[~~~.scr ns,~~~.int s,~~~.str nm,~~~.adr a,~~~.int m,!(.own 7<|j0<|P/04/m),~~~(.int<|qi ns s),!(.own 7<|.lst<|t.map j1),~~~.bl f,~~~.int i,!(.own 7<|j0<|C),h,l,g]) (hp':=[%[a|.lst PD]]) (Ku ?_) ?_
     .simp[c1,Z,H,I,m2,eC,j0]
     calc wa (Ku<|AJ<|YW (λa=>Wz a () ()) 9 _ (λ_=>9) _ _ (λ_=>9) (z:=.str B) S) ?_;calc wa (Ku<|AJ<|YW (p:=C/05) (λa=>Wz a () ()) 9 _ (λ_=>9) _ _ (λ_=>9) (z:=.int n)<|by rw[<-hcn];rfl) ?_;calc M _ _ λu G=>?_;let(e1,_,e2):u=xE C/\¬zR ps C f/\xa (.str u) (.str "part")=! .bl 7:=by
      rcases G with z|z
      .exact Zn z.2 hp
      .exact z
     subst e1;calc wa (sd':=[~~~.scr ns,~~~.int s,~~~.str nm,~~~.adr a,~~~.int m,!(.own 7<|j0<|P/04/m),~~~(.int<|qi ns s),!(.own 7<|.lst<|t.map j1),~~~.bl f,~~~.int i,!(.own 7<|j0<|C/05/04),~~~(.str<|xE C),~~~.int n,g]) (hp':=[%[a|.lst PD]]) (N0 (by simp[e2]) 9) ?_;let w:=w (C/05/04) n ();refine Ku<|(Fk 9 (AH (d1:=j0<|x9 ((qi ns s:3)+i) (C/05/04) n) (v:=j1 %["m"++jD i,xE C|qB ((qi ns s:3)+i) (C/05/04) n]) 9 λa=>?_) 9 F).trans ?_
     .let w:=w a;simp[Q,R,w,j1]
     .rw[Ub];rfl)
  rw[WI]at J;exact jF E o h l g<|by rw[e,J,hh];rfl
 let(E o h l g,Y):=Y;calc wX ((aN (n:=zQ ns s m) (YW (λa=>Wz a () ()) 9 _ (λ_=>9) _ _ (λ_=>9) (z:=.int<|zQ ns s m)<|by rw[<-hn];rfl) ()).trans Y) ?_;let r1:Uk [.int (qi ns s)]=.ok (JZ 0<|qi ns s):=by rw[WH () ()];rfl
 let mk:qg (.one 0) (jk jC (dC<|.str "g")<|jt yS<|J1 (jb 0) jc) [8] (JZ 0<|qi ns s)=.ok ((List.range<|qi ns s).map λk:5=>.str<|"g"++jD k):=YH λi hi=>by
  let(Q,dt):=AC (k:=i) ();let R:=C7 l2 dt ();simp[Q,R]
 let F:=WI 0<|qi ns s;let e0:J5 (wc ns s nm ps m)=.ins "Plan" ["name","givens","rows"] [.str nm,.lst ((List.range<|qi ns s).map λk:5=>.str<|"g"++jD k),.lst ((wc ns s nm ps m).rows.map j1)]:=by
  show D.ins _ _ [_,.lst (List.map D.str<|List.map _ _),_]=_;rw[Zw];rfl
 rw[e0];generalize(wc ns s nm ps m).rows.map j1=RD;simp[r1,mk,F,JQ (show qi ns s<=1000 from()),XJ,yN,JX]
def CI:FS:=jq (qp 03<|qD jc)<|jq (qq (vC<|J1 (jb 1) jc) (.one 04)<|XG 03<|yf 03<|Qp CH<|J1 (jb 0)<|J1 (jk jC (dC<|.int 1)<|jk yD (jb 04)<|jk jC (jb 2)<|dC<|.int 1)<|J1 (jk jC (dC<|.str "p")<|jt yS<|J1 (jb 04) jc)<|J1 (jb 03)<|J1 (jb 2) jc)<|λsd=>(jJ<|Xj "Book" ["plans"] XI<|J1 (jb 03) jc)<|qM [03] sd
def Z1:YC->Res D:=qz 05 03 CI
def cQ:((List.range 04).map λk=>(("p":Str)++jD k).cps.toList).Nodup:=by decide+kernel
def pB (a:i<04)(b:j<04)(e:("p":Str)++jD i="p"++jD j):i=j:=aQ cQ a b<|by rw[e]
def l7:∀k:Fin 04,(decide ((("p":Str)++jD k.1).length<=03)&&(("p":Str)++jD k.1).cps.all (·<128))=6/\(("p":Str)++jD k.1).cps.toList≠("all":Str).cps.toList/\(("p":Str)++jD k.1).cps.toList≠("first":Str).cps.toList:=by decide+kernel
def dG (h:k<04):TxtOk 03 ("p"++jD k)/\("p":Str)++jD k ≠"all"/\("p":Str)++jD k ≠"first":=by
 let(!a,b,c):=l7 (k,h);exact(KF a,λe=>b<|by rw[e],λe=>c<|by rw[e])
def hU(ns:Yf){n m:5}(O:n<=04)(g:1<=m)(l:m<=08):∃ps,ps.length=n/\BkP ps/\(∀(k:5)q,ps[k]?=!q->q.name="p"++jD k/\∃s nm,q=wc ns s nm (ps.take k) m)/\Z1 [.scr ns,.int n,.int m]=.ok (JA ps):=by
 let Q:Uk [.int n]=.ok (JZ 0 n):=by rw[WH () ()];rfl
 let A:TxtOk 1 "p":=KF (by decide+kernel);let(-C,e,(ps,u,E,c,B,f)):=Kp (tg:=.one 04) (b:=XG 03<|yf 03<|Qp CH<|J1 (jb 0)<|J1 (jk jC (dC<|.int 1)<|jk yD (jb 04)<|jk jC (jb 2)<|dC<|.int 1)<|J1 (jk jC (dC<|.str "p")<|jt yS<|J1 (jb 04) jc)<|J1 (jb 03)<|J1 (jb 2) jc) (ds:=JZ 0 n) (sd:=[~~~.scr ns,~~~.int n,~~~.int m,!(.own 7<|.lst []),8])
  (P:=λi sd=>∃(ps:List Pl)(u:Option SV),sd=[~~~.scr ns,~~~.int n,~~~.int m,!(.own 7<|.lst<|ps.map J5),u]/\ps.length=i/\BkP ps/\∀(k:5)q,ps[k]?=!q->q.name="p"++jD k/\∃s,q=wc ns s ("p"++jD k) (ps.take k) m) ([],8,9,9,(Uc _,(by intro i p h;cases h),(by intro i j p q h;cases h),by intro i p h;cases h),λk q h=>nomatch h) (by
   rintro i x sd F ⟨ps,u,rfl,c,B,f⟩;let(rfl,R):=BT F;rw[Int.zero_add];let(!G,H):=AC (k:=i) ();let I:=C7 A H ();let J:=BR<|IV (i:=(i:3)) (j:=(m:3)+1) () ();let S:i*(m+1)<=03*09:=Vx () ();let(s,L):∃s:5,s=1+i*(m+1):=(_,9);let o:1+(i:3)*((m:3)+1)=(s:3):=by rw[L];push_cast;rfl
   let P:=dJ (ns:=ns) (s:=s) (nm:="p"++jD i) (ps:=ps) (m:=(m:3)) B.giv () ();let r:=λa=>hV ns (s:=s) (nm:="p"++jD i) (ps:=ps) (m:=(m:3)) () () B.giv () () a;refine([~~~.scr ns,~~~.int n,~~~.int m,!(.own 7<|.lst<|(ps++[wc ns s ("p"++jD i) ps m]).map J5),~~~.int i],?_,_,_,9,by rw[Ua,Uf,c],B.snoc () P (by let(!g,l,M):=dG (k:=i) ();calc(g.asc,l,M))<|λq N z=>by
    let(k,t):=Ji.mp N;let T:=(Jb.mp t).1;rw[(f k q t).1]at z;let:=pB () () z;lia,λk q h=>by
    rcases U4 k ps.length with z|z
    .rw[UN z]at h;let(g,U,l):=f k q h;exact()
    .rw[UF z]at h;let:k-ps.length=0:=by
      rcases Vv (k-ps.length)with y|y
      .exact y
      .rw[Vi (by rw[Uf];lia)]at h;cases h
     rw[this]at h;cases h;let w:k=i:=()
     calc(by rw[w];rfl,s,?_);rw[List.take_left' (),w])
   rw[IY,jh];refine(Fk 9 (AH (d1:=.lst<|ps.map J5) (v:=J5<|wc ns s ("p"++jD i) ps m) 9 λa=>?_) 9<|JQ<|by rw[Zql];lia).trans ?_
   .let r:=r a;simp[G,I,J,o,r]
   .rw[Ub];rfl)
 subst E;rw[WI]at c;calc(ps,c,B,λk q h=>let(z,s,e):=f k q h;(z,s,_,e),?_);let X:JA ps=.ins "Book" ["plans"] [.lst (ps.map J5)]:=9
 simp_all[Z1,CI,XI,yN,JX]
def CJ:FS:=jq (qp 2<|qD jc)<|jq (qq (vC<|J1 (jb 1) jc) (.one 03)<|jq (jG 04<|jk xU (jk yD (jk jC (jk jC (jk xU (jk Ah (jb 0)<|jk jC (jb 03)<|dC<|.int 1)<|dC<|.int 2147483647)<|jk yD (dC<|.int 17)<|jb 03)<|dC<|.int 05)<|dC<|.int 48271)<|dC<|.int 2147483647)<|jq (K5 2<|jk yC (jk xU (jb 04)<|dC<|.int 19)<|dC<|.int 09)<|qE (J8<|jk xa (jk xU (jk Ah (jb 04)<|dC<|.int 19)<|dC<|.int 03)<|dC<|.int 0) (BX 2 (jb 03)<|jk yC (jk xU (jk Ah (jb 0)<|jk jC (jb 03)<|dC<|.int 2)<|jk jC (jk yD (dC<|.int 2)<|jk qX (dC<|.int 10)<|dC<|.int 60)<|dC<|.int 1)<|jk qX (dC<|.int 10)<|dC<|.int 60) JN)<|K4 2
def AM:YC->Res D:=qz 05 2 CJ
def hQ(c:3) (L:n<=12):∃a:Yf,a.length=n/\(∀y∈a,-1000000000000000000000000000000000000000000000000000000000000<=y/\y<=1000000000000000000000000000000000000000000000000000000000000)/\AM [.int c,.int n]=.ok (.lst<|a.map .int):=by
 let F:Uk [.int n]=.ok (JZ 0 n):=by rw[WH () ()];rfl
 let l:qX (.int 10) (.int 60)=! .int 1000000000000000000000000000000000000000000000000000000000000:=by
  rfl
 let G:yD (.int 2) (.int 1000000000000000000000000000000000000000000000000000000000000)=! .int 2000000000000000000000000000000000000000000000000000000000000:=by
  rfl
 unfold AM;rw[IU 05 2 _ [.int c,.int n] 9];unfold CJ;generalize hB:jq (jG 04 _) _=b;let(-H,e,(a,u,v,m,f,h)):=Kp (tg:=.one 03) (b:=b) (ds:=JZ 0 n) (sd:=[~~~.int c,~~~.int n,!(.own 7<|.lst []),8,8])
  (P:=λi sd=>∃(a:Yf)(u v:Option SV),sd=[~~~.int c,~~~.int n,!(.own 7<|.lst<|a.map .int),u,v]/\a.length=i/\∀y∈a,-1000000000000000000000000000000000000000000000000000000000000<=y/\y<=1000000000000000000000000000000000000000000000000000000000000) () (by
   rintro i x sd t ⟨a,u,v,rfl,f,h⟩;let(rfl,M):=BT t;rw[Int.zero_add];let o:=IW (i:=c) (j:=(i:3)+1) () ();let p:=IW (i:=c) (j:=(i:3)+2) () ();let A:=BR<|IV (i:=17) (j:=(i:3)) () ();generalize N:c/((i:3)+1)=w at o;generalize I:c/((i:3)+2)=w2 at p;let m2:=BR<|SZ (i:=w%2147483647+17*(i:3)+05) (j:=48271) () ();generalize t:(w%2147483647+17*(i:3)+05)*48271=x at m2;let J:=Tb (i:=w2) (j:=2000000000000000000000000000000000000000000000000000000000001) ();let B:(a.map D.int).length=i:=by rw[Zql];exact f
   let C:=JQ<|show a.length<=1000 from();generalize E:x%2147483647%19-09=y;let r:ze (a.length+1) (i:3)=!i:=by let:=ph (a.map D.int)<|D.int y;rw[B,Ua,Zql]at this;exact this
   let g:∀z,(a.map D.int++[D.int y]).set i z=a.map D.int++[z]:=λz=>by let:=ag (a.map D.int) (D.int y) z;rw[B]at this;exact this
   subst hB;by_cases z:x%2147483647/19%03=0
   .calc([~~~.int c,~~~.int n,!(.own 7<|.lst<|(a++[w2%2000000000000000000000000000000000000000000000000000000000001-1000000000000000000000000000000000000000000000000000000000000]).map .int),~~~.int i,~~~(.int<|x%2147483647)],?_,_,_,_,9,by rw[Ua,Uf,f],λq s=>(Jc.mp s).elim (h q) λz=>by rw[Jd.mp z];lia);simp[o,p,A,m2,J,l,G,C,E,z,r,g]
   .calc([~~~.int c,~~~.int n,!(.own 7<|.lst<|(a++[y]).map .int),~~~.int i,~~~(.int<|x%2147483647)],?_,_,_,_,9,by rw[Ua,Uf,f],λq s=>(Jc.mp s).elim (h q) λz=>by rw[Jd.mp z];lia);simp[o,p,A,m2,C,E,z])
 subst m;calc(a,by rw[f,WI],h,?_);simp[JX,F,e]
def AN(a:YC->Res D):FS:=jq (qp 03<|qD jc)<|jq (qp 04<|jt QR<|J1 (jk jR (jb 2)<|dC<|.int 0) jc)<|jq (qq (iS<|jU (jz "Plan" "rows")<|jb 1) (.tup [05,06,07])<|jq (jG 08<|jt Wp<|J1 (WL [8,8,!04] 2 (iS<|jb 07) (.tup [0,1])<|qN<|J1 (jk jR (Kk 2<|jb 0)<|dC<|.int 0)<|J1 (jk jC (jk jR (Kk 2<|jb 0)<|dC<|.int 1)<|jb 1) jc) jc)<|jq (qE (zI (J8<|jk xa (jb 06)<|dC<|.str "all")<|J8<|jk xa (jb 06)<|dC<|.str "first") (K5 03<|qN<|J1 (dC<|.str "")<|J1 (jb 06)<|J1 (jb 08) jc)<|jq (jG 09<|jk jR (K7 [8,!06] (iS<|jb 0) (.one 0) (J8<|jk xa (jU (jz "Plan" "name")<|jb 0)<|jb 1)<|jb 0)<|dC<|.int 0)<|WA 03<|JB a<|J1 (jb 0)<|J1 (jb 09)<|J1 (qD<|J1 (jt QR<|J1 (jb 08) jc)<|J1 (jk jC (jk jR (jb 2)<|dC<|.int 1)<|xW [03]<|jt jQ<|J1 (jb 03) jc) jc) jc)<|K5 04<|qN<|J1 (jk yC (jk jC (jk jR (jb 2)<|dC<|.int 1)<|xW [03]<|jt jQ<|J1 (jb 03) jc)<|dC<|.int 1)<|J1 (dC<|.int 0) jc)<|K4 03
def Wa:5->YC->Res D
 |0=>λ_=>.no
 |n+1=>qz 10 03 (AN<|Wa n)
def CK:FS:=jq (jG 2<|jt jQ<|J1 (jU (jz "Plan" "givens")<|jb 1) jc)<|jq (jG 03<|JB (Wa 04)<|J1 (jb 0)<|J1 (jb 1)<|J1 (qD<|J1 (Qw [8] (vC<|J1 (jb 2) jc) (.one 0)<|qN<|J1 (jb 0)<|J1 (dC<|.int 0) jc)<|J1 (jb 2) jc) jc)<|jq (jG 04<|Qw [8,!03] (vC<|J1 (jt jQ<|J1 (jb 03) jc) jc) (.one 0)<|qN<|J1 (jk jC (dC<|.str "u")<|jt yS<|J1 (jb 0) jc)<|J1 (jk jR (jk jR (jb 1)<|jb 0)<|dC<|.int 1)<|J1 (jk jR (jk jR (jb 1)<|jb 0)<|dC<|.int 2) jc)<|jJ<|Xj "Plan" ["name","givens","rows"] XJ<|J1 (dC<|.str "plain")<|J1 (jt QR<|J1 (jU (jz "Plan" "givens")<|jb 1) jc)<|J1 (jb 04) jc
def AO:YC->Res D:=qz 05 2 CK
def ka:FS:=jq (qq (iS<|jb 0) (.tup [2,03])<|qE (zI (J8<|jk (zO 6) (jb 2)<|jb 1)<|J8<|jk uO (jb 03)<|jk jR (jb 1)<|jb 2) (jJ<|dC<|.bl 7) JN)<|jJ<|dC<|.bl 6
def kb:YC->Res D:=jT 04 2 ka
def sE (e:jE o):kb [j6 r,zB o]=.ok (.bl<|JI r o):=by
 refine BU (R:=λz=>(z.bind<|yz<|jJ<|dC<|.bl 6).bind y8=.ok (.bl<|JI r o)) (P:=λi sd=>(∃u v,sd=[~~~j6 r,~~~zB o,u,v])/\JI (r.take i) o=6) (qA 8 8 9,9) ?_ ?_
 .simp
 .rintro i x sd f ⟨⟨u,v,rfl⟩,hu⟩;let(p,b,rfl):=QV f;let a:=Ex e p.1
  induction q:JC o p.1 with
  |none=>
   rw[q]at a;let z:zn o p=7:=by unfold zn;rw[q]
   rw[Hf b z];calc .inr<|.inr (.bl 7,by simp[zB,a],())
  |some w=>
   rw[q]at a;by_cases c:w<p.2
   .let z:zn o p=7:=by unfold zn;exact by grind
    rw[Hf b z];exact .inr<|.inr (.bl 7,by simp[zB,a,c],())
   .let z:zn o p=6:=by unfold zn;exact by grind
    exact .inl ([~~~j6 r,~~~zB o,~~~.int p.1,~~~.int p.2],.inl<|by simp[zB,a,c],(_,_,9),by
     rw[Wh b]
     simp_all[JI])
def ut:FS:=jq (jG 2<|jt Y9<|J1 (jb 0) jc)<|jq (qq (iS<|jb 1) (.one 03)<|qE (J8<|JB kb<|J1 (jb 03)<|J1 (jb 2) jc) (jJ<|dC<|.bl 6) JN)<|jJ<|dC<|.bl 7
def ya:YC->Res D:=jT 04 2 ut
def hJ  (a:jE r)(c:r.length<=100):ya [j6 r,jg ks]=.ok (.bl<|ks.any λo=>JI o r):=by
 simp[ya,ut,IX c a];refine BU (R:=λz=>(z.bind<|yz<|jJ<|dC<|.bl 7).bind y8=.ok (.bl<|ks.any λo=>JI o r)) (P:=λi sd=>(∃u,sd=[~~~j6 r,~~~jg ks,~~~zB r,u])/\∀o∈ks.take i,JI o r=7) () ?_ ?_
 .simp
 .rintro i x sd f ⟨⟨u,rfl⟩,hu⟩;let(-o,g,rfl):=QV f;let b:=sE (r:=o) a
  induction q:JI o r with
  |true=>
   let e:ks.any (λo=>JI o r)=6:=by grind
   ext
  |false=>
   rw[q]at b;calc .inl ([~~~j6 r,~~~jg ks,~~~zB r,~~~j6 o],.inl<|by simp[b],(_,9),λy h=>?_);rw[Wh g]at h
   grind
def uu:FS:=jq (qp 2<|qD jc)<|jq (qq (iS<|jt Aw<|J1 (jt Cf<|J1 (jb 0) jc) jc) (.one 03)<|jq (qE (J8<|jk xa (xW [2]<|jt jQ<|J1 (jb 2) jc)<|jb 1) uH JN)<|qE (Q8<|J8<|xW [2]<|JB ya<|J1 (jb 03)<|J1 (jb 2) jc) (K5 2<|jb 03) JN)<|K4 2
def uy:YC->Res D:=qz 04 2 uu
def iU  (ne:∀r∈c,r ≠[])(ri:∀r∈c,xp r)(n:∀r∈c,r.length<=100)(v:c.length<1000)(J:0<=en):uy [jg c,.int en]=.ok (jg<|(yi c).take en.toNat):=by
 let dl:=Me c;let w:Cf [jg c]=!(.lst<|(Qd jH<|xV c).map j6):=by
  show(Qx KJ<|c.map j6).bind _=_;rw[BH];exact Zd (ne,(),())
 let M:(Qd jH<|xV c).length=(xV c).length:=(QD (ltb:=jH) _).length_eq;let y:Aw [.lst ((Qd jH<|xV c).map j6)]=!(.lst<|(xB c).map j6):=iZ (AB yI<|Md c) () λr A=>by
  let:=n r<|nO.mp<|(QD (ltb:=jH) _).mem_iff.mp A;lia
 let e:=Np ri;let p:∀r,r∈xB c->r∈c:=λr h=>mj.mp h;let B:=No c;let C:yi c=(xB c).filter (qF c):=9;rw[C];simp[uy,uu,w,y];generalize xB c=L at e p B;refine BU (R:=λz=>(z.bind<|yz<|K4 2).bind zF=.ok (jg<|(L.filter<|qF c).take en.toNat)) (P:=λi sd=>i<=L.length/\(((L.take i).filter<|qF c).length:3)<=en/\∃u,sd=[~~~jg c,~~~.int en,!(.own 7<|.lst<|((L.take i).filter<|qF c).map j6),u]) (Uc _,(),8,9) ?_ ?_
 .rintro sd ⟨_,le,u,rfl⟩;rw[Zql,Vl]at le ⊢;rw[UH ()];rfl
 .rintro i x sd E ⟨_,le,u,rfl⟩;let(-r,l,rfl):=QV E;let N:=(Jb.mp l).1;let m:=e (i+1) ();rw[Wh l,UR,e i (),<-Wh l]at m;let m:wr ((L.take i).filter<|qF c) r=(L.take<|i+1).filter (qF c):=m;let F:((L.take i).filter<|qF c).length<=i:=by
   let a:=Vy (qF c)<|L.take i;rw[Uu]at a;lia
  rw[<-m];let s:=p r<|Ue l;let g:=hJ (r:=r) (ks:=(L.take i).filter<|qF c) (C6<|ri r s)<|n r s;let f:L.filter (qF c)=(L.take i).filter (qF c)++(L.drop i).filter (qF c):=by rw[<-Vm,UK]
  generalize(L.take i).filter (qF c)=ks at F g le f;let g:ya [j6 r,.lst (ks.map j6)]=.ok (.bl<|ks.any λo=>JI o r):=g;let G:=JQ<|show ks.length<=1000 from();by_cases j:(ks.length:3)=en
  .let H:(L.filter<|qF c).take en.toNat=ks:=by
    rw[f,List.take_left' ()]
   calc .inr<|.inl ([~~~jg c,~~~.int en,!(.own 7<|.lst<|ks.map j6),~~~j6 r],by simp[j],?_);rw[H];simp[jg]
  .let t:∀b,(ks.any λo=>JI o r)=b->wr ks r=if b=6 then ks else ks++[r]:=λb I=>by unfold wr;rw[I]
   induction q:ks.any λo=>JI o r with
   |true=>
    rw[q]at g;rw[t 6 q,Zd 9];calc .inl ([~~~jg c,~~~.int en,!(.own 7<|.lst<|ks.map j6),~~~j6 r],.inl<|by simp[j,g],(),le,_,9)
   |false=>
    rw[q]at g;rw[t 7 q,Ze Zj];exact .inl ([~~~jg c,~~~.int en,!(.own 7<|.lst<|(ks++[r]).map j6),~~~j6 r],.inl<|by simp[j,g,G],(),by rw[Ua,Uf];lia,_,9)
def AQ:FS:=jq (jG 2<|Q4 uy<|J1 (jb 0)<|J1 (jk jC (jb 1)<|dC<|.int 1) jc)<|jq (qE (J8<|jk uO (jt jQ<|J1 (jb 2) jc)<|jb 1) (Qs "TooMany"<|jU (vX "more than ")<|jb 1) JN)<|jJ<|jt Ar<|J1 (jb 2) jc
def QY:YC->Res D:=qz 03 2 AQ
def lR(a:J0):(yi a).length=(Qg a).length:=by
 rw[<-Nq,(QD _).length_eq]
def qk(a:3)(t:J0):Option J0:=if(t.length:3)<=a then !t else 8
def yg:Option J0->Res D
 |some t=>.ok (jg t)
 |none=>.ex "TooMany" []
def Fz  (ne:∀r∈rs,r ≠[])(ri:∀r∈rs,xp r)(h:∀r∈rs,r.length<=100)(e:rs.length<1000)(l:0<=most)(i:most<=1000):QY [jg rs,.int most]=yg (qk most<|Qg rs):=by
 let f:=iU (en:=most+1) ne ri h e ();let m:(yi rs).length<=rs.length:=Zh (Vy _ _)<|No rs;let n:=lR rs;unfold qk;by_cases c:((Qg rs).length:3)<=most
 .rw[Zd c];rw[UH ()]at f;let b:Ar [jg (yi rs)]=!(.lst<|(Qd jH<|yi rs).map j6):=by
   show(Qx KJ<|(yi rs).map j6).bind _=_;rw[BH];exact Zd (λr j=>ne r<|mj.mp (Jf.mp j).1,())
  rw[Nq]at b;let b:Ar [jg (yi rs)]=!(jg<|Qg rs):=b;let g:¬most<((yi rs).length:3):=()
  show _=Res.ok (jg<|Qg rs);simp[QY,AQ,f,g,b]
 .rw[Ze c];let g:most<(((yi rs).take (most+1).toNat).length:3):=by
   grind
  have(z,o):=aF (x:="more than ") (a:=most) () ();show _=Res.ex "TooMany" []
  simp_all[QY,AQ]
def vv:FS:=jq (qp 2<|JB QY<|J1 (jk jR (jb 0)<|dC<|.int 0)<|J1 (jb 1) jc)<|jq (qq (iS<|kn (jb 0) (Xh<|dC<|.int 1) Xg Xg) (.one 03)<|λsd=>(qp 2<|JB QY<|J1 (jk jC (jb 2)<|jb 03)<|J1 (jb 1) jc)<|qM [2] sd)<|K4 2
def za:YC->Res D:=qz 04 2 vv
def wh(a:3):J0->List J0->Option J0
 |t,[]=>qk a t
 |t,g::b=>(qk a t).bind λ_=>wh a (yc t g) b
def N5  (h:qk a t=8)(b):wh a t b=8:=by
 cases b with
 |nil=>calc h
 |cons g b=>show(qk a t).bind _=8;rw[h];rfl
def CL  (h:(t.length:3)<=a):qk a t=!t:=Zd h
def N6  (h:a<(t.length:3)):qk a t=8:=Ze ()
def uw:FS:=jq (qp 2<|jt Y9<|J1 (jb 0) jc)<|jq (qq (iS<|jb 1) (.tup [03,04])<|WG 2 (jb 03)<|jt Aj<|J1 (jb 04)<|J1 (xW [2]<|BO (jb 2) (jb 03)<|jb 04) jc)<|λsd=>(jJ<|jt Wp<|J1 (Es<|jb 2) jc)<|qM [2] sd
def wI:YC->Res D:=jT 05 2 uw
def QK(r o:Jz):Jz:=Qd qs<|Q0 r o
def sD (c:r ≠[])(or:jE r)(f:jE o)(w:r.length<=20)(lo:o.length<=20):wI [j6 r,j6 o]=.ok (j6<|QK r o):=by
 let g:Y9 [.tup (r.map qb)]=! zB r:=IX () or;simp[wI,uw,g,j6];generalize hB:WG 2 _ _=b;let(-h,e,(u,v,a)):=Kp (tg:=.tup [03,04]) (b:=b) (ds:=o.map qb) (sd:=[~~~(.tup<|r.map qb),~~~(.tup<|o.map qb),!(.own 7<|zB r),8,8])
  (P:=λi sd=>∃u v,sd=[~~~(.tup<|r.map qb),~~~(.tup<|o.map qb),!(.own 7<|zB<|Q0 r<|o.take i),u,v]) (qA 8 8 9) (by
   rintro i x sd j ⟨u,v,rfl⟩;let(-p,l,rfl):=QV j;let m:Q0 r (o.take<|i+1)=W6 (Q0 r<|o.take i) p:=by
    rw[Wh l];unfold Q0;rw[UR];rfl
   let n:=DV (o.take i) r;let y:(o.take i).length<=o.length:=by rw[Uu];lia
   let q:=JQ (show(Q0 r<|o.take i).length<=1000 by lia);let s:=Ex (B9 (o.take i) r or) p.1;subst hB;let t:W6 (Q0 r<|o.take i) p=xm (Q0 r<|o.take i) p.1 (if(JC (Q0 r<|o.take i) p.1).getD p.2>p.2 then(JC (Q0 r<|o.take i) p.1).getD p.2 else p.2):=9;rw[m,t,<-Ti (Q0 r<|o.take i) p.1<|if(JC (Q0 r<|o.take i) p.1).getD p.2>p.2 then(JC (Q0 r<|o.take i) p.1).getD p.2 else p.2];simp[zB,s,q])
 rw[e];subst a;let n:=DV o r;simp[Tj (HZ c f) (),QK]
def CM:FS:=jq (qp 2<|jk EJ (K7 [8,!1] (iS<|jb 0) (.one 0) (J8<|JB ya<|J1 (jb 0)<|J1 (jb 1) jc)<|jb 0)<|K7 [8,!0] (iS<|jb 1) (.one 0) (J8<|JB ya<|J1 (jb 0)<|J1 (jb 1) jc)<|jb 0)<|jq (jG 03<|K7 [8,!0] (iS<|jb 1) (.one 0) (Q8<|J8<|JB ya<|J1 (jb 0)<|J1 (jb 1) jc)<|jb 0)<|jq (qq (iS<|jb 0) (.one 04)<|qE (Q8<|J8<|JB ya<|J1 (jb 04)<|J1 (jb 1) jc) (WA 2<|Qw [8,!04] (iS<|jb 03) (.one 0)<|JB wI<|J1 (jb 1)<|J1 (jb 0) jc) JN)<|K4 2
def AR:YC->Res D:=qz 05 2 CM
def XL(f g:J0):J0:=f.flatMap λr=>g.map<|QK r
def vI  :q∈XL f g↔∃r∈f,∃o∈g,QK r o=q:=by
 simp_all[XL]
def eE(f g:J0):(XL f g).length=f.length*g.length:=by
 unfold XL
 induction f with
 |nil=>simp
 |cons r f a=>grind
def eF (c:jE a)(p:b.Perm a)(t:3):JC b t=JC a t:=by
 induction h:JC a t with
 |some w=>calc(Ia<|((p.map λz:3×3=>z.1).nodup_iff).mpr c).mp<|p.mem_iff.mpr<|Qq h
 |none=>
  induction h2:JC b t with
  |none=>rfl
  |some w=>
   let:=(Ia c).mp<|p.mem_iff.mp<|Qq h2
   ext
def CN (or:jE r)(a:jE o)(t:3):JC (QK r o) t=jw (JC r t) (JC o t):=by
 rw[<-B8 t o r a];exact eF (B9 o r or) (QD _) t
theorem Z3 (a:JRow r)(b:JRow o):JRow (QK r o):=by
 let e:=B9 o r a.once;refine(λz=>(HZ a.ne b.once) ?_,?_,λp f=>?_)
 .let:=(QD (ltb:=qs)<|Q0 r o).length_eq
  grind[QK,List.length_nil]
 .unfold xp QK;let g:(Qd qs<|Q0 r o).Pairwise λx y=>x.1≠y.1:=by
   grind[jE,List.Nodup,List.pairwise_map,QD]
  rw[UQ];refine(List.Pairwise.and (Sm e) g).imp λ{x y}h=>?_
  grind[X0]
 .let c:=e.look<|(QD<|Q0 r o).mem_iff.mp f;rw[B8 p.1 o r b.once]at c
  induction q1:JC r p.1 with
  |some w=>calc a.bnd %[p.1|w]<|Qq q1
  |none=>
   induction q2:JC o p.1 with
   |some w=>calc b.bnd %[p.1|w]<|Qq q2
   |none=>rw[q1,q2]at c;cases c
def N7 (a:JRow r)(b:JRow o):JI r (QK r o)=6:=by
 rw[z9];intro p c;rw[CN a.once b.once,a.once.look c]
 induction JC o p.1 with
 |none=>calc(p.2,9,Vc _)
 |some y=>exact(_,9,by split<;>lia)
def N8 (b:JRow r)(a:JRow o):JI o (QK r o)=6:=by
 rw[z9];intro p c;rw[CN b.once a.once,a.once.look c]
 induction JC r p.1 with
 |none=>calc(p.2,9,Vc _)
 |some y=>exact(_,9,by split<;>lia)
def F6 (h:JRow r)(i:JRow o)(f:JI r q=6)(g:JI o q=6):JI (QK r o) q=6:=by
 rw[z9]at f g ⊢;intro p j;let c:=(Z3 h i).once.look j;rw[CN h.once i.once]at c
 induction q1:JC r p.1 with
 |none=>
  rw[q1]at c;calc g p<|Qq c
 |some x=>
  induction q2:JC o p.1 with
  |none=>
   rw[q1,q2]at c;cases c;calc f %[p.1|p.2]<|Qq q1
  |some y=>
   rw[q1,q2]at c;let(w,m,a):=f %[p.1|x] (Qq q1);let(-n,l,b):=g %[p.1|y] (Qq q2);let e:=Zqi c
   grind
def jZ(g:J0)(r:Jz):Bool:=g.any λo=>JI o r
def tJ  :jZ g r=6↔∃o∈g,JI o r=6:=VU
def Kv(f g:J0)(l:J0):J0:=(l.filter λr=>not<|jZ g r).flatMap λr=>(g.filter λo=>not<|jZ f o).map<|QK r
def Wb(f g:J0):J0:=f.filter (jZ g)++g.filter (jZ f)++Kv f g f
def N9(f g l:J0):(Kv f g l).length=(l.filter λr=>not<|jZ g r).length*(g.filter λo=>not<|jZ f o).length:=by
 unfold Kv;generalize l.filter (λr=>not<|jZ g r)=a
 induction a with
 |nil=>simp
 |cons r a b=>grind
theorem CO{α:Type}(p:α->Bool):∀l:List α,(l.filter p).length+(l.filter λx=>not<|p x).length=l.length
 |[]=>9
 |x::l=>by
  let:=CO p l
  grind
def NA (a:∀r∈f,JRow r)(b:∀r∈g,JRow r):∀q∈Wb f g,JRow q:=λq hq=>by
 rcases Jc.mp hq with hq|hq
 .grind
 .let(-r,c,hq):=List.mem_flatMap.mp hq
  grind[Z3]
def bh (l:∀r∈f,JRow r)(t:∀r∈g,JRow r)(G:f.length+g.length+f.length*g.length<=1000):AR [jg f,jg g]=.ok (jg<|Wb f g):=by
 let m:∀(u:J0)(r:Jz),JRow r->ya [j6 r,jg u]=.ok (.bl<|jZ u r):=λu r h=>hJ h.once (by let:=h.len;lia);let B:KL (.one 0) (J8<|JB ya<|J1 (jb 0)<|J1 (jb 1) jc) (jb 0) [8,~~~jg g] (f.map j6)=.ok ((f.filter<|jZ g).map j6):=
  Ap (s:=λr=>[~~~j6 r,~~~jg g]) (λr _=>9) λr j=>by simp[m g r (l r j)] ()
 let m2:KL (.one 0) (J8<|JB ya<|J1 (jb 0)<|J1 (jb 1) jc) (jb 0) [8,~~~jg f] (g.map j6)=.ok ((g.filter<|jZ f).map j6):=
  Ap (s:=λr=>[~~~j6 r,~~~jg f]) (λr _=>9) λr j=>by simp[m f r (t r j)] ()
 let v:KL (.one 0) (Q8<|J8<|JB ya<|J1 (jb 0)<|J1 (jb 1) jc) (jb 0) [8,~~~jg f] (g.map j6)=.ok ((g.filter λo=>not<|jZ f o).map j6):=
  Ap (s:=λr=>[~~~j6 r,~~~jg f]) (λr _=>9) λr j=>by simp[m f r (t r j)] ()
 let T:=CO (jZ g) f;let H:=CO (jZ f) g;let a:∀o∈g.filter λo=>not<|jZ f o,JRow o:=λo n=>t o (Jf.mp n).1;let C:Wb f g=f.filter (jZ g)++g.filter (jZ f)++Kv f g f:=9;let bl:∀i,(Kv f g<|f.take i).length<=min i f.length*g.length:=λi=>by
  rw[N9];calc Vx ?_<|Vy _ _;let:=Vy (λr=>not<|jZ g r)<|f.take i;rw[Uu]at this;exact this
 let E:∀(i:5)(r:Jz),f[i]?=!r->Kv f g (f.take<|i+1)=Kv f g (f.take i)++if jZ g r=6 then[]else(g.filter λo=>not<|jZ f o).map (QK r):=λi r j=>by
  unfold Kv;rw[Wh j,Vm,List.flatMap_append]
  induction c:jZ g r with
  |true=>rw[V7 (by rw[c];simp),Zd 9];rfl
  |false=>rw[V6 (by rw[c];rfl),Ze Zj];simp
 generalize U:(g.filter λo=>not<|jZ f o)=rest at v a E H;let X:rest.length<=g.length:=()
 generalize F:f.filter (jZ g)++g.filter (jZ f)=A at C;let Y:A.length<=f.length+g.length:=by rw[<-F,Ua];lia
 let I:(f.filter<|jZ g).length+(g.filter<|jZ f).length<=sizeLine:=QC ();let J:(f.filter<|jZ g).map j6++(g.filter<|jZ f).map j6=A.map j6:=by rw[<-F,Ub]
 let(-L,e,(w,y)):=Kp (tg:=.one 04) (b:=qE (Q8<|J8<|JB ya<|J1 (jb 04)<|J1 (jb 1) jc) (WA 2<|Qw [8,!04] (iS<|jb 03) (.one 0)<|JB wI<|J1 (jb 1)<|J1 (jb 0) jc) JN) (ds:=f.map j6) (sd:=[~~~jg f,~~~jg g,!(.own 7<|.lst<|A.map j6),~~~(.lst<|rest.map j6),8])
  (P:=λi sd=>∃(w:Option SV),sd=[~~~jg f,~~~jg g,!(.own 7<|.lst<|(A++Kv f g (f.take i)).map j6),~~~(.lst<|rest.map j6),w]) (8,by rw[List.take_zero];simp[Kv]) (by
   rintro i x sd M ⟨w,rfl⟩;let(-r,j,rfl):=QV M;let Z:=(Jb.mp j).1;let p:=Ue j;let q:=m g r<|l r p;let b0:=bl i;let N:(min i f.length+1)*g.length<=f.length*g.length:=Vx ()<|Zf _;rw[Nat.succ_mul]at N;rw[E i r j]
   induction c:jZ g r with
   |true=>
    rw[c]at q;rw[Zd 9,ZA];calc([~~~jg f,~~~jg g,!(.own 7<|.lst<|(A++Kv f g (f.take i)).map j6),~~~(.lst<|rest.map j6),~~~j6 r],by simp[q],_,9)
   |false=>
    rw[c]at q;rw[Ze Zj];let z:qg (.one 0) (JB wI<|J1 (jb 1)<|J1 (jb 0) jc) [8,~~~j6 r] (rest.map j6)=.ok (rest.map λo=>j6<|QK r o):=Kz λo n=>by
     let G:=(l r p).len;let l2:=(a o n).len;simp[sD (l r p).ne (l r p).once (a o n).once () ()]
    let O:(rest.map<|QK r).map j6=rest.map λo=>j6<|QK r o:=by rw[Zw];rfl
    let sz:(A++Kv f g (f.take i)).length+rest.length<=sizeLine:=QC (by rw[Ua];lia);let Q:=JQ<|show rest.length<=1000 from();calc([~~~jg f,~~~jg g,!(.own 7<|.lst<|(A++(Kv f g (f.take i)++rest.map (QK r))).map j6),~~~(.lst<|rest.map j6),~~~j6 r],?_,_,9);rw[<-Ug];generalize A++Kv f g (f.take i)=acc at sz ⊢;rw[Ub,O];simp[q,z,Q,sz])
 subst y;rw[Zql,Vl]at e;let R:=JQ<|show f.length<=1000 from();let S:=JQ<|show g.length<=1000 from();rw[C];simp[jg]at B m2 v e ⊢;simp[AR,CM,B,m2,v,R,S,I,J,e]
def vu:FS:=jq (jG 2<|JB QY<|J1 (jk jR (jb 0)<|dC<|.int 0)<|J1 (jb 1) jc)<|jq (qq (iS<|kn (jb 0) (Xh<|dC<|.int 1) Xg Xg) (.one 03)<|jG 2<|JB QY<|J1 (Q4 AR<|J1 (jb 2)<|J1 (jb 03) jc)<|J1 (jb 1) jc)<|jJ<|jb 2
def yH:YC->Res D:=jT 04 2 vu
def Wc(t f:J0):J0:=Qg<|XL t f
structure AllOk(fs:List J0)(t:J0):4 where
 row:∀r∈t,JRow r
 abv:∀r∈t,∀f∈fs,∃s∈f,JI s r=6
 least:∀q:Jz,(∀f∈fs,∃s∈f,JI s q=6)->∃r∈t,JI r q=6
 anti:∀r∈t,∀s∈t,JI r s=6->r=s
 strict:t.Pairwise λa b=>jH a b=6
def F7 (o:jE r):JI r r=6:=z9.mpr λp a=>(p.2,o.look a,Vc _)
def F8 :∀r∈Qg rs,∀s∈Qg rs,JI r s=6->r=s:=λr a s b c=>vG.mp (yu.mp b).2 r (yu.mp a).1 c
def NB (h:∀r∈f,JRow r):AllOk [f] (Qg f):=by
 refine(λr a=>h r (yu.mp a).1,λr a g c=>?_,λq e=>?_,F8,Wx f)
 .rw[Jd.mp c];exact(r,(yu.mp a).1,F7 (h r (yu.mp a).1).once)
 .let(s,i,j):=e f ();let(-r,a,b):=YT (λr a=>((h r a).once,(h r a).rise)) i;exact(r,a,KE b j)
def NC  (A:AllOk fs t)(h:∀r∈f,JRow r):AllOk (fs++[f]) (Wc t f):=by
 let b:∀q∈XL t f,JRow q:=λq e=>by
  let(r,a,o,c,rfl):=vI.mp e;exact Z3 (A.row r a)<|h o c
 refine(λr a=>b r (yu.mp a).1,λq e g n=>?_,λq e=>?_,F8,Wx _)
 .let(r,a,o,c,rfl):=vI.mp (yu.mp e).1;rcases Jc.mp n with z|z
  .let(-s,i,j):=A.abv r a g z;exact(s,i,KE j<|N7 (A.row r a)<|h o c)
  .rw[Jd.mp z];exact(o,c,N8 (A.row r a)<|h o c)
 .let(r,a,j):=A.least q λg n=>e g ();let(-o,c,l):=e f ();let(-s,i,m):=YT (λr a=>((b r a).once,(b r a).rise)) (vI.mpr (r,a,o,c,9));exact(s,i,KE m<|F6 (A.row r a) (h o c) j l)
def F9 (h:∀r∈a,JRow r)(c:a ≠[]):Qg a ≠[]:=λz=>by
 induction a with
 |nil=>calc c 9
 |cons r a=>
  let(-s,e,_):=YT (λr b=>((h r b).once,(h r b).rise)) Zqs
  ext
def ND (i:∀r∈a,JRow r)(e:∀r∈b,JRow r)(h:∀q,(∃x∈a,JI x q=6)↔∃x∈b,JI x q=6):Qg a=Qg b:=by
 let f:∀{a b:J0},(∀r∈a,JRow r)->(∀r∈b,JRow r)->(∀q,(∃x∈a,JI x q=6)↔∃x∈b,JI x q=6)->∀r,r∈Qg a->r∈Qg b:=by
  intro a b i e h r l;let(m,s):=yu.mp l;let(y,t,u):=(h r).mp (r,m,F7 (i r m).once);let(-j,n,o):=YT (λr l=>((e r l).once,(e r l).rise)) t;let c:=(yu.mp n).1;let p:=KE o u;let(-x,v,g):=(h j).mpr (j,c,F7 (e j c).once);rw[vG.mp s x v<|KE g p]at g
  rwa[Fe (i r m).once (e j c).once (i r m).rise (e j c).rise g p]
 exact Xb yI (Wx a) (Wx b) λr=>(f i e h r,f e i (λq=>(h q).symm) r)
def NE (a:∀r∈f,JRow r)(b:∀r∈g,JRow r):∀q∈XL f g,JRow q:=λq c=>by
 let(-r,e,(o,h,rfl)):=vI.mp c;exact Z3 (a r e)<|b o h
def aD (e:∀r∈t,JRow r)(f:∀r∈g,JRow r):Qg (Wb t g)=Wc t g:=ND (NA e f) (NE e f)<|λq=>by
 constructor
 .rintro⟨x,hx,a⟩;rcases Jc.mp hx with hx|hx
  .rcases Jc.mp hx with hx|hx
   .let(hx,h):=Jf.mp hx;let(o,b,c):=tJ.mp h;exact(QK x o,vI.mpr (),F6 (e x hx) (f o b) a<|KE c a)
   .let(hx,h):=Jf.mp hx;let(o,b,c):=tJ.mp h;exact(QK o x,vI.mpr (o,b,x,hx,9),F6 (e o b) (f x hx) (KE c a) a)
  .let(-r,i,hx):=List.mem_flatMap.mp hx;exact(_,vI.mpr (),a)
 .rintro⟨x,hx,a⟩;let(r,i,o,b,rfl):=vI.mp hx;let j:=KE (N7 (e r i)<|f o b) a;let l:=KE (N8 (e r i)<|f o b) a
  grind[Wb,Kv]
def ym(a:3):J0->List J0->Option J0
 |t,[]=>!t
 |t,g::b=>(qk a<|Wc t g).bind λc=>ym a c b
def NF(a)(t g)(b):ym a t (g::b)=(qk a<|Wc t g).bind λc=>ym a c b:=rfl
def yW(a:3)(f:J0)(fs:List J0):Option J0:=(qk a<|Qg f).bind λt=>ym a t fs
def XM  (h:qk a t=!b):b=t/\(t.length:3)<=a:=by
 grind[qk]
theorem NG :∀{c fs:List J0}{t b:J0},AllOk fs t->(t.length:3)<=a->t ≠[]->(∀g∈c,g ≠[]/\∀r∈g,JRow r)->ym a t c=!b->AllOk (fs++c) b/\(b.length:3)<=a/\b ≠[]
 |[],fs,t,b,A,hl,hn,_,h=>by
  cases h
  ext
 |g::c,fs,t,b,A,hl,hn,hg,h=>by
  unfold ym at h
  induction q:qk a (Wc t g)with
  |none=>ext
  |some l=>
   rw[q]at h;let(e,i):=XM q;let f:=hg g Zqs;let:=NG (NC A f.2) i (F9 (NE A.row f.2)<|λz=>by
    let:=eE t g;rw[z,ZC]at this;let:=Nat.mul_pos (Jm.mpr hn)<|Jm.mpr f.1;lia) (λx j=>hg x<|Zqm _ j)<|by rwa[<-e]
   ext
def MT    (b:f ≠[]/\∀r∈f,JRow r)(c:∀g∈fs,g ≠[]/\∀r∈g,JRow r)(h:yW a f fs=!t):AllOk (f::fs) t/\(t.length:3)<=a/\t ≠[]:=by
 unfold yW at h
 induction q:qk a (Qg f)with
 |none=>ext
 |some j=>
  rw[q]at h;let(e,i):=XM q;exact NG (NB b.2) i (F9 b.2 b.1) c<|by rwa[<-e]
def iQ   (p:f ≠[]/\∀r∈f,JRow r)(c:∀g∈fs,g ≠[]/\∀r∈g,JRow r)(v:f.length<1000)(C:0<=most)(m2:most<=1000)(O:fs.length<=900)
 (sz:∀(i:5)(t g:J0),AllOk (f::fs.take i) t->(t.length:3)<=most->fs[i]?=!g->(Wb t g).length<1000/\t.length+g.length+t.length*g.length<=1000):
 yH [.lst ((f::fs).map jg),.int most]=yg (yW most f fs):=by
 let j:=Fz (rs:=f) (most:=most) (λr a=>(p.2 r a).ne) (λr a=>(p.2 r a).rise) λr a=>by let:=(p.2 r a).len;lia v C m2;let s:xh ((f::fs).map jg) 0=! jg f:=by
  rw[show(0:3)=((0:5):3)from 9,Xn ()];rfl
 let H:QB (jg f::fs.map jg) (!1) 8 8=fs.map jg:=by
  rw[Ni _ ()];rfl
 unfold yW
 induction q:qk most (Qg f)with
 |none=>
  rw[q]at j;let j:QY [jg f,.int most]=.ex "TooMany" []:=j;show _=Res.ex "TooMany" [];simp[yH,vu]at s ⊢;simp[s,j]
 |some m=>
  rw[q]at j;let(I,Q):=XM q;let j:QY [jg f,.int most]=.ok (jg m):=j;show _=yg (ym most m fs);let S:AllOk [f] m:=by rw[I];exact NB p.2
  let o:((xP (.one 03) (jG 2<|JB QY<|J1 (Q4 AR<|J1 (jb 2)<|J1 (jb 03) jc)<|J1 (jb 1) jc) (fs.map jg) [~~~(.lst<|(f::fs).map jg),~~~.int most,~~~jg m,8]).bind<|yz<|jJ<|jb 2).bind y8=yg (ym most m fs):=by
   refine Mr (R:=λz=>(z.bind<|yz<|jJ<|jb 2).bind y8=yg (ym most m fs)) (P:=λi sd=>∃(t:J0)(w:Option SV),sd=[~~~(.lst<|(f::fs).map jg),~~~.int most,~~~jg t,w]/\AllOk (f::fs.take i) t/\(t.length:3)<=most/\ym most t (fs.drop i)=ym most m fs) () ?_ ?_
   .rintro sd ⟨t,w,rfl,A,lt,l⟩;rw[Zql,Vh]at l;rw[<-l];simp[yg,ym]
   .intro i x sd J;calc j7 λt w=>qW λe A lt l=>?_;subst e;let(-g,n,rfl):=QV J;let E:=(Jb.mp n).1;let u:=Ue n;let(!L,M):=sz i t g A lt n;let F:=bh (f:=t) (g:=g) A.row (c g u).2 M;let b:=NA A.row (c g u).2;let h:=Fz (rs:=Wb t g) (most:=most) (λr a=>(b r a).ne) (λr a=>(b r a).rise) λr a=>by let:=(b r a).len;lia L C m2;rw[aD A.row (c g u).2]at h;let N:fs.drop i=g::fs.drop (i+1):=by
     rw[Uz E];rw[Zqg E]at n;rw[Zqi n]
    rw[N,NF]at l
    induction y:qk most (Wc t g)with
    |none=>
     rw[y]at h l;let h:QY [jg (Wb t g),.int most]=.ex "TooMany" []:=h;calc .inr ("TooMany",[],by simp[F,h],?_);rw[<-l];rfl
    |some B=>
     rw[y]at h l;let(G,v):=XM y;let h:QY [jg (Wb t g),.int most]=.ok (jg B):=h;calc .inl ([~~~(.lst<|(f::fs).map jg),~~~.int most,~~~jg B,~~~jg g],by simp[F,h],B,_,9,?_,by rw[G];calc v,l);rw[Wh n,G];exact NC A (c g u).2
  simp[yH,vu]at s o ⊢;simp[s,j,H,o]
def lD (b:g ≠[]):(Wb f g).length<=f.length*g.length+g.length:=by
 unfold Wb;rw[Ua,Ua,N9];let a:=CO (jZ g) f;let p:0<g.length:=by grind
 let d:=Vx (Zf (f.filter λr=>not<|jZ g r).length)<|Vy (λo=>not<|jZ f o) g;let e:=Nat.le_mul_of_pos_right (f.filter<|jZ g).length p
 grind[Nat.add_mul]
def uv:FS:=jJ<|jt Wp<|J1 (Qw [8,8,!1] (iS<|jb 0) (.tup [0,1])<|qN<|J1 (jb 0)<|J1 (jk jC (jb 1)<|jb 2) jc) jc
def vw:YC->Res D:=jT 2 2 uv
noncomputable def QL(r:Jz)(w:3):Jz:=r.map λp=>%[p.1|p.2+w]
def sC  (b:r.length<=1000):vw [j6 r,.int w]=.ok (j6<|QL r w):=by
 let a:qg (.tup [0,1]) (qN<|J1 (jb 0)<|J1 (jk jC (jb 1)<|jb 2) jc) [8,8,~~~.int w] (r.map qb)=.ok (r.map λp=>qb %[p.1|p.2+w]):=Kz λp c=>by
  rfl
 simp[vw,uv,j6,a,JQ b,QL]
def ur:FS:=jJ<|Qw [8,!1] (iS<|jb 0) (.one 0)<|JB vw<|J1 (jb 0)<|J1 (jb 1) jc
def zb:YC->Res D:=qz 2 2 ur
def JW(f:J0)(w:3):J0:=f.map λr=>QL r w
def uQ  (b:f.length<=1000)(c:∀r∈f,r.length<=1000):zb [jg f,.int w]=.ok (jg<|JW f w):=by
 let a:qg (.one 0) (JB vw<|J1 (jb 0)<|J1 (jb 1) jc) [8,~~~.int w] (f.map j6)=.ok (f.map λr=>j6<|QL r w):=Kz λr h=>by
  simp[sC (c r h)]
 let e:(JW f w).map j6=f.map λr=>j6<|QL r w:=by unfold JW;simp
 simp[zb,ur,jg,a,JQ b,e]
def CP:FS:=jJ<|JB yH<|J1 (Qw [8,8,!1] (iS<|jb 0) (.tup [0,1])<|Q4 zb<|J1 (jk jR (jb 2)<|jb 0)<|J1 (jb 1) jc)<|J1 (jb 2) jc
def K2:YC->Res D:=jT 03 03 CP
def qK(fs:List J0)(t:3):J0:=fs.getD t.toNat []
def CQ  (a:0<=t)(b:t<(fs.length:3)):qK fs t∈fs:=by
 simp_all[qK]
def NH  (a:0<=t)(b:t<(fs.length:3)):xh (fs.map jg) t=!(jg<|qK fs t):=by
 let(k,rfl):∃k:5,t=(k:3):=(t.toNat,());rw[Xn (by rw[Zql];lia),Zv];unfold qK;rw[Vb,Uh,Zqg ()];rfl
def iK{r:Jz} (c:∀p∈r,0<=p.1/\p.1<(fs.length:3))(e:∀f∈fs,f.length<=1000/\∀r∈f,r.length<=1000):
 qg (.tup [0,1]) (Q4 zb<|J1 (jk jR (jb 2)<|jb 0)<|J1 (jb 1) jc) [8,8,~~~(.lst<|fs.map jg)] (r.map qb)=.ok ((r.map λp=>JW (qK fs p.1) p.2).map jg):=by
 rw[Zw];exact Kz λp g=>by
  let(a,b):=c p g;let(h,i):=e _ (CQ a b);simp[NH a b,uQ h i]
def wH:FS:=jJ<|JB za<|J1 (Qw [8,!1,!2] (iS<|jb 0) (.one 0)<|JB K2<|J1 (jb 0)<|J1 (jb 1)<|J1 (jb 2) jc)<|J1 (jb 2) jc
def x5:YC->Res D:=qz 03 03 wH
def sA {fs:List J0}   (b:form.length<=100)
 (c:∀r∈form,K2 [j6 r,.lst (fs.map jg),.int most]=.ok (jg<|g r))(h:za [.lst ((form.map g).map jg),.int most]=.ok d):x5 [jg form,.lst (fs.map jg),.int most]=.ok d:=by
 let a:qg (.one 0) (JB K2<|J1 (jb 0)<|J1 (jb 1)<|J1 (jb 2) jc) [8,~~~(.lst<|fs.map jg),~~~.int most] (form.map j6)=.ok ((form.map g).map jg):=by
  rw[Zw];exact Kz λr h=>by
   ext
 let e:=JQ<|show form.length<=1000 from()
 simp_all[x5,wH]
def AS:FS:=jq (jG 2<|dC .non)<|jq (wo 2 "TooMany" x5 (J1 (jb 0)<|J1 (jb 1)<|J1 (dC<|.int 12) jc)<|jG 2<|dC .non)<|jJ<|jb 2
def XN:YC->Res D:=jT 03 2 AS
def WR(a:YC->HP->Res (D×HP)):qU:=b7 (wT<|J8<|jk xa (jb 1)<|dC<|.str "all") (x6<|JB yH<|J1 (jb 2)<|J1 (jb 03) jc)<|b7 (wT<|J8<|jk xa (jb 1)<|dC<|.str "first") (x6<|JB za<|J1 (jb 2)<|J1 (jb 03) jc)<|qY (wq (vO [04]<|J8<|jk (zO 6) (jb 1)<|jb 04) (AA (jb 04) (jb 1)<|xj wx (Qp a<|J1 (jb 0)<|J1 (jb 1)<|J1 (jb 03)<|J1 (jb 04) jc)<|x6<|jU zH<|dC<|.int 1) EQ)<|C0 x5<|Km (wU (jb 04)<|jb 1)<|Km (x6<|jb 2)<|Km (x6<|jb 03) Xm
def CS:FS:=jq (qq (iS<|jU (jz "Book" "plans")<|jb 0) (.one 2)<|qE (J8<|jk xa (jU (jz "Plan" "name")<|jb 2)<|jb 1) (jJ<|jb 2) JN) tW
def Xq:YC->Res D:=jT 03 2 CS
def NI   (l:asc x)(m:∀p∈a,asc p.name)(h:a.find? λp=>decide<|p.name=x=!p):Xq [JA a,.str x]=.ok (J5 p):=by
 let n:xP (.one 2) (qE (J8<|jk xa (jU (jz "Plan" "name")<|jb 2)<|jb 1) (jJ<|jb 2) JN) (a.map J5) [~~~JA a,~~~.str x,8]=.ok (.ret<|J5 p):=by
  refine BU (R:=λr=>r=.ok (.ret<|J5 p)) (P:=λi sd=>(∀q∈a.take i,decide (q.name=x)=7)/\∃u,sd=[~~~JA a,~~~.str x,u]) () (λsd(f,g)=>?_) λi d sd o(f,u,g)=>?_
  .grind
  .let(-q,b,rfl):=QV o;let s:q∈a:=by grind
   let e:=(λp t=>Kc (m p t) l) q s;let v:a.take (i+1)=a.take i++[q]:=by rw[UV,b];rfl
   induction c:decide (q.name=x)with
   |true=>
    rw[c]at e;refine .inr<|.inr (J5 q,?_,?_)
    .subst g;simp[e]
    .rw[Nj f b c]at h;cases h;rfl
   |false=>
    rw[c]at e;refine .inl ([~~~JA a,~~~.str x,~~~J5 q],.inl ?_,λy j=>?_,_,9)
    .subst g;simp[e]
    .rw[v]at j;rcases Jc.mp j with z|z
     .exact f y z
     .rwa[Jd.mp z]
 simp[Xq,CS,n]
def uZ:FS:=jJ<|qD<|J1 (qN<|J1 (qN<|J1 (jb 0)<|J1 (dC<|.int 0) jc) jc) jc
def zY:YC->Res D:=qz 1 1 uZ
@[simp]def sB(t:3):zY [.int t]=.ok (jg [[%[t|0]]]):=by
 rfl
def WS(a:YC->HP->Res (D×HP)):qU:=qY (yM<|jG 04<|Q4 Xq<|J1 (jb 0)<|J1 (jb 1) jc)<|qY (yM<|qp 05<|Qw [8] (vC<|J1 (jt jQ<|J1 (jU (jz "Plan" "givens")<|jb 04) jc) jc) (.one 0)<|Q4 zY<|J1 (jb 0) jc)<|qY (YQ (iS<|jU (jz "Plan" "rows")<|jb 04) (.tup [06,07,08])<|Kl (yM<|jG 09<|WL [8,8,!05] 2 (iS<|jb 08) (.tup [0,1])<|Q4 zb<|J1 (Kk 2<|jb 0)<|J1 (jb 1) jc)<|KM 05<|Qp a<|J1 (jb 0)<|J1 (jb 07)<|J1 (jb 09)<|J1 (jb 2)<|J1 (jb 03) jc)<|zU 05<|x6<|jb 05
def Qt:5->YC->HP->Res (D×HP)
 |0=>λ_ _=>.no
 |n+1=>Qy 10 04 (WS<|Qy 05 05<|WR<|Qt n)
def Qh(n:5):YC->HP->Res (D×HP):=Qy 05 05<|WR<|Qt n
def upF(f:J0)(q:Jz):4:=∃x∈f,JI x q=6
structure Cn(f:J0):4 where
 ne:f ≠[]
 rows:∀r∈f,JRow r
 thin:Qg f=f
def Cn.anti (C:Cn f):∀r∈f,∀s∈f,JI r s=6->r=s:=by
 let h:=F8 (rs:=f)
 rwa[C.thin]at h
def Cn.strict (C:Cn f):f.Pairwise λa b=>jH a b=6:=by
 let h:=Wx f
 rwa[C.thin]at h
theorem FB(w:3):∀(r:Jz)(t:3),JC (QL r w) t=(JC r t).map (·+w)
 |[],_=>9
 |p::r,t=>by
  let a:=FB w r t;show(match JC (QL r w) t with|some v=>!v|none=>if p.1=t then ! p.2+w else 8)=Option.map _ (match JC r t with|some v=>!v|none=>if p.1=t then !p.2 else 8)
  grind
def iA(r:Jz)(w:3):QL (QL r w) (-w)=r:=by
 unfold QL;rw[Zw];refine(UO λp _=>?_).trans<|List.map_id r
 grind
def iM  :JI (QL r w) q=6↔JI r (QL q<|-w)=6:=by
 rw[z9,z9];constructor
 .intro h p a;let(-u,c,l):=h %[p.1|p.2+w] (Ja.mpr (p,a,9))
  grind[FB]
 .intro h p a;let(-f,b,rfl):=Ja.mp a;let(-u,c,l):=h f b;rw[FB]at c
  induction e:JC q f.1 with
  |none=>ext
  |some v=>
   grind
theorem NJ(w:3):∀a b:Jz,jH (QL a w) (QL b w)=jH a b
 |[],[]=>9
 |[],_::_=>9
 |_::_,[]=>9
 |p::a,q::b=>by
  show jH (%[p.1|p.2+w]::QL a w) (%[q.1|q.2+w]::QL b w)=_;rw[W5,W5,NJ w a b];by_cases h:p=q
  .rw[Zd h,h,Zd 9]
  .rw[Ze h,Ze λz=>h ?_]
   .simp_all[qs]
   grind
def iz (h:r ≠[])(w:3)(a:Yf):QH (QL r w) a=QH r a+w:=by
 unfold QH QL;rw[<-aa λz=>h<|Jh.mp z,Zw,Zw]
 congr 1
 refine UO λp _=>?_
 grind
def eD{n:3}   (A:AllOk fs t)(F:t ≠[])(G:fs ≠[])(v:∀f∈fs,f ≠[]/\∀r∈f,r ≠[]/\jE r/\∀p∈r,0<=p.1/\p.1<12):JE t hs=xu (fs.map λf=>JE f hs):=by
 let i:∀{r:Jz},r ≠[]->∀p∈r,jY hs p.1+p.2<=QH r hs:=λ{r}j p g=>(Xy (l:=r.map λp=>jY hs p.1+p.2)<|λz=>j<|Jh.mp z).2 _<|Ja.mpr (p,g,9);let o:∀{r:Jz}{M:3},r ≠[]->(∀p∈r,jY hs p.1+p.2<=M)->QH r hs<=M:=λ{r M}j h=>by
  let(m,_):=Xy (l:=r.map λp=>jY hs p.1+p.2) λz=>j<|Jh.mp z;let(-p,g,e):=Ja.mp m;let:=h p g;let e:jY hs p.1+p.2=QH r hs:=e;lia
 let(H,m2):=Xy (l:=fs.map λf=>JE f hs) λz=>G<|Jh.mp z;let m2:∀f∈fs,JE f hs<=xu (fs.map λf=>JE f hs):=λf h=>m2 _<|Ja.mpr (f,h,9);let(-x,u,y):=Ja.mp H;let y:JE x hs=xu (fs.map λf=>JE f hs):=y;generalize xu (fs.map λf=>JE f hs)=M at m2 y;let(-r,j,Q):=Xo (hs:=hs) F;let lo:M<=JE t hs:=by
  let(-s,c,B):=A.abv r j x u;let I:=WM (hs:=hs) c;let J:QH s hs<=QH r hs:=o ((v x u).2 s c).1 λp g=>by
   let(w,C,L):=z9.mp B p g;let:=i (A.row r j).ne %[p.1|w]<|Qq C;let this:jY hs p.1+w<=QH r hs:=this;lia
  lia
 let(-q,E,B):=A.least ((List.range 12).map λk:5=>%[(k:3)|M-jY hs (k:3)]) λf h=>by
  let(-s,c,R):=Xo (hs:=hs) (v f h).1;let(!N,S,O):=(v f h).2 s c;refine(s,c,z9.mpr λp g=>(M-jY hs p.1,?_,?_))
  .let P:jE ((List.range 12).map λk:5=>%[(k:3)|M-jY hs (k:3)]):=by
    unfold jE;rw[Zw];unfold List.Nodup;rw[UQ];exact List.nodup_range (n:=12).imp λ{a b}h e=>h<|by let e:(a:3)=(b:3):=e;lia
   let b:=O p g;exact P.look<|Ja.mpr (p.1.toNat,Je.mpr (),by rw[show((p.1.toNat:5):3)=p.1 by lia])
  .let a:=i N p g;let b:=m2 f h;lia
 let I:=WM (hs:=hs) E;let J:QH q hs<=M:=o (A.row q E).ne λp g=>by
  let(-w,C,L):=z9.mp B p g;let(-k,T,U):=Ja.mp (Qq C)
  grind
 lia
theorem NK{α:Type} {f:FE} {k:α->D}  :∀{a:List α},(∀x∈a,(∃v,(JS b (k x) c).bind f=.ok v)\/(JS b (k x) c).bind f=.ex n g)->(∃x∈a,(JS b (k x) c).bind f=.ex n g)->qg b f c (a.map k)=.ex n g
 |[],_,(_,h,_)=>nomatch h
 |x::a,h,(y,hy,e)=>by
  let i:qg b f c ((x::a).map k)=((JS b (k x) c).bind f).bind λv=>(qg b f c<|a.map k).bind λj=>.ok<|v::j:=9;rw[i];rcases h x Zqs with ⟨v,q⟩|q
  .rw[q,NK (λz l=>h z<|Zqm _ l) ?_]
   .rfl
   grind
  ext
def iF   (q:Cn f/\f.length<=64)(s:∀g∈fs,Cn g/\g.length<=64)(C:0<=a)(m2:a<=60)(I:fs.length<=900):
 za [.lst ((f::fs).map jg),.int a]=yg (wh a f fs):=by
 let v:∀{rs:J0},(∀r∈rs,JRow r)->rs.length<=200->QY [jg rs,.int a]=yg (qk a<|Qg rs):=λ{rs}h l=>Fz (λr j=>(h r j).ne) (λr j=>(h r j).rise) λr j=>by let:=(h r j).len;lia () C ();let m:=v (rs:=f) q.1.rows ();rw[q.1.thin]at m;let o:xh ((f::fs).map jg) 0=! jg f:=by
  rw[show(0:3)=((0:5):3)from 9,Xn ()];rfl
 let E:QB (jg f::fs.map jg) (!1) 8 8=fs.map jg:=by
  rw[Ni _ ()];rfl
 by_cases w:(f.length:3)<=a
 .rw[CL w]at m;let m:QY [jg f,.int a]=.ok (jg f):=m;let n:((xP (.one 03) (λsd=>(qp 2<|JB QY<|J1 (jk jC (jb 2)<|jb 03)<|J1 (jb 1) jc)<|qM [2] sd) (fs.map jg) [~~~(.lst<|(f::fs).map jg),~~~.int a,!(.own 7<|jg f),8]).bind<|yz<|K4 2).bind zF=yg (wh a f fs):=by
   refine Mr (R:=λz=>(z.bind<|yz<|K4 2).bind zF=yg (wh a f fs)) (P:=λi sd=>∃(t:J0)(u:Option SV),sd=[~~~(.lst<|(f::fs).map jg),~~~.int a,!(.own 7<|jg t),u]/\(∀r∈t,JRow r)/\(t.length:3)<=a/\wh a t (fs.drop i)=wh a f fs) (f,8,9,q.1.rows,w,9) ?_ ?_
   .rintro sd ⟨t,u,rfl,T,lt,e⟩;rw[Zql,Vh]at e;rw[<-e];show _=yg (qk a t);rw[CL lt];rfl
   .rintro i x sd F ⟨t,u,rfl,T,lt,e⟩;let(-g,p,rfl):=QV F;let y:=(Jb.mp p).1;let(!G,J):=s g (Ue p);let A:=pU (f:=t) (g:=g) ();let B:∀r∈t++g,JRow r:=λr j=>(Jc.mp j).elim (λz=>T r z) λz=>G.rows r z;let b:=v (rs:=t++g) B (by rw[Ua];lia);let H:fs.drop i=g::fs.drop (i+1):=by
     rw[Uz y];rw[Zqg y]at p;rw[Zqi p]
    rw[H]at e;let e:(qk a t).bind (λ_=>wh a (yc t g)<|fs.drop<|i+1)=wh a f fs:=e;rw[CL lt]at e;let e:wh a (yc t g) (fs.drop<|i+1)=wh a f fs:=e;by_cases c:((yc t g).length:3)<=a
    .let b:QY [jg (t++g),.int a]=.ok (jg<|yc t g):=by
      rw[b];show yg (qk a<|yc t g)=_;rw[CL c];rfl
     exact .inl ([~~~(.lst<|(f::fs).map jg),~~~.int a,!(.own 7<|jg<|yc t g),~~~jg g],by simp[A,b],yc t g,_,9,λr j=>B r (yu.mp j).1,c,e)
    .let no:qk a (yc t g)=8:=Ze c;let b:QY [jg (t++g),.int a]=.ex "TooMany" []:=by
      rw[b];show yg (qk a<|yc t g)=_;rw[no];rfl
     calc .inr ("TooMany",[],by simp[A,b],?_);rw[<-e,N5 no];rfl
  simp[za,vv]at o n ⊢;simp[o,m,E,n]
 .rw[N6 ()]at m;let m:QY [jg f,.int a]=.ex "TooMany" []:=m;rw[N5 (N6 ())];show _=Res.ex "TooMany" [];simp[za,vv]at o ⊢;simp[o,m]
def aj (A:Cn a)(B:Cn b)(hs:Yf):Cn (yc a b)/\JE (yc a b) hs<=JE a hs/\JE (yc a b) hs<=JE b hs/\(JE (yc a b) hs=JE a hs\/JE (yc a b) hs=JE b hs):=by
 let c:=λr g=>(Jc.mp g).elim (A.rows r)<|B.rows r;let ne:a++b ≠[]:=λz=>A.ne (Jv.mp z).1;refine((F9 c ne,λr g=>c r (yu.mp g).1,ND (λr g=>c r (yu.mp g).1) c<|λq=>by
  constructor
  .rintro⟨x,h,i⟩;exact(x,(yu.mp h).1,i)
  .rintro⟨x,h,i⟩;let(-s,hs,j):=YT (λr g=>((c r g).once,(c r g).rise)) h;calc(s,hs,KE j i)),?_)
 unfold yc;rw[ir ne λr g=>((c r g).ne,(c r g).once,(c r g).rise)];let(-r,g,e):=Xo (hs:=hs) A.ne;let(-s,l,n):=Xo (hs:=hs) B.ne;let o:=WM (hs:=hs)<|Vn b g;let p:=WM (hs:=hs)<|Uo a l;let(-q,m,t):=Xo (f:=a++b) (hs:=hs) λz=>A.ne (Jv.mp z).1;calc((),(),?_);rcases Jc.mp m with z|z
 .let:=WM (hs:=hs) z;exact .inl ()
 .let:=WM (hs:=hs) z;lia
theorem NL(a:Yf):∀(b:List J0)(t:J0),Cn t->(∀g∈b,Cn g)->Cn (b.foldl yc t)/\(JE (b.foldl yc t) a=JE t a\/∃g∈b,JE (b.foldl yc t) a=JE g a)/\JE (b.foldl yc t) a<=JE t a/\∀g∈b,JE (b.foldl yc t) a<=JE g a
 |[],t,T,_=>(T,.inl 9,Vc _,λ_ h=>nomatch h)
 |g::b,t,T,G=>by
  let(!e,f,i,j):=aj T (G g Zqs) a;let(!c,l,m,n):=NL a b (yc t g) e ()
  grind
theorem NM{P:Jz->4}:∀(a:List J0)(t:J0),(∀r∈t,P r)->(∀g∈a,∀r∈g,P r)->∀r∈a.foldl yc t,P r
 |[],_,h,_=>h
 |g::a,t,h,k=>NM a (yc t g) (λr b=>(Jc.mp (yu.mp b).1).elim (h r)<|k g Zqs r) λx c=>k x<|Zqm _ c
theorem NN :∀(b:List J0)(t c:J0),ym a t b=!c->c=b.foldl Wc t
 |[],_,_,h=>(Zqi h).symm
 |g::b,t,c,h=>by
  rw[NF]at h
  induction q:qk a (Wc t g)with
  |none=>ext
  |some e=>
   rw[q]at h;rw[U8,<-(XM q).1];exact NN b e c h
def pM    (h:yW a f fs=!t):t=fs.foldl Wc (Qg f):=by
 unfold yW at h
 induction q:qk a (Qg f)with
 |none=>ext
 |some b=>
  rw[q]at h;rw[<-(XM q).1];exact NN fs b t h
theorem NO :∀(c:List J0)(t b:J0),wh a t c=!b->b=c.foldl yc t/\(b.length:3)<=a
 |[],t,b,h=>by
  let(e,l):=XM h
  ext
 |g::c,t,b,h=>by
  let h:(qk a t).bind (λ_=>wh a (yc t g) c)=!b:=h
  induction q:qk a t with
  |none=>ext
  |some f=>
   rw[q]at h;exact NO c (yc t g) b h
def am (f:JRow a)(g:JRow b):∀p∈QK a b,p∈a\/p∈b:=λp i=>by
 let c:=(Z3 f g).once.look i;rw[CN f.once g.once]at c
 induction q1:JC a p.1 with
 |some w=>
  induction e:JC b p.1 with
  |some v=>
   rw[q1,e]at c;let h:=Qq q1;let m2:=Qq e;let c:some (if w>v then w else v)=!p.2:=c
   grind
  |none=>
   rw[q1,e]at c;let h:=Qq q1;rw[Zqi c]at h
   ext
 |none=>
  cases e:JC b p.1 with
  |some v=>
   rw[q1,e]at c;let m2:=Qq e;rw[Zqi c]at m2
   ext
  |none=>rw[q1,e]at c;cases c
theorem NP{Q:3×3->4}:∀(c:List J0)t,(∀r∈t,JRow r/\∀p∈r,Q p)->(∀g∈c,∀r∈g,JRow r/\∀p∈r,Q p)->∀r∈c.foldl Wc t,∀p∈r,Q p
 |[],t,ht,_=>λr e=>(ht r e).2
 |g::c,t,ht,hg=>NP c (Wc t g) (λr e=>by
  let(-a,i,(b,j,rfl)):=vI.mp (yu.mp e).1;let(f,l):=ht a i;let(h,m):=hg g Zqs b j;calc(Z3 f h,λp n=>(am f h p n).elim (l p)<|m p)) λx o=>hg x<|Zqm _ o
structure Tf(n:5)(W:3)(t:J0):4 where
 cn:Cn t
 len:t.length<=12
 th:∀r∈t,∀p∈r,p.1<(n:3)/\-W<=p.2/\p.2<=W
def Tf.row   (T:Tf n W t):∀r∈t,JRow r/\∀p∈r,p.1<(n:3)/\-W<=p.2/\p.2<=W:=λr c=>(T.cn.rows r c,T.th r c)
def Tf.mono {W V:3} (T:Tf n W t)(h:W<=V):Tf n V t:=(T.cn,T.len,λr c p e=>by let:=T.th r c p e;lia)
def Tf.wait {W V:3} (T:Tf n W t) (y:-V<=w/\w<=V):Tf n (W+V) (JW t w):=by
 refine(by
  refine(λz=>T.cn.ne<|Jh.mp z,λr l=>?_,Xb yI (Wx _) ?_ λr=>(λh=>(yu.mp h).1,λh=>yu.mpr (h,vG.mpr λo v j=>?_)))
  .let(f,c,rfl):=Ja.mp l;let h:=T.cn.rows f c;refine(λz=>h.ne<|Jh.mp z,?_,λp q=>?_)
   .let e:(QL f w).map (·.1)=f.map (·.1):=by
     unfold QL;simp
    unfold xp;rw[e];exact h.rise
   .let(s,i,rfl):=Ja.mp q;exact h.bnd s i
  .unfold JW;rw[UQ];exact T.cn.strict.imp λ{a b}h=>by rwa[NJ]
  .let(-x,u,rfl):=Ja.mp v;let(-f,c,rfl):=Ja.mp h;let j:=iM.mp j;rw[iA]at j;rw[T.cn.anti x u f c j],?_,λr l p q=>?_)
 .unfold JW;rw[Zql];exact T.len
 .let(f,c,rfl):=Ja.mp l;let(s,i,rfl):=Ja.mp q;let:=T.th f c s i;lia
def Tf.comes   (T:Tf n W t)(w)(c):JE (JW t w) c=JE t c+w:=by
 unfold JE JW;rw[<-af λz=>T.cn.ne<|Jh.mp z,Zw,Zw]
 congr 1
 exact UO λr e=>iz ((λr e=>(T.cn.rows r e).ne) r e) w c
def Qu:Res D:=.ex "TooMany" []
def NQ   (ne:fs ≠[])(h:∀g∈fs,Tf n W g)(l:fs.length<=100):yH [.lst (fs.map jg),.int 12]=Qu\/∃t,yH [.lst (fs.map jg),.int 12]=.ok (jg t)/\Tf n W t/\∀j,JE t j=xu (fs.map λg=>JE g j):=by
 induction fs with
 |nil=>calc Zn 9 ne
 |cons f fs=>
  let c:=h f Zqs;let b:∀g∈fs,Tf n W g:=by grind
  let l:fs.length+1<=100:=l;let x:=c.len;let A:=iQ (most:=12) (c.cn.ne,c.cn.rows) (λg a=>((b g a).cn.ne,(b g a).cn.rows)) () () () () λi t g _ lt a=>by
   let G:=b g<|Ue a;let u:=G.len;let e:=lD (f:=t) G.cn.ne;let lt:t.length<=12:=()
   let m:=Vx lt u;lia
  rw[A]
  induction q:yW 12 f fs with
  |none=>calc .inl 9
  |some t=>
   calc .inr (t,9,?_);let(!A,lt,s):=MT (c.cn.ne,c.cn.rows) (λg a=>((b g a).cn.ne,(b g a).cn.rows)) q;let e:=pM q;rw[c.cn.thin]at e;calc(((s,A.row,Xb yI (Wx _) A.strict λr=>(λh=>(yu.mp h).1,λh=>yu.mpr (h,vG.mpr λo v w=>A.anti o v r h w))),(),?_),λj=>eD (n:=0) A s () λg a=>((h g a).cn.ne,λr p=>(((h g a).cn.rows r p).ne,((h g a).cn.rows r p).once,((h g a).cn.rows r p).bnd)));rw[e];exact NP fs f c.row λg a=>(b g a).row
def NR   (ne:fs ≠[])(h:∀g∈fs,Tf n W g)(l:fs.length<=100):za [.lst (fs.map jg),.int 12]=Qu\/∃t,za [.lst (fs.map jg),.int 12]=.ok (jg t)/\Tf n W t/\∀c,JE t c=yh (fs.map λg=>JE g c):=by
 induction fs with
 |nil=>calc Zn 9 ne
 |cons f fs=>
  let i:=h f Zqs;let a:=λg b=>h g<|Zqm _ b;let l:fs.length+1<=100:=l;let j:=i.len;rw[iF (i.cn,()) (λg b=>((a g b).cn,by let:=(a g b).len;lia)) () () ()]
  induction q:wh 12 f fs with
  |none=>calc .inl 9
  |some t=>
   calc .inr (t,9,?_);let(!e,lt):=NO fs f t q;let C:=λc=>NL c fs f i.cn λg b=>(a g b).cn;rw[<-e]at C;refine(((C []).1,(),?_),λc=>?_)
   .rw[e];exact NM fs f i.th λg b=>(a g b).th
   .refine DB ?_ λy m=>?_
    .grind
    grind
def aA  (b:0<=t)(c:t<(fs.length:3))(a:Yf):jY (fs.map λg=>JE g a) t=JE (qK fs t) a:=by
 simp_all[jY,qK]
def FC {W V:3} (f:∀g∈T,Tf n W g) (h:∀p∈its,0<=p.1/\p.1<(T.length:3))(i:∀p∈its,-V<=p.2/\p.2<=V):(∀g∈its.map λp=>JW (qK T p.1) p.2,Tf n (W+V) g)/\∀a,(its.map λp=>JW (qK T p.1) p.2).map (λg=>JE g a)=x8 (T.map λg=>JE g a) its:=by
 refine(λg j=>?_,λa=>?_)
 .let(-p,b,rfl):=Ja.mp j;let(c,e):=h p b;exact(f _<|CQ c e).wait<|i p b
 .rw[Zw];calc UO λp b=>?_;let(c,e):=h p b;show JE (JW (qK T p.1) p.2) a=_;rw[(f _<|CQ c e).comes,aA c e]
def iI {W V:3}{fs:List J0} (a:JRow r)(b:∀p∈r,p.1<(fs.length:3)/\-V<=p.2/\p.2<=V)(h:∀g∈fs,Tf n W g):K2 [j6 r,.lst (fs.map jg),.int 12]=Qu\/∃t,K2 [j6 r,.lst (fs.map jg),.int 12]=.ok (jg t)/\Tf n (W+V) t/\∀j,JE t j=QH r (fs.map λg=>JE g j):=by
 let m:=λp i=>(b p i).2;let b:∀p∈r,0<=p.1/\p.1<(fs.length:3):=λp i=>((a.bnd p i).1,(b p i).1);let v:=a.len;let(o,q):=FC h b m;let s:∀f∈fs,f.length<=1000/\∀r∈f,r.length<=1000:=λf l=>(by let:=(h f l).len;lia,λr a=>by let:=((h f l).cn.rows r a).len;lia);let c:=iK b s;let e:K2 [j6 r,.lst (fs.map jg),.int 12]=yH [.lst ((r.map λp=>JW (qK fs p.1) p.2).map jg),.int 12]:=by
  generalize(r.map λp=>JW (qK fs p.1) p.2).map jg=u at c;simp[K2,CP,c,JQ<|show r.length<=1000 from()]
  induction yH [D.lst u,D.int 12]<;>rfl
 rw[e];rcases NQ (λz=>a.ne<|Jh.mp z) o ()with z|⟨t,z1,z2,z3⟩
 .exact .inl z
 .calc .inr (t,z1,z2,λj=>?_);rw[z3,q];rfl
def FF {W V:3} {fs:List J0}(F:Tf m V form)(l:fs.length=m)(h:∀g∈fs,Tf n W g):x5 [jg form,.lst (fs.map jg),.int 12]=Qu\/∃t,x5 [jg form,.lst (fs.map jg),.int 12]=.ok (jg t)/\Tf n (W+V) t/\∀e,JE t e=JE form (fs.map λg=>JE g e):=by
 let R:∀r∈form,_:=λr a=>iI (n:=n) (fs:=fs) (V:=V) (F.cn.rows r a) (by rw[l];calc F.th r a) h;let s:=F.len;let f:∀r,(JS (.one 0) (j6 r) [8,~~~(.lst<|fs.map jg),~~~.int 12]).bind (JB K2<|J1 (jb 0)<|J1 (jb 1)<|J1 (jb 2) jc)=K2 [j6 r,.lst (fs.map jg),.int 12]:=λr=>by
  simp
 by_cases c:∃r∈form,K2 [j6 r,.lst (fs.map jg),.int 12]=Qu
 .left;let b:qg (.one 0) (JB K2<|J1 (jb 0)<|J1 (jb 1)<|J1 (jb 2) jc) [8,~~~(.lst<|fs.map jg),~~~.int 12] (form.map j6)=.ex "TooMany" []:=by
   refine NK (λr a=>?_) ?_
   .rw[f];rcases R r a with z|⟨t,z,_⟩
    .exact .inr z
    .exact .inl (_,z)
   .let(r,a,z):=c;exact(r,a,by rw[f];calc z)
  let i:=JQ<|show form.length<=1000 from();simp[x5,wH,b,i,Qu]
 .let o:∀r,∃t,r∈form->K2 [j6 r,.lst (fs.map jg),.int 12]=.ok (jg t)/\Tf n (W+V) t/\∀e,JE t e=QH r (fs.map λg=>JE g e):=λr=>by
   by_cases a:r∈form
   .rcases R r a with z|⟨t,z⟩
    .exact by grind
    .exact(t,λ_=>z)
   .exact([],λz=>Zn z a)
  let(G,j):=Classical.axiomOfChoice o;let p:=λd=>sA (form:=form) (fs:=fs) (most:=12) (g:=G) (d:=d) () λr a=>(j r a).1;let q:∀g∈form.map G,Tf n (W+V) g:=by grind
  let b:qg (.one 0) (JB K2<|J1 (jb 0)<|J1 (jb 1)<|J1 (jb 2) jc) [8,~~~(.lst<|fs.map jg),~~~.int 12] (form.map j6)=.ok ((form.map G).map jg):=by
   rw[Zw];exact Kz λr h=>by
    rw[f];exact(j r h).1
  let i:=JQ<|show form.length<=1000 from();rcases NR (λz=>F.cn.ne<|Jh.mp z) q (by rw[Zql];lia)with z|⟨t,z1,z2,z3⟩
  .left;generalize(form.map G).map jg=u at b z;simp[x5,wH,b,i,z,Qu]
  .calc .inr (t,p _ z1,z2,λe=>?_);rw[z3,Zw]
   congr 1
   exact UO ()
def WT    (h:f sd=.ok b):wT f sd a=.ok %[b|a]:=by
 simp_all[wT]
def CT{n ar:5}{g:qU}   {x:Res D} (h:b.length=ar)(f:g (JX n b) [%[a|d]]=x.bind λt=>.ok %[t|[%[a|e]]]):Qy n ar g b [%[a|d]]=x.bind λt=>.ok %[t|[%[a|e]]]:=by
 unfold Qy;rw[Zd h,f]
 induction x with
 |ok t=>calc Zd 9
 |ex c i=>rfl
 |no=>rfl
def FH{n ar:5}     (h:a.length=ar)(f:g (JX n a) b=.ex c e):Qy n ar g a b=.ex c e:=by
 simp_all[Qy]
def vP(a b c d e):JX 05 [a,b,c,d,e]=[~~~a,~~~b,~~~c,~~~d,~~~e]:=rfl
def NS (bk d e)(a):Qh n [bk,.str "all",d,.int 12,.adr a] [%[a|e]]=(yH [d,.int 12]).bind λt=>.ok %[t|[%[a|e]]]:=by
 calc CT 9 ?_;rw[vP];unfold WR;rw[WO,WT (b:=6) (by simp[Fl]),jh,Zd 9];simp
def NT (bk d e)(a):Qh n [bk,.str "first",d,.int 12,.adr a] [%[a|e]]=(za [d,.int 12]).bind λt=>.ok %[t|[%[a|e]]]:=by
 calc CT 9 ?_;rw[vP];unfold WR;rw[WO,WT (b:=7) (by simp[Fn]),jh,Ze (),WO,WT (b:=6) (by simp[Fo]),jh,Zd 9];simp
theorem NU :∀{a:List jI},q∉a->yR q a=7
 |[],_=>9
 |k::a,h=>by
  show(decide (k=q)||yR q a)=7;rw[NU λz=>h<|Zqm _ z,Zo λz=>h ()];rfl
theorem NV  :∀{a:List jI}{b:YC},a.length=b.length->q∉a->jS (a++[q]) (b++[d]) q=!d
 |[],[],_,_=>Zd 9
 |[],_::_,h,_=>by cases h
 |_::_,[],h,_=>by cases h
 |k::a,e::b,h,hq=>by
  show(if k=q then !e else jS (a++[q]) (b++[d]) q)=_;rw[Ze λz=>hq ()];exact NV (UL h) ()
def pT       (g:e sd=.ok (.adr a))(h:f sd=.ok (.str how))(i:jS b c (.inr how)=!z):wU e f sd [%[a|.dct b c]]=.ok %[z|[%[a|.dct b c]]]:=by
 simp_all[wU,YV]
def NW      (e:jS b c (.inr how)=!z):C0 x5 (Km (wU (jb 04)<|jb 1)<|Km (x6<|jb 2)<|Km (x6<|jb 03) Xm) [~~~bk,~~~.str how,~~~d,~~~.int 12,~~~.adr a] [%[a|.dct b c]]=(x5 [z,d,.int 12]).bind λt=>.ok %[t|[%[a|.dct b c]]]:=by
 unfold C0;rw[aT,pT 9 9 e,jh];simp
def FI     :vO [04] (J8<|jk (zO 6) (jb 1)<|jb 04) [~~~bk,~~~.str how,~~~d,~~~.int 12,~~~.adr a] [%[a|.dct b c]]=.ok (not<|(jS b c<|.inr how).isSome):=by
 let e:derI [%[a|.dct b c]] [04] [~~~bk,~~~.str how,~~~d,~~~.int 12,~~~.adr a]=[~~~bk,~~~.str how,~~~d,~~~.int 12,~~~.dct b c]:=by
  simp_all[der,YV]
 unfold vO;rw[e];rfl
def gU   (c:asc how)(h:how ≠"all")(i:how ≠"first")    (e:jS f g (.inr how)=!z):Qh n [bk,.str how,d,.int 12,.adr a] [%[a|.dct f g]]=(x5 [z,d,.int 12]).bind λt=>.ok %[t|[%[a|.dct f g]]]:=by
 calc CT 9 ?_;rw[vP];unfold WR;rw[WO,WT (b:=7) (by simp[Kc c WP,h]),jh,Ze (),WO,WT (b:=7) (by simp[Kc c WQ,i]),jh,Ze ()];exact wX (N0 (by rw[FI,e];rfl) 9)<|NW e
def NX   (g:asc how)(j:how ≠"all")(m:how ≠"first")   (o:jS ks ds (.inr how)=8)  (h:Qt n [bk,.str how,.int 12,.adr a] [%[a|.dct ks ds]]=.ok %[.lst ((ys++[t]).map jg)|[%[a|.dct ks' ds']]])(p:ks'.length=ds'.length)(i:.inr how∉ks')(l:ks'.length<=1000):
 Qh n [bk,.str how,d,.int 12,.adr a] [%[a|.dct ks ds]]=(x5 [jg t,d,.int 12]).bind λz=>.ok %[z|[%[a|.dct (ks'++[.inr how]) (ds'++[jg t])]]]:=by
 let q:=Kc g WP;let r:=Kc g WQ;let c:=YX (f:=jg) ys t;let e:=NV (d:=jg t) p i;let u:=JQ l;let v:=NU i;calc CT 9 ?_;rw[vP];unfold WR;rw[WO,WT (b:=7) (by simp[q,j]),jh,Ze (),WO,WT (b:=7) (by simp[r,m]),jh,Ze ()];calc wX (sd':=[~~~bk,~~~.str how,~~~d,~~~.int 12,~~~.adr a]) (hp':=[%[a|.dct (ks'++[.inr how]) (ds'++[jg t])]]) (Nz (by rw[FI,o];rfl) ?_)<|NW e;show AA _ _ _ [~~~bk,~~~.str how,~~~d,~~~.int 12,~~~.adr a] _=_;unfold AA;let w:xj wx (Qp (Qt n)<|J1 (jb 0)<|J1 (jb 1)<|J1 (jb 03)<|J1 (jb 04) jc) (x6<|jU zH<|dC<|.int 1) [~~~bk,~~~.str how,~~~d,~~~.int 12,~~~.adr a] [%[a|.dct ks ds]]=.ok %[jg t|[%[a|.dct ks' ds']]]:=by
  generalize(ys++[t]).map jg=s at h c;let c:wx (.lst s) (.int<|-1)=! jg t:=c;simp[h,c]
 simp_all[MY,KZ,Wo,YV,pz]
def NY   (e:asc how)(h:how ≠"all")(i:how ≠"first")   (l:jS f g (.inr how)=8)  (m:Qt n [bk,.str how,.int 12,.adr a] [%[a|.dct f g]]=.ex c j):
 Qh n [bk,.str how,d,.int 12,.adr a] [%[a|.dct f g]]=.ex c j:=by
 calc FH 9 ?_;rw[vP];unfold WR;rw[WO,WT (b:=7) (by simp[Kc e WP,h]),jh,Ze (),WO,WT (b:=7) (by simp[Kc e WQ,i]),jh,Ze (),AG]
 simp_all[AA,FI]
theorem NZ :∀{a:List Rw},(∀r∈a,∀f,qy rc f r=qy b f r)->∀c,jP rc a c=jP b a c
 |[],_,_=>9
 |r::a,h,c=>by
  show jP rc a (c++[qy rc c r])=jP b a (c++[qy b c r]);rw[h r Zqs];exact NZ () _
def BkP.fuel (B:BkP c):∀j n q,c[j]?=!q->j<n->∀e,xl c n q e=xl c (j+1) q e:=by
 intro j
 induction j using Nat.strongRecOn with
 |ind j l=>
  intro n q o u e;let(i,rfl):∃i,n=i+1:=(n-1,());rw[Fs,Fs];calc NZ (λr p f=>?_) e;let(k,s):=Ji.mp p;unfold qy;rcases B.how o s with z|z|⟨_,z1,z2,j2,q2,z3,z4,z5,_⟩
  .ext
  .ext
  .rw[Ze z1,Ze z2,Ze z1,Ze z2,z5];unfold qJ;rw[B.find z4];show(xl c i q2 _).getLastD 0=(xl c j q2 _).getLastD 0;rw[l j2 z3 i q2 z4 (),l j2 z3 j q2 z4 ()]
def BkP.rc (B:BkP c)  (e:c[j]?=!q)(h:j<n)(f):qJ c n q.name f=qJ c (j+1) q.name f:=by
 unfold qJ;rw[B.find e];show(xl c n q _).getLastD 0=(xl c (j+1) q _).getLastD 0;rw[B.fuel j n q e h]
abbrev Kn:=List<|Str×J0
def kD(K:Kn):D:=.dct (K.map λx=>.inr x.1)<|K.map λx=>jg x.2
theorem gY(x:Str):∀K:Kn,jS (K.map λx=>.inr x.1) (K.map λx=>jg x.2) (.inr x)=8/\x∉K.map (·.1)\/∃f,%[x|f]∈K/\jS (K.map λx=>.inr x.1) (K.map λx=>jg x.2) (.inr x)=! jg f
 |[]=>.inl (9,λz=>nomatch z)
 |y::K=>by
  rw[Zl,Zl,Eg];by_cases c:y.1=x
  .grind
  .rcases gY x K with ⟨a,b⟩|⟨f,a,b⟩
   .grind
   grind
def wB:5->3
 |0=>1000000000000000000000000000000
 |j+1=>24*wB j
theorem AT:∀j,1000000000000000000000000000000<=wB j
 |0=>Vc _
 |j+1=>by let:=AT j;show _<=24*wB j;lia
theorem Oa:∀{i j:5},i<=j->wB i<=wB j
 |i,0,h=>by rw[Nat.le_zero.mp h];calc Vc _
 |i,j+1,h=>by
  let p:=AT j;rcases U4 j i with z|z
  .rw[show i=j+1 by lia];exact Vc _
  .let:=Oa z;show _<=24*wB j;lia
structure KOk(ps:List Pl)(K:Kn):4 where
 nd:(K.map (·.1)).Nodup
 ok:∀x∈K,∃j q,ps[j]?=!q/\x.1=q.name/\Tf ⇑q (wB<|j+1) x.2/\∀hs:Yf,hs.length=⇑q->JE x.2 hs=qJ ps (j+1) q.name hs
def vp(b:List Pl)(j:5)(K c:Kn):4:=∀x∈c.map (·.1),x∈K.map (·.1)\/∃a q,a<j/\b[a]?=!q/\x=q.name
theorem Ob:∀(a:List Pl)(l:Yi),l.Nodup->(∀x∈l,∃q∈a,x=q.name)->l.length<=a.length
 |[],l,_,h=>by
  induction l with
  |nil=>calc Zf _
  |cons x l=>
   have(q,b,_):=h x Zqs;cases b
 |p::a,l,nd,h=>by
  let c:=Ob a (l.erase p.name) (nd.erase _) λx e=>by
   grind
  grind
theorem KOk.len {K:Kn}(h:KOk c K)(B:BkP c):K.length<=04:=by
 let:=Ob c (K.map (·.1)) h.nd λx e=>by
  let(-y,f,rfl):=Ja.mp e;let(j q,i,l,_):=h.ok y f;exact(q,Ue i,l)
 rw[Zql]at this;let:=B.len;lia
def Bk(a:List Pl)(bk:D):4:=∀q∈a,Xq [bk,.str q.name]=.ok (J5 q)
def uW(b:List Pl)(p:Pl)(j:5)(K:Kn):4:=(∀n,j<n->∀bk,Bk b bk->∀a,Qt n [bk,.str p.name,.int 12,.adr a] [%[a|kD K]]=.ex "TooMany" [])\/∃T c,KOk b c/\vp b j K c/\(∀g∈T,Tf ⇑p (wB<|j+1) g)/\(∀e:Yf,e.length=⇑p->(T.map λg=>JE g e)=xl b (j+1) p e)/\T ≠[]/\∀n,j<n->∀bk,Bk b bk->∀a,Qt n [bk,.str p.name,.int 12,.adr a] [%[a|kD K]]=.ok %[.lst (T.map jg)|[%[a|kD c]]]
def vb {f:D->Res (D×HP)}(h:x=Qu):x.bind f=.ex "TooMany" []:=by rw[h];rfl
def lX (B:BkP m) {p:Pl}(S:m[j]?=!p)(IH:∀o q K,o<j->m[o]?=!q->KOk m K->uW m q o K){k:5}{r:Rw}(X:p.rows[k]?=!r)  (hT:∀g∈T,Tf ⇑p W g)(lT:T.length=⇑p+k){K:Kn}(G:KOk m K):
 (∀n,j<=n->∀bk,Bk m bk->∀a,Qh n [bk,.str r.2.1,.lst ((r.2.2.map λp=>JW (qK T p.1) p.2).map jg),.int 12,.adr a] [%[a|kD K]]=.ex "TooMany" [])\/∃t v,KOk m v/\vp m j K v/\Tf ⇑p (W+2*wB j) t/\(∀i:Yf,JE t i=qy (qJ m j) (T.map λg=>JE g i) r)/\∀n,j<=n->∀bk,Bk m bk->∀a,Qh n [bk,.str r.2.1,.lst ((r.2.2.map λp=>JW (qK T p.1) p.2).map jg),.int 12,.adr a] [%[a|kD K]]=.ok %[jg t|[%[a|kD v]]]:=by
 let R:=(B.ok j p S).row k r X;let sh:=R.sh;let(H,I):=FC hT (its:=r.2.2) (V:=1000000000000000000000000000000) λy hy=>by let:=R.rng y hy;lia R.wt;let pj:=AT j;let ne:(r.2.2.map λp=>JW (qK T p.1) p.2)≠[]:=λz=>R.ne<|Jh.mp z;let Y:(r.2.2.map λp=>JW (qK T p.1) p.2).length=r.2.2.length:=Zql _;let same:vp m j K K:=λx E=>.inl E;unfold qy;generalize(r.2.2.map λp=>JW (qK T p.1) p.2)=fs at H I ne Y;rcases B.how S X with z|z|⟨z0,z1,z2,o,q,z3,z4,z5,z6⟩
 .rw[z];simp only[if_true];rcases NQ ne H ()with y|⟨t,w,A,C⟩
  .exact .inl λn s bk c a=>by rw[NS];exact vb y
  .refine .inr (t,K,G,same,A.mono (),λi=>?_,λn s bk c a=>?_)
   .rw[C,I]
   .rw[NS,w];rfl
 .rw[z];let d:¬("first":Str)="all":=by decide+kernel
  simp only[if_true,Ze d];rcases NR ne H ()with y|⟨t,w,A,C⟩
  .exact .inl λn s bk c a=>by rw[NT];exact vb y
  .refine .inr (t,K,G,same,A.mono (),λi=>?_,λn s bk c a=>?_)
   .rw[C,I]
   .rw[NT,w];rfl
 .simp only[Ze z1,Ze z2];let rc:∀M,qJ m j r.2.1 M=qJ m (o+1) q.name M:=λM=>by rw[z5];exact B.rc z4 z3 M
  let O:fs.length=⇑q:=Y.trans z6;let wj:=Oa<|show o+1<=j from();let Z:∀i,(fs.map λg=>JE g i).length=⇑q:=λi=>(Zql _).trans O;rcases gY r.2.1 K with ⟨N,P⟩|⟨f,N,P⟩
  .rcases IH o q K z3 z4 G with y|⟨U,v,Q,k2,k3,k4,k5,k6⟩
   .exact .inl λn s bk c a=>NY z0 z1 z2 N<|by let:=y n () bk c a;rw[<-z5]at this;exact this
   .let(ys t,rfl):=Xp k5;let tf:Tf ⇑q (wB<|o+1) t:=k3 t<|Uo _ Zqs;let ct:∀i:Yf,i.length=⇑q->JE t i=qJ m (o+1) q.name i:=λi h=>by
     let e:=k4 i h;let(zs,ez):=B.part (n:=o) z4 i;rw[ez,Ub]at e;let e:=Zt (λl=>l.getLastD 0) e;let e:((ys.map λg=>JE g i)++[JE t i]).getLastD 0=(zs++[qJ m (o+1) q.name i]).getLastD 0:=e;rw[U5,U5]at e;exact e
    let nq:r.2.1∉v.map (·.1):=λy=>by
     rcases k2 _ y with y|⟨J,F,w,A,C⟩
     .exact P y
     .let e:q.name=F.name:=z5.symm.trans C;let:=B.inj o J q F z4 A e;lia
    let nk:(Uq r.2.1:jI)∉v.map λx=>Uq x.1:=λy=>by
     let(x,E,e):=Ja.mp y;injection e with e
     exact nq<|Ja.mpr (x,E,e)
    let l4:=Q.len B;let L:=λn(s:j<=n)bk(c:Bk m bk)a=>NX (n:=n) (bk:=bk) (d:=.lst<|fs.map jg) z0 z1 z2 (a:=a) N (ys:=ys) (t:=t) (ks':=v.map λx=>.inr x.1) (ds':=v.map λx=>jg x.2) (by let:=k6 n () bk c a;rw[<-z5]at this;calc this) (by rw[Zql,Zql]) nk (by rw[Zql];lia);let kd:∀a:Addr,[%[a|D.dct ((v.map λx=>Uq x.1)++[.inr r.2.1]) ((v.map λx=>jg x.2)++[jg t])]]=[%[a|kD (v++[%[r.2.1|t]])]]:=λa=>by
     unfold kD;rw[Ub,Ub];rfl
    let ko:KOk m (v++[%[r.2.1|t]]):=(by
     rw[Ub];calc List.nodup_append.mpr (Q.nd,V4 _ _,λa ha b hb e=>?_);rw[e,Jd.mp hb]at ha;calc nq ha,λx E=>by
     rcases Jc.mp E with y|y
     .exact Q.ok x y
     .rw[Jd.mp y];calc(o,q,z4,z5,tf,ct))
    let nw:vp m j K (v++[%[r.2.1|t]]):=λx E=>by
     rw[Ub]at E;rcases Jc.mp E with y|y
     .rcases k2 x y with y|⟨J,F,w,A,C⟩
      .exact .inl y
      .exact .inr (J,F,(),A,C)
     .exact .inr (o,q,z3,z4,(Jd.mp y).trans z5)
    rcases FF tf O H with y|⟨u,w,A,C⟩
    .exact .inl λn s bk c a=>by
      show Qh n _ [%[a|D.dct _ _]]=_;rw[L n s bk c a];exact vb y
    .refine .inr (u,_,ko,nw,A.mono (),λi=>?_,λn s bk c a=>?_)
     .rw[C,ct _ (Z i),rc,I]
     .show Qh n _ [%[a|D.dct _ _]]=_;rw[L n s bk c a,w,kd];rfl
  .let(J F,w,A,C,y4):=G.ok _ N;let e:q.name=F.name:=z5.symm.trans A;let e:=B.inj o J q F z4 w e;subst e;rw[z4]at w;cases w;let L:=λn(s:j<=n)bk(c:Bk m bk)a=>gU (n:=n) (bk:=bk) (d:=.lst<|fs.map jg) z0 z1 z2 (a:=a) P;rcases FF C O H with y|⟨u,x1,x2,x3⟩
   .exact .inl λn s bk c a=>by
     show Qh n _ [%[a|D.dct _ _]]=_;rw[L n s bk c a];exact vb y
   .refine .inr (u,K,G,same,x2.mono (),λi=>?_,λn s bk c a=>?_)
    .rw[x3,y4 _ (Z i),rc,I]
    .show Qh n _ [%[a|D.dct _ _]]=_;rw[L n s bk c a,x1];rfl
def eJ {b:Jz}(h:∀p∈b,0<=p.1/\p.1<(T.length:3))(f:∀g∈T,g.length<=1000/\∀r∈g,r.length<=1000):qg (.tup [0,1]) (Q4 zb<|J1 (Kk 2<|jb 0)<|J1 (jb 1) jc) [8,8,!(.own 7<|.lst<|T.map jg)] (b.map qb)=.ok ((b.map λp=>JW (qK T p.1) p.2).map jg):=by
 rw[Zw];exact Kz λp i=>by
  let(c,e):=h p i;let a:=NH c e;let(j,l):=f _ (CQ c e);let m:=uQ (w:=p.2) j l
  ext
def XO(n:5):xi:=Kl (yM<|jG 09<|WL [8,8,!05] 2 (iS<|jb 08) (.tup [0,1])<|Q4 zb<|J1 (Kk 2<|jb 0)<|J1 (jb 1) jc)<|KM 05<|Qp (Qh n)<|J1 (jb 0)<|J1 (jb 07)<|J1 (jb 09)<|J1 (jb 2)<|J1 (jb 03) jc
noncomputable def y0(bk b c:D)(a:Addr)(T:YC)(e f g h:Option SV):SD:=[~~~bk,~~~b,~~~.int 12,~~~.adr a,~~~c,!(.own 7<|.lst T),e,f,g,h]
def Oc      {r:Rw}(f:∀p∈r.2.2,0<=p.1/\p.1<(T.length:3))(h:∀g∈T,g.length<=1000/\∀r∈g,r.length<=1000)(l:r.2.2.length<=1000):
 Ks (.tup [06,07,08]) (XO n) (j1 r) (y0 bk nm pl a (T.map jg) u6 u7 u8 u9) hp=KM 05 (Qp (Qh n)<|J1 (jb 0)<|J1 (jb 07)<|J1 (jb 09)<|J1 (jb 2)<|J1 (jb 03) jc) (y0 bk nm pl a (T.map jg) (~~~.str r.1) (~~~.str r.2.1) (~~~j6 r.2.2)<|~~~(.lst<|(r.2.2.map λp=>JW (qK T p.1) p.2).map jg)) hp:=by
 let i:=eJ f h;let j:=JQ l;let m:∀a b c d e u6 u7 u8 u9,capO [8,8,!05] 2 [a,b,c,d,e,!(.own 7<|.lst<|T.map jg),u6,u7,u8,u9]=[8,8,!(.own 7<|.lst<|T.map jg)]:=λ_ _ _ _ _ _ _ _ _=>9
 simp_all[y0,XO]
def Fd        (h:Qh n [bk,how,fs,.int 12,.adr a] c=.ok %[d|b])(l:T.length<=1000):
 KM 05 (Qp (Qh n)<|J1 (jb 0)<|J1 (jb 07)<|J1 (jb 09)<|J1 (jb 2)<|J1 (jb 03) jc) (y0 bk e f a T g (~~~how) i<|~~~fs) c=.ok (.next (y0 bk e f a (T++[d]) g (~~~how) i<|~~~fs) b):=by
 let z:=JQ l
 simp_all[y0,KM]
def Od          (h:Qh n [bk,how,fs,.int 12,.adr a] b=.ex c e):
 KM 05 (Qp (Qh n)<|J1 (jb 0)<|J1 (jb 07)<|J1 (jb 09)<|J1 (jb 2)<|J1 (jb 03) jc) (y0 bk f g a T i (~~~how) j<|~~~fs) b=.ex c e:=by
 simp_all[y0,KM]
def Oe       (h:b x sd a=.ex c e):qC b (x::f) sd a=.ex c e:=by
 simp_all[qC]
def FK     (h:b x sd e=.ok (.next a c)):qC b (x::f) sd e=qC b f a c:=by
 rw[qC,h];rfl
theorem Og (B:BkP f) {p:Pl}(hp:f[j]?=!p)(L:∀E q K,E<j->f[E]?=!q->KOk f K->uW f q E K):∀(c:List Rw)(i:5),p.rows.drop i=c->i<=p.rows.length->∀(T:List J0)(K:Kn),(∀g∈T,Tf ⇑p ((i:3)*(2*wB j)) g)->T.length=⇑p+i->(∀l:Yf,l.length=⇑p->(T.map λg=>JE g l)=jP (qJ f j) (p.rows.take i) l)->KOk f K->
 (∀n,j<=n->∀bk,Bk f bk->∀(nm pl:D)(a:Addr)u6 u7 u8 u9,qC (Ks (.tup [06,07,08])<|XO n) (c.map j1) (y0 bk nm pl a (T.map jg) u6 u7 u8 u9) [%[a|kD K]]=.ex "TooMany" [])\/∃(s:List J0)(u:Kn),KOk f u/\vp f j K u/\(∀g∈s,Tf ⇑p ((p.rows.length:3)*(2*wB j)) g)/\s.length=⇑p+p.rows.length/\(∀l:Yf,l.length=⇑p->(s.map λg=>JE g l)=jP (qJ f j) p.rows l)/\∀n,j<=n->∀bk,Bk f bk->∀(nm pl:D)(a:Addr)u6 u7 u8 u9,∃F G H I,qC (Ks (.tup [06,07,08])<|XO n) (c.map j1) (y0 bk nm pl a (T.map jg) u6 u7 u8 u9) [%[a|kD K]]=.ok (.next (y0 bk nm pl a (s.map jg) F G H I) [%[a|kD u]])
 |[],i,hd,O,T,K,hT,lT,cT,hK=>by
  let e:i=p.rows.length:=by
   let:=List.drop_eq_nil_iff.mp hd;lia
  subst e;rw[Vl]at cT;calc .inr<|qA T K (hK,λx v=>.inl v,hT,lT,cT,λn m bk b nm pl a u6 u7 u8 u9=>jX u6 u7 u8 u9 9)
 |r::c,i,hd,O,T,K,hT,lT,cT,hK=>by
  let o:i<p.rows.length:=by
   rcases U4 i p.rows.length with z|z
   .exact z
   .rw[List.drop_eq_nil_iff.mpr z]at hd;cases hd
  rw[Uz o]at hd;injection hd with Q h2
  let J:p.rows[i]?=!r:=by rw[Zqg o,Q]
  let P:=B.ok j p hp;let R:=P.row i r J;let g2:=P.g2;let r2:=P.r2;let sh:=R.sh;let M:=λ(n:5)(bk nm pl:D)(a:Addr)u6 u7 u8 u9=>Oc (n:=n) (bk:=bk) (nm:=nm) (pl:=pl) (a:=a) (T:=T) (u6:=u6) (u7:=u7) (u8:=u8) (u9:=u9) (hp:=[%[a|kD K]]) (r:=r) λy S=>by let:=R.rng y S;lia (λg C=>(by let:=(hT g C).len;lia,λx v=>by let:=((hT g C).cn.rows x v).len;lia)) ();rcases lX B hp L J hT lT hK with z|⟨t,K1,U,X,Y,k4,Z⟩
  .exact .inl λn m bk b nm pl a u6 u7 u8 u9=>Oe<|by rw[M];exact Od<|z n m bk b a
  .let N:∀n,j<=n->∀bk,Bk f bk->∀(nm pl:D)(a:Addr)u6 u7 u8 u9,Ks (.tup [06,07,08]) (XO n) (j1 r) (y0 bk nm pl a (T.map jg) u6 u7 u8 u9) [%[a|kD K]]=.ok (.next (y0 bk nm pl a ((T++[t]).map jg) (~~~.str r.1) (~~~.str r.2.1) (~~~j6 r.2.2)<|~~~(.lst<|(r.2.2.map λp=>JW (qK T p.1) p.2).map jg)) [%[a|kD K1]]):=λn m bk b nm pl a u6 u7 u8 u9=>by
    rw[M,Fd (Z n m bk b a) (by rw[Zql];lia),Ub];rfl
   let pj:=AT j;let A:((i+1:5):3)*(2*wB j)=(i:3)*(2*wB j)+2*wB j:=by rw[Int.natCast_add,Int.add_mul];lia
   let ih:=Og B hp L c (i+1) h2 o (T++[t]) K1 λg C=>by
    rcases Jc.mp C with y|y
    .exact(hT g y).mono<|by rw[A];lia
    .rw[Jd.mp y];calc Y.mono<|by rw[A];lia (by rw[Ua,Uf];lia) λl h=>by
    rw[Ub,cT l h,Fp J,<-cT l h];show _++[JE t l]=_;rw[k4] U
   rcases ih with y|⟨s,u,y1,y2,y3,y4,y5,y6⟩
   .exact .inl λn m bk b nm pl a u6 u7 u8 u9=>(FK<|N n m bk b nm pl a u6 u7 u8 u9).trans<|y n m bk b nm pl a _ _ _ _
   .refine .inr<|qA s u (y1,λx v=>?_,y3,y4,y5,λn m bk b nm pl a u6 u7 u8 u9=>?_)
    .rcases y2 x v with w|w
     .exact X x w
     .exact .inr w
    .let(F,G,H,I,e):=y6 n m bk b nm pl a _ _ _ _;exact jX F G H I<|(FK<|N n m bk b nm pl a u6 u7 u8 u9).trans e
def Oh (h:t<g)(a:g<=12):Tf g 0 [[%[(t:3)|0]]]:=by
 let b:JRow [%[(t:3)|(0:3)]]:=(List.cons_ne_nil _ _,V4 _ _,());refine((List.cons_ne_nil _ _,(),Xb yI (Wx _) () λr=>(λh=>(yu.mp h).1,λh=>yu.mpr (h,vG.mpr ()))),(),λr c p e=>?_)
 ext
def qL(g:5):List J0:=(List.range g).map λt:5=>[[%[(t:3)|(0:3)]]]
def aX  (h:a.length=g):((qL g).map λf=>JE f a)=a:=by
 unfold qL;apply VX;intro i;rcases U4 i g with z|z
 .let e:JE [[%[(i:3)|(0:3)]]] a=jY a (i:3)+0:=9
  simp_all[jY]
 ext
def Oi (B:BkP f):∀(j:5)(p:Pl)(K:Kn),f[j]?=!p->KOk f K->uW f p j K:=by
 intro j
 induction j using Nat.strongRecOn with
 |ind j G=>
  intro p K v H;let P:=B.ok j p v;let g1:=P.g1;let g2:=P.g2;let o:=λbk(b:Bk f bk)=>b p ();let I:Uk [.int (⇑p:5)]=.ok (JZ 0 ⇑p):=by rw[WH () ()];rfl
  let J:qg (.one 0) (Q4 zY<|J1 (jb 0) jc) [8] (JZ 0 ⇑p)=.ok ((qL ⇑p).map jg):=by
   unfold qL;rw[Zw];exact YH λi hi=>by simp
  let r:jz "Plan" "givens" (J5 p)=!(.lst<|p.givens.map .str):=9;let w:jz "Plan" "rows" (J5 p)=!(.lst<|p.rows.map j1):=9;let l:(p.givens.map D.str).length=⇑p:=Zql _;let L:=JQ<|show ⇑p<=1000 from();let M:∀bk a,JX 10 [bk,.str p.name,.int 12,.adr a]=[~~~bk,~~~.str p.name,~~~.int 12,~~~.adr a,8,8,8,8,8,8]:=λbk a=>9;let c:∀n bk,Bk f bk->∀a(X:Res (D×HP)),(qY (YQ (iS<|jU (jz "Plan" "rows")<|jb 04) (.tup [06,07,08])<|XO n)<|zU 05<|x6<|jb 05) (y0 bk (.str p.name) (J5 p) a ((qL ⇑p).map jg) 8 8 8 8) [%[a|kD K]]=X->WS (Qh n) (JX 10 [bk,.str p.name,.int 12,.adr a]) [%[a|kD K]]=X:=λn bk b a X h=>by
   let o:=o bk b;rw[M];unfold WS;calc wX (sd':=[~~~bk,~~~.str p.name,~~~.int 12,~~~.adr a,~~~J5 p,8,8,8,8,8]) (Ku<|by simp[o]) ?_;calc wX (Ku (sd':=y0 bk (.str p.name) (J5 p) a ((qL ⇑p).map jg) 8 8 8 8) ?_) h;generalize J5 p=N at r;generalize p.givens.map D.str=GD at r l;unfold y0;simp[r,l,I,J,L,WI]
  let x:∀bk a T y A C E,iS (jU (jz "Plan" "rows")<|jb 04) (y0 bk (.str p.name) (J5 p) a T y A C E)=.ok (p.rows.map j1):=λbk a T y A C E=>by
   generalize J5 p=N at w;unfold y0;simp[w]
  let go:=Og B v (λO q K Q R S=>G O Q q K R S) p.rows 0 9 (Uc _) (qL ⇑p) K λg s=>by
   let(-t,U,rfl):=Ja.mp s;calc(Oh (Je.mp U) ()).mono<|by show(0:3)<=0*_;lia (by unfold qL;rw[Zql,ZB];rfl) λF h=>by rw[aX h];rfl H
  rcases go with z|⟨T,K',Y,Z,k3,u,k5,k6⟩
  .calc .inl λn hn bk b a=>?_;let(n,rfl):∃m,n=m+1:=(n-1,());show Qy 10 04 (WS<|Qh n) _ _=_;calc FH 9<|c n bk b a _ ?_;rw[AG,Cr,x,jh,z n () bk b];rfl
  .refine .inr<|qA T K' (Y,Z,λg s=>(k3 g s).mono ?_,λF h=>?_,λe=>?_,λn hn bk b a=>?_)
   .let pj:=AT j;let r2:=P.r2;let:=Int.mul_le_mul_of_nonneg_right (show(p.rows.length:3)<=12 by lia)<|show 0<=2*wB j from();show _<=24*wB j;lia
   .rw[k5 F h];rfl
   .rw[e]at u;let u:0=⇑p+p.rows.length:=u;lia
   .let(n,rfl):∃m,n=m+1:=(n-1,());calc AI 9<|c n bk b a _ ?_;have(v6,v7,v8,v9,e):=k6 n () bk b (.str p.name) (J5 p) a 8 8 8 8;rw[AG,Cr,x,jh,e,jh];rfl
def AU:FS:=jJ<|C1 (Qt 04) (.dct [] [])<|J1 (jb 0)<|J1 (jb 1)<|J1 (jb 2) jc
def W1:YC->Res D:=jT 03 03 AU
def WU:FS:=jJ<|jk jR (JB W1<|J1 (jb 0)<|J1 (jb 1)<|J1 (jb 2) jc)<|jU zH<|dC<|.int 1
def QM:YC->Res D:=jT 03 03 WU
def e8 (B:BkP i)  (m:i[j]?=!p):(∀bk,Bk i bk->QM [bk,.str p.name,.int 12]=Qu)\/∃t,(∀bk,Bk i bk->QM [bk,.str p.name,.int 12]=.ok (jg t))/\Tf ⇑p (wB<|j+1) t/\∀g:Yf,g.length=⇑p->JE t g=qJ i (j+1) p.name g:=by
 let o:∀bk(x:Res D),(∀a,(Qt 04 [bk,.str p.name,.int 12,.adr a] [%[a|.dct [] []]]).bind (λq=>.ok q.1)=x)->W1 [bk,.str p.name,.int 12]=x:=λbk x h=>by
  let c:C1 (Qt 04) (.dct [] []) (J1 (jb 0)<|J1 (jb 1)<|J1 (jb 2) jc) [~~~bk,~~~.str p.name,~~~.int 12]=x:=MZ h;simp[W1,AU,c]
  induction x<;>rfl
 rcases Oi B j p [] m (Vu,λx h=>nomatch h)with z|⟨T,K',w,y,s,k4,u,k6⟩
 .calc .inl λbk b=>?_;let e:=o bk Qu λa=>by
   let:=z 04 (B.at m).2.1 bk b a;show Res.bind (Qt 04 [bk,.str p.name,.int 12,.adr a] [%[a|kD []]]) _=_;rw[this];rfl
  simp[QM,WU,e,Qu]
 .let(r t,rfl):=Xp u;refine .inr (t,λbk b=>?_,s t<|Uo _ Zqs,λg h=>?_)
  .let e:=o bk (.ok<|.lst<|(r++[t]).map jg) λa=>by
    let:=k6 04 (B.at m).2.1 bk b a;show Res.bind (Qt 04 [bk,.str p.name,.int 12,.adr a] [%[a|kD []]]) _=_;rw[this];rfl
   let l:=YX (f:=jg) r t
   simp_all[QM,WU]
  .let e:=k4 g h;let(A,v):=B.part (n:=j) m g;rw[v,Ub]at e;let e:=Zt (λl=>l.getLastD 0) e
   grind
def BkP.bk (B:BkP c):Bk c (JA c):=λq f=>by
 let(j,e):=Ji.mp f;exact NI (B.at e).2.2.1 B.ascs<|B.find e
def lU (B:BkP a)  (c:a[j]?=!p):QM [JA a,.str p.name,.int 12]=Qu\/∃t,QM [JA a,.str p.name,.int 12]=.ok (jg t)/\Tf ⇑p (wB<|j+1) t/\∀b:Yf,b.length=⇑p->JE t b=qJ a (j+1) p.name b:=by
 rcases e8 B c with z|⟨t,z,r⟩
 .exact .inl<|z _ B.bk
 .exact .inr (t,z _ B.bk,r)
def AV:FS:=jq (jG 2<|dC .non)<|jq (wo 2 "TooMany" QM (J1 (jb 0)<|J1 (jb 1)<|J1 (dC<|.int 12) jc)<|jG 2<|dC .non)<|jJ<|jb 2
def K3:YC->Res D:=jT 03 2 AV
def CU (h:QM [bk,a,.int 12]=Qu):K3 [bk,a]=.ok .non:=by
 simp_all[Qu,K3,AV]
def FL  (h:QM [bk,a,.int 12]=.ok (jg t)):K3 [bk,a]=.ok (jg t):=by
 simp[K3,AV,h]
def CV:FS:=jq (jG 03<|jt BL<|J1 (jb 2)<|J1 (jt Aj<|J1 (dC<|.int 0)<|J1 (jk yC (jt jQ<|J1 (jb 0) jc)<|jb 1) jc) jc)<|jJ<|Qw [8,!0,!1,!2] (vC<|J1 (jb 03) jc) (.one 0)<|jt zG<|J1 (kn (jb 1) (Xh<|jk jC (jb 2)<|jb 0) Xg<|Xh<|jb 03) jc
def CW:YC->Res D:=qz 04 03 CV
def iR (h:b.length<=63) (g:0<=a)(j:a<=100)(l:1<=most)(n:most<=60):∃e:Yf,(e.length:3)<=most/\CW [.scr b,.int a,.int most]=.ok (.lst<|e.map .int):=by
 have(m,hm,em):∃m:5,(m:3)<=most/\(if(if a<(b.length:3)then(b.length:3)-a else 0)<most then if a<(b.length:3)then(b.length:3)-a else 0 else most)=(m:3):=by
  calc((if(if a<(b.length:3)then(b.length:3)-a else 0)<most then if a<(b.length:3)then(b.length:3)-a else 0 else most).toNat,?_,?_)<;>(lia)<;>lia
 let o:Uk [.int (m:3)]=.ok (JZ 0 m):=by
  rw[WH () (),Vb]
 let f:qg (.one 0) (jt zG<|J1 (kn (jb 1) (Xh<|jk jC (jb 2)<|jb 0) Xg<|Xh<|jb 03) jc) [8,~~~.scr b,~~~.int a,~~~.int most] (JZ 0 m)=.ok ((List.range m).map λk:5=>.int (QB b (! a+(k:3)) 8<|!most).sum):=YH λi p=>by
  simp[Tl (c:=most) ()]
 calc((List.range m).map λk:5=>(QB b (! a+(k:3)) 8<|!most).sum,(),?_);let q:=JQ<|show m<=1000 from()
 simp_all[CW,CV,WI]
def Xr:FS:=jq (qE (zI (Q8<|J8<|KB yT yT (dC<|.int 1) (jt jQ<|J1 (jb 0) jc)<|dC<|.int 12)<|zI (J8<|jk (zO 7) (jb 0)<|dC<|.tup<|List.map .str ["plan","given","all","first","part"])<|J8<|jk (yw 6) (jk jR (jb 0)<|dC<|.int 0)<|dC<|.str "abcdefghijklmnopqrstuvwxyz") (jJ<|dC<|.bl 7) JN)<|jJ<|jt vg<|J1 (Qw [8] (uM<|jb 0) (.one 0)<|vY (jk (yw 7) (jb 0)<|dC<|.str "abcdefghijklmnopqrstuvwxyz")<|jk (yw 7) (jb 0)<|dC<|.str "0123456789") jc
def WV:YC->Res D:=jT 1 1 Xr
def kB(x:Str):Bool:=(List.map D.str ["plan","given","all","first","part"]).any λe=>sameD e<|.str x
def LT:Yh:=("abcdefghijklmnopqrstuvwxyz":Str).cps.toList
def FG:Yh:=("0123456789":Str).cps.toList
def CY(x:Str):Bool:=decide (1<=x.length/\x.length<=12)&&((not<|kB x)&&(decide (x.cps.toList.headD 0∈LT)&&x.cps.toList.all λc=>decide (c∈LT)||decide (c∈FG)))
def aH  (h:TxtOk n x):zO 7 (.str x) (.tup<|List.map D.str ["plan","given","all","first","part"])=!(.bl<|kB x):=by
 let p:plN 12 (.str x)=6:=by
  show PyData.strOk x=6;unfold PyData.strOk;rw[<-Array.all_toList,Uy];exact λc a=>Zp<|Ul (kf.mp h.asc c a) ()
 let q:(List.map D.str ["plan","given","all","first","part"]).all (plN 12)=6:=by decide+kernel
 show(if plN 12 (.str x)&&(List.map D.str ["plan","given","all","first","part"]).all (plN 12)then !(D.bl<|if 7=6 then _ else kB x)else 8)=_;rw[p,q];rfl
def bg  (h:TxtOk n x)(u:n<=1000):WV [.str x]=.ok (.bl<|CY x):=by
 let m:=lI h u;let b:=aH h;let v:ub x=6:=h.asc;unfold CY;by_cases c:1<=x.length/\x.length<=12
 .rw[Zp c,Bool.true_and];let e:(1:3)<=(x.length:3):=()
  let o:(x.length:3)<=12:=()
  induction k:kB x with
  |true=>
   rw[k]at b;simp[WV,Xr,m,e,o]at b ⊢;simp[b]
  |false=>
   rw[k]at b;let(-f,r,g,_):=lc (k:=0) h u () ();let w:x.cps.toList.headD 0=f:=by
    let g:x.cps.toList[0]?=!f:=g
    induction l:x.cps.toList with
    |nil=>rw[l]at g;cases g
    |cons a A=>rw[l]at g;exact Zqi g
   let i:=EK 6 f "abcdefghijklmnopqrstuvwxyz";rw[w];let q:qg (.one 0) (vY (jk (yw 7) (jb 0)<|dC<|.str "abcdefghijklmnopqrstuvwxyz")<|jk (yw 7) (jb 0)<|dC<|.str "0123456789") [8] (kq x)=.ok ((x.cps.toList.map λc=>decide (c∈LT)||decide (c∈FG)).map .bl):=by
    rw[Zw];calc Kz λc _=>?_;let j:=EK 7 c "abcdefghijklmnopqrstuvwxyz";let s:=EK 7 c "0123456789";let j:yw 7 (.str ⟨#[c]⟩) (.str "abcdefghijklmnopqrstuvwxyz")=!(.bl<|decide<|c∈LT):=j;let s:yw 7 (.str ⟨#[c]⟩) (.str "0123456789")=!(.bl<|decide<|c∈FG):=s
    induction p:decide (c∈LT)with
    |true=>rw[p]at j;simp[j,p]
    |false=>rw[p]at j;simp[j,s,p]
   let t:=Le<|x.cps.toList.map λc=>decide (c∈LT)||decide (c∈FG);let y:(x.cps.toList.map λc=>decide (c∈LT)||decide (c∈FG)).all id=x.cps.toList.all λc=>decide (c∈LT)||decide (c∈FG):=by rw[List.all_map];rfl
   rw[y]at t;generalize(x.cps.toList.map λc=>decide (c∈LT)||decide (c∈FG)).map D.bl=bs at q t;let z:(kq x).length<sizeLine:=JQ (by unfold kq;rw[Zql,Ui];let:x.length=x.cps.size:=9;lia);let i:yw 6 (.str ⟨#[f]⟩) (.str "abcdefghijklmnopqrstuvwxyz")=!(.bl<|not<|decide<|f∈LT):=i
   induction p:decide (f∈LT)with
   |true=>
    rw[p]at i;simp[WV,Xr,m,e,o]at b r ⊢;simp[b,r,i,v,z,q,t]
   |false=>
    rw[p]at i;simp[WV,Xr,m,e,o]at b r ⊢;simp[b,r,i]
 .rw[Zo c,Bool.false_and];let B:¬((1:3)<=(x.length:3)/\(x.length:3)<=12):=()
  by_cases e:(1:3)<=(x.length:3)
  .let o:¬(x.length:3)<=12:=()
   simp[WV,Xr,m,e,o]
  .simp[WV,Xr,m,e]
def CZ:FS:=jJ<|DZ (jt vg<|J1 (Qw [8] (iS<|jb 0) (.one 0)<|JB WV<|J1 (jb 0) jc) jc)<|jk xa (jt Co<|J1 (jb 0) jc)<|jt jQ<|J1 (jb 0) jc
def Z5:YC->Res D:=jT 1 1 CZ
def pG:∀k:Fin 10,FG[k.val]?=! 48+k.val:=by decide+kernel
theorem Oj (h:m6 c=6):c∈LT:=by
 unfold m6 at h;rw[Ud,decide_eq_true_eq,decide_eq_true_eq]at h;let:=iu (c-97,());rw[show 97+(c-97)=c by lia]at this;exact Ue this
def ci (h:si c=6):c∈FG:=by
 unfold si at h;rw[Ud,decide_eq_true_eq,decide_eq_true_eq]at h;let:=pG (c-48,());rw[show 48+(c-48)=c by lia]at this;exact Ue this
def lY (h:AF x=6):CY x=6:=by
 unfold AF at h;rw[Ud,Ud,Ud,Ud,decide_eq_true_eq,decide_eq_true_eq]at h;let(j,l,e,m,b):=h;let k:kB x=7:=by
  unfold kB;rw[VJ];intro d f;let(-w,g,rfl):=Ja.mp f;let:=Uy.mp e w g;rw[Bool.not_eq_true',decide_eq_false_iff_not]at this;rw[Bool.not_eq_true,k7];intro z;injection z with z
  exact this z
 let a:(x.cps.toList.all λc=>decide (c∈LT)||decide (c∈FG))=6:=by
  rw[Uy]at b ⊢;intro c i;rcases Bool.or_eq_true_iff.mp (b c i)with z|z
  .rw[Zp (Oj z)];rfl
  .rw[Zp (ci z),Bool.or_true]
 grind[CY,decide_eq_true,Oj]
def eA{c:Yi}(h:c.Nodup)(i:c.length<=999):Co [.lst (c.map .str)]=! .int c.length:=by
 let e:Qx Qr (c.map .str)=! c.map Uq:=Y3 (f:=Qr) (g:=D.str) (k:=Uq) (λ_=>9) c;let j:(c.map (Uq:Str->jI)).Nodup:=by
  rw[List.nodup_iff_pairwise_ne,UQ];exact List.Pairwise.imp (λ{a b}n z=>n<|by injection z)<|Jy.mp h
 show(Qx Qr<|c.map .str).bind _=_;rw[e];show(if(c.map (Uq:Str->jI)).length<=999 then _ else _)=_;rw[Zql,Zd i,L2.ST.dedL_nodup j,Zql]
def Ol{a:Yi}(b:∀x∈a,zp x)(e:a.Nodup)(g:a.length<=60):Z5 [.lst (a.map .str)]=.ok (.bl 6):=by
 let f:qg (.one 0) (JB WV<|J1 (jb 0) jc) [8] (a.map .str)=.ok ((a.map λ_=>6).map .bl):=by
  rw[Zw];exact Kz λx c=>by
   let:=bg (b x c).1 ();rw[lY (b x c).2]at this;simp[this]
 let h:=Le<|a.map λ_=>6;let i:=eA e ();let j:(a.map D.str).length<sizeLine:=JQ<|by rw[Zql];lia
 simp_all[Z5,CZ]
def Da:FS:=jq (qE (Q8<|J8<|Q4 Z5<|J1 (Qw [8] (iS<|jU (jz "Book" "plans")<|jb 0) (.one 0)<|jU (jz "Plan" "name")<|jb 0) jc) (Qs "BadName"<|dC<|.str "a plan's name is no name or stands twice") JN)<|qq (iS<|jU (jz "Book" "plans")<|jb 0) (.one 1)<|qE (Q8<|J8<|Q4 Z5<|J1 (jk jC (jU (jz "Plan" "givens")<|jb 1)<|Qw [8,8,8] (iS<|jU (jz "Plan" "rows")<|jb 1) (.tup [0,1,2])<|jb 0) jc) (Qs "BadName"<|dC<|.str "a thing's name is no name or stands twice in its plan") JN
def Db:YC->Res D:=jT 2 1 Da
def bd (L:LB a)(W:WB a):Db [JA a]=.ok .non:=by
 let q:=W.l2;let s:=JQ<|show a.length<=1000 from();let t:qg (.one 0) (jU (jz "Plan" "name")<|jb 0) [8] (a.map J5)=.ok ((a.map (·.name)).map .str):=by
  rw[Zw];exact Kz λp _=>by simp
 let u:=Ol (λx c=>by
  let(p,e,rfl):=Ja.mp c;let(i,P):=L.mem e;calc P.nm) W.nd<|by rw[Zql];lia
 let(-m,v,(f,h)):=Kp (tg:=.one 1) (b:=qE (Q8<|J8<|Q4 Z5<|J1 (jk jC (jU (jz "Plan" "givens")<|jb 1)<|Qw [8,8,8] (iS<|jU (jz "Plan" "rows")<|jb 1) (.tup [0,1,2])<|jb 0) jc) (Qs "BadName"<|dC<|.str "a thing's name is no name or stands twice in its plan") JN) (ds:=a.map J5)
  (P:=λi sd=>∃f:Option SV,sd=[~~~JA a,f]) (8,9) (by
   rintro i x sd c ⟨f,rfl⟩;let(-p,e,rfl):=QV c;let P:=L i p e;let w:=P.g2;let n:=P.r2;let o:=JQ<|show p.rows.length<=1000 from();let j:qg (.tup [0,1,2]) (jb 0) [8,8,8] (p.rows.map j1)=.ok ((p.rows.map (·.1)).map .str):=by
    rw[Zw];exact Kz λr _=>by simp
   let g:jC (.lst<|p.givens.map .str) (.lst<|(p.rows.map (·.1)).map .str)=!(.lst<|(p.givens++p.rows.map (·.1)).map .str):=by
    rw[Ub];exact Zd<|QC<|by rw[Zql,Zql,Zql];lia
   let l:=Ol P.tn P.td (by rw[Ua,Zql];lia);generalize(p.givens++p.rows.map (·.1)).map D.str=y at g l;generalize(p.rows.map (·.1)).map D.str=z at j g;simp[o,j,g,l])
 simp_all[Db,Da]
def Dc:FS:=jJ<|jk (zO 6) (jb 0)<|qN<|J1 (dC<|.str "all")<|J1 (dC<|.str "first") jc
def WW:YC->Res D:=jT 1 1 Dc
def Om (h:asc how):WW [.str how]=.ok (.bl<|we how):=by
 let p:plN 12 (.str how)=6:=XH h;let q:[D.str "all",D.str "first"].all (plN 12)=6:=by decide+kernel
 let g:zO 6 (.str how) (.tup [.str "all",.str "first"])=!(.bl<|we how):=by
  show(if plN 12 (.str how)&&[D.str "all",D.str "first"].all (plN 12)then !(D.bl<|if 6=6 then not<|[D.str "all",D.str "first"].any λe=>sameD e<|.str how else _)else 8)=_;rw[p,q];unfold we sameD;let a:decide (("all":Str)=how)=decide (how="all"):=decide_eq_decide.mpr eq_comm;let b:decide (("first":Str)=how)=decide (how="first"):=decide_eq_decide.mpr eq_comm;simp[a,b]
 simp[WW,Dc,g]
def Dd:FS:=jq (qp 1 BN)<|qq (iS<|jU (jz "Book" "plans")<|jb 0) (.one 2)<|jq (qq (iS<|jU (jz "Plan" "rows")<|jb 2) (.tup [03,04,05])<|qE (KU (J8<|Q4 WW<|J1 (jb 04) jc)<|J8<|jk wg (A4 [1]<|YP (jb 1)<|jb 04)<|jt jQ<|J1 (jb 05) jc) (Qs "BadPart"<|(wd K0 (jb 03)<|qG " is made by no plan ahead that has as many given things as it has items" xN) Str.empty) JN)<|WG 1 (jU (jz "Plan" "name")<|jb 2)<|jt jQ<|J1 (jU (jz "Plan" "givens")<|jb 2) jc
def De:YC->Res D:=jT 06 1 Dd
def iw(a:List Pl):(WN a).map (·.1)=a.map (·.name):=by
 unfold WN;rw[Zw];rfl
def hZ (L:LB c)(W:WB c):De [JA c]=.ok .non:=by
 let(-G,e1,(n,f,g,h,A)):=Kp (tg:=.one 2) (b:=jq (qq (iS<|jU (jz "Plan" "rows")<|jb 2) (.tup [03,04,05])<|qE (KU (J8<|Q4 WW<|J1 (jb 04) jc)<|J8<|jk wg (A4 [1]<|YP (jb 1)<|jb 04)<|jt jQ<|J1 (jb 05) jc) (Qs "BadPart"<|(wd K0 (jb 03)<|qG " is made by no plan ahead that has as many given things as it has items" xN) Str.empty) JN)<|WG 1 (jU (jz "Plan" "name")<|jb 2)<|jt jQ<|J1 (jU (jz "Plan" "givens")<|jb 2) jc) (ds:=c.map J5)
  (sd:=[~~~JA c,!(.own 7<|.dct [] []),8,8,8,8])
  (P:=λi sd=>∃n f g h:Option SV,sd=[~~~JA c,!(.own 7<|dT<|WN<|c.take i),n,f,g,h]) (jX 8 8 8 8 9) (by
   rintro i x sd H ⟨n,f,g,h,rfl⟩;let(-p,l,rfl):=QV H;let P:=L i p l;let il:=(Jb.mp l).1;let l2:=W.l2;let I:((c.take i).map (·.name)).Nodup:=by
    rw[List.map_take];exact List.Sublist.nodup (List.take_sublist _ _) W.nd
   let(t,ht):∃t,WN (c.take i)=t:=(_,9);let J:p.name∉t.map (·.1):=by
    rw[<-ht,iw,<-AE];exact W.fresh l
   let tl:t.length<=20:=by
    rw[<-ht];unfold WN;rw[Zql,Uu];lia
   let M:∀r∈p.rows,we r.2.1=6->yB t r.2.1=!(r.2.2.length:3):=λr o q=>by
    rcases P.how r o with z|z|z
    .rw[z]at q;exact Zn q<|by decide+kernel
    .rw[z]at q;exact Zn q<|by decide+kernel
    .rw[<-ht];(
      unfold yB
      induction e:(WN<|List.take i c).find? λp=>decide<|p.1=r.snd.fst with
      |none=>calc Zn (Zp 9)<|List.find?_eq_none.mp e %[r.snd.fst|↑r.snd.snd.length] z
      |some q=>
       let(-a,N,ea):=Ja.mp (List.mem_of_find?_eq_some e);let(-b,O,eb):=Ja.mp z;let Q:a.name=b.name:=by grind
       let ab:a=b:=by
        let(i,B,s):=UC N;let(j,C,u):=UC O;let E:=V2.mp<|UQ.mp<|Jy.mp I;rcases UZ i j with z|z|z
        .exact Zn (by rwa[s,u])<|E i j B C z
        .subst z;rw[<-s,<-u]
        .exact Zn (by rw[s,u];calc Q.symm)<|E j i C B z
       grind)
   let(-R,S,(T,U,X,m)):=Kp (tg:=.tup [03,04,05]) (b:=qE (KU (J8<|Q4 WW<|J1 (jb 04) jc)<|J8<|jk wg (A4 [1]<|YP (jb 1)<|jb 04)<|jt jQ<|J1 (jb 05) jc) (Qs "BadPart"<|(wd K0 (jb 03)<|qG " is made by no plan ahead that has as many given things as it has items" xN) Str.empty) JN) (ds:=p.rows.map j1)
    (sd:=[~~~JA c,!(.own 7<|dT t),~~~J5 p,f,g,h])
    (P:=λ_ sd=>∃f g h:Option SV,sd=[~~~JA c,!(.own 7<|dT t),~~~J5 p,f,g,h]) (je f g h 9) (by
     rintro j y sd Y ⟨f,g,h,rfl⟩;let(-r,o,rfl):=QV Y;let F:=Ue o;let w:=Om<|W.hasc l F;let Z:jQ [j6 r.2.2]=! .int r.2.2.length:=by show some (D.int (r.2.2.map qb).length)=_;rw[Zql]
     induction q:we r.2.1 with
     |false=>
      rw[q]at w;simp[w]
     |true=>
      let v:=C8 t r.2.1;rw[M r F q]at v;let dt:BS (dT t)=.ok %[t.map λp=>.inr p.1|t.map λp=>.int p.2]:=9;simp[w,Z,dt,v])
   subst m;let pt:=Nt J (⇑p:3);let tk:WN (c.take<|i+1)=t++[%[p.name|(⇑p:3)]]:=by
    rw[UV,l,<-ht];unfold WN;rw[Ub];rfl
   let gk:uJ (! !(.own 7<|dT t))=.ok %[t.map λp=>.inr p.1|t.map λp=>.int p.2]:=9;calc([~~~JA c,!(.own 7<|dT<|t++[%[p.name|(⇑p:3)]]),~~~J5 p,T,U,X],?_,_,_,_,_,by rw[tk]);rw[<-pt,ht];simp[S,gk,JQ<|show t.length<=1000 from()])
 simp_all[De,Dd]
def Df:FS:=jq (jG 1<|jt jQ<|J1 (jU (jz "Plan" "givens")<|jb 0) jc)<|qq (iS<|jU (jz "Plan" "rows")<|jb 0) (.tup [2,03,04])<|jq (qE (Q8<|J8<|KB yT yT (dC<|.int 1) (jt jQ<|J1 (jb 04) jc)<|dC<|.int 40) (Qs "BadPlan"<|(wd K0 (jb 2)<|qG " has not 1 to 40 items" xN) Str.empty) JN)<|jq (qq (iS<|jb 04) (.tup [05,06])<|jq (qE (Q8<|J8<|KB yT kj (dC<|.int 0) (jb 05)<|jb 1) (Qs "BadPlan"<|(qG "an item of "<|wd K0 (jb 2)<|qG " is no thing ahead of it" xN) Str.empty) JN)<|qE (J8<|jk fO (jt wy<|J1 (jb 06) jc)<|jk qX (dC<|.int 10)<|dC<|.int 30) (Qs "BadPlan"<|(qG "a wait of "<|wd K0 (jb 2)<|qG " has more than 30 figures" xN) Str.empty) JN)<|wY 1<|dC<|.int 1
def AW:YC->Res D:=jT 07 1 Df
def ba  (P:PL f p):AW [J5 p]=.ok .non:=by
 let s:qX (.int 10) (.int 30)=! .int 1000000000000000000000000000000:=9;let(-t,O,(h,l,m,a,c,n)):=Kp (tg:=.tup [2,03,04]) (b:=jq (qE (Q8<|J8<|KB yT yT (dC<|.int 1) (jt jQ<|J1 (jb 04) jc)<|dC<|.int 40) (Qs "BadPlan"<|(wd K0 (jb 2)<|qG " has not 1 to 40 items" xN) Str.empty) JN)<|jq (qq (iS<|jb 04) (.tup [05,06])<|jq (qE (Q8<|J8<|KB yT kj (dC<|.int 0) (jb 05)<|jb 1) (Qs "BadPlan"<|(qG "an item of "<|wd K0 (jb 2)<|qG " is no thing ahead of it" xN) Str.empty) JN)<|qE (J8<|jk fO (jt wy<|J1 (jb 06) jc)<|jk qX (dC<|.int 10)<|dC<|.int 30) (Qs "BadPlan"<|(qG "a wait of "<|wd K0 (jb 2)<|qG " has more than 30 figures" xN) Str.empty) JN)<|wY 1<|dC<|.int 1) (ds:=p.rows.map j1)
  (sd:=[~~~J5 p,~~~.int ⇑p,8,8,8,8,8])
  (P:=λi sd=>∃h l m a c:Option SV,sd=[~~~J5 p,~~~(.int<|(⇑p:3)+i),h,l,m,a,c]) (jF 8 8 8 8 8 ()) (by
   rintro i x sd u ⟨h,l,m,a,c,rfl⟩;let(-r,v,rfl):=QV u;let(!I,Q,R):=P.its i r v;let(g,hg):∃g:3,(⇑p:3)+i=g:=(_,9);rw[hg]at I;let(-w,z,(A,B,e)):=Kp (tg:=.tup [05,06]) (b:=jq (qE (Q8<|J8<|KB yT kj (dC<|.int 0) (jb 05)<|jb 1) (Qs "BadPlan"<|(qG "an item of "<|wd K0 (jb 2)<|qG " is no thing ahead of it" xN) Str.empty) JN)<|qE (J8<|jk fO (jt wy<|J1 (jb 06) jc)<|jk qX (dC<|.int 10)<|dC<|.int 30) (Qs "BadPlan"<|(qG "a wait of "<|wd K0 (jb 2)<|qG " has more than 30 figures" xN) Str.empty) JN) (ds:=r.2.2.map qb)
    (P:=λ_ sd=>∃a c:Option SV,sd=[~~~J5 p,~~~.int g,~~~.str r.1,~~~.str r.2.1,~~~j6 r.2.2,a,c]) (a,c,9) (by
     rintro j y sd C ⟨a,c,rfl⟩;let(-q,E,rfl):=QV C;let o:=Ue E;let(!F,G):=I.rng q o;let(!S,T):=I.far q o;let H:¬(1000000000000000000000000000000:3)<=if q.2<0 then-q.2 else q.2:=by split<;>lia
     simp[F,G,s,H])
   subst e;let J:(1:3)<=(r.2.2.length:3):=()
   let L:(r.2.2.length:3)<=40:=()
   let M:g+1=(⇑p:3)+((i+1:5):3):=()
   calc([~~~J5 p,~~~(.int<|g+1),~~~.str r.1,~~~.str r.2.1,~~~j6 r.2.2,A,B],?_,_,_,_,_,_,by rw[M]);let N:jQ [j6 r.2.2]=! .int r.2.2.length:=by show some (D.int (r.2.2.map qb).length)=_;rw[Zql]
   rw[hg];simp[N,J,L,z])
 simp_all[AW,Df]
def Dg:FS:=jq (qE (Q8<|J8<|KB yT yT (dC<|.int 1) (jt jQ<|J1 (jU (jz "Book" "plans")<|jb 0) jc)<|dC<|.int 20) (Qs "BadPlan"<|dC<|.str "a book has 1 to 20 plans") JN)<|qq (iS<|jU (jz "Book" "plans")<|jb 0) (.one 1)<|jq (qE (Q8<|J8<|KB yT yT (dC<|.int 1) (jt jQ<|J1 (jU (jz "Plan" "givens")<|jb 1) jc)<|dC<|.int 12) (Qs "BadPlan"<|dC<|.str "a plan has 1 to 12 given things") JN)<|jq (qE (Q8<|J8<|KB yT yT (dC<|.int 1) (jt jQ<|J1 (jU (jz "Plan" "rows")<|jb 1) jc)<|dC<|.int 40) (Qs "BadPlan"<|dC<|.str "a plan has 1 to 40 rows") JN)<|Xe<|JB AW<|J1 (jb 1) jc
def Dh:YC->Res D:=jT 2 1 Dg
def bb (L:LB a)(o:1<=a.length)(q:a.length<=20):Dh [JA a]=.ok .non:=by
 let(-f,r,(c,e)):=Kp (tg:=.one 1) (b:=jq (qE (Q8<|J8<|KB yT yT (dC<|.int 1) (jt jQ<|J1 (jU (jz "Plan" "givens")<|jb 1) jc)<|dC<|.int 12) (Qs "BadPlan"<|dC<|.str "a plan has 1 to 12 given things") JN)<|jq (qE (Q8<|J8<|KB yT yT (dC<|.int 1) (jt jQ<|J1 (jU (jz "Plan" "rows")<|jb 1) jc)<|dC<|.int 40) (Qs "BadPlan"<|dC<|.str "a plan has 1 to 40 rows") JN)<|Xe<|JB AW<|J1 (jb 1) jc) (ds:=a.map J5)
  (P:=λi sd=>∃c:Option SV,sd=[~~~JA a,c]) (8,9) (by
   rintro i x sd g ⟨c,rfl⟩;let(-p,h,rfl):=QV g;let P:=L i p h;let s:=P.g1;let t:=P.g2;let u:=P.r1;let v:=P.r2;let j:(1:3)<=(⇑p:3):=()
   let l:(⇑p:3)<=12:=()
   let m:(1:3)<=(p.rows.length:3):=()
   let n:(p.rows.length:3)<=40:=()
   simp[j,l,m,n,ba P])
 let w:(1:3)<=(a.length:3):=()
 let y:(a.length:3)<=20:=()
 simp_all[Dh,Dg]
def Di:FS:=jq (qp 1 BN)<|jq (qq (iS<|jU (jz "Book" "plans")<|jb 0) (.one 2)<|jq (qp 03<|Az [1]<|K7 [8,8,8,!1] (iS<|jU (jz "Plan" "rows")<|jb 2) (.tup [0,1,2]) (J8<|JB WW<|J1 (jb 1) jc)<|jk jR (jb 03)<|jb 1)<|WG 1 (jU (jz "Plan" "name")<|jb 2)<|jk jC (jt jQ<|J1 (jU (jz "Plan" "rows")<|jb 2) jc)<|xW [03]<|jt zG<|J1 (jb 03) jc)<|K4 1
def Dj:YC->Res D:=qz 04 1 Di
def hX (W:WB a):Dj [JA a]=.ok (dT<|xJ a):=by
 let(-o,H,(f,g,m)):=Kp (tg:=.one 2) (b:=jq (qp 03<|Az [1]<|K7 [8,8,8,!1] (iS<|jU (jz "Plan" "rows")<|jb 2) (.tup [0,1,2]) (J8<|JB WW<|J1 (jb 1) jc)<|jk jR (jb 03)<|jb 1)<|WG 1 (jU (jz "Plan" "name")<|jb 2)<|jk jC (jt jQ<|J1 (jU (jz "Plan" "rows")<|jb 2) jc)<|xW [03]<|jt zG<|J1 (jb 03) jc) (ds:=a.map J5)
  (sd:=[~~~JA a,!(.own 7<|.dct [] []),8,8])
  (P:=λi sd=>∃(f g:Option SV),sd=[~~~JA a,!(.own 7<|dT<|xJ<|a.take i),f,g]) (qA 8 8 9) (by
   rintro i x sd u ⟨f,g,rfl⟩;let(-p,c,rfl):=QV u;let w:=Ue c;let(t,ht):∃t,xJ (a.take i)=t:=(_,9);let n:=W.fresh c;let y:=dN W i;let j:∀r∈p.rows,(yB t r.2.1).isSome=we r.2.1:=λr e=>by rw[<-ht];exact W.part c e
   rw[ht]at n y;let z:=JQ (show p.rows.length<=1000 by let:=(W.sz p w).1;lia);let l:KL (.tup [0,1,2]) (J8<|JB WW<|J1 (jb 1) jc) (jk jR (jb 03)<|jb 1) [8,8,8,~~~dT t] (p.rows.map j1)=.ok ((p.rows.filter λr=>we r.2.1).map λr=>D.int<|(yB t r.2.1).getD 0):=Ap (s:=λr=>[~~~.str r.1,~~~.str r.2.1,~~~j6 r.2.2,~~~dT t]) (λr _=>()) (λr e=>by
    let:=Om<|W.hasc c e;simp[this])<|λr e q=>by
    let h:=j r e;rw[q]at h;let(v,A):=Jq.mp h;simp[A]
   let B:=e5 (λr:Str×Str×Jz=>(yB t r.2.1).getD 0)<|p.rows.filter λr=>we r.2.1;let C:=ap (λr:Str×Str×Jz=>(yB t r.2.1).getD 0)<|p.rows.filter λr=>we r.2.1;let pt:=Nt n<|wV t p;let E:=JQ<|show t.length<=1000 from();let F:a.take (i+1)=a.take i++[p]:=by rw[UV,c];rfl
   let G:xJ (a.take<|i+1)=t++[%[p.name|wV t p]]:=by rw[F,Fi,ht]
   rw[G,<-pt,ht];simp[l,z,B,C];simp[dT,E,wV])
 simp_all[Dj,Di]
def Dk:FS:=qq (sm<|Q4 Dj<|J1 (jb 0) jc) (.tup [1,2])<|qE (J8<|jk uO (jb 2)<|dC<|.int 2000) (Qs "TooLong"<|(qG "plan "<|wd K0 (jb 1)<|qG " has a weight of more than 2000" xN) Str.empty) JN
def Dl:YC->Res D:=jT 03 1 Dk
def pC(t:List (Str×3)):XC (t.map λp=>.inr p.1) (t.map λp=>.int p.2)=t.map λp=>D.tup [.str p.1,.int p.2]:=by
 unfold XC;rw[List.zipWith_map]
 induction t with
 |nil=>rfl
 |cons p t a=>rw[List.zipWith_cons_cons,a];rfl
def hY (L:LB a)(W:WB a):Dl [JA a]=.ok .non:=by
 let j:=hX W;let(t,ht):∃t,xJ a=t:=(_,9);let g:=L.wts;rw[ht]at j g;let(-l,o,(e,f,h)):=Kp (tg:=.tup [1,2]) (b:=qE (J8<|jk uO (jb 2)<|dC<|.int 2000) (Qs "TooLong"<|(qG "plan "<|wd K0 (jb 1)<|qG " has a weight of more than 2000" xN) Str.empty) JN) (ds:=t.map λp=>D.tup [.str p.1,.int p.2])
  (P:=λ_ sd=>∃e f:Option SV,sd=[~~~JA a,e,f]) (8,8,9) (by
   rintro i x sd m ⟨e,f,rfl⟩;let(-q,n,rfl):=QV m;let:=g q<|Ue n;let c:¬(2000:3)<q.2:=()
   simp[c])
 let r:Cp (dT t)=.ok (t.map λp=>D.tup [.str p.1,.int p.2]):=by rw[<-pC];rfl
 simp_all[Dl,Dk]
def Dm:FS:=jq (Xe<|JB Db<|J1 (jb 0) jc)<|jq (Xe<|JB Dh<|J1 (jb 0) jc)<|jq (Xe<|JB De<|J1 (jb 0) jc)<|Xe<|JB Dl<|J1 (jb 0) jc
def AX:YC->Res D:=jT 1 1 Dm
def bf (L:LB e)(f:1<=e.length)(g:e.length<=20):AX [JA e]=.ok .non:=by
 let W:=L.wb f g;let a:=bd L W;let b:=bb L f g;let c:=hZ L W;let d:=hY L W;simp[AX,Dm,a,b,c,d]
def AY(a:YC->Res D):FS:=jJ<|jk jR (JB a<|J1 (jb 0)<|J1 (jb 1)<|J1 (jb 2) jc)<|jU zH<|dC<|.int 1
def XP(a:YC->Res D):FS:=jq (qE (J8<|jk xa (jb 1)<|dC<|.str "all") (jJ<|jt Ak<|J1 (jb 2) jc) JN)<|jq (qE (J8<|jk xa (jb 1)<|dC<|.str "first") (jJ<|jt Am<|J1 (jb 2) jc) JN)<|jJ<|JB a<|J1 (jb 0)<|J1 (jb 1)<|J1 (jb 2) jc
def AZ(a:YC->Res D):FS:=jq (qp 03<|jt QR<|J1 (jb 2) jc)<|jq (qq (iS<|jU (jz "Plan" "rows")<|JB Xq<|J1 (jb 0)<|J1 (jb 1) jc) (.tup [04,05,06])<|K5 03<|xW [03]<|JB a<|J1 (jb 0)<|J1 (jb 05)<|J1 (Qw [8,8,!03] (iS<|jb 06) (.tup [0,1])<|jk jC (jk jR (jb 2)<|jb 0)<|jb 1) jc)<|λsd=>(jJ<|jb 03)<|qM [03] sd
def Xs:5->YC->Res D
 |0=>λ_=>.no
 |n+1=>jT 07 03 (AZ<|jT 03 03<|XP<|jT 03 03<|AY<|Xs n)
def Kd(n:5):YC->Res D:=jT 03 03<|AY<|Xs n
def Wd(n:5):YC->Res D:=jT 03 03<|XP<|Kd n
def Oo    (h:Xs n [bk,a,b]=.ok (.lst<|(c++[x]).map .int)):Kd n [bk,a,b]=.ok (.int x):=by
 let l:=YX (f:=D.int) c x
 simp_all[Kd,AY]
def iB    (a:asc how)(c:how ≠"all")(e:how ≠"first")(h:Kd n [b,.str how,d]=.ok z):Wd n [b,.str how,d]=.ok z:=by
 let f:=Kc a WP;let g:=Kc a WQ
 simp_all[Wd,XP]
theorem Op (B:BkP a):∀(n i:5)(p:Pl)(c:Yf),a[i]?=!p->i<n->c.length=⇑p->Xs n [JA a,.str p.name,.lst (c.map .int)]=.ok (.lst<|(xl a n p c).map .int)
 |0,i,p,c,_,h,_=>()
 |n+1,i,p,c,m,L,hl=>by
  let P:=B.ok i p m;let M:=P.g2;let N:=P.r2;let O:=NI (B.at m).2.2.1 B.ascs<|B.find m;show jT 07 03 (AZ<|Wd n) _=_;rw[Fs];let(y,e,u,v,w,A):=Kp (tg:=.tup [04,05,06]) (b:=K5 03<|xW [03]<|JB (Wd n)<|J1 (jb 0)<|J1 (jb 05)<|J1 (Qw [8,8,!03] (iS<|jb 06) (.tup [0,1])<|jk jC (jk jR (jb 2)<|jb 0)<|jb 1) jc) (ds:=p.rows.map j1) (sd:=[~~~JA a,~~~.str p.name,~~~(.lst<|c.map .int),!(.own 7<|.lst<|c.map .int),8,8,8])
   (P:=λi sd=>∃u v w,sd=[~~~JA a,~~~.str p.name,~~~(.lst<|c.map .int),!(.own 7<|.lst<|(jP (qJ a n) (p.rows.take i) c).map .int),u,v,w]) (8,8,8,9) (by
    rintro k x sd C ⟨u,v,w,rfl⟩;let(r,f,rfl):=QV C;let(E,Q,S):=P.at (rc:=qJ a n) hl f;let R:=P.row k r f;let F:=pr E;let G:=R.sh;let g:=dW (found:=jP (qJ a n) (p.rows.take k) c) R.ne;let H:=p6 (jP (qJ a n) (p.rows.take k) c) r.2.2;let I:Wd n [JA a,.str r.2.1,.lst ((x8 (jP (qJ a n) (p.rows.take k) c) r.2.2).map .int)]=.ok (.int<|qy (qJ a n) (jP (qJ a n) (p.rows.take k) c) r):=by
     unfold qy;rcases B.how m f with z|z|⟨z0,o,s,j,q,z3,z4,z5,z6⟩
     .rw[z,Zd 9];(simp[Wd,XP,Fl,Td g])
     .rw[z,Ze (by decide+kernel),Zd 9];(simp[Wd,XP,Fn,Fo,Te g])
     .rw[Ze o,Ze s];calc iB z0 o s ?_;let(l,rfl):∃l,n=l+1:=(n-1,());let(T,J):=B.part (n:=l) z4 (x8 (jP (qJ a<|l+1) (p.rows.take k) c) r.2.2);let t:=Op B (l+1) j q _ z4 ()<|H.trans z6;rw[J,<-z5]at t;exact Oo t
    let o:=JQ<|show r.2.2.length<=1000 from();let s:=JQ (show(jP (qJ a n) (p.rows.take k) c).length<=1000 by lia);rw[Fp f,Nr,jh];simp[F,I,o,s])
  simp_all[AZ]
def Z8:FS:=jq (jG 1<|JB Z1<|J1 (jb 0)<|J1 (jk jC (dC<|.int 2)<|jk xU (JB Wy<|J1 (jb 0)<|J1 (dC<|.int 0) jc)<|dC<|.int 2)<|J1 (dC<|.int 04) jc)<|jq (jG 2<|jk jR (jU (jz "Book" "plans")<|jb 1)<|jU zH<|dC<|.int 1)<|jq (jG 03<|jt jQ<|J1 (jU (jz "Plan" "givens")<|jb 2) jc)<|jq (jG 04<|Xj "Book" ["plans"] XI<|J1 (qD<|J1 (JB AO<|J1 (jU (jz "Book" "plans")<|jb 1)<|J1 (jb 2) jc) jc) jc)<|jq (qE (J8<|jU (xo 6)<|JB AX<|J1 (jb 04) jc) (jJ<|dC<|.bl 7) JN)<|jq (jG 05<|qD<|J1 (JB K3<|J1 (jb 1)<|J1 (jU (jz "Plan" "name")<|jb 2) jc)<|J1 (JB K3<|J1 (jb 04)<|J1 (dC<|.str "plain") jc) jc)<|jq (qE (KU (J8<|jU (xo 6)<|jk jR (jb 05)<|dC<|.int 0)<|KU (J8<|jU (xo 6)<|jk jR (jb 05)<|dC<|.int 1)<|J8<|jk wg (jk jR (jb 05)<|dC<|.int 0)<|jk jR (jb 05)<|dC<|.int 1) (jJ<|dC<|.bl 7) JN)<|jq (qq (iS<|jk jC (qD<|J1 (dC<|.int 03) jc)<|JB CW<|J1 (jb 0)<|J1 (dC<|.int 16)<|J1 (dC<|.int 16) jc) (.one 06)<|jq (jG 07<|JB AM<|J1 (jb 06)<|J1 (jb 03) jc)<|qE (J8<|jk wg (JB (Kd 04)<|J1 (jb 1)<|J1 (jU (jz "Plan" "name")<|jb 2)<|J1 (jb 07) jc)<|JB (Kd 04)<|J1 (jb 04)<|J1 (dC<|.str "plain")<|J1 (jb 07) jc) (jJ<|dC<|.bl 7) JN)<|jq (qp 08<|qD<|J1 (jk xU (JB Wy<|J1 (jb 0)<|J1 (dC<|.int 1) jc)<|jk qX (dC<|.int 10)<|dC<|.int 40) jc)<|jq (XF 09<|yf 08<|Qp CF<|J1 (jb 08)<|J1 (dC<|.int 03)<|J1 (jb 03) jc)<|jq (jG 10<|Xj "Book" ["plans"] XI<|J1 (jk jC (jU (jz "Book" "plans")<|jb 1)<|qD<|J1 (Xj "Plan" ["name","givens","rows"] XJ<|J1 (dC<|.str "outer")<|J1 (qD<|J1 (dC<|.str "a")<|J1 (dC<|.str "b")<|J1 (dC<|.str "c") jc)<|J1 (qD<|J1 (qN<|J1 (dC<|.str "d")<|J1 (jU (jz "Plan" "name")<|jb 2)<|J1 (jb 09) jc) jc) jc) jc) jc)<|jq (jG 11<|Qw [8,8] (iS<|jb 09) (.tup [0,1])<|JB zb<|J1 (JB zY<|J1 (jb 0) jc)<|J1 (jb 1) jc)<|jq (qE (J8<|jU (xo 7)<|jk jR (jb 05)<|dC<|.int 0) (jJ<|jU (xo 7)<|JB K3<|J1 (jb 10)<|J1 (dC<|.str "outer") jc) JN)<|jJ<|jk xa (JB K3<|J1 (jb 10)<|J1 (dC<|.str "outer") jc)<|JB XN<|J1 (jk jR (jb 05)<|dC<|.int 0)<|J1 (jb 11) jc
def uD:YC->Res D:=jT 12 1 Z8
noncomputable def yP(a:Jz)(k:3):3×3:=a.getD k.toNat %[0|0]
def jW(b a:Jz):Jz:=a.map λy=>%[(yP b y.1).1|(yP b y.1).2+y.2]
def zT(F:Yf)(e:3×3):3:=jY F e.1+e.2
abbrev kt:=Str->Jz->5->List Rw
def Ke(c:kt)(a:5)(b:List Rw×Jz)(r:Rw):List Rw:=if r.2.1="all"\/r.2.1="first"then b.1++[%[("":Str),r.2.1|jW b.2 r.2.2]]else b.1++c r.2.1 (jW b.2 r.2.2) (a+b.1.length)
def qI(b:kt)(a:5)(c:List Rw×Jz)(r:Rw):List Rw×Jz:=%[Ke b a c r|c.2++[%[((a+(Ke b a c r).length:5):3)-1|0]]]
def Kf(b:List Pl):5->Pl->Jz->5->List Rw
 |0,_,_,_=>[]
 |n+1,p,c,a=>(p.rows.foldl (qI (λx e k=>Kf b n ((b.find? λq=>decide<|q.name=x).getD vR) e k) a) %[[]|c]).1
structure RwL(n V:3)(r:Rw):4 where
 nm:r.1=""
 how:r.2.1="all"\/r.2.1="first"
 ne:r.2.2 ≠[]
 sh:r.2.2.length<=10
 rng:∀y∈r.2.2,0<=y.1/\y.1<n
 wt:∀y∈r.2.2,-V<=y.2/\y.2<=V
def xD(r:Rw):Bool:=not<|decide (r.2.1="all")||decide (r.2.1="first")
structure Sml(p:Pl):4 where
 wt:∀r∈p.rows,∀y∈r.2.2,-1000000000<=y.2/\y.2<=1000000000
 one:(p.rows.filter xD).length<=1
 len:p.rows.length<=04
structure LdO(ps:List Pl)(n j:5)(p:Pl)(es:Jz)(a:5)(W:3)(L:List Rw):4 where
 ne:L ≠[]
 len:L.length<=04+03*j
 row:∀(k:5)r,L[k]?=!r->RwL ((a:3)+k) (W+((j:3)+1)*1000000000) r
 run:∀(rc0:Str->List 3->3)(F:Yf),F.length=a->∃G,jP rc0 L F=F++G/\G.length=L.length/\G.getLastD 0=(xl ps n p<|es.map<|zT F).getLastD 0
def lJ (G:Yf) (a:0<=k)(h:k<(F.length:3)):jY (F++G) k=jY F k:=by
 unfold jY;rw[Uh,Uh,UN ()]
theorem FM  (b:0<=k)(h:k<(a.length:3)):yP a k∈a/\a[k.toNat]?=! yP a k:=by
 simp_all[yP]
def FN (F:Yf)(h:∀y∈a,0<=y.1/\y.1<(b.length:3)):x8 (b.map<|zT F) a=x8 F (jW b a):=by
 unfold x8 jW;rw[Zw]
 grind[jY,zT,List.getD_eq_getElem?_getD,List.getElem?_map,List.map_congr_left,FM]
def Oq  (g:∀e∈c,0<=e.1/\e.1<a/\-W<=e.2/\e.2<=W)(h:∀y∈b,0<=y.1/\y.1<(c.length:3))(i:∀y∈b,-1000000000<=y.2/\y.2<=1000000000):∀y∈jW c b,0<=y.1/\y.1<a/\-(W+1000000000)<=y.2/\y.2<=W+1000000000:=λy j=>by
 let(-x,f,rfl):=Ja.mp j;let(l,m):=h x f;let:=g _ (FM l m).1;let:=i x f;lia
def al(rc:Str->List 3->3)(a b:List Rw)(c:Yf):jP rc (a++b) c=jP rc b (jP rc a c):=by unfold jP;rw[UR]
def uq(h:List Pl)(n j:5)(p:Pl)(g:Jz)(a:5)(W:3)(i:5)(b:List Rw×Jz):4:=b.2.length=g.length+i/\(∀e∈b.2,0<=e.1/\e.1<(a:3)+b.1.length/\-W<=e.2/\e.2<=W)/\(∀(k:5)r,b.1[k]?=!r->RwL ((a:3)+k) (W+((j:3)+1)*1000000000) r)/\(∀(c:Str->List 3->3)(F:Yf),F.length=a->∃G,jP c b.1 F=F++G/\G.length=b.1.length/\b.2.map (zT<|F++G)=jP (qJ h n) (p.rows.take i) (g.map<|zT F))/\b.1.length<=i+03*j*((p.rows.take i).filter xD).length/\(i≠0->b.1 ≠[]/\∃f,b.2=f++[%[((a+b.1.length:5):3)-1|0]])
def Ot (B:BkP g)(S:∀q∈g,Sml q)   {a:5} (U:g[j]?=!p)(hl:H.length=⇑p)(he:∀e∈H,0<=e.1/\e.1<(a:3)/\-W<=e.2/\e.2<=W)
 (IH:∀(w:5)(q:Pl)(o:Jz)(Y:5)(Z:3),w<j->g[w]?=!q->o.length=⇑q->(∀e∈o,0<=e.1/\e.1<(Y:3)/\-Z<=e.2/\e.2<=Z)->LdO g n w q o Y Z (Kf g n q o Y))
 {f:kt}(I:f=λx ms k=>Kf g n ((g.find? λq=>decide<|q.name=x).getD vR) ms k):∀i,i<=p.rows.length->uq g n j p H a W i ((p.rows.take i).foldl (qI f a) %[[]|H]):=by
 let P:=B.ok j p U;let s:=S p<|Ue U;unfold uq;intro i
 induction i with
 |zero=>
  intro _;calc(9,λe h=>(),(),λc F _=>([],(ZA F).symm,9,by rw[ZA];rfl),Uc _,λh=>Zn 9 h)
 |succ i J=>
  intro hi;let A:p.rows[i]?=!p.rows[i]:=by simp
  generalize p.rows[i]=r at A;let R:=P.row i r A;let rw_:=s.wt r<|Ue A;let tk:p.rows.take (i+1)=p.rows.take i++[r]:=Wh A;let J:=J ();let rt:=λhs=>Fp (rc:=qJ g n) (hs:=hs) A;rw[tk,UR];rw[tk]at rt;generalize(p.rows.take i).foldl (qI f a) %[[]|H]=b at J;let(i1,i2,i3,i4,i5,i6):=J;let t:∀y∈r.2.2,0<=y.1/\y.1<(b.2.length:3):=λy u=>by let:=R.rng y u;rw[i1,hl];lia
  let mo:=Oq i2 t rw_;let ml:(jW b.2 r.2.2).length=r.2.2.length:=Zql _;let mn:jW b.2 r.2.2 ≠[]:=λz=>R.ne<|Jh.mp z;let sh:=R.sh;let ext:∃N,Ke f a b r=b.1++N/\N ≠[]/\(∀(k:5)x,N[k]?=!x->RwL ((a:3)+b.1.length+k) (W+((j:3)+1)*1000000000) x)/\(∀(c:Str->List 3->3)(F:Yf),F.length=a+b.1.length->∃G,jP c N F=F++G/\G.length=N.length/\G.getLastD 0=qy (qJ g n) (b.2.map<|zT F) r)/\N.length<=1+03*j*([r].filter xD).length:=by
   let jj:(0:3)<=(j:3)*1000000000:=Int.mul_nonneg () ();let jx:((j:3)+1)*1000000000=(j:3)*1000000000+1000000000:=()
   let plain:r.2.1="all"\/r.2.1="first"->(∀F:Yf,∀c,qy c F %["",r.2.1|jW b.2 r.2.2]=qy (qJ g n) (b.2.map<|zT F) r)->∃N,Ke f a b r=b.1++N/\N ≠[]/\(∀(k:5)x,N[k]?=!x->RwL ((a:3)+b.1.length+k) (W+((j:3)+1)*1000000000) x)/\(∀(c:Str->List 3->3)(F:Yf),F.length=a+b.1.length->∃G,jP c N F=F++G/\G.length=N.length/\G.getLastD 0=qy (qJ g n) (b.2.map<|zT F) r)/\N.length<=1+03*j*([r].filter xD).length:=λh hv=>by
    calc([%["",r.2.1|jW b.2 r.2.2]],Zd h,List.cons_ne_nil _ _,λk x m=>?_,λc F _=>([qy c F %["",r.2.1|jW b.2 r.2.2]],9,9,hv F c),by rw[Uf];lia);let k0:k=0:=by
     let:=(Jb.mp m).1;rw[Uf]at this;lia
    subst k0;cases m;exact(9,h,mn,by rw[ml];calc sh,λy u=>by let:=mo y u;calc(this.1,()),λy u=>by let:=mo y u;lia)
   rcases B.how U A with z|z|⟨_,z1,z2,w,q,z3,z4,z5,z6⟩
   .exact plain (.inl z) λF c=>by unfold qy;rw[Zd z,Zd z,FN F t]
   .let d:¬r.2.1="all":=by rw[z];decide+kernel
    exact plain (.inr z) λF c=>by unfold qy;rw[Ze d,Zd z,Ze d,Zd z,FN F t]
   .let fd:=B.find z4;rw[<-z5]at fd;let L:=IH w q (jW b.2 r.2.2) (a+b.1.length) (W+1000000000) z3 z4 (ml.trans z6)<|by
     intro e h;let:=mo e h
     push_cast
     exact this
    let er:f r.2.1 (jW b.2 r.2.2) (a+b.1.length)=Kf g n q (jW b.2 r.2.2) (a+b.1.length):=by rw[I];show Kf g n ((g.find? λq=>decide<|q.name=r.2.1).getD vR) _ _=_;rw[fd];rfl
    let ip:xD r=6:=by unfold xD;rw[Zo z1,Zo z2];rfl
    refine(Kf g n q (jW b.2 r.2.2)<|a+b.1.length,by unfold Ke;rw[Ze λh=>h.elim z1 z2,er],L.ne,λk x m=>?_,λc F C=>?_,?_)
    .let X:=L.row k x m;let j3:((w:3)+1)*1000000000<=(j:3)*1000000000:=()
     exact(X.nm,X.how,X.ne,X.sh,λy u=>by let:=X.rng y u;lia,λy u=>by let:=X.wt y u;lia)
    .let(-G,M,E,g3):=L.run c F C;calc(G,M,E,?_);rw[g3];unfold qy qJ;rw[Ze z1,Ze z2,fd,FN F t];rfl
    .let:=L.len;rw[V6 ip,List.filter_nil,Uf];lia
  let(N,e1,n1,n2,n3,n4):=ext;let lN:0<N.length:=Jm.mpr n1;let es1:qI f a b r=%[b.1++N|b.2++[%[((a+(b.1++N).length:5):3)-1|0]]]:=by unfold qI;rw[e1]
  let ef:List.foldl (qI f a) b [r]=qI f a b r:=9;rw[ef,es1];let O:(b.1++N).length=b.1.length+N.length:=Ua;refine(by rw[Ua,Uf];lia,λe h=>?_,λk x m=>?_,λc F C=>?_,?_,λ_=>(λz=>n1 (Jv.mp z).2,_,9))
  .show 0<=e.1/\e.1<(a:3)+((b.1++N).length:5)/\-W<=e.2/\e.2<=W;rcases Jc.mp h with y|y
   .let:=i2 e y;rw[O];lia
   .rw[Jd.mp y,O];let W0:0<=W:=by
     let M:=P.g1;let h0:0<H.length:=()
     let:=he _<|UB h0;lia
    show 0<=((a+(b.1.length+N.length):5):3)-1/\((a+(b.1.length+N.length):5):3)-1<_/\-W<=0/\0<=W;lia
  .let m:(b.1++N)[k]?=!x:=m;rcases U4 k b.1.length with y|y
   .rw[UN y]at m;exact i3 k x m
   .rw[UF y]at m;let X:=n2 _ x m;rw[show(a:3)+b.1.length+((k-b.1.length:5):3)=(a:3)+k by lia]at X;exact X
  .let(-G,M,E,g3):=i4 c F C;let(-Q,h1,T,h3):=n3 c (F++G) (by rw[Ua,C,E]);calc(G++Q,by show jP c (b.1++N) F=_;rw[al,M,h1,Ug],by rw[Ua,E,T];calc O.symm,?_);show(b.2++[%[((a+(b.1++N).length:5):3)-1|0]]).map (zT<|F++(G++Q))=_;rw[rt,<-g3,<-h3,Ub]
   congr 1
   .calc UO λe h=>?_;let:=i2 e h;unfold zT;rw[<-Ug,lJ Q this.1 (by rw[Ua,C,E];lia)]
   .let(v y,eG):=Xp (l:=Q) (λz=>by rw[z]at T;rw[<-T]at lN;calc Zn lN<|Zy 0);rw[eG,U5];show[jY (F++(G++(v++[y]))) (((a+(b.1++N).length:5):3)-1)+0]=[y];let lG:v.length+1=N.length:=by rw[<-T,eG,Ua,Uf]
    let lF:(F++(G++v)).length=a+(b.1.length+v.length):=by rw[Ua,Ua,C,E]
    let ix:(((a+(b.1++N).length:5):3)-1).toNat=(F++(G++v)).length:=by rw[lF,O];lia
    unfold jY;rw[ix,show F++(G++(v++[y]))=F++(G++v)++[y]by simp,Uh,UF (Zf _),Vp];show[y+0]=[y];rw[Int.add_zero]
  .let lf:((p.rows.take i++[r]).filter xD).length=((p.rows.take i).filter xD).length+([r].filter xD).length:=by rw[Vm,Ua]
   rw[lf,Nat.mul_add];show(b.1++N).length<=_;lia
theorem XA (B:BkP c)(S:∀q∈c,Sml q):∀(n j:5)(p:Pl)(b:Jz)(a:5)(W:3),c[j]?=!p->j<n->b.length=⇑p->(∀e∈b,0<=e.1/\e.1<(a:3)/\-W<=e.2/\e.2<=W)->LdO c n j p b a W (Kf c n p b a)
 |0,_,_,_,_,_,_,h,_,_=>()
 |n+1,j,p,b,a,W,r,hj,hl,he=>by
  let P:=B.ok j p r;let s:=S p<|Ue r;let(f,erec):∃f:kt,f=λx J k=>Kf c n ((c.find? λq=>decide<|q.name=x).getD vR) J k:=(_,9);let g:=Ot B S (n:=n) r hl he (λL q i M N h1 O Q R=>XA B S n L q i M N O () Q R) erec;unfold uq at g;let(!T,U,v,w,X,A):=g p.rows.length (Zf _);rw[Vl]at T U v w X A;let r1:=P.r1;let(C,i,m2):=A ();let Y:Kf c (n+1) p b a=(p.rows.foldl (qI f a) %[[]|b]).1:=by rw[erec];rfl
  rw[Y];generalize p.rows.foldl (qI f a) %[[]|b]=t at*;refine(C,?_,v,λu F E=>?_)
  .let o:=s.one;let l:=s.len;let:03*j*(p.rows.filter xD).length<=03*j*1:=Vx (Zf _) o;lia
  .let(-G,Z,m,g3):=w u F E;calc(G,Z,m,?_);let eR:xl c (n+1) p (b.map<|zT F)=jP (qJ c n) p.rows (b.map<|zT F):=9;rw[eR,<-g3,m2,Ub];show _=(_++[zT (F++G) %[((a+t.1.length:5):3)-1|0]]).getLastD 0;rw[U5];let(H y,I):=Xp (l:=G) (λz=>by rw[z]at m;calc C<|Jn.mp m.symm);rw[I,U5];unfold zT;let lG:H.length+1=t.1.length:=by rw[<-m,I,Ua,Uf]
   let ix:(((a+t.1.length:5):3)-1).toNat=(F++H).length:=by rw[Ua,E];lia
   unfold jY;rw[ix,<-Ug,Uh,UF (Zf _),Vp];show y=y+0;rw[Int.add_zero]
theorem Ou(c:kt)(a:5):∀(b:List Rw)(e:List Rw×Jz),e.1.length<=(b.foldl (qI c a) e).1.length/\(b.foldl (qI c a) e).2.length=e.2.length+b.length
 |[],e=>by simp
 |r::b,e=>by
  have(f,g):=Ou c a b (qI c a e r);let h:e.1.length<=(qI c a e r).1.length:=by
   show e.1.length<=(Ke c a e r).length;unfold Ke
   split<;>rw[Ua]<;>lia
  let i:(qI c a e r).2.length=e.2.length+1:=by
   show(e.2++[_]).length=_;rw[Ua,Uf]
  grind
def pK (h:∀y∈c,0<=y.1/\y.1<(b.length:3)):qg (.tup [0,1]) (qN<|J1 (jk jR (Kk 2<|jb 0)<|dC<|.int 0)<|J1 (jk jC (jk jR (Kk 2<|jb 0)<|dC<|.int 1)<|jb 1) jc) [8,8,!(.own 7<|.lst<|b.map qb)] (c.map qb)=.ok ((jW b c).map qb):=by
 unfold jW;rw[Zw];exact Kz λy f=>by
  let(g,i):=h y f;let a:xh (b.map qb) y.1=!(qb<|yP b y.1):=by
   let(k,hk):∃k:5,y.1=(k:3):=(y.1.toNat,());let e:=(FM g i).2;rw[hk]at e ⊢;rw[Vb]at e;rw[Xn (by rw[Zql];lia),Zv,e];rfl
  let j:qb %[(yP b y.1).1|(yP b y.1).2+y.2]=.tup [.int (yP b y.1).1,.int ((yP b y.1).2+y.2)]:=9
  ext
theorem Ov (B:BkP m)(S:∀q∈m,Sml q):∀(n j:5)(p:Pl)(o:Jz)(a:5)(W:3),m[j]?=!p->j<n->o.length=⇑p->(∀e∈o,0<=e.1/\e.1<(a:3)/\-W<=e.2/\e.2<=W)->Wa n [.lst (m.map J5),J5 p,.lst [.lst (o.map qb),.int (a:5)]]=.ok (.lst<|(Kf m n p o a).map j1)
 |0,_,_,_,_,_,_,h,_,_=>()
 |n+1,j,p,o,a,W,w,hj,hl,he=>by
  let P:=B.ok j p w;let s:=S p<|Ue w;let L:=XA B S (n+1) j p o a W w hj hl he;let j4:=(B.at w).2.1;let ll:=L.len;let g2:=P.g2;let r2:=s.len;let lps:=B.len;let(g,erec):∃g:kt,g=λx ms k=>Kf m n ((m.find? λq=>decide<|q.name=x).getD vR) ms k:=(_,9);let N:=Ot B S (n:=n) w hl he (λO q Q a' W' h1 h2 h3 h4=>XA B S n O q Q a' W' h2 () h3 h4) erec;let T:Kf m (n+1) p o a=(p.rows.foldl (qI g a) %[[]|o]).1:=by rw[erec];rfl
  rw[T]at ll ⊢;let mono:∀i,((p.rows.take i).foldl (qI g a) %[[]|o]).1.length<=13:=λi=>by
   let h:=(Ou g a (p.rows.drop i)<|(p.rows.take i).foldl (qI g a) %[[]|o]).1;rw[<-UR,UK]at h;lia
  let fr:jz "Plan" "rows" (J5 p)=!(.lst<|p.rows.map j1):=9;show qz 10 03 (AN<|Wa n) _=_;let(-sd',e,(E,F,G,A,v,U)):=Kp (tg:=.tup [05,06,07]) (b:=jq (jG 08<|jt Wp<|J1 (WL [8,8,!04] 2 (iS<|jb 07) (.tup [0,1])<|qN<|J1 (jk jR (Kk 2<|jb 0)<|dC<|.int 0)<|J1 (jk jC (jk jR (Kk 2<|jb 0)<|dC<|.int 1)<|jb 1) jc) jc)<|jq (qE (zI (J8<|jk xa (jb 06)<|dC<|.str "all")<|J8<|jk xa (jb 06)<|dC<|.str "first") (K5 03<|qN<|J1 (dC<|.str "")<|J1 (jb 06)<|J1 (jb 08) jc)<|jq (jG 09<|jk jR (K7 [8,!06] (iS<|jb 0) (.one 0) (J8<|jk xa (jU (jz "Plan" "name")<|jb 0)<|jb 1)<|jb 0)<|dC<|.int 0)<|WA 03<|JB (Wa n)<|J1 (jb 0)<|J1 (jb 09)<|J1 (qD<|J1 (jt QR<|J1 (jb 08) jc)<|J1 (jk jC (jk jR (jb 2)<|dC<|.int 1)<|xW [03]<|jt jQ<|J1 (jb 03) jc) jc) jc)<|K5 04<|qN<|J1 (jk yC (jk jC (jk jR (jb 2)<|dC<|.int 1)<|xW [03]<|jt jQ<|J1 (jb 03) jc)<|dC<|.int 1)<|J1 (dC<|.int 0) jc) (ds:=p.rows.map j1) (sd:=[~~~(.lst<|m.map J5),~~~J5 p,~~~.lst [.lst (o.map qb),.int (a:5)],!(.own 7<|.lst []),!(.own 7<|.lst<|o.map qb),8,8,8,8,8])
   (P:=λi sd=>∃E F G A v,sd=[~~~(.lst<|m.map J5),~~~J5 p,~~~.lst [.lst (o.map qb),.int (a:5)],!(.own 7<|.lst<|((p.rows.take i).foldl (qI g a) %[[]|o]).1.map j1),!(.own 7<|.lst<|((p.rows.take i).foldl (qI g a) %[[]|o]).2.map qb),E,F,G,A,v]) (jF 8 8 8 8 8 9) (by
    intro i x sd hx;calc xK λE F G A v u=>?_;subst u;let(-r,H,rfl):=QV hx;let hi:=(Jb.mp H).1;let R:=P.row i r H;let X:=s.wt r<|Ue H;let K:=N i ();let mo:=mono i;let t:=mono<|i+1;let tk:p.rows.take (i+1)=p.rows.take i++[r]:=Wh H;rw[tk,UR]at t ⊢;generalize(p.rows.take i).foldl (qI g a) %[[]|o]=f at*;let T:List.foldl (qI g a) f [r]=qI g a f r:=9;rw[T]at t ⊢;unfold uq at K;let(!i1,i2,_):=K;let I:∀y∈r.2.2,0<=y.1/\y.1<(f.2.length:3):=λy hy=>by let:=R.rng y hy;rw[i1,hl];lia
    let mv:=pK I;let Y:=Oq i2 I X;let ml:(jW f.2 r.2.2).length=r.2.2.length:=Zql _;let sh:=R.sh;let z1:=JQ<|show r.2.2.length<=1000 from();let z2:=JQ<|show f.1.length<=1000 from();let z3:=JQ<|show f.2.length<=1000 from();let hc:∀a b c d E F G A v,capO [8,8,!04] 2 [a,b,c,d,!(.own 7<|.lst<|f.2.map qb),E,F,G,A,v]=[8,8,!(.own 7<|.lst<|f.2.map qb)]:=λ_ _ _ _ _ _ _ _ _=>9;let gt:Wp [.lst ((jW f.2 r.2.2).map qb)]=!(j6<|jW f.2 r.2.2):=9;let gl:QR [j6 (jW f.2 r.2.2)]=!(.lst<|(jW f.2 r.2.2).map qb):=9;let J:jR (.lst [.lst (o.map qb),.int (a:5)]) (.int 1)=! .int (a:5):=9;let er:j6 r.2.2=.tup (r.2.2.map qb):=9;let nr:j1 r=.tup [.str r.1,.str r.2.1,j6 r.2.2]:=9;let s8:∀Z w1 w2 w3 w9,jG 08 (jt Wp<|J1 (WL [8,8,!04] 2 (iS<|jb 07) (.tup [0,1])<|qN<|J1 (jk jR (Kk 2<|jb 0)<|dC<|.int 0)<|J1 (jk jC (jk jR (Kk 2<|jb 0)<|dC<|.int 1)<|jb 1) jc) jc) [Z,w1,w2,w3,!(.own 7<|.lst<|f.2.map qb),~~~.str r.1,~~~.str r.2.1,~~~j6 r.2.2,A,w9]=.ok (.next [Z,w1,w2,w3,!(.own 7<|.lst<|f.2.map qb),~~~.str r.1,~~~.str r.2.1,~~~j6 r.2.2,~~~(j6<|jW f.2 r.2.2),w9]):=λZ w1 w2 w3 w9=>by
     generalize(qN<|J1 (jk jR (Kk 2<|jb 0)<|dC<|.int 0)<|J1 (jk jC (jk jR (Kk 2<|jb 0)<|dC<|.int 1)<|jb 1) jc)=fx at*;generalize j6 (jW f.2 r.2.2)=md at*;generalize(jW f.2 r.2.2).map qb=ml at*;simp[er,hc,mv,z1,gt]
    let big:∃v9,(qE (zI (J8<|jk xa (jb 06)<|dC<|.str "all")<|J8<|jk xa (jb 06)<|dC<|.str "first") (K5 03<|qN<|J1 (dC<|.str "")<|J1 (jb 06)<|J1 (jb 08) jc)<|jq (jG 09<|jk jR (K7 [8,!06] (iS<|jb 0) (.one 0) (J8<|jk xa (jU (jz "Plan" "name")<|jb 0)<|jb 1)<|jb 0)<|dC<|.int 0)<|WA 03<|JB (Wa n)<|J1 (jb 0)<|J1 (jb 09)<|J1 (qD<|J1 (jt QR<|J1 (jb 08) jc)<|J1 (jk jC (jk jR (jb 2)<|dC<|.int 1)<|xW [03]<|jt jQ<|J1 (jb 03) jc) jc) jc) [~~~(.lst<|m.map J5),~~~J5 p,~~~.lst [.lst (o.map qb),.int (a:5)],!(.own 7<|.lst<|f.1.map j1),!(.own 7<|.lst<|f.2.map qb),~~~.str r.1,~~~.str r.2.1,~~~j6 r.2.2,~~~(j6<|jW f.2 r.2.2),v]=.ok (.next [~~~(.lst<|m.map J5),~~~J5 p,~~~.lst [.lst (o.map qb),.int (a:5)],!(.own 7<|.lst<|(Ke g a f r).map j1),!(.own 7<|.lst<|f.2.map qb),~~~.str r.1,~~~.str r.2.1,~~~j6 r.2.2,~~~(j6<|jW f.2 r.2.2),v9]):=by
     let pl:∀h:Str,h="all"\/h="first"->r.2.1=h->(Ke g a f r).map j1=f.1.map j1++[.tup [.str "",.str h,j6 (jW f.2 r.2.2)]]:=λh C e=>by
      subst e;unfold Ke;rw[Zd C,Ub];rfl
     rcases B.how w H with z|z|⟨z0,z1',z2',O,q,z3',z4,z5,z6⟩
     .calc(v,?_);rw[pl "all" (.inl 9) z,z];generalize m.map J5=PD;generalize J5 p=pp;generalize j6 (jW f.2 r.2.2)=md;simp[Fl,z2]
     .calc(v,?_);let nfa:¬("first":Str)="all":=by decide+kernel
      rw[pl "first" (.inr 9) z,z];generalize m.map J5=PD;generalize J5 p=pp;generalize j6 (jW f.2 r.2.2)=md;simp[Fn,Fo,nfa,z2]
     .calc(~~~J5 q,?_);let ca:((a+f.1.length:5):3)=(a:3)+f.1.length:=Int.natCast_add _ _;let M:=Ov B S n O q (jW f.2 r.2.2) (a+f.1.length) (W+1000000000) z4 () (ml.trans z6) (λe h=>by rw[ca];calc Y e h);rw[ca]at M;let fd:=B.find z4;rw[<-z5]at fd;let el:Ke g a f r=f.1++Kf m n q (jW f.2 r.2.2) (a+f.1.length):=by
       unfold Ke;rw[Ze λh=>h.elim z1' z2',erec];show _++Kf m n ((m.find? λq=>decide<|q.name=r.2.1).getD vR) _ _=_;rw[fd];rfl
      let t:(Ke g a f r).length<=13:=t;rw[el]at t ⊢;rw[Ua]at t;rw[Ub];generalize Kf m n q (jW f.2 r.2.2) (a+f.1.length)=LL at*;let zl:f.1.length+LL.length<=sizeLine:=QC ();let e1:=Kc z0 WP;let e2:=Kc z0 WQ;let mt:KL (.one 0) (J8<|jk xa (jU (jz "Plan" "name")<|jb 0)<|jb 1) (jb 0) [8,~~~.str r.2.1] (m.map J5)=.ok ((m.filter λq=>decide<|q.name=r.2.1).map J5):=by
       calc Ap (s:=λq=>[~~~J5 q,~~~.str r.2.1]) (λq _=>9) (λq hq=>?_) λq _ _=>9;let ge:=Kc (B.ascs q hq) z0;let fn:jz "Plan" "name" (J5 q)=! .str q.name:=9;simp[fn,ge]
      let a0:xh ((m.filter λq=>decide<|q.name=r.2.1).map J5) 0=! J5 q:=by
       let C:(m.filter λq=>decide<|q.name=r.2.1).head?=!q:=by rw[List.head?_filter];exact fd
       induction c:m.filter λq=>decide<|q.name=r.2.1 with
       |nil=>rw[c]at C;calc J6 C
       |cons y l=>
        rw[c]at C;let e0:y=q:=Zqi C;rw[e0];exact Xn (l:=(q::l).map J5) (k:=0) ()
      generalize(m.filter λq=>decide<|q.name=r.2.1).map J5=FD at mt a0;let lz:=JQ (show(m.map J5).length<=1000 by rw[Zql];lia);generalize hPD:m.map J5=PD at mt M lz;generalize J5 p=pp;generalize J5 q=qd at a0 M;generalize j6 (jW f.2 r.2.2)=md at*;generalize(jW f.2 r.2.2).map qb=mvl at*;simp[e1,e2,z1',z2',mt,a0,lz,gl,J,M,zl]
    let(v9,big):=big;calc([~~~(.lst<|m.map J5),~~~J5 p,~~~.lst [.lst (o.map qb),.int (a:5)],!(.own 7<|.lst<|(Ke g a f r).map j1),!(.own 7<|.lst<|(f.2++[%[((a+(Ke g a f r).length:5):3)-1|0]]).map qb),~~~.str r.1,~~~.str r.2.1,~~~j6 r.2.2,~~~(j6<|jW f.2 r.2.2),v9],?_,_,_,_,_,_,9);rw[Nr,jh];calc zZ (s8 _ _ _ _ _)<|zZ big ?_;let ep:qb %[((a+(Ke g a f r).length:5):3)-1|0]=.tup [.int ((a:3)+((Ke g a f r).length:3)-1),.int 0]:=by rw[Int.natCast_add];rfl
    rw[Ub,List.map_singleton,ep];generalize m.map J5=PD;generalize J5 p=pp;generalize j6 (jW f.2 r.2.2)=md;generalize Ke g a f r=RL;simp[J,z3])
  rw[Zql,Vl]at U;let i0:jR (.lst [.lst (o.map qb),.int (a:5)]) (.int 0)=!(.lst<|o.map qb):=9
  simp_all[AN]
theorem Ow   :∀k:5,(∀r∈(xG ns s ps k).1,∀y∈r.2.2,-1000000000<=y.2/\y.2<=1000000000)/\((xG ns s ps k).1.filter xD).length<=1/\((xG ns s ps k).2=7->((xG ns s ps k).1.filter xD).length=0)
 |0=>((λ_ h=>nomatch h),Uc _,λ_=>9)
 |k+1=>by
  let(!l,o,g):=Ow (ns:=ns) (s:=s) (ps:=ps) k;let f:∀m p n,∀y∈qB m p n,-1000000000<=y.2/\y.2<=1000000000:=λm p n y q=>by
   let(-i,_,rfl):=Ja.mp q;show _<=KO _/\KO _<=_;unfold KO
   split<;>lia
  let e:∀(m p:3)(n:5)(a b:Str),∀r∈(xG ns s ps k).1++[%[a,b|qB m p n]],∀y∈r.2.2,-1000000000<=y.2/\y.2<=1000000000:=λm p n a b r t=>by
   rcases Jc.mp t with z|z
   .exact l r z
   .rw[Jd.mp z];exact f m p n
  rw[N3];by_cases c:zR ps (y7 ns s k) (xG ns s ps k).2
  .rw[Zd c];calc(e _ _ _ _ _,?_,λh=>nomatch h);rw[Vm,Ua,g c.2];let:=Vy xD [%["m"++jD k,(v5 ps<|y7 ns s k/05/04).name|qB ((qi ns s:3)+k) (y7 ns s k/05/04/ps.length) (v5 ps<|y7 ns s k/05/04).givens.length]];rw[Uf]at this;lia
  .rw[Ze c];let j:∀a b,[%[a,xE (y7 ns s k)|b]].filter xD=[]:=λa b=>by
    let:xD %[a,xE (y7 ns s k)|b]=7:=by
     unfold xD xE
     split
     .rfl
     .rfl
    rw[V7 (by rw[this];calc Zj),List.filter_nil]
   refine(e _ _ _ _ _,?_,λh=>?_)
   .rw[Vm,j,ZA];exact o
   .rw[Vm,j,ZA];exact g h
def pX(a:Yf)(s:5)(c:Str)(b:List Pl):Sml (wc a s c b 04):=by
 let(e,f,_):=Ow (zQ a s 04);calc(e,f,?_);let:=Fw a s (m:=04) () ();show(xG a s b<|zQ a s 04).1.length<=04;rw[YZ];lia
def xO(g:5):Jz:=(List.range g).map λt:5=>%[(t:3)|0]
def zN:Rw:=%["",""|[]]
def xL(L:List Rw):List Rw:=(List.range L.length).map λk=>%["u"++jD k,(L.getD k zN).2.1|(L.getD k zN).2.2]
def qh(g:Yi)(L:List Rw):Pl:=("plain",g,xL L)
def FP(g:5):(xO g).length=g:=by unfold xO;rw[Zql,ZB]
def FQ(g:5):∀e∈xO g,0<=e.1/\e.1<(g:3)/\-0<=e.2/\e.2<=0:=λe h=>by
 let(-t,a,rfl):=Ja.mp h
 ext
def ln  (h:a.length=g):(xO g).map (zT a)=a:=by
 unfold xO;rw[Zw];apply VX;intro i;rw[Zv];rcases U4 i g with z|z
 .rw[List.getElem?_range z,Zqg ()];show some (jY a (i:3)+0)=_;unfold jY;rw[Int.add_zero,Vb,Uh,Zqg ()];rfl
 ext
def hD (B:BkP b)(S:∀q∈b,Sml q){j:5} (c:b[j]?=!p):AO [.lst (b.map J5),J5 p]=.ok (J5<|qh p.givens<|Kf b 04 p (xO ⇑p) ⇑p):=by
 let P:=B.ok j p c;let v:=P.g2;let g:=(B.at c).2.1;let w:=Ov B S 04 j p (xO ⇑p) ⇑p 0 c g (FP _)<|FQ _;let L:=XA B S 04 j p (xO ⇑p) ⇑p 0 c g (FP _)<|FQ _;let x:=L.len;generalize Kf b 04 p (xO ⇑p) ⇑p=LL at*;let y:jz "Plan" "givens" (J5 p)=!(.lst<|p.givens.map .str):=9;let z:Uk [.int (⇑p:5)]=.ok (JZ 0 ⇑p):=by rw[WH () ()];rfl
 let A:Uk [.int (LL.length:5)]=.ok (JZ 0 LL.length):=by rw[WH () ()];rfl
 let C:=JQ<|show ⇑p<=1000 from();let E:=JQ<|show LL.length<=1000 from();let h:qg (.one 0) (qN<|J1 (jb 0)<|J1 (dC<|.int 0) jc) [8] (JZ 0 ⇑p)=.ok ((xO ⇑p).map qb):=by
  unfold xO;rw[Zw];exact YH λi f=>by simp;rfl
 let l:TxtOk 1 "u":=KF (by decide+kernel);let m:qg (.one 0) (qN<|J1 (jk jC (dC<|.str "u")<|jt yS<|J1 (jb 0) jc)<|J1 (jk jR (jk jR (jb 1)<|jb 0)<|dC<|.int 1)<|J1 (jk jR (jk jR (jb 1)<|jb 0)<|dC<|.int 2) jc) [8,~~~(.lst<|LL.map j1)] (JZ 0 LL.length)=.ok ((xL LL).map j1):=by
  unfold xL;rw[Zw];exact YH λi f=>by
   let(n,o):=AC (k:=i) ();let r:=C7 l o ();let e:LL[i]?=! LL.getD i zN:=by rw[Uh,Zqg f];rfl
   let a:xh (LL.map j1) (i:3)=!(j1<|LL.getD i zN):=by
    rw[Xn (by rw[Zql];calc f),Zv,e];rfl
   let s:jR (j1<|LL.getD i zN) (.int 1)=! .str (LL.getD i zN).2.1:=9;let t:jR (j1<|LL.getD i zN) (.int 2)=! j6 (LL.getD i zN).2.2:=9;let u:j1 %["u"++jD i,(LL.getD i zN).2.1|(LL.getD i zN).2.2]=.tup [.str ("u"++jD i),.str (LL.getD i zN).2.1,j6 (LL.getD i zN).2.2]:=9;show _=Res.ok (j1 %["u"++jD i,(LL.getD i zN).2.1|(LL.getD i zN).2.2]);rw[u];generalize j1 (LL.getD i zN)=rd at*;generalize j6 (LL.getD i zN).2.2=rr at*;generalize LL.map j1=LD at*;simp[n,r,a,s,t]
 let F:J5 (qh p.givens LL)=.ins "Plan" ["name","givens","rows"] [.str "plain",.lst (p.givens.map .str),.lst ((xL LL).map j1)]:=9
 simp_all[AO,CK,WI,XJ,yN,JX]
def FR:∀k:Fin 16,vZ ("u"++jD k.1)=6/\vZ ("g"++jD k.1)=6:=by decide+kernel
def cG:(((List.range 04).map λk=>(("g":Str)++jD k).cps.toList)++(List.range 14).map λk=>(("u":Str)++jD k).cps.toList).Nodup:=by decide+kernel
def Dn  {r:Rw}(h:(xL L)[k]?=!r):∃x,L[k]?=!x/\r=%["u"++jD k,x.2.1|x.2.2]/\k<L.length:=by
 grind[xL,Zql,List.length_range,List.getElem?_map,List.getD_eq_getElem?_getD]
def FU(L:List Rw):(xL L).length=L.length:=by unfold xL;rw[Zql,ZB]
def av(rc:Str->List 3->3)(L:List Rw)(c:Yf):jP rc (xL L) c=jP rc L c:=by
 let g:∀(A C:List Rw),A.length=C.length->(∀(k:5)x y,A[k]?=!x->C[k]?=!y->x.2=y.2)->∀c,jP rc A c=jP rc C c:=by
  intro A
  induction A with
  |nil=>intro C f _ c;induction C with
   |nil=>rfl
   |cons y C=>cases f
  |cons x A j=>intro C f h c;induction C with
   |nil=>cases f
   |cons y C=>
    show jP rc A (c++[qy rc c x])=jP rc C (c++[qy rc c y]);let l:qy rc c x=qy rc c y:=by unfold qy;rw[h 0 x y 9 9]
    rw[l];exact j C (UL f) (λk a b m n=>h (k+1) a b m n) _
 exact g _ _ (FU L) λk x y o i=>by
  let(-z,p,e,_):=Dn o;rw[p]at i;cases i;rw[e] c
section
variable   {p:Pl}
def pJ(P:PlP (a.take j) p)(f:j<=2)(X:LdO a 04 j p (xO ⇑p) ⇑p 0 L):PlP [] (qh p.givens L):=by
 let g:=X.len;refine(P.g1,P.g2,?_,?_,λk r b=>?_)
 .show 1<=(xL L).length;rw[FU];exact Jm.mpr X.ne
 .show(xL L).length<=12;rw[FU];lia
 .let(-x,c,rfl,h):=Dn b;let R:=X.row k x c;exact((YU (FR (k,())).1).1.asc,R.how.imp id .inl,R.ne,R.sh,R.rng,λy e=>by let:=R.wt y e;lia)
def pL(P:PlP [] (qh p.givens L)):BkP [qh p.givens L]:=by
 let one:∀(i:5)(q:Pl),[qh p.givens L][i]?=!q->i=0/\q=qh p.givens L:=λi q h=>by
  let:=(Jb.mp h).1;rw[Uf]at this;obtain rfl:i=0:=()
  exact(9,(Zqi h).symm)
 refine((),λi q h=>?_,λi j p q a b _=>by rw[(one i p a).1,(one j q b).1],λi q h=>?_)
 .rw[(one i q h).2];let c:zp "plain":=YU (by decide+kernel);exact(c.1.asc,c.ne.2)
 .rwa[(one i q h).2,(one i q h).1]
def cj(P:PlP [] (qh p.givens L))(g:5)(n:p.givens=(List.range g).map λk=>"g"++jD k)(E:L.length<=12)(o:∀(k:5)r,L[k]?=!r->RwL ((⇑p:3)+k) 4000000000 r):LB [qh p.givens L]:=λi q h=>by
 let:=(Jb.mp h).1;rw[Uf]at this;obtain rfl:i=0:=()
 obtain rfl:qh p.givens L=q:=Zqi h;let s:=P.g2;let s:⇑p<=04:=s;let u:g<=04:=by ext
 let t:(qh p.givens L).rows.map (·.1)=(List.range L.length).map λk=>"u"++jD k:=by
  show(xL L).map (·.1)=_;unfold xL;rw[Zw];rfl
 let c:∀r∈xL L,r.2.1="all"\/r.2.1="first":=λr f=>by
  let(k,l):=Ji.mp f;let(-x,j,rfl,_):=Dn l;exact(o k x j).how
 let v:zp "plain":=YU (by decide+kernel);refine(v,(λq w=>nomatch w),λx j=>?_,?_,P.g1,(),P.r1,by let:=P.r2;lia,λk r f=>?_,λr f=>?_,?_)
 .rw[t,show(qh p.givens L).givens=p.givens from 9,n]at j;rcases Jc.mp j with z|z
  .let(k,l,rfl):=Ja.mp z;let:=Je.mp l;exact YU (FR (k,())).2
  .let(k,l,rfl):=Ja.mp z;let:=Je.mp l;exact YU (FR (k,())).1
 .rw[t,show(qh p.givens L).givens=p.givens from 9,n];let m:=cG;let sub:(((List.range g).map λk=>(("g":Str)++jD k).cps.toList)++(List.range L.length).map λk=>(("u":Str)++jD k).cps.toList).Sublist (((List.range 04).map λk=>(("g":Str)++jD k).cps.toList)++(List.range 14).map λk=>(("u":Str)++jD k).cps.toList):=List.Sublist.append ((List.range_sublist.mpr u).map _) ();let m:=List.Pairwise.sublist sub m;let A:((List.range g).map λk=>(("g":Str)++jD k).cps.toList)++((List.range L.length).map λk=>(("u":Str)++jD k).cps.toList)=(((List.range g).map λk=>("g":Str)++jD k)++(List.range L.length).map λk=>("u":Str)++jD k).map λx=>x.cps.toList:=by
   rw[Ub,Zw,Zw];rfl
  rw[A]at m;rw[UQ]at m;exact m.imp λ{a b}h e=>h<|by rw[e]
 .let(-x,j,rfl,_):=Dn f;let R:=o k x j;let F:=R.sh;calc(?_,Jm.mpr R.ne,by show x.2.2.length<=40;lia);exact(R.rng,λy B=>by let:=R.wt y B;lia)
 .exact(c r f).imp id .inl
 .unfold wV;let C:(qh p.givens L).rows.filter (λr=>we r.2.1)=[]:=List.filter_eq_nil_iff.mpr λr f=>by
   unfold we;rcases c r f with z|z<;>rw[z]<;>decide+kernel
  rw[C];let:=P.r2;show((qh p.givens L).rows.length:3)+0<=2000;lia
end
def Ox  (c:f ≠[])(b:∀r∈f,r ≠[]) :JE f hs<=y↔∃r∈f,∀p∈r,jY hs p.1+p.2<=y:=by
 constructor
 .intro h;let(-r,a,e):=Xo (hs:=hs) c;exact(r,a,(Fg<|b r a).mp ())
 .rintro⟨r,a,h⟩;exact Int.le_trans (WM a)<|(Fg<|b r a).mpr h
def ak  (e:JC r k=!w):%[k|w]∈r:=by
 grind[lH]
def Oy  {W V:3}(F:Tf n W f)(G:Tf n V g)(h:∀a:Yf,a.length=n->JE f a=JE g a):∀r∈f,∃s∈g,JI s r=6:=λr c=>by
 let J:=F.cn.rows r c;let(a,eh):∃a:Yf,a=(List.range n).map λi:5=>match JC r (i:3)with
  |some w=>-w
  |none=>V+1:=(_,9)
 let t:a.length=n:=by rw[eh,Zql,ZB]
 let o:∀k:3,0<=k->k<(n:3)->jY a k=match JC r k with
  |some w=>-w
  |none=>V+1:=λk u v=>by
  let(i,rfl):∃i:5,k=(i:3):=(k.toNat,());unfold jY;rw[eh,Vb,Uh,Zv,List.getElem?_range ()];rfl
 let q:=(Ox F.cn.ne λr c=>(F.cn.rows r c).ne).mpr (r,c,λp l=>by
  rw[o p.1 (J.bnd p l).1 (F.th r c p l).1,J.once.look l];show-p.2+p.2<=0;lia)
 rw[h a t]at q;let(-s,j,l):=(Ox G.cn.ne λr c=>(G.cn.rows r c).ne).mp q;calc(s,j,z9.mpr λp m=>?_);let e:=l p m;let b:=G.th s j p m;rw[o p.1 ((G.cn.rows s j).bnd p m).1 b.1]at e
 grind
def lw  {W V:3}(F:Tf n W f)(G:Tf n V g)(h:∀c:Yf,c.length=n->JE f c=JE g c):f=g:=by
 let a:=Oy F G h;let b:=Oy G F λc l=>(h c l).symm;let q:∀{x y z:Jz},JI x y=6->JI y z=6->JI x z=6:=λ{x y z}t A=>z9.mpr λp B=>by
  let(-w,C,E):=z9.mp t p B;let(-v,H,I):=z9.mp A _ (ak C);exact(v,H,Int.le_trans E I)
 let sub:∀{f g:J0},Cn f->Cn g->(∀r∈f,∃s∈g,JI s r=6)->(∀r∈g,∃s∈f,JI s r=6)->∀r∈f,r∈g:=λ{f g}F G a b r i=>by
  let(-s,c,u):=a r i;let(-j,m,o):=b s c;let e:=F.anti j m r i<|q o u;subst e
  rwa[Fe (F.rows j i).once (G.rows s c).once (F.rows j i).rise (G.rows s c).rise o u]
 let J:f.Pairwise λa b=>jH a b=6:=by rw[<-F.cn.thin];exact Wx _
 let L:g.Pairwise λa b=>jH a b=6:=by rw[<-G.cn.thin];exact Wx _
 exact Xb yI J L λr=>(sub F.cn G.cn a b r,sub G.cn F.cn b a r)
def Oz (B:BkP b)   (i:b[j]?=!p)(X:LdO b 04 j p (xO ⇑p) ⇑p 0 L)(n:5) (h:a.length=⇑p):qJ [qh p.givens L] (n+1) "plain" a=qJ b 04 p.name a:=by
 let(-G,m,c,f):=X.run (qJ [qh p.givens L] n) a h;rw[ln h]at f;let e:qJ [qh p.givens L] (n+1) "plain" a=(jP (qJ [qh p.givens L] n) (xL L) a).getLastD 0:=9;rw[e,av,m];unfold qJ;rw[B.find i];let(o y,g):=Xp (l:=G) (λz=>by rw[z]at c;calc X.ne<|Jn.mp c.symm);rw[g,<-Ug,U5]
 rwa[g,U5]at f
noncomputable def xb(b:Str)(a:Jz):Pl:=("outer",["a","b","c"],[%["d",b|a]])
def O0    {K:Kn} (b:Xq [bk,.str p.name]=.ok (J5 p))(e:⇑p<=12)
 (h:(qY (YQ (iS<|jU (jz "Plan" "rows")<|jb 04) (.tup [06,07,08])<|XO n)<|zU 05<|x6<|jb 05) (y0 bk (.str p.name) (J5 p) a ((qL ⇑p).map jg) 8 8 8 8) [%[a|kD K]]=X):WS (Qh n) (JX 10 [bk,.str p.name,.int 12,.adr a]) [%[a|kD K]]=X:=by
 let f:Uk [.int (⇑p:5)]=.ok (JZ 0 ⇑p):=by rw[WH () ()];rfl
 let g:qg (.one 0) (Q4 zY<|J1 (jb 0) jc) [8] (JZ 0 ⇑p)=.ok ((qL ⇑p).map jg):=by
  unfold qL;rw[Zw];exact YH λi j=>by simp
 let l:=JQ<|show ⇑p<=1000 from();let c:JX 10 [bk,.str p.name,.int 12,.adr a]=[~~~bk,~~~.str p.name,~~~.int 12,~~~.adr a,8,8,8,8,8,8]:=9;rw[c];refine wX (sd':=[~~~bk,~~~.str p.name,~~~.int 12,~~~.adr a,~~~J5 p,8,8,8,8,8]) (Ku<|by simp[b])<|wX (Ku ?_) h
 simp_all[y0,WI]
def Dp  (h:∀a,(Qt 04 [bk,b,.int 12,.adr a] [%[a|.dct [] []]]).bind (λq=>.ok q.1)=x):W1 [bk,b,.int 12]=x:=by
 let c:C1 (Qt 04) (.dct [] []) (J1 (jb 0)<|J1 (jb 1)<|J1 (jb 2) jc) [~~~bk,~~~b,~~~.int 12]=x:=MZ h;simp[W1,AU,c]
 induction x<;>rfl
def io (B:BkP i)  (hp:i[j]?=!p)(j2:j<=2) (o:Bk i bk) (O:its.length=⇑p)(v:∀y∈its,0<=y.1/\y.1<03)(Q:∀y∈its,-1000000000<=y.2/\y.2<=1000000000)(G:Xq [bk,.str "outer"]=.ok (J5<|xb p.name its)):
 (
  ∀b,Bk i b->QM [b,.str p.name,.int 12]=Qu)/\QM [bk,.str "outer",.int 12]=Qu\/∃t,(∀b,Bk i b->QM [b,.str p.name,.int 12]=.ok (jg t))/\Tf ⇑p (wB<|j+1) t/\(∀c:Yf,c.length=⇑p->JE t c=qJ i (j+1) p.name c)/\
  (x5 [jg t,.lst ((its.map λy=>JW [[%[y.1|0]]] y.2).map jg),.int 12]=Qu/\QM [bk,.str "outer",.int 12]=Qu\/∃u,x5 [jg t,.lst ((its.map λy=>JW [[%[y.1|0]]] y.2).map jg),.int 12]=.ok (jg u)/\QM [bk,.str "outer",.int 12]=.ok (jg u)):=by
 let P:=B.ok j p hp;let g2:=P.g2;let m:=B.at hp;let H:(its.map λy=>JW (qK (qL 03) y.1) y.2)=its.map λy=>JW [[%[y.1|0]]] y.2:=UO λy R=>by
  let(h0,h1):=v y R;let:y.1=0\/y.1=1\/y.1=2:=()
  rcases this with z|z|z<;>rw[z]<;>rfl
 let gT:∀g∈qL 03,Tf 03 0 g:=λg q=>by
  let(-t,S,rfl):=Ja.mp q;exact Oh (Je.mp S) ()
 let w:=(FC gT (its:=its) (V:=1000000000) v Q).1;rw[H]at w;let fr:jz "Plan" "rows" (J5<|xb p.name its)=!(.lst<|[%[("d":Str),p.name|its]].map j1):=9;let I:∀a T u6 u7 u8 u9,iS (jU (jz "Plan" "rows")<|jb 04) (y0 bk (.str "outer") (J5<|xb p.name its) a T u6 u7 u8 u9)=.ok ([%[("d":Str),p.name|its]].map j1):=λa T u6 u7 u8 u9=>by
  rfl
 let s:=λ(a:Addr)=>Oc (n:=03) (bk:=bk) (nm:=.str "outer") (pl:=J5<|xb p.name its) (a:=a) (T:=qL 03) (u6:=8) (u7:=8) (u8:=8) (u9:=8) (hp:=[%[a|kD []]]) (r:=%["d",p.name|its]) v (λg q=>(by let:=(gT g q).len;lia,λx A=>by let:=((gT g q).cn.rows x A).len;lia)) ();rw[show(its.map λy=>JW (qK (qL 03) y.1) y.2)=its.map λy=>JW [[%[y.1|0]]] y.2 from H]at s;let J:(its.map λy=>JW [[%[y.1|0]]] y.2).length=⇑p:=(Zql _).trans O;generalize U:(its.map λy=>JW [[%[y.1|0]]] y.2)=fs at w s J;let X:KOk i []:=(Vu,λx h=>nomatch h);let L:(∀a,Qh 03 [bk,.str p.name,.lst (fs.map jg),.int 12,.adr a] [%[a|kD []]]=.ex "TooMany" [])->QM [bk,.str "outer",.int 12]=Qu:=λh=>by
  let e:W1 [bk,.str "outer",.int 12]=Qu:=Dp λa=>by
   let k:Qt 04 [bk,.str "outer",.int 12,.adr a] [%[a|kD []]]=.ex "TooMany" []:=by
    show Qy 10 04 (WS<|Qh 03) _ _=_;calc FH 9<|O0 (p:=xb p.name its) G (by show 03<=12;lia) ?_;show(qY _ _) (y0 bk (.str "outer") (J5<|xb p.name its) a ((qL 03).map jg) 8 8 8 8) [%[a|kD []]]=_;rw[AG,Cr,I,jh];show(qC _ [j1 %["d",p.name|its]] _ _).bind _=_;rw[Oe ((s a).trans<|Od<|h a)];rfl
   show Res.bind (Qt 04 [bk,.str "outer",.int 12,.adr a] [%[a|kD []]]) _=_;rw[k];rfl
  simp_all[Qu,QM,WU]
 rcases Oi B j p [] hp X with z|⟨T,K',Y,Z,M,k4,k5,k6⟩
 .refine .inl (λb C=>?_,?_)
  .let e:W1 [b,.str p.name,.int 12]=Qu:=Dp λa=>by
    show Res.bind (Qt 04 [b,.str p.name,.int 12,.adr a] [%[a|kD []]]) _=_;rw[z 04 () b C a];rfl
   unfold Qu at e ⊢;simp[QM,WU,e]
  .exact L λa=>NY m.2.2.1 m.2.2.2.1 m.2.2.2.2 9<|z 03 () bk o a
 .let(ys t,rfl):=Xp k5;refine .inr (t,λb C=>?_,M t<|Uo _ Zqs,λc h=>?_,?_)
  .let e:W1 [b,.str p.name,.int 12]=.ok (.lst<|(ys++[t]).map jg):=Dp λa=>by
    show Res.bind (Qt 04 [b,.str p.name,.int 12,.adr a] [%[a|kD []]]) _=_;rw[k6 04 () b C a];rfl
   let l:=YX (f:=jg) ys t;generalize(ys++[t]).map jg=E at e l;let l:xh E (-1)=! jg t:=l;simp[QM,WU,e,l]
  .let e:=k4 c h;let(zs,ez):=B.part (n:=j) hp c;rw[ez,Ub]at e;let e:=Zt (λl=>l.getLastD 0) e;let e:((ys.map λg=>JE g c)++[JE t c]).getLastD 0=(zs++[qJ i (j+1) p.name c]).getLastD 0:=e;rw[U5,U5]at e;exact e
  .let tf:Tf ⇑p (wB<|j+1) t:=M t<|Uo _ Zqs;let nk:(Uq p.name:jI)∉K'.map λx=>Uq x.1:=λy=>by
    let(-x,A,e):=Ja.mp y;injection e with e
    rcases Z _ (Ja.mpr (x,A,e))with y|⟨j3,q3,y1,y2,y3⟩
    .exact nomatch y
    .let:=B.inj j j3 p q3 hp y2 y3;lia
   let l4:=Y.len B;let N:=λa=>NX (n:=03) (bk:=bk) (d:=.lst<|fs.map jg) m.2.2.1 m.2.2.2.1 m.2.2.2.2 (a:=a) (ks:=[]) (ds:=[]) 9 (ys:=ys) (t:=t) (ks':=K'.map λx:Str×J0=>.inr x.1) (ds':=K'.map λx:Str×J0=>jg x.2) (k6 03 () bk o a) (by rw[Zql,Zql]) nk (by rw[Zql];lia);rcases FF tf J w with y|⟨u,y1,y2,y3⟩
   .calc .inl (y,L λa=>?_);show Qh 03 _ [%[a|D.dct [] []]]=_;rw[N a];exact vb y
   .calc .inr (u,y1,?_);let e:W1 [bk,.str "outer",.int 12]=.ok (.lst<|(qL 03++[u]).map jg):=Dp λa=>by
     let k:Qt 04 [bk,.str "outer",.int 12,.adr a] [%[a|kD []]]=.ok %[.lst ((qL 03++[u]).map jg)|[%[a|D.dct ((K'.map λx=>Uq x.1)++[.inr p.name]) ((K'.map λx=>jg x.2)++[jg t])]]]:=by
      show Qy 10 04 (WS<|Qh 03) _ _=_;calc AI 9<|O0 (p:=xb p.name its) G (by show 03<=12;lia) ?_;show(qY _ _) (y0 bk (.str "outer") (J5<|xb p.name its) a ((qL 03).map jg) 8 8 8 8) [%[a|kD []]]=_;rw[AG,Cr,I,jh];let F:Qh 03 [bk,.str p.name,.lst (fs.map jg),.int 12,.adr a] [%[a|kD []]]=.ok %[jg u|[%[a|D.dct ((K'.map λx=>Uq x.1)++[.inr p.name]) ((K'.map λx=>jg x.2)++[jg t])]]]:=by
       show Qh 03 _ [%[a|D.dct [] []]]=_;rw[N a,y1];rfl
      show(qC _ [j1 %["d",p.name|its]] _ _).bind _=_;rw[FK ((s a).trans<|Fd F<|by simp[qL])];rw[Ub];rfl
     show Res.bind (Qt 04 [bk,.str "outer",.int 12,.adr a] [%[a|kD []]]) _=_;rw[k];rfl
    let l:=YX (f:=jg) (qL 03) u;generalize(qL 03++[u]).map jg=E at e l;let l:xh E (-1)=! jg u:=l;simp[QM,WU,e,l]
def iJ (h:x5 [a,b,.int 12]=Qu):XN [a,b]=.ok .non:=by
 unfold Qu at h;simp[XN,AS,h]
def fZ (h:x5 [a,b,.int 12]=.ok x):XN [a,b]=.ok x:=by
 simp[XN,AS,h]
def ls:∀k:Fin 04,(("p":Str)++jD k.1).cps.toList≠("outer":Str).cps.toList:=by decide+kernel
def cb  (a:0<m):∀y∈qB m p n,(0<=y.1/\y.1<m)/\-1000000000<=y.2/\y.2<=1000000000:=λy b=>by
 let(-i,_,rfl):=Ja.mp b;calc((Int.emod_nonneg _ (),VY _ a),?_);show _<=KO _/\KO _<=_
 grind[KO]
structure LawO(ps:List Pl)(p:Pl)(pl:Pl)(its:Jz)(d0 d1:D):4 where
 pln:AO [.lst (ps.map J5),J5 p]=.ok (J5 pl)
 lk:AX [JA [pl]]=.ok .non
 t0:K3 [JA ps,.str p.name]=.ok d0
 t1:K3 [JA [pl],.str "plain"]=.ok d1
 same:d0=.non\/d1=.non\/∃t,d0=jg t/\d1=jg t
 hour:∀hs:Yf,hs.length=⇑p->∃x,Kd 04 [JA ps,.str p.name,.lst (hs.map .int)]=.ok (.int x)/\Kd 04 [JA [pl],.str "plain",.lst (hs.map .int)]=.ok (.int x)
 out:d0=.non/\K3 [JA (ps++[xb p.name its]),.str "outer"]=.ok .non\/∃t u,d0=jg t/\(u=.non\/∃g,u=jg g)/\K3 [JA (ps++[xb p.name its]),.str "outer"]=.ok u/\XN [jg t,.lst ((its.map λy=>JW [[%[y.1|0]]] y.2).map jg)]=.ok u
def O1 (B:BkP a){j:5} (b:a[j]?=!p) (h:hs.length=⇑p):Kd 04 [JA a,.str p.name,.lst (hs.map .int)]=.ok (.int<|qJ a 04 p.name hs):=by
 let e:=Op B 04 j p hs b (B.at b).2.1 h;let(f,c):=B.part b hs;rw[c]at e;exact Oo e
def pR  (B:BkP b)(l3:b.length<=03)(F:∀(k:5)q,b[k]?=!q->q.name="p"++jD k/\∃s w,q=wc ns s w (b.take k) 04){j:5} (c:b[j]?=!p) (o:a.length=⇑p)(A:∀y∈a,(0<=y.1/\y.1<03)/\-1000000000<=y.2/\y.2<=1000000000):∃pl d0 i,LawO b p pl a d0 i:=by
 let jl:=(Jb.mp c).1;let Q:j<=2:=()
 let P:=B.ok j p c;let g1:=P.g1;let g2:=P.g2;let S:∀q∈b,Sml q:=λq v=>by
  let(k,C):=Ji.mp v;let(_,s,w,e):=F k q C;rw[e];exact pX ns s w _
 let X:=XA B S 04 j p (xO ⇑p) ⇑p 0 c () (FP _)<|FQ _;let G:=hD B S c;generalize Kf b 04 p (xO ⇑p) ⇑p=L at X G;let U:=pJ P Q X;let Y:=pL U;let ll:=X.len;let H:∃g,p.givens=(List.range g).map λk=>"g"++jD k:=by
  let(_,s,w,e):=F j p c;exact(qi ns s,by rw[e];rfl)
 let(g,H):=H;let LL:=cj U g H () λk r E=>by
  let R:=X.row k r E;let jj:((j:3)+1)*1000000000<=4000000000:=()
  exact(R.nm,R.how,R.ne,R.sh,R.rng,λy f=>by let:=R.wt y f;lia)
 let Z:=bf LL () ();let PO:PlP b (xb p.name a):=by
  calc(by show 1<=03;lia,by show 03<=04;lia,by show 1<=1;lia,by show 1<=12;lia,λk r E=>?_);let k0:k=0:=by
   let:=(Jb.mp E).1;let this:k<1:=this;lia
  subst k0;obtain rfl:%[("d":Str),p.name|a]=r:=Zqi E;let ad:asc ("d":Str):=(KF (n:=1)<|by decide+kernel).asc;calc(ad,.inr<|.inr (p,Ue c,9,o),λz=>?_,by show a.length<=10;lia,λy f=>by show 0<=y.1/\y.1<(03:3)+(0:5);let:=(A y f).1;lia,λy f=>by let:=(A y f).2;lia);let z:a=[]:=z;rw[z]at o;let o:0=⇑p:=o;lia
 let co:zp "outer":=YU (by decide+kernel);let BW:=B.snoc () PO (co.1.asc,co.ne.2) λq v z=>by
  let(k,C):=Ji.mp v;let kl:=(Jb.mp C).1;rw[(F k q C).1]at z;exact ls (k,())<|by rw[z];rfl
 let bw:Bk b (JA<|b++[xb p.name a]):=λq v=>BW.bk q<|Vn _ v;let pb:=BW.bk (xb p.name a)<|Uo _ Zqs;let O:=io B c Q bw o (λy f=>(A y f).1) (λy f=>(A y f).2) pb;let T1:=lU Y (j:=0) 9;let l:∀hs:Yf,hs.length=⇑p->∃x,Kd 04 [JA b,.str p.name,.lst (hs.map .int)]=.ok (.int x)/\Kd 04 [JA [qh p.givens L],.str "plain",.lst (hs.map .int)]=.ok (.int x):=λhs h=>by
  calc(_,O1 B c h,?_);let e:=O1 Y (j:=0) (p:=qh p.givens L) 9 (hs:=hs) h;let e:Kd 04 [JA [qh p.givens L],.str "plain",.lst (hs.map .int)]=.ok (.int<|qJ [qh p.givens L] 04 "plain" hs):=e;rw[e,Oz B c X 03 h]
 let two:∃i,K3 [JA [qh p.givens L],.str "plain"]=.ok i/\(i=.non\/∃m,i=jg m/\Tf ⇑p (wB 1) m/\∀hs:Yf,hs.length=⇑p->JE m hs=qJ b 04 p.name hs):=by
  rcases T1 with z|⟨m,z1,z2,z3⟩
  .exact(.non,CU z,.inl 9)
  .calc(jg m,FL z1,.inr (m,9,z2,λhs h=>?_));let e:=z3 hs h;let e:JE m hs=qJ [qh p.givens L] (0+1) "plain" hs:=e;rw[e,Oz B c X 0 h]
 let(-i,f1,h1):=two;rcases O with ⟨I,J⟩|⟨t,I,T,J,o3⟩
 .exact(qh p.givens L,.non,i,G,Z,CU<|I _ B.bk,f1,.inl 9,l,.inl (9,CU J))
 .refine(qh p.givens L,jg t,i,G,Z,FL<|I _ B.bk,f1,?_,l,.inr ?_)
  .rcases h1 with z|⟨m,z,T2,c2⟩
   .exact .inr<|.inl z
   .let e:=lw T T2 λhs h=>by rw[J hs h,c2 hs h,<-B.rc c (show j<04 from())]
    exact .inr<|.inr (t,9,by rw[z,e])
  .rcases o3 with ⟨M,N⟩|⟨u,M,N⟩
   .exact(t,.non,9,.inl 9,CU N,iJ M)
   .exact(t,jg u,9,.inr (u,9),FL N,fZ M)
def lE {b:FS}  (P:SD->4)(c:P sd)(h:∀(i:5)x sd,ds[i]?=!x->P sd->∃a,(JS tg x sd).bind b=.ok (.next a)/\P a):∃a,xP tg b ds sd=.ok (.next a)/\P a:=qS (Kp (P:=λ_ sd=>P sd) c ()) λa=>jB λe q=>(a,e,q)
def hB:FS:=jq (jG 07<|JB AM<|J1 (jb 06)<|J1 (jb 03) jc)<|qE (J8<|jk wg (JB (Kd 04)<|J1 (jb 1)<|J1 (jU (jz "Plan" "name")<|jb 2)<|J1 (jb 07) jc)<|JB (Kd 04)<|J1 (jb 04)<|J1 (dC<|.str "plain")<|J1 (jb 07) jc) (jJ<|dC<|.bl 7) JN
def vf(ns:Yf)(h:ns.length<=63):uD [.scr ns]=.ok (.bl 6):=by
 let fc:=C9 ns 0;rw[show((0:5):3)=0 from 9]at fc;let I:=C9 ns 1;rw[show((1:5):3)=1 from 9]at I;let(k,hk,k2,k3):∃k:5,2+Kt ns 0%2=(k:3)/\2<=k/\k<=03:=((2+Kt ns 0%2).toNat,(),(),());let(-r,lp,B,hN,M):=hU ns (n:=k) (m:=04) () () ();let M:Z1 [.scr ns,.int k,.int 04]=.ok (JA r):=M;let(ys p,J):=Xp (l:=r) ();let hp:r[ys.length]?=!p:=by rw[J,UF (Zf _),Vp];rfl
 let P:=B.ok _ p hp;let g2:=P.g2;let(C,ex1):∃C,C=Kt ns 1%10000000000000000000000000000000000000000:=(_,9);let ib:=cb (m:=03) (p:=C) (n:=⇑p) ();let li:=YY 03 C ⇑p;let(s A d1,O):=pR (ns:=ns) B () hN hp li ib;let N:=λa=>N2 (p:=C) (m:=03) (c:=⇑p) a () () ();generalize qB 03 C ⇑p=q at*;let(-L,hcs,Q):=iR h (a:=16) (most:=16) () () () ();let R:jz "Book" "plans" (JA r)=!(.lst<|r.map J5):=9;let S:jR (.lst<|r.map J5) (.int<|-1)=! J5 p:=by rw[J];exact YX ys p
 let S:xh (r.map J5) (-1)=! J5 p:=S;let T:jz "Plan" "name" (J5 p)=! .str p.name:=9;let fg:jz "Plan" "givens" (J5 p)=!(.lst<|p.givens.map .str):=9;let lg:jQ [.lst (p.givens.map D.str)]=! .int (⇑p:5):=by rw[Tc,Zql]
 let U:JA [s]=.ins "Book" ["plans"] [.lst [J5 s]]:=9;let ga:jC (.lst [.int 03]) (.lst<|L.map .int)=!(.lst<|(03::L).map .int):=by
  show(if 1+(L.map D.int).length<=sizeLine then _ else _)=_;rw[Zql,Zd (QC ())];rfl
 let X:qX (.int 10) (.int 40)=! .int 10000000000000000000000000000000000000000:=by
  show some (D.int<|10^40)=_
  congr 2
 let nn:∀f:J0,xo 6 (jg f)=! .bl 6/\xo 7 (jg f)=! .bl 7:=λf=>(9,9);let main:Z8 [~~~.scr ns,8,8,8,8,8,8,8,8,8,8,8]=.ok (.ret<|.bl 6):=by
  let gj:∃tl,Z8=(jq (jG 1<|JB Z1<|J1 (jb 0)<|J1 (jk jC (dC<|.int 2)<|jk xU (JB Wy<|J1 (jb 0)<|J1 (dC<|.int 0) jc)<|dC<|.int 2)<|J1 (dC<|.int 04) jc)<|jq (jG 2<|jk jR (jU (jz "Book" "plans")<|jb 1)<|jU zH<|dC<|.int 1) tl):=(_,9);clear gj;unfold Z8;refine zZ (sd':=[~~~.scr ns,~~~JA r,8,8,8,8,8,8,8,8,8,8]) (by
   generalize JA r=bk at*;simp[fc,hk,M]) ?_
  refine zZ (sd':=[~~~.scr ns,~~~JA r,~~~J5 p,8,8,8,8,8,8,8,8,8]) (by
   generalize JA r=bk at*;generalize r.map J5=PD at*;generalize J5 p=pp at*;simp[R,S]) ?_
  refine zZ (sd':=[~~~.scr ns,~~~JA r,~~~J5 p,~~~.int (⇑p:5),8,8,8,8,8,8,8,8]) (by
   generalize J5 p=pp at*;generalize p.givens.map D.str=GD at*;simp[fg,lg]) ?_
  refine zZ (sd':=[~~~.scr ns,~~~JA r,~~~J5 p,~~~.int (⇑p:5),~~~JA [s],8,8,8,8,8,8,8]) (by
   let op:=O.pln;let Y:QR [.lst [J5 s]]=! .lst [J5 s]:=9;rw[U];generalize JA r=bk at*;generalize r.map J5=PD at*;generalize J5 p=pp at*;generalize J5 s=pq at*;simp[R,op,XI,yN,JX,Y]) ?_
  refine zZ (sd':=[~~~.scr ns,~~~JA r,~~~J5 p,~~~.int (⇑p:5),~~~JA [s],8,8,8,8,8,8,8]) (by
   let ol:=O.lk;generalize JA [s]=F at*;simp[ol,xo,Ao]) ?_
  refine zZ (sd':=[~~~.scr ns,~~~JA r,~~~J5 p,~~~.int (⇑p:5),~~~JA [s],~~~.lst [A,d1],8,8,8,8,8,8]) (by
   let o0:=O.t0;let Z:=O.t1;generalize JA [s]=F at*;generalize JA r=bk at*;generalize J5 p=pp at*;simp[T,o0,Z]) ?_
  let E:jR (.lst [A,d1]) (.int 0)=!A:=9;let F:jR (.lst [A,d1]) (.int 1)=!d1:=9;let tst:∀a b c d e f g h i j k,(KU (J8<|jU (xo 6)<|jk jR (jb 05)<|dC<|.int 0)<|KU (J8<|jU (xo 6)<|jk jR (jb 05)<|dC<|.int 1)<|J8<|jk wg (jk jR (jb 05)<|dC<|.int 0)<|jk jR (jb 05)<|dC<|.int 1) [a,b,c,d,e,~~~.lst [A,d1],f,g,h,i,j,k]=.ok 7:=λa b c d e f g h i j k=>by
   generalize D.lst [A,d1]=fd at*;rcases O.same with z|z|⟨t,z1,z2⟩
   .rw[z]at E;simp[E,xo,Ao]
   .rw[z]at F;cases A<;>simp[E,F,xo,Ao]
   .rw[z1]at E;rw[z2]at F;let ne:=dX t t;rw[Zp 9]at ne;let n1:=(nn t).1;generalize jg t=td at*;simp[E,F,n1,ne]
  refine zZ (sd':=[~~~.scr ns,~~~JA r,~~~J5 p,~~~.int (⇑p:5),~~~JA [s],~~~.lst [A,d1],8,8,8,8,8,8]) (by
   rw[SY,tst];rfl) ?_
  let(sd',e,G,H,hsd):=lE (tg:=.one 06) (b:=hB) (ds:=(03::L).map .int) (sd:=[~~~.scr ns,~~~JA r,~~~J5 p,~~~.int (⇑p:5),~~~JA [s],~~~.lst [A,d1],8,8,8,8,8,8])
   (λsd=>∃G H,sd=[~~~.scr ns,~~~JA r,~~~J5 p,~~~.int (⇑p:5),~~~JA [s],~~~.lst [A,d1],G,H,8,8,8,8]) (8,8,9) (by
    rintro i x sd hx ⟨G,H,rfl⟩;let(c,_,rfl):=QV hx;let(-hs,lh,_,fh):=hQ c (n:=⇑p) ();let(y,e1,e2):=O.hour hs lh;calc([~~~.scr ns,~~~JA r,~~~J5 p,~~~.int (⇑p:5),~~~JA [s],~~~.lst [A,d1],~~~.int c,~~~(.lst<|hs.map .int),8,8,8,8],?_,_,_,9);generalize JA [s]=F at*;generalize JA r=bk at*;generalize J5 p=pp at*;generalize hs.map D.int=hd at*;generalize D.int (⇑p:5)=gn at*;generalize D.lst [A,d1]=fd at*;unfold hB;simp[fh,T,e1,e2])
  subst hsd;refine zZ (sd':=_) (Eq.trans ?_ e) ?_
  .show qq _ (.one 06) hB _=_;generalize hB=b;generalize JA r=bk at*;generalize(03::L).map D.int=CD at*;simp[Q,ga]
  refine zZ (sd':=[~~~.scr ns,~~~JA r,~~~J5 p,~~~.int (⇑p:5),~~~JA [s],~~~.lst [A,d1],G,H,!(.own 7<|j0 C),8,8,8]) (by
   rw[ex1];unfold j0;simp[I,X]) ?_
  refine zZ (sd':=[~~~.scr ns,~~~JA r,~~~J5 p,~~~.int (⇑p:5),~~~JA [s],~~~.lst [A,d1],G,H,!(.own 7<|j0<|x9 03 C ⇑p),~~~j6 q,8,8]) (by
   rw[p7,AH (d:=j0 C) (d1:=j0<|x9 03 C ⇑p) (v:=j6 q) 9 λa=>by
    let f:=N a;generalize JA r=bk at*;generalize D.int (⇑p:5)=gn at*;simp[f]]
   rfl) ?_
  let ew:JA (r++[xb p.name q])=.ins "Book" ["plans"] [.lst (r.map J5++[.ins "Plan" ["name","givens","rows"] [.str "outer",.lst [.str "a",.str "b",.str "c"],.lst [.tup [.str "d",.str p.name,j6 q]]]])]:=by
   show D.ins "Book" ["plans"] [.lst ((r++[xb p.name q]).map J5)]=_;rw[Ub];rfl
  refine zZ (sd':=[~~~.scr ns,~~~JA r,~~~J5 p,~~~.int (⇑p:5),~~~JA [s],~~~.lst [A,d1],G,H,!(.own 7<|j0<|x9 03 C ⇑p),~~~j6 q,~~~(JA<|r++[xb p.name q]),8]) (by
   rw[ew];let lz:(r.map J5).length+1<=sizeLine:=by rw[Zql];exact QC ()
   let gq:∀x,jC (.lst<|r.map J5) (.lst [x])=!(.lst<|r.map J5++[x]):=λx=>Zd lz;let Y:∀l,QR [.lst l]=! .lst l:=λ_=>9;generalize JA r=bk at*;generalize r.map J5=PD at*;generalize J5 p=pp at*;generalize j6 q=rd at*;simp[R,T,gq,Y,XJ,XI,yN,JX]) ?_
  let mk:qg (.tup [0,1]) (JB zb<|J1 (JB zY<|J1 (jb 0) jc)<|J1 (jb 1) jc) [8,8] (q.map qb)=.ok ((q.map λy=>JW [[%[y.1|0]]] y.2).map jg):=by
   rw[Zw];exact Kz λy hy=>by
    let fw:=uQ (f:=[[%[y.1|0]]]) (w:=y.2) () ();show _=Res.ok (jg<|JW [[%[y.1|0]]] y.2);let ft:=sB y.1;generalize jg [[%[y.1|0]]]=fd at*;simp[ft,fw]
  refine zZ (sd':=[~~~.scr ns,~~~JA r,~~~J5 p,~~~.int (⇑p:5),~~~JA [s],~~~.lst [A,d1],G,H,!(.own 7<|j0<|x9 03 C ⇑p),~~~j6 q,~~~(JA<|r++[xb p.name q]),~~~(.lst<|(q.map λy=>JW [[%[y.1|0]]] y.2).map jg)]) (by
   let er:j6 q=.tup (q.map qb):=9;let lz:=JQ (show(q.map qb).length<=1000 by rw[Zql];lia);rw[er];generalize JA r=bk at*;generalize JA (r++[xb p.name q])=bw at*;generalize(q.map λy=>JW [[%[y.1|0]]] y.2).map jg=WD at*;generalize q.map qb=ID at*;simp[mk,lz]) ?_
  let oo:=O.out;generalize(q.map λy=>JW [[%[y.1|0]]] y.2).map jg=WD at*;generalize D.lst [A,d1]=fd at*;generalize JA (r++[xb p.name q])=bw at*;generalize JA r=bk at*;generalize JA [s]=bp at*;generalize j6 q=rd at*;rcases oo with ⟨z,o⟩|⟨t,u,z,hu,Z,o2⟩
  .rw[z]at E;simp[E,o,xo,Ao]
  .rw[z]at E;let n1:=(nn t).2;let eu:xa u u=! .bl 6:=by
    rcases hu with rfl|⟨g,rfl⟩
    .rw[BK (d:=.non) (e:=.non) (by unfold plN;rfl) (by unfold plN;rfl)];unfold sameD;simp
    .rw[cH g g,Zp 9]
   generalize jg t=td at*;simp[E,n1,Z,o2,eu]
 simp_all[uD]
end My
set_option maxHeartbeats 4000000
namespace My
open PySem L2 L2.DL
def v0(i:5):Stmt:=PySem.Challenge.pw_allfirst_k68_whole_parts_put_in.main.body.getD i<|.Pass (0,0,0,0)
noncomputable abbrev tbl:List (Str×5):=List.zip (List.map Str.ofString ["_law_cell_at","_law_take","_law_wait","_law_items","_law_plan","_law_book","_law_hours","_law_laid","_law_plain","fits_in","is_covered","lowest","form_within","first_of","joined","each_joined","all_of","shifted","waited","put_into_row","put_into","_law_put","made_form","plan_by","thing_form","forms_knowing","forms_of","told_form","_law_told","_law_turns","is_name","are_names","look_at_names","is_part","look_at_parts","look_at_items","look_at_plans","weights","look_at_weights","looked","told_hour","made_hour","hours_of"]) [52,53,54,55,56,57,58,59,60,09,13,12,22,17,10,21,18,11,16,20,19,62,31,26,15,30,28,29,61,63,36,39,38,45,42,41,40,44,43,37,48,49,47]
noncomputable abbrev bl:Yi:=List.map Str.ofString ["abs","all","dict","len","list","max","min","range","set","sorted","str","sum","tuple"]
structure All(e:Ev):4 extends Al e v0 tbl bl where
 x_BadName:Exc e.K e.mg "BadName" (e.C 0)
 x_BadPart:Exc e.K e.mg "BadPart" (e.C 1)
 x_BadPlan:Exc e.K e.mg "BadPlan" (e.C 2)
 x_TooLong:Exc e.K e.mg "TooLong" (e.C 03)
 x_TooMany:Exc e.K e.mg "TooMany" (e.C 04)
 w_FIGURES:e.mg "FIGURES"=!(.str "0123456789"<|e.t 0)
 y_KEPT_WORDS:KTup e.K e.mg "KEPT_WORDS" ["plan","given","all","first","part"]
 w_LETTERS:e.mg "LETTERS"=!(.str "abcdefghijklmnopqrstuvwxyz"<|e.t 1)
 k_Book:ClsD e.K e.mg "Book" (e.C 05) ["plans"]
 l_Book:∃f fd,Mk e.K (e.C 05) f/\Fun e.K "__init__" "Book.__init__" (Bl (v0 25) 0) f fd
 k_Plan:ClsD e.K e.mg "Plan" (e.C 06) ["name","givens","rows"]
 l_Plan:∃f fd,Mk e.K (e.C 06) f/\Fun e.K "__init__" "Plan.__init__" (Bl (v0 24) 0) f fd
def O2(a:All e):t7 e.P e.w e.K e.mg e.base "Book" ["plans"] 1 ["self","plans"] XI:=by
 let(f,h,c,b):=a.l_Book;let m:=a.m;let k:=a.k_Book;exact(_,_,_,k,c,fV (k:=0) (N:=["plans"]) (g:=J1 (jt QR<|J1 (jb 1) jc) jc) b (JM (N:=["self","plans"])) (by decide) (by decide) λ_ _ _ _ _ _ i=>Cj k (by decide) (pv 0) (ju<|W9 (x:="list") X7 9 (JH m) Xz<|J2 (qv 1) J3) Mw,b.binds λ_ _ _ _ _ _=>nR λ_ _=>9)
def FV(a:All e):t7 e.P e.w e.K e.mg e.base "Plan" ["name","givens","rows"] 1 ["self","name","givens","rows"] XJ:=by
 let(f,h,c,b):=a.l_Plan;let m:=a.m;let k:=a.k_Plan;exact(_,_,_,k,c,fV (k:=0) (N:=["name","givens","rows"]) (g:=J1 (jb 1)<|J1 (jt QR<|J1 (jb 2) jc)<|J1 (jt QR<|J1 (jb 03) jc) jc) b (JM (N:=["self","name","givens","rows"])) (by decide) (by decide) λ_ _ _ _ _ _ i=>Cj k (by decide) (pv 0) (qv 1)<|Cj k (by decide) (pv 0) (ju<|W9 (x:="list") X7 9 (JH m) Xz<|J2 (qv 2) J3)<|Cj k (by decide) (pv 0) (ju<|W9 (x:="list") X7 9 (JH m) Xz<|J2 (qv 03) J3) Mw,b.binds λ_ _ _ _ _ _=>nQ λ_ _ _ _=>9)
def O3(a:All e):Ca e "_law_cell_at" 1 ["script","k"] (yd e.K Wy):=
 xM a.toAl 0 52 λF=>xQ (N:=["script","k"]) (g:=AK) F JM λ_ _ _ _ _ _ b=>by
 let m:=a.m;unfold AK;exact JD (Qj (Q7 gO (qv 1) (Qb (x:="len") Q3 9 (JH m) Qz<|J2 (qv 0) J3)<|Qv _) (J9<|Qi<|Qo (JR b) (qv 0) (qv 1) (λ_ _=>9)<|λ_ _=>9) Qm)<|J9<|Qi J7
def FW(a:All e):Ca e "_law_take" 1 ["pot","many"] (zx e.K KG):=
 xM a.toAl 1 53 λF=>Cu (N:=["pot","many","digit"]) (g:=CA) F JM λ_ _ _ _ _ _ b=>by
 unfold CA;exact KC (m:=8) (EU j8 9 (.inl 9)<|XD KY (MJ (qv 0) J7<|λ_ _=>9)<|Q1<|qv 1)<|KC (m:=8) (ai (qv 0) J7<|XD l6 (MJ (qv 0) J7<|λ_ _=>9)<|Q1<|qv 1)<|WK<|Q1<|qv 2
def cu(a:All e):Ca e "_law_wait" 2 ["pot"] (zx e.K CB):=
 xM a.toAl 2 54 λF=>Cu (N:=["pot"]) (g:=AL) F JM λ_ _ _ _ _ _ c=>by
 let b:=(FW a).mono (k:=1) ();unfold AL;exact EW (aC vW (KN b c 9<|J2 (qv 0)<|J2 J7 J3) (Q1 J7)<|Qv _) (WK<|XD Y4 (KN b c 9<|J2 (qv 0)<|J2 J7 J3)<|Q1 J7)<|WK<|XD Y4 (KN b c 9<|J2 (qv 0)<|J2 (j9 Qc (j9 Y5 J7<|j9 Wm J7 J7) J7) J3)<|Q1<|j9 Wm J7 J7
def O4(a:All e):Ca e "_law_items" 03 ["pot","many","count"] (zx e.K CF):=
 xM a.toAl 03 55 λF=>Cu (N:=["pot","many","count","items","k","thing"]) (g:=CC) F JM λ_ _ _ _ _ _ f=>by
 let m:=a.m;let b:=(FW a).mono (k:=2) ();let c:=(cu a).mono (k:=2) ();unfold CC;exact KC (m:=8) (Kr<|Ka j8 9 (.inl 9)<|QF J3)<|KC (m:=8) (MF PassesOwn.never 9 (Xf 9 (JH m)<|J2 (qv 2) J3) (Qf<|JP j8 9<|.inl 9)<|Wu (EU j8 9 (.inl 9)<|KN b f 9<|J2 (qv 0)<|J2 (qv 1) J3)<|A6<|MM (pv 03) (ML<|Wv (Q1<|qv 05)<|Wv (KN c f 9<|J2 (qv 0) J3) Cs)<|λh i=>KR Yv Yw Yx W2 h i)<|EX<|WK<|Q1<|Xd (x:="tuple") BM 9 (JH m) Bq<|J2 (qv 03) J3
def cs(a:All e):Ca e "_law_plan" 04 ["script","start","name","ahead","most_rows"] (zx e.K CH):=
 xM a.toAl 04 56 λF=>Cu (N:=["script","start","name","ahead","most_rows","pot","givens","rows","used","k","cell","how","count","part"]) (g:=CG) F JM λ_ _ _ _ _ _ h=>by
 let m:=a.m;let c:=(O3 a).mono (k:=03) ();let j:=(O4 a).mono (k:=03) ();let b:=(FW a).mono (k:=03) ();let f:=a.k_Plan;let i:=FV a;unfold CG
 exact KC (m:=8) (Kr<|Ka j8 9 (.inl 9)<|QF<|J2 (j9 KY (qr c h 9<|J2 (qv 0)<|J2 (qv 1) J3)<|j9 Wm J7 J7) J3)<|KC (m:=8) (Kr<|Cv j8 9 (.inl 9)<|XE<|XD Qc (Q1 J7)<|KN b h 9<|J2 (qv 05)<|J2 J7 J3)<|KC (m:=8) (Kr<|Ka j8 9 (.inl 9)<|QF J3)<|KC (m:=8) (EU j8 9 (.inl 9)<|MQ [03]<|ZZ (gP h.units) (qv 03) (ju<|QF J3)<|Qv _)<|KC (m:=8) (p4 PassesOwn.never 9 9 (JH m) (XE<|XD Qc (Q1 J7)<|KN b h 9<|J2 (qv 05)<|J2 (qv 04) J3) (Qf<|JP j8 9<|.inl 9)<|Wu (Kr<|Ka j8 9 (.inl 9)<|QF<|J2 (j9 Qc (j9 Y5 (j9 KY (qr c h 9<|J2 (qv 0)<|J2 (j9 Qc (j9 Qc (qv 1) J7)<|qv 09) J3)<|j9 Wm J7 J7)<|j9 Wm J7 J7)<|j9 KY (qr c h 9<|J2 (qv 0)<|J2 (qv 1) J3)<|j9 Wm J7 J7) J3)<|Wu (Kr<|Cv j8 9 (.inl 9)<|XE<|MK MP (Q1<|ju<|QF<|J2 JU<|J2 JU<|J2 JU<|J2 JU<|J2 JU J3) (KN b h 9<|J2 (qv 10)<|J2 J7 J3)<|λ_ _=>9)<|Wu (Kr<|Cv j8 9 (.inl 9)<|XE<|XD Qc (Q1 J7)<|KN b h 9<|J2 (qv 10)<|J2 J7 J3)<|Wu (Kr<|Qj (zg<|BB (Q7 (xT h.units) (qv 11) JU<|Qv _)<|DX<|KS<|qv 08) (J9<|Qn j8 9 (.inl 9) JU) Qm)<|Wu (MC (a9<|Q7 (xT h.units) (qv 11) JU<|Qv _) (Wu (Kr<|Qn j8 9 (.inl 9) W7)<|Wu (lO j8 9 (.inl 9)<|cz<|pS (Q1<|qv 03) (aV b h 9<|Wv (Q1<|qv 10)<|Wv (MQ [03]<|Qb (x:="len") Q3 9 (JH m) Qz<|J2 (qv 03) J3) Cs)<|λ_ _=>9)<|Wu (Kr<|Qn j8 9 (.inl 9)<|JT f (by decide)<|qv 13)<|A6<|Kr<|Qn j8 9 (.inl 9)<|Qb (x:="len") Q3 9 (JH m) Qz<|J2 (JT f (by decide)<|qv 13) J3) MB)<|A6<|Kr<|MO (pv 07) (XE<|ML<|Wv (Q1<|j9 Qc JU<|Xd (x:="str") Ci 9 (JH m) Bp<|J2 (qv 09) J3)<|Wv (Q1<|qv 11)<|Wv (KN j h 9<|J2 (qv 10)<|J2 (j9 Qc (qv 06)<|qv 09)<|J2 (qv 12) J3) Cs)<|λl n=>KR Yv Yw Yx W2 l n)<|EX<|WK<|Q1<|ju<|YO i (h.mono ()) 9<|J2 (qv 2)<|J2 (ju<|K6 ["k"] [8] 9 9 (Xf 9 (JH m)<|J2 (qv 06) J3) (λ_ _ _ _ _=>Qf<|xA 0 j8)<|λ_ _ _ _ _=>j9 Qc JU<|Xd (x:="str") Ci 9 (JH m) Bp<|J2 (qv 0) J3)<|J2 (qv 07) J3
def c0(a:All e):Ca e "_law_book" 05 ["script","plans","most_rows"] (zC e.K Z1):=
 xM a.toAl 05 57 λF=>yU (N:=["script","plans","most_rows","found","k"]) (g:=CI) F JM λ_ _ _ _ _ _ f=>by
 let m:=a.m;let c:=(cs a).mono (k:=04) ();let b:=O2 a;unfold CI;exact JD (Ka j8 9 (.inl 9)<|QF J3)<|JD (Q9 PassesOwn.never 9 (Xf 9 (JH m)<|J2 (qv 1) J3) (Qf<|JP j8 9<|.inl 9)<|J9<|MO (pv 03) (XE<|KN c f 9<|J2 (qv 0)<|J2 (j9 Qc J7<|j9 Y5 (qv 04)<|j9 Qc (qv 2) J7)<|J2 (j9 Qc JU<|Xd (x:="str") Ci 9 (JH m) Bp<|J2 (qv 04) J3)<|J2 (qv 03)<|J2 (qv 2) J3)<|λh i=>KR Yv Yw Yx W2 h i)<|J9<|BE [03]<|X4<|YO b (f.mono ()) 9<|J2 (qv 03) J3
def dS(a:All e):Ca e "_law_hours" 1 ["cell","many"] (zC e.K AM):=
 xM a.toAl 06 58 λF=>yU (N:=["cell","many","hours","k","mixed"]) (g:=CJ) F JM λ_ _ _ _ _ _ b=>by
 let m:=a.m;unfold CJ;exact JD (Ka j8 9 (.inl 9)<|QF J3)<|JD (Q9 PassesOwn.never 9 (Xf 9 (JH m)<|J2 (qv 1) J3) (Qf<|JP j8 9<|.inl 9)<|JD (Qn j8 9 (.inl 9)<|j9 KY (j9 Y5 (j9 Qc (j9 Qc (j9 KY (j9 Ee (qv 0)<|j9 Qc (qv 03) J7) J7)<|j9 Y5 J7<|qv 03) J7) J7) J7)<|JD (Ab (pv 2) (j9 Y4 (j9 KY (qv 04) J7) J7)<|λc f=>KR Yv Yw Yx W2 c f)<|J9<|Qj (Q7 (xT b.units) (j9 KY (j9 Ee (qv 04) J7) J7) J7<|Qv _) (J9<|Tn (pv 2) (qv 03)<|j9 Y4 (j9 KY (j9 Ee (qv 0)<|j9 Qc (qv 03) J7)<|j9 Qc (j9 Y5 J7<|j9 Wm J7 J7) J7)<|j9 Wm J7 J7) Qm)<|J9<|Y2<|pv 2
def lj(a:All e)(f:Ca e "_law_laid" (0+k) ["plans","plan","places"] (zC e.K<|Wa j)):Ca e "_law_laid" (0+k+1) ["plans","plan","places"] (zC e.K<|Wa<|j+1):=
 xM a.toAl 07 59 λF=>yU (N:=["plans","plan","places","rows","ends","name","how","items","moved","part"]) (g:=AN<|Wa j) F JM λ_ _ _ _ _ _ c=>by
 let m:=a.m;let b:=a.k_Plan;unfold AN
 exact JD (Ka j8 9 (.inl 9)<|QF J3)<|JD (Ka j8 9 (.inr 9)<|W9 (x:="list") X7 9 (JH m) Xz<|J2 (Qo (JR c) (qv 2) J7 (λ_ _=>9)<|λ_ _=>9) J3)<|JD (Q9 PassesOwn.never 9 (JV<|JT b (by decide)<|qv 1) (Kj [05,06,07]<|Kh 9<|JO (JP j8 9<|.inl 9)<|JO (JP j8 9<|.inr 9)<|JO (JP j8 9<|.inl 9) Kg)<|JD (Qn j8 9 (.inl 9)<|Xd (x:="tuple") BM 9 (JH m) Bq<|J2 (ju<|lu ["thing","wait","ends"] [8,8,!04] 2 9 9 (JV<|qv 07) (λ_ _ _ _ _=>Kj [0,1]<|Kh 9<|JO (xA 0 j8)<|JO (xA 1 j8) Kg)<|λ_ _ _ _ _=>Wj<|J2 (Qo (JR c) (Eu (JR c) (pv 2) (qv 0) (λ_ _=>9)<|λ_ _=>9) J7 (λ_ _=>9)<|λ_ _=>9)<|J2 (j9 Qc (Qo (JR c) (Eu (JR c) (pv 2) (qv 0) (λ_ _=>9)<|λ_ _=>9) J7 (λ_ _=>9)<|λ_ _=>9)<|qv 1) J3) J3)<|JD (Qj (zg<|BC (Q7 (xT c.units) (qv 06) JU<|Qv _)<|DY<|Q7 (xT c.units) (qv 06) JU<|Qv _) (J9<|Ab (pv 03) (Wj<|J2 JU<|J2 (qv 06)<|J2 (qv 08) J3)<|λh i=>KR Yv Yw Yx W2 h i)<|JD (Qn j8 9 (.inl 9)<|Qo (JR c) (ju<|Ep ["one","how"] [8,!06] 9 9 (JV<|qv 0) (λ_ _ _ _ _=>Qf<|xA 0 j8) (λ_ _ _ _ _=>Q7 (xT c.units) (JT b (by decide)<|qv 0) (qv 1)<|Qv _)<|λ_ _ _ _ _=>qv 0) J7 (λ_ _=>9)<|λ_ _=>9)<|J9<|Ig (pv 03) (Xc f c 9<|J2 (qv 0)<|J2 (qv 09)<|J2 (ju<|QF<|J2 (ju<|W9 (x:="list") X7 9 (JH m) Xz<|J2 (qv 08) J3)<|J2 (j9 Qc (Qo (JR c) (qv 2) J7 (λ_ _=>9)<|λ_ _=>9)<|X3 [03]<|Qb (x:="len") Q3 9 (JH m) Qz<|J2 (qv 03) J3) J3) J3)<|λh i=>KR Yv PySem.F.slot_list_extend PySem.F.type_list_extend GB h i)<|J9<|Ab (pv 04) (Wj<|J2 (j9 Y4 (j9 Qc (Qo (JR c) (qv 2) J7 (λ_ _=>9)<|λ_ _=>9)<|X3 [03]<|Qb (x:="len") Q3 9 (JH m) Qz<|J2 (qv 03) J3) J7)<|J2 J7 J3)<|λh i=>KR Yv Yw Yx W2 h i)<|J9<|Y2<|pv 03
theorem O5(a:All e):∀j,Ca e "_law_laid" (0+j) ["plans","plan","places"] (zC e.K<|Wa j)
 |0=>xM a.toAl 07 59 λ_=>IK
 |j+1=>lj (k:=j) a (O5 a j)
def dY(a:All e):Ca e "_law_laid" 04 ["plans","plan","places"] (zC e.K<|Wa 04):=O5 a 04
def cP(a:All e):Ca e "_law_plain" 05 ["plans","plan"] (zC e.K AO):=
 xM a.toAl 08 60 λF=>yU (N:=["plans","plan","many","rows","named"]) (g:=CK) F JM λ_ _ _ _ _ _ h=>by
 let m:=a.m;let f:=(dY a).mono (k:=04) ();let b:=a.k_Plan;let c:=FV a;unfold CK;exact JD (Qn j8 9 (.inl 9)<|Qb (x:="len") Q3 9 (JH m) Qz<|J2 (JT b (by decide)<|qv 1) J3)<|JD (Qn j8 9 (.inr 9)<|ju<|Xc f h 9<|J2 (qv 0)<|J2 (qv 1)<|J2 (ju<|QF<|J2 (ju<|K6 ["thing"] [8] 9 9 (Xf 9 (JH m)<|J2 (qv 2) J3) (λ_ _ _ _ _=>Qf<|xA 0 j8)<|λ_ _ _ _ _=>Wj<|J2 (qv 0)<|J2 J7 J3)<|J2 (qv 2) J3) J3)<|JD (IR ["k","rows"] [8,!03] j8 9 (.inl 9) 9 9 (Xf 9 (JH m)<|J2 (Qb (x:="len") Q3 9 (JH m) Qz<|J2 (qv 03) J3) J3) (λ_ _ _ _ _=>Qf<|xA 0 j8)<|λ_ _ _ _ _=>Wj<|J2 (j9 Qc JU<|Xd (x:="str") Ci 9 (JH m) Bp<|J2 (qv 0) J3)<|J2 (Qo (JR h) (Qo (JR h) (qv 1) (qv 0) (λ_ _=>9)<|λ_ _=>9) J7 (λ_ _=>9)<|λ_ _=>9)<|J2 (Qo (JR h) (Qo (JR h) (qv 1) (qv 0) (λ_ _=>9)<|λ_ _=>9) J7 (λ_ _=>9)<|λ_ _=>9) J3)<|J9<|X4<|YO c (h.mono ()) 9<|J2 JU<|J2 (ju<|W9 (x:="list") X7 9 (JH m) Xz<|J2 (JT b (by decide)<|qv 1) J3)<|J2 (qv 04) J3
def gL(a:All e):Ca e "fits_in" 1 ["row","waits"] (yd e.K kb):=
 xM a.toAl 09 09 λF=>xQ (N:=["row","waits","thing","wait"]) (g:=ka) F JM λ_ _ _ _ _ _ b=>by
 unfold ka;exact JD (Q9 PassesOwn.never 9 (JV<|qv 0) (Kj [2,03]<|Kh 9<|JO (JP j8 9<|.inl 9)<|JO (JP j8 9<|.inl 9) Kg)<|J9<|Qj (zg<|BC (Iz b.units (qv 2)<|qv 1)<|DY<|Q7 vW (qv 03) (Qo (JR b) (qv 1) (qv 2) (λ_ _=>9)<|λ_ _=>9)<|Qv _) (J9<|Qi W7) Qm)<|J9<|Qi W7
def O6(a:All e):Ca e "is_covered" 2 ["row","kept"] (yd e.K ya):=
 xM a.toAl 10 13 λF=>xQ (N:=["row","kept","waits","other"]) (g:=ut) F JM λ_ _ _ _ _ _ c=>by
 let m:=a.m;let b:=(gL a).mono (k:=1) ();unfold ut;exact JD (Qn j8 9 (.inl 9)<|ju<|W9 (x:="dict") (IF 9) 9 (JH m) Hb<|J2 (qv 0) J3)<|JD (Q9 PassesOwn.never 9 (JV<|qv 1) (Qf<|JP j8 9<|.inl 9)<|J9<|Qj (KS<|qr b c 9<|J2 (qv 03)<|J2 (qv 2) J3) (J9<|Qi W7) Qm)<|J9<|Qi W7
def gH(a:All e):Ca e "lowest" 03 ["rows","enough"] (zC e.K uy):=
 xM a.toAl 11 12 λF=>yU (N:=["rows","enough","kept","row"]) (g:=uu) F JM λ_ _ _ _ _ _ c=>by
 let m:=a.m;let b:=(O6 a).mono (k:=2) ();unfold uu;exact JD (Ka j8 9 (.inl 9)<|QF J3)<|JD (Q9 PassesOwn.never 9 (JV<|ju<|eP (λh=>L2.ST.pe_sortLen 9 (JH m) 9 (JH m) h)<|J2 (ju<|eB (λh=>ZK (L2.ST.call_sortedSet 9 c.units) 9 (JH m) DF<|KQ (Bh (L2.ST.call_setRows 9 c.units) 9 (JH m) L2.bt_set h) Wf)<|J2 (qv 0) J3) J3) (Qf<|JP j8 9<|.inl 9)<|JD (Qj (Q7 (xT c.units) (X3 [2]<|Qb (x:="len") Q3 9 (JH m) Qz<|J2 (qv 2) J3) (qv 1)<|Qv _) (J9 Sq) Qm)<|J9<|Qj (KW<|KS<|X3 [2]<|qr b c 9<|J2 (qv 03)<|J2 (qv 2) J3) (J9<|Ab (pv 2) (qv 03)<|λf i=>KR Yv Yw Yx W2 f i) Qm)<|J9<|Y2<|pv 2
def O7(a:All e):zc e "form_within" 04 ["rows","most"] (yY e.K QY):=
 xC a.toAl 12 22 λF=>EI (N:=["rows","most","kept"]) (g:=AQ) F JM λ_ _ _ _ _ _ f=>by
 let m:=a.m;let c:=(gH a).mono (k:=03) ();let b:=a.x_TooMany;unfold AQ;exact JD (Qn j8 9 (.inl 9)<|ju<|YM c f 9<|J2 (qv 0)<|J2 (j9 Qc (qv 1) J7) J3)<|JD (Qj (Q7 vW (Qb (x:="len") Q3 9 (JH m) Qz<|J2 (qv 2) J3) (qv 1)<|Qv _) (J9<|V9 V8 b 9 9<|gs (by decide)<|qv 1) Qm)<|J9<|X4<|So (x:="sorted") (Tp f.units) 9 (JH m) DF<|J2 (qv 2) J3
def O8(a:All e):zc e "first_of" 05 ["forms","most"] (yY e.K za):=
 xC a.toAl 13 17 λF=>EI (N:=["forms","most","told","form"]) (g:=vv) F JM λ_ _ _ _ _ _ c=>by
 let b:=(O7 a).mono (k:=04) ();unfold vv;exact JD (Ka j8 9 (.inl 9)<|YL b Kb c 9<|J2 (Qo (JR c) (qv 0) J7 (λ_ _=>9)<|λ_ _=>9)<|J2 (qv 1) J3)<|JD (Q9 Ws 9 (JV<|ju<|Ey (qv 0) (BV J7) Aq Aq) (Qf<|JP j8 9<|.inl 9)<|J9<|BE [2]<|Ka j8 9 (.inl 9)<|YL b Kb c 9<|J2 (j9 Qc (qv 2)<|qv 03)<|J2 (qv 1) J3)<|J9<|Y2<|pv 2
def gK(a:All e):Ca e "joined" 1 ["row","other"] (yd e.K wI):=
 xM a.toAl 14 10 λF=>xQ (N:=["row","other","waits","thing","wait"]) (g:=uw) F JM λ_ _ _ _ _ _ b=>by
 let m:=a.m;unfold uw;exact JD (Ka j8 9 (.inl 9)<|W9 (x:="dict") (IF 9) 9 (JH m) Hb<|J2 (qv 0) J3)<|JD (Q9 PassesOwn.never 9 (JV<|qv 1) (Kj [03,04]<|Kh 9<|JO (JP j8 9<|.inl 9)<|JO (JP j8 9<|.inl 9) Kg)<|J9<|Em (JR b) (pv 2) (qv 03)<|Qb (x:="max") (IC 9) 9 (JH m) DE<|J2 (qv 04)<|J2 (X3 [2]<|SJ (JR b) (qv 2) (qv 03) (qv 04) (9,9,9,9)) J3)<|J9<|BE [2]<|Qi<|Xd (x:="tuple") BM 9 (JH m) Bq<|J2 (SR (λh=>ZK (Sb 9) 9 (JH m) DF<|KQ (G9 PySem.F.plainAttrs_dict PySem.F.slot_dict_items PySem.F.type_dict_items HV h) Wf)<|qv 2) J3
def cq(a:All e):Ca e "each_joined" 03 ["form","other"] (zC e.K AR):=
 xM a.toAl 15 21 λF=>yU (N:=["form","other","rows","rest","row"]) (g:=CM) F JM λ_ _ _ _ _ _ c=>by
 let m:=a.m;let b:=(O6 a).mono (k:=2) ();let f:=(gK a).mono (k:=2) ();unfold CM;exact JD (Ka j8 9 (.inl 9)<|gm cA (ju<|Ep ["row","other"] [8,!1] 9 9 (JV<|qv 0) (λ_ _ _ _ _=>Qf<|xA 0 j8) (λ_ _ _ _ _=>KS<|qr b c 9<|J2 (qv 0)<|J2 (qv 1) J3)<|λ_ _ _ _ _=>qv 0)<|ju<|Ep ["row","form"] [8,!0] 9 9 (JV<|qv 1) (λ_ _ _ _ _=>Qf<|xA 0 j8) (λ_ _ _ _ _=>KS<|qr b c 9<|J2 (qv 0)<|J2 (qv 1) J3)<|λ_ _ _ _ _=>qv 0)<|JD (SX ["row","form"] [8,!0] j8 9 (.inl 9) 9 9 (JV<|qv 1) (λ_ _ _ _ _=>Qf<|xA 0 j8) (λ_ _ _ _ _=>KW<|KS<|qr b c 9<|J2 (qv 0)<|J2 (qv 1) J3)<|λ_ _ _ _ _=>qv 0)<|JD (Q9 PassesOwn.never 9 (JV<|qv 0) (Qf<|JP j8 9<|.inr 9)<|J9<|Qj (KW<|KS<|qr b c 9<|J2 (qv 04)<|J2 (qv 1) J3) (J9<|Ig (pv 2) (K6 ["other_row","row"] [8,!04] 9 9 (JV<|qv 03) (λ_ _ _ _ _=>Qf<|xA 0 j8)<|λ_ _ _ _ _=>qr f c 9<|J2 (qv 1)<|J2 (qv 0) J3)<|λh i=>KR Yv PySem.F.slot_list_extend PySem.F.type_list_extend GB h i) Qm)<|J9<|Y2<|pv 2
def O9(a:All e):zc e "all_of" 05 ["forms","most"] (xf e.K yH):=
 xC a.toAl 16 18 λF=>Wr (N:=["forms","most","told","form"]) (g:=vu) F JM λ_ _ _ _ _ _ f=>by
 let c:=(cq a).mono (k:=04) ();let b:=(O7 a).mono (k:=04) ();unfold vu;exact JD (Qn j8 9 (.inl 9)<|ju<|YL b Kb f 9<|J2 (Qo (JR f) (qv 0) J7 (λ_ _=>9)<|λ_ _=>9)<|J2 (qv 1) J3)<|JD (Q9 Ws 9 (JV<|ju<|Ey (qv 0) (BV J7) Aq Aq) (Qf<|JP j8 9<|.inl 9)<|J9<|Qn j8 9 (.inl 9)<|ju<|YL b Kb f 9<|J2 (ju<|YM c f 9<|J2 (qv 2)<|J2 (qv 03) J3)<|J2 (qv 1) J3)<|J9<|Qi<|qv 2
def gJ(a:All e):Ca e "shifted" 1 ["row","wait"] (yd e.K vw):=
 xM a.toAl 17 11 λF=>xQ (N:=["row","wait"]) (g:=uv) F JM λ_ _ _ _ _ _ b=>by
 let m:=a.m;unfold uv;exact J9<|Qi<|Xd (x:="tuple") BM 9 (JH m) Bq<|J2 (ju<|K6 ["thing","own","wait"] [8,8,!1] 9 9 (JV<|qv 0) (λ_ _ _ _ _=>Kj [0,1]<|Kh 9<|JO (xA 0 j8)<|JO (xA 1 j8) Kg)<|λ_ _ _ _ _=>Wj<|J2 (qv 0)<|J2 (j9 Qc (qv 1)<|qv 2) J3) J3
def FY(a:All e):Ca e "waited" 2 ["form","wait"] (zC e.K zb):=
 xM a.toAl 18 16 λF=>yU (N:=["form","wait"]) (g:=ur) F JM λ_ _ _ _ _ _ c=>by
 let b:=(gJ a).mono (k:=1) ();unfold ur;exact J9<|X4<|K6 ["row","wait"] [8,!1] 9 9 (JV<|qv 0) (λ_ _ _ _ _=>Qf<|xA 0 j8)<|λ_ _ _ _ _=>qr b c 9<|J2 (qv 0)<|J2 (qv 1) J3
def dR(a:All e):zc e "put_into_row" 06 ["row","forms","most"] (xf e.K K2):=
 xC a.toAl 19 20 λF=>Wr (N:=["row","forms","most"]) (g:=CP) F JM λ_ _ _ _ _ _ f=>by
 let b:=(O9 a).mono (k:=05) ();let c:=(FY a).mono (k:=05) ();unfold CP;exact J9<|Qi<|Wq b Kb f 9<|J2 (ju<|K6 ["thing","wait","forms"] [8,8,!1] 9 9 (JV<|qv 0) (λ_ _ _ _ _=>Kj [0,1]<|Kh 9<|JO (xA 0 j8)<|JO (xA 1 j8) Kg)<|λ_ _ _ _ _=>ju<|YM c f 9<|J2 (Qo (JR f) (qv 2) (qv 0) (λ_ _=>9)<|λ_ _=>9)<|J2 (qv 1) J3)<|J2 (qv 2) J3
def OA(a:All e):zc e "put_into" 07 ["form","forms","most"] (yY e.K x5):=
 xC a.toAl 20 19 λF=>EI (N:=["form","forms","most"]) (g:=wH) F JM λ_ _ _ _ _ _ f=>by
 let c:=(O8 a).mono (k:=06) ();let b:=(dR a).mono (k:=06) ();unfold wH;exact J9<|X4<|YL c Kb f 9<|J2 (ju<|pW ["row","forms","most"] [8,!1,!2] 9 9 (JV<|qv 0) (λ_ _ _ _ _=>Qf<|xA 0 j8)<|λ_ _ _ _ _ h=>Wq b (iE 9 9 9 iO h) f 9<|J2 (qv 0)<|J2 (qv 1)<|J2 (qv 2) J3)<|J2 (qv 2) J3
def cU(a:All e):Ca e "_law_put" 08 ["form","parts"] (yd e.K XN):=
 xM a.toAl 21 62 λF=>xQ (N:=["form","parts","found"]) (g:=AS) F JM λ_ _ _ _ _ _ f=>by
 let c:=(OA a).mono (k:=07) ();let b:=a.x_TooMany;unfold AS;exact JD (Qn j8 9 (.inl 9) BA)<|JD (Mq 9 9 j8 9 (.inl 9) (z8.d c) f 9 (J2 (qv 0)<|J2 (qv 1)<|J2 J7 J3) b 9<|λ_=>J9<|Qn j8 9 (.inl 9) BA)<|J9<|Qi<|qv 2
def OB(a:All e):Ca e "plan_by" 1 ["book","name"] (yd e.K Xq):=
 xM a.toAl 23 26 λF=>xQ (N:=["book","name","plan"]) (g:=CS) F JM λ_ _ _ _ _ _ f=>by
 let b:=a.k_Book;let c:=a.k_Plan;unfold CS;exact JD (Q9 PassesOwn.never 9 (JV<|JT b (by decide)<|qv 0) (Qf<|JP j8 9<|.inl 9)<|J9<|Qj (Q7 (xT f.units) (JT c (by decide)<|qv 2) (qv 1)<|Qv _) (J9<|Qi<|qv 2) Qm)<|J9 gi
def OC(a:All e):Ca e "thing_form" 1 ["thing"] (zC e.K zY):=
 xM a.toAl 24 15 λF=>yU (N:=["thing"]) (g:=uZ) F JM λ_ _ _ _ _ _ b=>by
 unfold uZ;exact J9<|X4<|QF<|J2 (Wj<|J2 (Wj<|J2 (qv 0)<|J2 J7 J3) J3) J3
def OD(a:All e)(c:zc e "forms_knowing" (07+k) ["book","name","most","known"] (KD e.K<|Qt j)):zc e "made_form" (07+k+1) ["book","how","forms","most","known"] (KD e.K<|Qh j):=
 xC a.toAl 22 31 λF=>MV (N:=["book","how","forms","most","known"]) (g:=WR<|Qt j) F JM λ_ _ _ _ _ _ b=>by
 let f:=(O9 a).mono (k:=07+k) ();let h:=(O8 a).mono (k:=07+k) ();let i:=(OA a).mono (k:=07+k) ();unfold WR;exact EW (MX<|Q7 (xT b.units) (qv 1) JU<|Qv _) (WK<|Q1<|Wq f Kb b 9<|J2 (qv 2)<|J2 (qv 03) J3)<|EW (MX<|Q7 (xT b.units) (qv 1) JU<|Qv _) (WK<|Q1<|ju<|YL h Kb b 9<|J2 (qv 2)<|J2 (qv 03) J3)<|KC (m:=8) (MC (dH [04]<|Iz b.units (qv 1)<|qv 04) (A6<|pQ (JR b) (qv 04) (qv 1)<|MK MP (MW c Kb b 9<|J2 (qv 0)<|J2 (qv 1)<|J2 (qv 03)<|J2 (qv 04) J3) (Q1<|vQ BI J7)<|λ_ _=>9) MB)<|WK<|pf (z8.d i) Kb b 9<|Wv (cw (JR b) (qv 04) (qv 1)<|λ_ _=>9)<|Wv (Q1<|qv 2)<|Wv (Q1<|qv 03) Cs
def pY(a:All e)(c:zc e "made_form" (07+k) ["book","how","forms","most","known"] (KD e.K<|Qh j)):zc e "forms_knowing" (07+k+1) ["book","name","most","known"] (KD e.K<|Qt<|j+1):=
 xC a.toAl 25 30 λF=>MV (N:=["book","name","most","known","plan","told","made","how","items","forms"]) (g:=WS<|Qh j) F JM λ_ _ _ _ _ _ h=>by
 let m:=a.m;let f:=(OB a).mono (k:=07+k) ();let i:=(OC a).mono (k:=07+k) ();let l:=(FY a).mono (k:=07+k) ();let b:=a.k_Plan;unfold WS;exact KC (m:=8) (Kr<|Qn j8 9 (.inl 9)<|Cg f h 9<|J2 (qv 0)<|J2 (qv 1) J3)<|KC (m:=8) (Kr<|Ka j8 9 (.inr 9)<|K6 ["thing"] [8] 9 9 (Xf 9 (JH m)<|J2 (Qb (x:="len") Q3 9 (JH m) Qz<|J2 (JT b (by decide)<|qv 04) J3) J3) (λ_ _ _ _ _=>Qf<|xA 0 j8)<|λ_ _ _ _ _=>ju<|YM i h 9<|J2 (qv 0) J3)<|KC (m:=8) (MF Ws 9 (JV<|JT b (by decide)<|qv 04) (Kj [06,07,08]<|Kh 9<|JO (JP j8 9<|.inl 9)<|JO (JP j8 9<|.inl 9)<|JO (JP j8 9<|.inl 9) Kg)<|Wu (Kr<|iH ["thing","wait","told"] [8,8,!05] 2 j8 9 (.inl 9) 9 9 (JV<|qv 08) (λ_ _ _ _ _=>Kj [0,1]<|Kh 9<|JO (xA 0 j8)<|JO (xA 1 j8) Kg)<|λ_ _ _ _ _=>ju<|YM l h 9<|J2 (Eu (JR h) (pv 2) (qv 0) (λ_ _=>9)<|λ_ _=>9)<|J2 (qv 1) J3)<|A6<|MM (pv 05) (MW c Kb h 9<|J2 (qv 0)<|J2 (qv 07)<|J2 (qv 09)<|J2 (qv 2)<|J2 (qv 03) J3)<|λn o=>KR Yv Yw Yx W2 n o)<|EX<|WK<|Q1<|qv 05
theorem OE(a:All e):∀j,zc e "forms_knowing" (07+2*j) ["book","name","most","known"] (KD e.K<|Qt j)
 |0=>xC a.toAl 25 30 λ_=>dU
 |j+1=>pY (k:=2*j+1) a (OD (k:=2*j+0) a<|OE a j)
def OF(a:All e):zc e "forms_knowing" 15 ["book","name","most","known"] (KD e.K<|Qt 04):=OE a 04
def rO(a:All e):zc e "made_form" 16 ["book","how","forms","most","known"] (KD e.K<|Qh 04):=OD (k:=08) a<|OF a
def dI(a:All e):zc e "forms_of" 16 ["book","name","most"] (xf e.K W1):=
 xC a.toAl 26 28 λF=>Wr (N:=["book","name","most"]) (g:=AU) F JM λ_ _ _ _ _ _ c=>by
 let b:=(OF a).mono (k:=15) ();unfold AU;exact J9<|Qi<|gr b Kb c 9<|Fb (qv 0)<|Fb (qv 1)<|Fb (qv 2)<|aM (d0:=.dct [] []) El
def cC(a:All e):zc e "told_form" 17 ["book","name","most"] (xf e.K QM):=
 xC a.toAl 27 29 λF=>Wr (N:=["book","name","most"]) (g:=WU) F JM λ_ _ _ _ _ _ c=>by
 let b:=(dI a).mono (k:=16) ();unfold WU;exact J9<|Qi<|Qo (JR c) (Wq b Kb c 9<|J2 (qv 0)<|J2 (qv 1)<|J2 (qv 2) J3) (vQ BI J7) (λ_ _=>9)<|λ_ _=>9
def cv(a:All e):Ca e "_law_told" 18 ["book","name"] (yd e.K K3):=
 xM a.toAl 28 61 λF=>xQ (N:=["book","name","form"]) (g:=AV) F JM λ_ _ _ _ _ _ f=>by
 let c:=(cC a).mono (k:=17) ();let b:=a.x_TooMany;unfold AV;exact JD (Qn j8 9 (.inl 9) BA)<|JD (Mq 9 9 j8 9 (.inl 9) c f 9 (J2 (qv 0)<|J2 (qv 1)<|J2 J7 J3) b 9<|λ_=>J9<|Qn j8 9 (.inl 9) BA)<|J9<|Qi<|qv 2
def cm(a:All e):Ca e "_law_turns" 1 ["script","start","most"] (zC e.K CW):=
 xM a.toAl 29 63 λF=>yU (N:=["script","start","most","many"]) (g:=CV) F JM λ_ _ _ _ _ _ b=>by
 let m:=a.m;unfold CV;exact JD (Qn j8 9 (.inl 9)<|Qb (x:="min") (S8 9) 9 (JH m) GZ<|J2 (qv 2)<|J2 (Qb (x:="max") (IC 9) 9 (JH m) DE<|J2 J7<|J2 (j9 Y4 (Qb (x:="len") Q3 9 (JH m) Qz<|J2 (qv 0) J3)<|qv 1) J3) J3)<|J9<|X4<|K6 ["k","script","start","most"] [8,!0,!1,!2] 9 9 (Xf 9 (JH m)<|J2 (qv 03) J3) (λ_ _ _ _ _=>Qf<|xA 0 j8)<|λ_ _ _ _ _=>Qb (x:="sum") (Lc 9) 9 (JH m) Ha<|J2 (ju<|Ey (qv 1) (BV<|j9 Qc (qv 2)<|qv 0) Aq<|BV<|qv 03) J3
def cF(a:All e):Ca e "is_name" 1 ["text"] (yd e.K WV):=
 xM a.toAl 30 36 λF=>xQ (N:=["text"]) (g:=Xr) F JM λ_ _ _ _ _ _ h=>by
 let m:=a.m;let f:=a.w_FIGURES;let c:=a.y_KEPT_WORDS;let b:=a.w_LETTERS;unfold Xr;exact JD (Qj (zg<|BC (KW<|YN yA yA J7 (Qb (x:="len") Q3 9 (JH m) Qz<|J2 (qv 0) J3) J7)<|BC (cD (ws:=["plan","given","all","first","part"]) h.units c 9<|qv 0)<|DY<|Q7 dQ (Qo (JR h) (qv 0) J7 (λ_ _=>9)<|λ_ _=>9) (EL b 9) 9) (J9<|Qi W7) Qm)<|J9<|Qi<|Qb (x:="all") (Ld 9) 9 (JH m) Lf<|J2 (ju<|K6 ["sign"] [8] 9 9 (cO<|qv 0) (λ_ _ _ _ _=>Qf<|xA 0 j8)<|λ_ _ _ _ _=>rL (ZZ Mt (qv 0) (EL b 9) 9)<|Ie<|ZZ Mt (qv 0) (EL f 9) 9) J3
def ck(a:All e):Ca e "are_names" 2 ["texts"] (yd e.K Z5):=
 xM a.toAl 31 39 λF=>xQ (N:=["texts"]) (g:=CZ) F JM λ_ _ _ _ _ _ c=>by
 let m:=a.m;let b:=(cF a).mono (k:=1) ();unfold CZ;exact J9<|Qi<|gu (Qb (x:="all") (Ld 9) 9 (JH m) Lf<|J2 (ju<|K6 ["text"] [8] 9 9 (JV<|qv 0) (λ_ _ _ _ _=>Qf<|xA 0 j8)<|λ_ _ _ _ _=>qr b c 9<|J2 (qv 0) J3) J3)<|Ie<|ZZ (xT c.units) (cJ (λh=>ZK L2.ST.call_lenK 9 (JH m) Qz<|KQ (Bh (L2.ST.call_setK 9) 9 (JH m) L2.bt_set h) Wf)<|J2 (qv 0) J3) (Qb (x:="len") Q3 9 (JH m) Qz<|J2 (qv 0) J3)<|Qv _
def cE(a:All e):zc e "look_at_names" 03 ["book"] (xf e.K Db):=
 xC a.toAl 32 38 λF=>Wr (N:=["book","plan"]) (g:=Da) F JM λ_ _ _ _ _ _ i=>by
 let h:=(ck a).mono (k:=2) ();let b:=a.x_BadName;let f:=a.k_Book;let c:=a.k_Plan;unfold Da;exact JD (Qj (KW<|KS<|Cg h i 9<|J2 (ju<|K6 ["plan"] [8] 9 9 (JV<|JT f (by decide)<|qv 0) (λ_ _ _ _ _=>Qf<|xA 0 j8)<|λ_ _ _ _ _=>JT c (by decide)<|qv 0) J3) (J9<|V9 V8 b 9 9 JU) Qm)<|J9<|Q9 Ws 9 (JV<|JT f (by decide)<|qv 0) (Qf<|JP j8 9<|.inl 9)<|J9<|Qj (KW<|KS<|Cg h i 9<|J2 (j9 Qc (JT c (by decide)<|qv 1)<|ju<|K6 ["name","how","items"] [8,8,8] 9 9 (JV<|JT c (by decide)<|qv 1) (λ_ _ _ _ _=>Kj [0,1,2]<|Kh 9<|JO (xA 0 j8)<|JO (xA 1 j8)<|JO (xA 2 j8) Kg)<|λ_ _ _ _ _=>qv 0) J3) (J9<|V9 V8 b 9 9 JU) Qm
def OG(a:All e):Ca e "is_part" 1 ["how"] (yd e.K WW):=
 xM a.toAl 33 45 λF=>xQ (N:=["how"]) (g:=Dc) F JM λ_ _ _ _ _ _ b=>by
 unfold Dc;exact J9<|Qi<|S4 b.units (qv 0)<|Wj<|J2 JU<|J2 JU J3
def dZ(a:All e):zc e "look_at_parts" 2 ["book"] (xf e.K De):=
 xC a.toAl 34 42 λF=>Wr (N:=["book","givens","plan","name","how","items"]) (g:=Dd) F JM λ_ _ _ _ _ _ i=>by
 let m:=a.m;let h:=(OG a).mono (k:=1) ();let c:=a.x_BadPart;let f:=a.k_Book;let b:=a.k_Plan;unfold Dd;exact JD (Ka j8 9 (.inl 9) El)<|J9<|Q9 Ws 9 (JV<|JT f (by decide)<|qv 0) (Qf<|JP j8 9<|.inl 9)<|JD (Q9 Ws 9 (JV<|JT b (by decide)<|qv 2) (Kj [03,04,05]<|Kh 9<|JO (JP j8 9<|.inl 9)<|JO (JP j8 9<|.inl 9)<|JO (JP j8 9<|.inl 9) Kg)<|J9<|Qj (zg<|BB (KS<|Cg h i 9<|J2 (qv 04) J3)<|DX<|Q7 (uL i.units) (cR [1]<|cy (JR i) (qv 1) (qv 04) (9,9,9,9)) (Qb (x:="len") Q3 9 (JH m) Qz<|J2 (qv 05) J3)<|Qv _) (J9<|V9 V8 c 9 9<|A3<|A1 (qv 03)<|Xl A0) Qm)<|J9<|Em (JR i) (pv 1) (JT b (by decide)<|qv 2)<|Qb (x:="len") Q3 9 (JH m) Qz<|J2 (JT b (by decide)<|qv 2) J3
def cY(a:All e):zc e "look_at_items" 1 ["plan"] (xf e.K AW):=
 xC a.toAl 35 41 λF=>Wr (N:=["plan","ahead","name","how","items","thing","wait"]) (g:=Df) F JM λ_ _ _ _ _ _ f=>by
 let m:=a.m;let b:=a.x_BadPlan;let c:=a.k_Plan;unfold Df;exact JD (Qn j8 9 (.inl 9)<|Qb (x:="len") Q3 9 (JH m) Qz<|J2 (JT c (by decide)<|qv 0) J3)<|J9<|Q9 Ws 9 (JV<|JT c (by decide)<|qv 0) (Kj [2,03,04]<|Kh 9<|JO (JP j8 9<|.inl 9)<|JO (JP j8 9<|.inl 9)<|JO (JP j8 9<|.inl 9) Kg)<|JD (Qj (KW<|YN yA yA J7 (Qb (x:="len") Q3 9 (JH m) Qz<|J2 (qv 04) J3) J7) (J9<|V9 V8 b 9 9<|A3<|A1 (qv 2)<|Xl A0) Qm)<|JD (Q9 Ws 9 (JV<|qv 04) (Kj [05,06]<|Kh 9<|JO (JP j8 9<|.inl 9)<|JO (JP j8 9<|.inl 9) Kg)<|JD (Qj (KW<|YN yA gO J7 (qv 05)<|qv 1) (J9<|V9 V8 b 9 9<|A3<|Xl<|A1 (qv 2)<|Xl A0) Qm)<|J9<|Qj (Q7 rQ (Qb (x:="abs") bN 9 (JH m) Tz<|J2 (qv 06) J3) (j9 Wm J7 J7)<|Qv _) (J9<|V9 V8 b 9 9<|A3<|Xl<|A1 (qv 2)<|Xl A0) Qm)<|J9<|cS j8 9 (.inl 9) J7
def cp(a:All e):zc e "look_at_plans" 2 ["book"] (xf e.K Dh):=
 xC a.toAl 36 40 λF=>Wr (N:=["book","plan"]) (g:=Dg) F JM λ_ _ _ _ _ _ i=>by
 let m:=a.m;let h:=(cY a).mono (k:=1) ();let b:=a.x_BadPlan;let c:=a.k_Book;let f:=a.k_Plan;unfold Dg;exact JD (Qj (KW<|YN yA yA J7 (Qb (x:="len") Q3 9 (JH m) Qz<|J2 (JT c (by decide)<|qv 0) J3) J7) (J9<|V9 V8 b 9 9 JU) Qm)<|J9<|Q9 Ws 9 (JV<|JT c (by decide)<|qv 0) (Qf<|JP j8 9<|.inl 9)<|JD (Qj (KW<|YN yA yA J7 (Qb (x:="len") Q3 9 (JH m) Qz<|J2 (JT f (by decide)<|qv 1) J3) J7) (J9<|V9 V8 b 9 9 JU) Qm)<|JD (Qj (KW<|YN yA yA J7 (Qb (x:="len") Q3 9 (JH m) Qz<|J2 (JT f (by decide)<|qv 1) J3) J7) (J9<|V9 V8 b 9 9 JU) Qm)<|J9<|Aa<|Wq h Kb i 9<|J2 (qv 1) J3
def dM(a:All e):Ca e "weights" 2 ["book"] (zC e.K Dj):=
 xM a.toAl 37 44 λF=>yU (N:=["book","told","plan","parts"]) (g:=Di) F JM λ_ _ _ _ _ _ h=>by
 let m:=a.m;let f:=(OG a).mono (k:=1) ();let c:=a.k_Book;let b:=a.k_Plan;unfold Di;exact JD (Ka j8 9 (.inr 9) El)<|JD (Q9 PassesOwn.never 9 (JV<|JT c (by decide)<|qv 0) (Qf<|JP j8 9<|.inl 9)<|JD (iX [1] ["name","how","items","told"] [8,8,8,!1] j8 9 (.inl 9) 9 9 (JV<|JT b (by decide)<|qv 2) (λ_ _ _ _ _=>Kj [0,1,2]<|Kh 9<|JO (xA 0 j8)<|JO (xA 1 j8)<|JO (xA 2 j8) Kg) (λ_ _ _ _ _=>KS<|qr f h 9<|J2 (qv 1) J3)<|λ_ _ _ _ _=>Qo (JR h) (qv 03) (qv 1) (λ_ _=>9)<|λ_ _=>9)<|J9<|Em (JR h) (pv 1) (JT b (by decide)<|qv 2)<|j9 Qc (Qb (x:="len") Q3 9 (JH m) Qz<|J2 (JT b (by decide)<|qv 2) J3)<|X3 [03]<|Qb (x:="sum") (Lc 9) 9 (JH m) Ha<|J2 (qv 03) J3)<|J9<|Y2<|pv 1
def cf(a:All e):zc e "look_at_weights" 03 ["book"] (xf e.K Dl):=
 xC a.toAl 38 43 λF=>Wr (N:=["book","name","own"]) (g:=Dk) F JM λ_ _ _ _ _ _ f=>by
 let c:=(dM a).mono (k:=2) ();let b:=a.x_TooLong;unfold Dk;exact J9<|Q9 Ws 9 (ae<|YM c f 9<|J2 (qv 0) J3) (Kj [1,2]<|Kh 9<|JO (JP j8 9<|.inl 9)<|JO (JP j8 9<|.inl 9) Kg)<|J9<|Qj (Q7 vW (qv 2) J7<|Qv _) (J9<|V9 V8 b 9 9<|A3<|Xl<|A1 (qv 1)<|Xl A0) Qm
def cZ(a:All e):zc e "looked" 04 ["book"] (xf e.K AX):=
 xC a.toAl 39 37 λF=>Wr (N:=["book"]) (g:=Dm) F JM λ_ _ _ _ _ _ i=>by
 let b:=(cE a).mono (k:=03) ();let c:=(dZ a).mono (k:=03) ();let f:=(cp a).mono (k:=03) ();let h:=(cf a).mono (k:=03) ();unfold Dm;exact JD (Aa<|Wq b Kb i 9<|J2 (qv 0) J3)<|JD (Aa<|Wq f Kb i 9<|J2 (qv 0) J3)<|JD (Aa<|Wq c Kb i 9<|J2 (qv 0) J3)<|J9<|Aa<|Wq h Kb i 9<|J2 (qv 0) J3
def OH(a:All e)(b:Ca e "hours_of" (1+k) ["book","name","hours"] (yd e.K<|Xs j)):Ca e "told_hour" (1+k+1) ["book","name","hours"] (yd e.K<|Kd j):=
 xM a.toAl 40 48 λF=>xQ (N:=["book","name","hours"]) (g:=AY<|Xs j) F JM λ_ _ _ _ _ _ c=>by
 unfold AY;exact J9<|Qi<|Qo (JR c) (qr b c 9<|J2 (qv 0)<|J2 (qv 1)<|J2 (qv 2) J3) (vQ BI J7) (λ_ _=>9)<|λ_ _=>9
def OI(a:All e)(b:Ca e "told_hour" (1+k) ["book","name","hours"] (yd e.K<|Kd j)):Ca e "made_hour" (1+k+1) ["book","how","hours"] (yd e.K<|Wd j):=
 xM a.toAl 41 49 λF=>xQ (N:=["book","how","hours"]) (g:=XP<|Kd j) F JM λ_ _ _ _ _ _ c=>by
 let m:=a.m;unfold XP;exact JD (Qj (Q7 (xT c.units) (qv 1) JU<|Qv _) (J9<|Qi<|Qb (x:="max") (S9 9) 9 (JH m) DE<|J2 (qv 2) J3) Qm)<|JD (Qj (Q7 (xT c.units) (qv 1) JU<|Qv _) (J9<|Qi<|Qb (x:="min") (SA 9) 9 (JH m) GZ<|J2 (qv 2) J3) Qm)<|J9<|Qi<|qr b c 9<|J2 (qv 0)<|J2 (qv 1)<|J2 (qv 2) J3
def lx(a:All e)(c:Ca e "made_hour" (1+k) ["book","how","hours"] (yd e.K<|Wd j)):Ca e "hours_of" (1+k+1) ["book","name","hours"] (yd e.K<|Xs<|j+1):=
 xM a.toAl 42 47 λF=>xQ (N:=["book","name","hours","told","made","how","items"]) (g:=AZ<|Wd j) F JM λ_ _ _ _ _ _ h=>by
 let m:=a.m;let f:=(OB a).mono (k:=1+k) ();let b:=a.k_Plan;unfold AZ;exact JD (Ka j8 9 (.inr 9)<|W9 (x:="list") X7 9 (JH m) Xz<|J2 (qv 2) J3)<|JD (Q9 PassesOwn.never 9 (JV<|JT b (by decide)<|qr f h 9<|J2 (qv 0)<|J2 (qv 1) J3) (Kj [04,05,06]<|Kh 9<|JO (JP j8 9<|.inl 9)<|JO (JP j8 9<|.inl 9)<|JO (JP j8 9<|.inl 9) Kg)<|J9<|Ab (pv 03) (X3 [03]<|qr c h 9<|J2 (qv 0)<|J2 (qv 05)<|J2 (ju<|K6 ["thing","wait","told"] [8,8,!03] 9 9 (JV<|qv 06) (λ_ _ _ _ _=>Kj [0,1]<|Kh 9<|JO (xA 0 j8)<|JO (xA 1 j8) Kg)<|λ_ _ _ _ _=>j9 Qc (Qo (JR h) (qv 2) (qv 0) (λ_ _=>9)<|λ_ _=>9)<|qv 1) J3)<|λi l=>KR Yv Yw Yx W2 i l)<|J9<|BE [03]<|Qi<|qv 03
theorem OJ(a:All e):∀j,Ca e "hours_of" (1+03*j) ["book","name","hours"] (yd e.K<|Xs j)
 |0=>xM a.toAl 42 47 λ_=>IK
 |j+1=>lx (k:=03*j+2) a (OI (k:=03*j+1) a<|OH (k:=03*j+0) a<|OJ a j)
def OK(a:All e):Ca e "told_hour" 14 ["book","name","hours"] (yd e.K<|Kd 04):=OH (k:=12) a<|OJ a 04
def rN(a:All e):Ca e "made_hour" 15 ["book","how","hours"] (yd e.K<|Wd 04):=OI (k:=13) a<|OK a
def cX(a:All e)  (F:Fun e.K "law" "law" (v0 64) f z):FnOk e.P e.w e.K e.mg e.base zj 19 f z ["script"] (yd e.K uD):=
 xQ (N:=["script","book","last","many","plain","forms","cell","hours","pot","items","whole","parts"]) (g:=Z8) F JM λ_ _ _ _ _ _ b=>by
 let m:=a.m;let p:=(c0 a).mono (k:=18) ();let l:=(O3 a).mono (k:=18) ();let q:=(dS a).mono (k:=18) ();let r:=(O4 a).mono (k:=18) ();let s:=(cP a).mono (k:=18) ();let t:=(cU a).mono (k:=18) ();let h:=(cv a).mono (k:=18) ();let u:=(cm a).mono (k:=18) ();let v:=(cZ a).mono (k:=18) ();let w:=(OC a).mono (k:=18) ();let n:=(OK a).mono (k:=18) ();let y:=(FY a).mono (k:=18) ();let i:=a.k_Book;let c:=a.k_Plan;let j:=O2 a;let o:=FV a;unfold Z8
 exact JD (Qn j8 9 (.inl 9)<|ju<|Xc p b 9<|J2 (qv 0)<|J2 (j9 Qc J7<|j9 KY (qr l b 9<|J2 (qv 0)<|J2 J7 J3) J7)<|J2 J7 J3)<|JD (Qn j8 9 (.inl 9)<|Qo (JR b) (JT i (by decide)<|qv 1) (vQ BI J7) (λ_ _=>9)<|λ_ _=>9)<|JD (Qn j8 9 (.inl 9)<|Qb (x:="len") Q3 9 (JH m) Qz<|J2 (JT c (by decide)<|qv 2) J3)<|JD (Qn j8 9 (.inl 9)<|ju<|YO j (b.mono ()) 9<|J2 (ju<|QF<|J2 (ju<|Xc s b 9<|J2 (JT i (by decide)<|qv 1)<|J2 (qv 2) J3) J3) J3)<|JD (Qj (Et<|Wq v l5 b 9<|J2 (qv 04) J3) (J9<|Qi W7) Qm)<|JD (Qn j8 9 (.inl 9)<|ju<|QF<|J2 (qr h b 9<|J2 (qv 1)<|J2 (JT c (by decide)<|qv 2) J3)<|J2 (qr h b 9<|J2 (qv 04)<|J2 JU J3) J3)<|JD (Qj (zg<|BB (Et<|Qo (JR b) (qv 05) J7 (λ_ _=>9)<|λ_ _=>9)<|BB (Et<|Qo (JR b) (qv 05) J7 (λ_ _=>9)<|λ_ _=>9)<|DX<|Q7 (uL b.units) (Qo (JR b) (qv 05) J7 (λ_ _=>9)<|λ_ _=>9) (Qo (JR b) (qv 05) J7 (λ_ _=>9)<|λ_ _=>9)<|Qv _) (J9<|Qi W7) Qm)<|JD (Q9 PassesOwn.never 9 (JV<|j9 Qc (ju<|QF<|J2 J7 J3)<|ju<|Xc u b 9<|J2 (qv 0)<|J2 J7<|J2 J7 J3) (Qf<|JP j8 9<|.inl 9)<|JD (Qn j8 9 (.inl 9)<|ju<|Xc q b 9<|J2 (qv 06)<|J2 (qv 03) J3)<|J9<|Qj (Q7 (uL b.units) (qr n b 9<|J2 (qv 1)<|J2 (JT c (by decide)<|qv 2)<|J2 (qv 07) J3) (qr n b 9<|J2 (qv 04)<|J2 JU<|J2 (qv 07) J3)<|Qv _) (J9<|Qi W7) Qm)<|JD (Ka j8 9 (.inl 9)<|QF<|J2 (j9 KY (qr l b 9<|J2 (qv 0)<|J2 J7 J3)<|j9 Wm J7 J7) J3)<|JD (Cv j8 9 (.inl 9)<|XE<|KN r b 9<|J2 (qv 08)<|J2 J7<|J2 (qv 03) J3)<|JD (Qn j8 9 (.inl 9)<|ju<|YO j (b.mono ()) 9<|J2 (j9 Qc (JT i (by decide)<|qv 1)<|ju<|QF<|J2 (ju<|YO o (b.mono ()) 9<|J2 JU<|J2 (ju<|QF<|J2 JU<|J2 JU<|J2 JU J3)<|J2 (ju<|QF<|J2 (Wj<|J2 JU<|J2 (JT c (by decide)<|qv 2)<|J2 (qv 09) J3) J3) J3) J3) J3)<|JD (IR ["thing","wait"] [8,8] j8 9 (.inl 9) 9 9 (JV<|qv 09) (λ_ _ _ _ _=>Kj [0,1]<|Kh 9<|JO (xA 0 j8)<|JO (xA 1 j8) Kg)<|λ_ _ _ _ _=>ju<|Xc y b 9<|J2 (ju<|Xc w b 9<|J2 (qv 0) J3)<|J2 (qv 1) J3)<|JD (Qj (SU<|Qo (JR b) (qv 05) J7 (λ_ _=>9)<|λ_ _=>9) (J9<|Qi<|gp<|qr h b 9<|J2 (qv 10)<|J2 JU J3) Qm)<|J9<|Qi<|ZZ (xT b.units) (qr h b 9<|J2 (qv 10)<|J2 JU J3) (qr t b 9<|J2 (Qo (JR b) (qv 05) J7 (λ_ _=>9)<|λ_ _=>9)<|J2 (qv 11) J3)<|Qv _
def Dq(K:f'):Sp:=λc H Q _=>∃(a:Addr)(b:Yf),c=[.ref a]/\xx K H a (b.map V.int)/\b.length<=63/\∀e,Q (.bl 6) e
def l8(K:f')(b:YB)(H:Hp)(Q:VK)(E:XK)(h:Dq K b H Q E):yd K uD b H Q E:=by
 let(a c,rfl,f,g,q):=h;calc(H,[.scr c],jp.refl _,IsDs.mk (qO.mpr (a,9,f)) .nil,?_);rw[vf c g];intro v l j e i;rw[jo.mp i];exact q j
def all_mk{l:W.OpenLaw} {K:f'}   (X:K.In h)(G:h.Ns mainGlobals mg)(hfa:mg "law"=! .ref fa)
 (d:kw K v0 tbl)(z:Nn K bl)(dl:uz K "law" (v0 64))
 (a:W.nsIn K mainGlobals "BadName"=! ! .ref b)(B:W.excIn K b [.type "ValueError",.type "Exception",.type "BaseException",.type "object"] "ValueError.__new__"=6)
 (c:W.nsIn K mainGlobals "BadPart"=! ! .ref f)(C:W.excIn K f [.type "ValueError",.type "Exception",.type "BaseException",.type "object"] "ValueError.__new__"=6)
 (g:W.nsIn K mainGlobals "BadPlan"=! ! .ref i)(E:W.excIn K i [.type "ValueError",.type "Exception",.type "BaseException",.type "object"] "ValueError.__new__"=6)
 (j:W.nsIn K mainGlobals "TooLong"=! ! .ref m)(F:W.excIn K m [.type "ValueError",.type "Exception",.type "BaseException",.type "object"] "ValueError.__new__"=6)
 (o:W.nsIn K mainGlobals "TooMany"=! ! .ref p)(I:W.excIn K p [.type "ValueError",.type "Exception",.type "BaseException",.type "object"] "ValueError.__new__"=6)
 (J:W.nsIn K mainGlobals "FIGURES"=! ! .str "0123456789" q)
 (r:W.nsIn K mainGlobals "KEPT_WORDS"=! ! .ref t)(u:K.lookup t=!(.type "tuple",N,.seq #[.str "plan" O,.str "given" P,.str "all" Q,.str "first" R,.str "part" S] n_KEPT_WORDS,T))
 (L:W.nsIn K mainGlobals "LETTERS"=! ! .str "abcdefghijklmnopqrstuvwxyz" M)
 (l_Book:Mx K "Book" "Book.__init__" ["plans"] (Bl (v0 25) 0))
 (l_Plan:Mx K "Plan" "Plan.__init__" ["name","givens","rows"] (Bl (v0 24) 0)):
 ∃fd:FuncData,(∀(s:Shared)(v:Value),BindsTo s fd ([v],[]) [%["script"|v]])/\∀x:Heap,K.In x->x.Ns mainGlobals mg->FnOk l.prog w K mg x zj 19 fa fd ["script"] (Dq K):=by
 let(f_law,fd_law,a_law,uD):=dl;cases hfa.symm.trans (W.mg_of X G a_law);let(D_Book,fI_Book,fdI_Book,y,U,Y,Z,l5_Book):=l_Book;let(D_Plan,fI_Plan,fdI_Plan,A,l2_Plan,l3_Plan,l4_Plan,l5_Plan):=l_Plan;exact(fd_law,by let(_,_,_,_,_,_,_,_,_,rfl,_,_):=id uD.ex;calc λs v=>.of_eq 9,λx _ _=>(cX (e:=(l.prog,w,K,mg,x,λn=>[b,f,i,m,p,D_Book,D_Plan].getD n 0,λn=>[q,M].getD n q)) (((h,X,G),d,Na X G z),(a,W.mg_of X G a,B),(c,W.mg_of X G c,C),(g,W.mg_of X G g,E),(j,W.mg_of X G j,F),(o,W.mg_of X G o,I),W.mg_of X G J,(_,W.mg_of X G r,λH=>.inr (_,_,_,u,9,9,by show 05<=sizeLine;decide,.cons (_,9)<|.cons (_,9)<|.cons (_,9)<|.cons (_,9)<|.cons (_,9) .nil)),W.mg_of X G L,(y,W.mg_of X G y,U,Y),(_,_,Z,l5_Book),(A,W.mg_of X G A,l2_Plan,l3_Plan),(_,_,l4_Plan,l5_Plan)) uD).imp<|l8 K)
def walk{l:W.OpenLaw}     {K:Params->f'}(m:l.most=!63)(e:d.params.defaults=[])
 (o:∀(w:World)(h:Heap),p w h->(K w.params).In h)
 (F:∀(w:World)(c:Yd)(i:Addr)(h:Heap),(K w.params).In h->h.Ns mainGlobals c->c d.name=! .ref i->
  ∃j:FuncData,(∀(s:Shared)(u:Value),BindsTo s j ([u],[]) [%["script"|u]])/\∀b:Heap,(K w.params).In b->b.Ns mainGlobals c->FnOk l.prog w (K w.params) c b zj 19 i j ["script"] (Dq<|K w.params)):
 W.WalkO q g A p l.row.toRowW d [] λf r=>PySem.call f r:=
 L2.walk_of (n:=63) (k:=19) (x:="script") (CX:=λ_=>zj) (sp:=λw=>Dq<|K w.params) m (by decide) e (9,by decide,by decide) o F (λ_ _ a t v _ y=>(a,t,9,y,v,λ_=>9)) λ_ _ _ _ _ z=>z
end My
end
open PySem PySem.W PyProof.Rows
structure PySem.W.Fast:Prop where(tw777497193026021413 tw30332903748923415 tw17736134213010230826 tw6343335638949175130 tw13566955014342248338 tw13800275569104108768 tw15334733843318049954 tw17475272124092475262 tw4992455260589054349 tw7290782038792489148 tw11943290261922259833 tw7400511794782977932 tw14434690009496294528 tw1725468090784847566 tw5579196501797759293 tw6750498946090929252 tw17737252234311845047 tw7713740532109809498 tw5841156397537721426 tw15604494041320440868 tw74751814404084072 tw5627094087567943616 tw1833672184625095682 tw12336311955258670865 tw653164280483759484 tw9124977055885398798 tw12266698708418166898 tw16763682920307039315 tw4012203256996217857 tw16542253763234086298 tw12854123626177400735 tw10021088219228546438 tw9636642534481757599 tw1789348529492205718 tw15556853561575530316 tw5631562685100914096 tw769924226722474354 tw9770690844386797945 tw4492765969371473042 tw4438948775249511062 tw5896593506874846087 tw92501980215749295 tw8888141176338404168 tw14759030448208158987 tw13710481130277051654 tw40990976327061754 tw16462610864252528444 tw2243129804500842597 tw3246060842599098633 tw7469081790199543571 tw2058075333236320990 tw7210245881723608228 tw2323830588156710422 tw15761085485003110196 tw845919344060920677 tw13581828239973332157 tw13798707537876822723 tw18056776328341997698 tw15611614590456275606 tw12437701673132992708 tw5205131355370967227 tw2506443576584681782 tw3156766309643243515 tw18356108388491895045 tw10495278026120403709 tw11268115667113092221 tw14342901730438809511 tw12465520485676291466 tw11455044860393542155 tw3805727037223212011 tw18279734748499270240 tw16078694254518440257 tw7944071565215695841 tw6764698767654787194 tw11199635859305107862 tw2792025513998862380 tw1196794430012213810 tw5902229506682196533 tw7672475404890758746 tw3156210657674996665 tw13799225933941081497 tw709171167309744900 tw8865160565560964044 tw10931148930463779100 tw1281497589911467436 tw2042155894713803735 tw17860548375315368123 tw13184356762672907164 tw9004027690725719637 tw9787893145081725367 tw14627038632748544289 tw13732183604031755217 tw1681854926448658527 tw16183130231944693065 tw1802828627011483693 tw7720604885368668254 tw17423871246617295259 tw2403810130763128182 tw16259100177207740887 tw16819805259263435734 tw16478658772349025415 tw4401922415275714657 tw17047449563543640143 tw2498959540822134185 tw396638273805287510 tw17320318408485451010 tw17338555372349722823 tw450744030898829642 tw6547637615176093552 tw10109872625877092276 tw1906241431678754062 tw9792610418231781270 tw10143086440676573588 tw15241246733505916554 tw14782690541824729066 tw11575337613120005588 tw53986323356737649 tw389449390988723107 tw3960475854644731036 tw16397444691260523416 tw17562027523772655144 tw4490414585552563426 tw13856994946733512399 tw5168775441194307830 tw8160499754280945826 tw7625242804674384322 tw1601484062708754863 tw9759133498550449342 tw1057424716140350053 tw4253478664990851165 tw2262840561452182355 tw13779702320553461603 tw16930872482506878746 tw15265063545338551169 tw15930524317475643145 tw15753531181908844779 tw7234666861073520303 tw1044906665162842599 tw7627266676312773755 tw9943896017892316032 tw10175375321417607144 tw15210480176188277629 tw6412273392430924955 tw4686784532523885084 tw14687452537164899843 tw15929848813218474716 tw17935440620683239207 tw4601769383458136387 tw14219842345755672738 tw167040896054294280 tw2272190900508282652 tw13840274983936853025 tw16535472320074004910 tw4710993713530004126 tw5334325551750680710 tw1575753287851541319 tw3999216512483650018 tw17961383042905589763 tw2654618143620074386 tw7072259448977405858 tw2490238210861800754 tw4836604286333870444 tw1630229907272557443 tw4055982463106631909 tw3595729524252690217 tw6303348821196004310 tw13191333305111899237 tw3048104013377909408 tw11454991290326061873 tw17844100100041695649 tw722610917507148232 tw2080314747284547411 tw9983386228939604850 tw4275820140120152232 tw12133742289166922067 tw6147669770713385939 tw4159090204213433975 tw8223794925807045060 tw17971766520854002651 tw6440455359502980328 tw5166846854646553115 tw11731564184119430369 tw6189159345931787426 tw16313607589700465719 tw7541195912165207873 tw11554499749954522912 tw16159828785663480793 tw11744502369926028682 tw1647343981175279831 tw10109949743925853351 tw13543876174818253314 tw4832119434637028123 tw13416859982878322687 tw5136748108332956519 tw2985981557797932124 tw14973321464110480344 tw475381895275117866 tw1026650801531598281 tw13316209538213901010 tw2478300979008998223 tw3751557038713934231 tw4173049482545342451 tw12200990234411495572 tw12549911387449546141 tw10659650453590493626 tw9580337936956109419 tw13693142652321507600 tw5168037021263456339 tw3769893149318931682 tw12817506311382894143 tw5009852904528073516 tw17614043534974600417 tw13365084427441456462 tw17319913127132174620 tw18065501556704249218 tw3457044385474909948 tw14330316000418462755 tw15564478818396795023 tw5125370189179029970 tw12376942843105153973 tw4380048105618248768 tw4453632921787917802 tw7815229281872158663 tw7029207960943726656 tw3505737665770052714 tw18209535818209692835 tw14833542390677517360 tw13961974886540810041 tw12914124739950909008 tw10023902370323411711 tw14749100384557529720 tw5576691521236846074 tw2842067798018545024 tw11332451285417087307 tw6777849852633287138 tw18362929009699481208:True)
set_option maxRecDepth 100000 in
set_option maxHeartbeats 0 in
theorem PySem.Challenge.cw_allfirst_k68_whole_parts_put_in_holds : PySem.Challenge.rw_allfirst_k68_whole_parts_put_in.Holds := by
 w_on;o_law;k_head;(case hw=>w_witness2)
 k_fill
 refine My.walk (l:=PySem.Challenge.rw_allfirst_k68_whole_parts_put_in) rfl rfl (fun w h Y=>PySem.W.kIn_of Y) ?F
 case F =>
  intro w mg fa h KX G hmg;refine' My.all_mk KX G hmg ?d ?z ?dl ?a_BadName ?q_BadName ?a_BadPart ?q_BadPart ?a_BadPlan ?q_BadPlan ?a_TooLong ?q_TooLong ?a_TooMany ?q_TooMany ?g_FIGURES ?g_KEPT_WORDS ?h_KEPT_WORDS ?g_LETTERS ?l_Book ?l_Plan
  (case d =>
   repeat (apply L2.DL.dfs_cons;focus (refine' ⟨_,_,?a,L2.fun_mk ?l ?c ?k⟩;(case a=>k_is);(case l=>k_is);(case c=>k_is);(case k=>k_is)))
   exact True.intro)
  (case z =>
   repeat (apply L2.DL.nn_cons;focus k_is)
   exact True.intro)
  (case dl=>refine' ⟨_,_,?a,L2.fun_mk ?l ?c ?k⟩;(case a=>k_is);(case l=>k_is);(case c=>k_is);(case k=>k_is))
  (case a_BadName=>k_is)
  (case q_BadName=>k_exc)
  (case a_BadPart=>k_is)
  (case q_BadPart=>k_exc)
  (case a_BadPlan=>k_is)
  (case q_BadPlan=>k_exc)
  (case a_TooLong=>k_is)
  (case q_TooLong=>k_exc)
  (case a_TooMany=>k_is)
  (case q_TooMany=>k_exc)
  (case g_FIGURES|g_KEPT_WORDS|h_KEPT_WORDS|g_LETTERS=>k_is)
  (case l_Book=>refine' ⟨_,_,_,?ua,⟨?up,?uh,?uo,?us⟩,List.forall_mem_cons.mpr ⟨?uf0,List.forall_mem_nil _⟩,⟨?um,?ui,?un,?ue⟩,L2.fun_mk ?ul ?uc ?uk⟩;(case ua=>k_is);(case ui=>k_is);(case ul=>k_is);(case uc=>k_is);(case uk=>k_is);(case up=>k_is);(case uh=>k_is);(case uo=>k_is);(case us=>k_is);(case um=>k_is);(case un=>k_is);(case ue=>k_is);(case uf0=>show PySem.W.findIn _ _ _=_;k_is))
  (case l_Plan=>refine' ⟨_,_,_,?ua,⟨?up,?uh,?uo,?us⟩,List.forall_mem_cons.mpr ⟨?uf0,List.forall_mem_cons.mpr ⟨?uf1,List.forall_mem_cons.mpr ⟨?uf2,List.forall_mem_nil _⟩⟩⟩,⟨?um,?ui,?un,?ue⟩,L2.fun_mk ?ul ?uc ?uk⟩;(case ua=>k_is);(case ui=>k_is);(case ul=>k_is);(case uc=>k_is);(case uk=>k_is);(case up=>k_is);(case uh=>k_is);(case uo=>k_is);(case us=>k_is);(case um=>k_is);(case un=>k_is);(case ue=>k_is);(case uf0=>show PySem.W.findIn _ _ _=_;k_is);(case uf1=>show PySem.W.findIn _ _ _=_;k_is);(case uf2=>show PySem.W.findIn _ _ _=_;k_is))
