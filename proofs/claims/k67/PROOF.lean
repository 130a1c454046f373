import PyProof.Rows.All
import Wide.All
import OpenK.AllK
import Wide.FinOn
import Lean
import PyProof.EqAt
import PyProof.EqKinds
import PyProof.TupleCall
import PyProof.P3Eq
import PyProof.NeData
import PySem.Challenge.RW_allfirst_k67_whole_form_to_text_and_back
set_option autoImplicit true
set_option relaxedAutoImplicit true
set_option Elab.async false
set_option linter.all false
set_option maxRecDepth 100000
open PySem PySem.Spec PyProof.Rows
noncomputable section
set_option tactic.hygienic false
set_option genSizeOf false
set_option genInjectivity false
set_option compiler.extract_closed false
set_option bootstrap.genMatcherCode false
set_option hygiene false
local macro_rules|`(tactic|decide)=>`(tactic|decide +kernel)
local macro_rules|`(001)=>`(Res.need_bind n)
local macro_rules|`(002)=>`(by decide+kernel)
local macro_rules|`(003)=>`(Inv X Y Z H s)
local macro_rules|`(004)=>`(by decide)
local macro_rules|`(005)=>`(λx y q=>q)
local macro_rules|`(006)=>`(.inl 9)
local macro_rules|`(007)=>`(eval e X.env)
local macro_rules|`(008)=>`(["name","givens","rows"])
local macro_rules|`(009)=>`(λx y=>9)
local macro_rules|`(010)=>`(JR jt 9<|.inl 9)
local macro_rules|`(011)=>`(("__debug__":Str))
local macro_rules|`(012)=>`(λx y z a b=>JY<|qz 0 jt)
local macro_rules|`(013)=>`(ja 0)
local macro_rules|`(014)=>`(ja 1)
local macro_rules|`(015)=>`(model X.prog X.w)
local macro_rules|`(016)=>`(J2 (ja 2) jb)
local macro_rules|`(017)=>`(.type "list")
local macro_rules|`(018)=>`(by grind)
local macro_rules|`(019)=>`(↥s b=!o)
local macro_rules|`(020)=>`(SetTable.bits h)
local macro_rules|`(021)=>`(t.probeStart h)
local macro_rules|`(022)=>`(.ref a)
local macro_rules|`(023)=>`(RS K B F H sd Z)
local macro_rules|`(024)=>`(qv 1)
local macro_rules|`(025)=>`(qv 0)
local macro_rules|`(026)=>`(dC<|.int 1)
local macro_rules|`(027)=>`(X.env.scope.names.lookup x=!.local)
local macro_rules|`(028)=>`(X.env.scope.names.lookup y=!.local)
local macro_rules|`(029)=>`(JD m)
local macro_rules|`(030)=>`(X.env.cells.lookup x=!c)
local macro_rules|`(031)=>`(.one 0)
local macro_rules|`(032)=>`(J3 (qv 2) J5)
local macro_rules|`(033)=>`(ja 03)
local macro_rules|`(034)=>`("first")
local macro_rules|`(035)=>`(.int 24)
local macro_rules|`(036)=>`(.str x)
local macro_rules|`(037)=>`(J2 (ja 0) jb)
local macro_rules|`(038)=>`(.refl _)
local macro_rules|`(039)=>`(.str p.name)
local macro_rules|`(040)=>`(dC<|.int 0)
set_option hygiene true
def y9N(k:Lean.Name)(a:Array Lean.Syntax):Lean.Syntax:=.node .none k a
def y9A:String->Lean.Syntax:=.atom .none
def y9Z:Array Lean.Syntax->Lean.Syntax:=y9N `null
def y9T(s:String):Array Lean.Syntax->Lean.Syntax:=y9N (`Lean.Parser.Tactic++s.toName)
def y9M(s:String):Array Lean.Syntax->Lean.Syntax:=y9N (`Lean.Parser.Term++s.toName)
def y9S(s:Lean.Syntax):List Lean.Syntax:=s[1][0]::s[1][2].getSepArgs.toList
def y9C(c:Lean.Syntax):List Lean.Syntax->Array Lean.Syntax
 |[]=>#[]
 |[a]=>#[a]
 |a::b=>#[a,c]++y9C c b
def y9Q:Nat->Lean.Syntax->Lean.Syntax
 |0,s=>s
 |f+1,s=>y9T "rcasesPatMed" #[y9Z #[if s.isIdent then y9T "rcasesPat.one" #[s] else if s.getNumArgs<3 then y9T "rcasesPat.ignore" #[y9A "_"] else y9T "rcasesPat.tuple" #[y9A "⟨",y9Z (y9C (y9A ",") ((y9S s).map λx=>y9T "rcasesPatLo" #[y9Q f x,y9Z #[]])),y9A "⟩"]]]
def y9I(s:String)(i:Nat):Lean.Syntax:=Lean.mkIdent (s++toString i).toName
def y9B(y:Lean.Syntax):=y.getId==`rfl||2<y.getNumArgs
def y9E(y:Lean.Syntax):Lean.Syntax:=if y9B y then y9I "z" (y.getPos?.getD 0).1 else y
def y9L(k:String)(d:Lean.Syntax):Lean.Syntax:=y9T k #[y9A "",y9M "letConfig" #[y9Z #[]],d]
def y9G(y:Lean.Syntax):Lean.Syntax:=if y.isIdent then y9T "subst" #[y9A "",y9Z #[y9E y]] else y9L "tacticLet__" (y9M "letDecl" #[y9M "letPatDecl" #[y,y9Z #[],y9Z #[],y9A "",y9E y]])
def y9F(b:List Lean.Syntax)(t:Lean.Syntax):Lean.Syntax:=y9M "fun" #[y9A "",y9M "basicFun" #[y9Z (b.map y9E).toArray,y9Z #[],y9A "",t]]
def y9X(f:Lean.Syntax)(a:Array Lean.Syntax):Lean.Syntax:=y9M "app" #[f,y9Z a]
def y9R(d:Lean.Syntax):Lean.Syntax:=
 let r:=d[0]
 if r.isOfKind `Lean.Parser.Term.letPatDecl then
  let e:=r[4]
  let l:=y9S r[0]
  let x:=l.headD r
  let n:=x.isOfKind `«term!_»
  let v:=if n||x.isOfKind `«term-_» then [x[1]] else if x.isOfKind `Lean.Parser.Term.app then x[0]::x[1].getArgs.toList else []
  if v.isEmpty then y9T "obtain" #[y9A "",y9Z #[y9Q 9 r[0]],y9Z r[2][0].getArgs,y9Z #[y9A "",y9Z #[e]]] else
  let k:=if n then 0 else v.length
  let w:=v++l.tail
  let m:=w.length-k
  let A:=y9I "qa" m
  let h:=y9M "syntheticHole" #[y9A "?",y9A "_"]
  let g:=y9F (w.drop k) h
  let t:=if k=0 then y9X A #[g,e] else y9X (y9I "qx" k) #[e,if m=1 then y9F w h else y9F (w.take k) (y9X A #[g])]
  y9T "paren" #[y9A "",y9T "tacticSeq" #[y9T "tacticSeq1Indented" #[y9Z (y9C (y9A ";") (y9T "refine" #[y9A "",t]::(w.filter y9B).map y9G))]],y9A ""]
 else y9L "tacticHave__" d
local macro_rules|`(tactic|let $d:letDecl)=>return y9R d
local macro_rules|`(tactic|rw[$e:term])=>`(tactic|refine $e)
local macro_rules|`(tactic|ext $p*)=>if p.isEmpty then `(tactic|simp_all) else `(tactic|unfold $(p.map λx=>⟨x.raw[0][0]⟩)*)
local macro_rules|`(tactic|cases ($x) $[$a:inductionAlts]?)=>`(tactic|induction $x:term $[$a:inductionAlts]?)
local macro_rules|`(tactic|cases $h:ident : $p)=>`(tactic|by_cases $h:ident : $p)
local macro_rules | `(tactic| trivial) => `(tactic| first|exact .inl rfl|exact .inr rfl|assumption)
local macro_rules | `(()) => `(by first|lia|omega|(simp;done)|grind|simp_all)
local macro_rules | `(~~~$x) => `(some (.val $x))
local macro_rules|`(tactic|calc $e:term)=>`(tactic|refine $e)
local macro_rules|`(%[$x,*|$y])=>do
 if y.raw.getId.hasMacroScopes then Lean.Macro.throwUnsupported
 let r:Lean.Term<-x.getElems.foldrM (λa b=>`(Prod.mk $a $b)) y
 return r
local macro_rules|`(($x,$xs,*))=>`(⟨$x,$xs,*⟩)
local macro_rules|`(!$x)=>`(some $x)
local macro_rules|`(9)=>`(rfl)|`(8)=>`(none)|`(7)=>`(false)|`(6)=>`(true)|`(5)=>`(Nat)|`(4)=>`(Prop)|`(3)=>`(Int)
abbrev f':=PySem.W.Frag
local macro_rules|`($x⁻¹)=>`(($x).heap.objs.size)
local macro_rules|`(⇑$x)=>`(($x).length)
local macro_rules|`(↥$x)=>`(($x).heap.get?)
local macro_rules|`(00)=>`(PySem.sizeLine)
local macro_rules|`(01)=>`(PySem.starEach)
local macro_rules|`(02)=>`(Option)
local macro_rules|`(000)=>`(PySem.mainGlobals)
theorem qx1{P:a->Prop}{G:Prop}(e:∃x,P x)(c:∀x,P x->G):G:=e.elim c
theorem qx2{P:a->b->Prop}{G:Prop}(e:∃x y,P x y)(c:∀x y,P x y->G):G:=e.elim λx h=>qx1 h (c x)
theorem qx3{P:a->b->d->Prop}{G:Prop}(e:∃x y z,P x y z)(c:∀x y z,P x y z->G):G:=e.elim λx h=>qx2 h (c x)
theorem qx4{P:a->b->d->f->Prop}{G:Prop}(e:∃x y z u,P x y z u)(c:∀x y z u,P x y z u->G):G:=e.elim λx h=>qx3 h (c x)
theorem qx5{P:a->b->d->f->g->Prop}{G:Prop}(e:∃x y z u v,P x y z u v)(c:∀x y z u v,P x y z u v->G):G:=e.elim λx h=>qx4 h (c x)
theorem qx6{P:a->b->d->f->g->h->Prop}{G:Prop}(e:∃x y z u v w,P x y z u v w)(c:∀x y z u v w,P x y z u v w->G):G:=e.elim λx h=>qx5 h (c x)
theorem qa2{p q G:Prop}(c:p->q->G)(e:p/\q):G:=c e.1 e.2
theorem qa3{p q r G:Prop}(c:p->q->r->G)(e:p/\q/\r):G:=qa2 (c e.1) e.2
theorem qa4{p q r s G:Prop}(c:p->q->r->s->G)(e:p/\q/\r/\s):G:=qa3 (c e.1) e.2
theorem qa5{p q r s t G:Prop}(c:p->q->r->s->t->G)(e:p/\q/\r/\s/\t):G:=qa4 (c e.1) e.2
theorem qa6{p q r s t u G:Prop}(c:p->q->r->s->t->u->G)(e:p/\q/\r/\s/\t/\u):G:=qa5 (c e.1) e.2
theorem qa7{p q r s t u v G:Prop}(c:p->q->r->s->t->u->v->G)(e:p/\q/\r/\s/\t/\u/\v):G:=qa6 (c e.1) e.2
theorem qa8{p q r s t u v w G:Prop}(c:p->q->r->s->t->u->v->w->G)(e:p/\q/\r/\s/\t/\u/\v/\w):G:=qa7 (c e.1) e.2
theorem Zqi.{u}{α:Type u}{a b:α}(h:some a=!b):a=b:=Option.some.inj h
theorem Zqg.{u}{α:Type u}{l:List α}{i:5}(h:i<⇑l):l[i]?=!l[i]:=List.getElem?_eq_getElem h
theorem Zqs.{u}{α:Type u}{a:α}{l:List α}:a∈a::l:=List.mem_cons_self
theorem Zqm.{u}{α:Type u}(y:α){a:α}{l:List α}(h:a∈l):a∈y::l:=List.mem_cons_of_mem y h
theorem Zql.{u,v}{α:Type u}{β:Type v}{l:List α}(f:α->β):⇑(l.map f)=⇑l:=List.length_map f
abbrev Za:=@wpAny_bind
abbrev Zb:=@wpAny_pure
abbrev Zc:=@wpAny_mono
abbrev Zd:=@if_pos
abbrev Ze:=@if_neg
abbrev Zf:=@Nat.le_refl
abbrev Zg:=@Nat.lt_of_lt_of_le
abbrev Zh:=@Nat.le_trans
abbrev Zi:=@Nat.ne_of_lt
abbrev Zj:=@Bool.false_ne_true
abbrev Zk:=@Heap.lt_size
abbrev Zl:=@List.map_cons
abbrev Zm:=@List.size_toArray
abbrev Zn:=@absurd
abbrev Zo:=@decide_eq_false
abbrev Zp:=@decide_eq_true
abbrev Zq:=@Heap.get?_push_of_some
abbrev Zr:=@Heap.get?_push_size
abbrev Zs:=@iff_of_false
abbrev Zt:=@congrArg
abbrev Zu:=@List.length_cons
abbrev Zv:=@List.getElem?_map
abbrev Zw:=@List.map_map
abbrev Zx:=@List.getElem?_set_ne
abbrev Zy:=@Nat.lt_irrefl
abbrev Zz:=@Nat.le_of_lt
abbrev ZA:=@List.append_nil
abbrev ZB:=@List.length_range
abbrev ZC:=@List.length_nil
set_option maxHeartbeats 4000000
abbrev Ya:=PySem.Value->PySem.Shared->4
abbrev Yb:=List<|PySem.Addr×PySem.Obj
abbrev Yc:=5->5->Bool
abbrev Yd:=PySem.Str->02 PySem.Value
abbrev Ye:=List PySem.Value
abbrev Yf:=List 3
abbrev Yg:=Array 5
abbrev Yh:=List 5
abbrev Yi:=List PySem.Str
abbrev Yj:=List PySem.Addr
abbrev Yk:=Array PySem.Value
abbrev Yl:=@PyProof.Rows.wpS_bind
abbrev Ym:=@PyProof.Rows.wpS_pure
abbrev Yn:=@PyProof.Rows.wpS_mono
abbrev Yo:=@PyProof.Rows.wpS_forRange
abbrev Yp:=@beq_iff_eq
abbrev Yq:=@Unit.unit
abbrev Yr:=@Bool.eq_false_iff
abbrev Ys:=@Nat.lt_of_not_le
abbrev Yt:=@Nat.one_pos
abbrev Yu:=@Nat.le_of_eq
abbrev Yv:=@PySem.F.plainAttrs_list
abbrev Yw:=@PySem.F.slot_list_append
abbrev Yx:=@PySem.F.type_list_append
abbrev Yy:=PyProof.Rows.SortSt->4
abbrev Yz:=PySem.Shared->4
abbrev YA:=PySem.SetTable
abbrev Ua:=@List.length_append
abbrev Ub:=@Nat.zero_le
abbrev Uc:=@Bool.and_eq_true
abbrev Ud:=@List.map_append
abbrev Ue:=@Array.length_toList
abbrev Uf:=@List.append_assoc
abbrev Ug:=@List.mem_of_getElem?
abbrev Uh:=@Nat.lt_trans
abbrev Ui:=@List.getD_eq_getElem?_getD
abbrev Uj:=@List.length_singleton
abbrev Ul:=@Nat.le_add_right
abbrev Uo:=@List.mem_append_right
abbrev Uq:=@List.drop_eq_getElem_cons
abbrev Ur:=@Array.size_map
abbrev Us:=@List.all_cons
noncomputable abbrev Ut:=@Sum.inl
abbrev Uu:=@Nat.le_of_lt_succ
abbrev Uv:=@List.getElem_mem
abbrev Uw:=@List.all_eq_true
abbrev Uy:=@List.length_take
abbrev Uz:=@Array.getElem?_eq_getElem
abbrev UA:=@List.getElem?_eq_none
abbrev UB:=@Sum.inr
abbrev UC:=@Nat.le_of_succ_le
abbrev UD:=@Bool.false_eq_true
abbrev UE:=@Nat.mod_lt
abbrev UF:=@Nat.lt_of_le_of_ne
abbrev UG:=@List.take_of_length_le
abbrev UH:=@Nat.lt_succ_of_lt
abbrev UI:=@List.getElem?_append_right
abbrev UJ:=@List.map_congr_left
noncomputable abbrev UK:=@Nat.blt
abbrev UL:=@Nat.blt_eq
abbrev UM:=@List.getElem_of_mem
abbrev UN:=@List.mem_cons
abbrev UO:=@Nat.lt_or_ge
abbrev UP:=@Nat.ne_of_gt
abbrev UQ:=@Nat.lt_succ_self
abbrev UR:=@Nat.lt_of_le_of_lt
abbrev US:=@Nat.not_lt_zero
abbrev UT:=@List.take_append_drop
abbrev UU:=@Nat.succ.inj
abbrev UV:=@List.getElem?_append_left
abbrev UW:=@Int.le_refl
abbrev UX:=@Array.getElem?_map
abbrev UY:=@List.not_mem_nil
abbrev UZ:=@Nat.mod_eq_of_lt
abbrev U0:=@List.getElem?_set_self
abbrev U4:=@Bool.or_eq_true
abbrev U5:=@List.drop_drop
abbrev U6:=@Nat.lt_of_succ_lt
abbrev U7:=@List.length_set
abbrev U8:=@Nat.lt_trichotomy
abbrev U9:=@List.pairwise_map
abbrev Va:=@List.ext_getElem?
abbrev Vb:=@Bool.eq_iff_iff
abbrev Vc:=@Nat.le_succ
abbrev Vd:=@List.mem_append_left
abbrev Ve:=@List.foldl_cons
abbrev Vf:=@Nat.sub_le
abbrev Vg:=@Nat.exists_eq_add_of_le
abbrev Vh:=@Array.getElem?_toList
abbrev Vi:=@List.drop_length
abbrev Vj:=@Nat.zero_add
abbrev Vk:=@Nat.succ_pos
abbrev Vl:=@Bool.and_false
abbrev Vm:=@List.drop_eq_nil_of_le
abbrev Vn:=@List.take_succ
abbrev Vo:=@Nat.min_eq_left
abbrev Vp:=@Array.ext'
abbrev Vq:=@Nat.le_succ_of_le
abbrev Vr:=@Nat.eq_zero_or_pos
abbrev Vs:=@List.filterMap_cons
abbrev Vt:=@Array.forIn_toList
abbrev Vu:=@Int.toNat_natCast
abbrev Vv:=@List.take_length
abbrev Vw:=@List.all_map
abbrev Vx:=@List.any_eq_false
abbrev Vy:=@List.zip_cons_cons
abbrev Vz:=@Nat.add_sub_of_le
abbrev VA:=@List.Perm.trans
abbrev VB:=@List.length_drop
abbrev VC:=@Nat.succ_le_succ
abbrev VD:=@List.Perm.refl
abbrev VE:=@List.reverse_cons
abbrev VF:=@Nat.lt_of_add_lt_add_left
abbrev VG:=@Nat.add_sub_cancel_left
abbrev VH:=@List.pairwise_singleton
abbrev VI:=@List.nodup_nil
abbrev VJ:=@List.foldl_append
abbrev VL:=@List.getElem?_range
abbrev VM:=@List.getLastD_concat
abbrev VN:=@Nat.mul_le_mul
abbrev VO:=@List.length_filter_le
abbrev VP:=@List.cons_ne_nil
abbrev VQ:=@List.getElem?_zip_eq_some
abbrev VR:=@Array.swapIfInBounds_def
abbrev VT:=@List.pairwise_append
abbrev VU:=@Array.size_extract
abbrev VV:=@List.getElem_map
abbrev VW:=@List.any_eq_true
abbrev VX:=@Array.mem_toList_iff
abbrev VY:=@Array.getElem_mem
abbrev VZ:=@Int.eq_ofNat_of_zero_le
abbrev V0:=@Array.all_toList
abbrev V1:=@List.getElem?_take_of_lt
abbrev V2:=@List.extract_eq_drop_take
abbrev V3:=@Nat.le_of_add_le_add_left
abbrev V4:=@Array.getElem?_eq_none
abbrev V5:=@Array.getD_eq_getD_getElem?
abbrev V6:=@List.Nodup.length_le_of_subset
abbrev V7:=@Nat.toDigits_of_lt_base
abbrev Ja:=@List.mem_map
abbrev Jb:=@List.mem_singleton
abbrev Jc:=@List.mem_append
abbrev Jd:=@List.getElem?_eq_some_iff
abbrev Je:=@Option.bind_eq_some_iff
abbrev Jf:=@List.mem_filter
abbrev Jg:=@List.map_eq_nil_iff
abbrev Jh:=@Option.map_eq_some_iff
abbrev Ji:=@List.mem_range
abbrev Jj:=@List.pairwise_cons
abbrev Jk:=@List.mem_iff_getElem?
abbrev Jl:=@List.pairwise_iff_getElem
abbrev Jm:=@List.nodup_cons
abbrev Jn:=@Nat.lt_succ_iff
abbrev Jo:=@List.length_eq_zero_iff
abbrev Jp:=@List.length_pos_iff
abbrev Jq:=@Bool.and_eq_true_iff
abbrev Jr:=@Array.perm_iff_toList_perm
abbrev Js:=@Nat.ble_eq
abbrev Jt:=@List.mem_filterMap
abbrev Ju:=@Option.isSome_iff_exists
abbrev Jv:=@List.mem_iff_getElem
abbrev Jw:=@Array.getElem?_eq_some_iff
abbrev Jx:=@List.drop_eq_nil_iff
abbrev Jy:=@List.find?_range_eq_none
abbrev Jz:=@List.append_eq_nil_iff
abbrev J0:=List<|3×3
abbrev J1:=List J0
namespace L2
def qk{P:b->4}{G:4}(e:∃a,P a)(c:∀a,P a->G):G:=match e with|(a,h)=>c a h
def yo{P:b->4}{G:4}(c:∀a,P a->G)(e:∃a,P a):G:=match e with|(a,h)=>c a h
def sQ{P:f->g->4}{G:4}(e:∃a b,P a b)(c:∀a b,P a b->G):G:=match e with|(a,b,h)=>c a b h
def j3{P:f->g->4}{G:4}(c:∀a b,P a b->G)(e:∃a b,P a b):G:=match e with|(a,b,h)=>c a b h
def qE{P:c->e->4}(a:c)(b:e)(h:P a b):∃a b,P a b:=(a,b,h)
def f8{P:g->i->j->4}{G:4}(e:∃a b f,P a b f)(c:∀a b f,P a b f->G):G:=match e with|(a,b,f,h)=>c a b f h
def qx{P:g->i->j->4}{G:4}(c:∀a b f,P a b f->G)(e:∃a b f,P a b f):G:=match e with|(a,b,f,h)=>c a b f h
def je{P:e->f->g->4}(a:e)(b:f)(c:g)(h:P a b c):∃a b c,P a b c:=(a,b,c,h)
def sP{P:i->j->l->m->4}{G:4}(e:∃a b f g,P a b f g)(c:∀a b f g,P a b f g->G):G:=match e with|(a,b,f,g,h)=>c a b f g h
def uR{P:i->j->l->m->4}{G:4}(c:∀a b f g,P a b f g->G)(e:∃a b f g,P a b f g):G:=match e with|(a,b,f,g,h)=>c a b f g h
def jS{P:f->g->i->j->4}(a:f)(b:g)(c:i)(e:j)(h:P a b c e):∃a b c e,P a b c e:=(a,b,c,e,h)
def qK{P:j->l->m->n->o->4}{G:4}(c:∀a b f g i,P a b f g i->G)(e:∃a b f g i,P a b f g i):G:=match e with|(a,b,f,g,i,h)=>c a b f g i h
def j8{P:g->i->j->l->m->4}(a:g)(b:i)(c:j)(e:l)(f:m)(h:P a b c e f):∃a b c e f,P a b c e f:=(a,b,c,e,f,h)
def vM{P:l->m->n->o->p->q->4}{G:4}(c:∀a b f g i j,P a b f g i j->G)(e:∃a b f g i j,P a b f g i j):G:=match e with|(a,b,f,g,i,j,h)=>c a b f g i j h
def wd{P:i->j->l->m->n->o->4}(a:i)(b:j)(c:l)(e:m)(f:n)(g:o)(h:P a b c e f g):∃a b c e f g,P a b c e f g:=(a,b,c,e,f,g,h)
def wc{P:j->l->m->n->o->p->q->4}(a:j)(b:l)(c:m)(e:n)(f:o)(g:p)(i:q)(h:P a b c e f g i):∃a b c e f g i,P a b c e f g i:=(a,b,c,e,f,g,i,h)
def j4{a b G:4}(c:a->b->G)(e:a/\b):G:=match e with|(h0,f)=>c h0 f
def sS{a b G:4}(e:a/\b)(c:a->b->G):G:=match e with|(h0,f)=>c h0 f
def j7{a b f G:4}(c:a->b->f->G)(e:a/\b/\f):G:=match e with|(h0,g,h2)=>c h0 g h2
def f9{a b f G:4}(e:a/\b/\f)(c:a->b->f->G):G:=match e with|(h0,g,h2)=>c h0 g h2
def qT{a b f g G:4}(c:a->b->f->g->G)(e:a/\b/\f/\g):G:=match e with|(h0,h,h2,h3)=>c h0 h h2 h3
def uS{a b f g h G:4}(c:a->b->f->g->h->G)(e:a/\b/\f/\g/\h):G:=match e with|(h0,i,h2,h3,h4)=>c h0 i h2 h3 h4
def sR{a b f g h i G:4}(e:a/\b/\f/\g/\h/\i)(c:a->b->f->g->h->i->G):G:=match e with|(h0,j,h2,h3,h4,h5)=>c h0 j h2 h3 h4 h5
def vN{a b f g h i j G:4}(c:a->b->f->g->h->i->j->G)(e:a/\b/\f/\g/\h/\i/\j):G:=match e with|(h0,l,h2,h3,h4,h5,h6)=>c h0 l h2 h3 h4 h5 h6
abbrev jI:=Sum 3 Str
noncomputable def KW:jI->Value->Bool|.inl k,v=>Value.isInt k v|.inr x,v=>Value.isStrOf x v
def tq(w:World):jI->3|.inl k=>hashInt k|.inr x=>hashStr w x
def KG:∀{k:jI}{v:Value},KW k v=6->(∃i t,k=Ut i/\v=Value.int i t)\/∃x t,k=UB x/\v=Value.str x t|.inl i,v,h=>by let(t,e):=Value.isInt_shape h;rw[.inl (i,t,9,e)]|.inr x,v,h=>by let(t,e):=Value.isStrOf_shape h;rw[.inr (x,t,9,e)]
def Ht(i)(t):KW (.inl i) (.int i t)=6:=by simp[KW,Value.isInt]
def R3(x)(t):KW (.inr x) (.str x t)=6:=by simp[KW,Value.isStrOf]
def R4(a b):decide ((Ut a:jI)=Ut b)=(a==b):=()
def R5(a b):decide ((UB a:jI)=UB b)=decide (a=b):=()
def R6(a)(b):decide ((Ut a:jI)=UB b)=7:=rfl
def R7(a)(b):decide ((UB a:jI)=Ut b)=7:=rfl
def QC(c:Program)(w:World):PySem.KeyKind c w jI where
 is:=KW
 hash:=tq w
 inj:=λv a b m l=>by
  obtain⟨i,t,rfl,rfl⟩|⟨x,t,rfl,rfl⟩:=KG m
  .rcases KG l with ⟨j,u,rfl,e⟩|⟨y,u,rfl,e⟩;.injection e with f _;rw[f,]
   .rw[nomatch e]
  .rcases KG l with ⟨j,u,rfl,e⟩|⟨y,u,rfl,e⟩;.rw[nomatch e]
   .injection e with f _;rw[f,]
 byValue:=λk v h=>by obtain⟨i,t,rfl,rfl⟩|⟨x,t,rfl,rfl⟩:=KG h<;>rfl
 pyHash:=λg h=>by
  obtain⟨i,t,rfl,rfl⟩|⟨x,t,rfl,rfl⟩:=KG g;.rw[wpAny_pyHash_int h]
  .rw[wpAny_pyHash_str h]
 eqBool:=λn g h=>by
  obtain⟨i,t,rfl,rfl⟩|⟨x,t,rfl,rfl⟩:=KG n
  .rcases KG g with ⟨j,u,rfl,rfl⟩|⟨y,u,rfl,rfl⟩;.rw[R4]at h;rw[wpAny_eqBool_int h]
   .rw[R6]at h;rw[SeqAt.EqAt.int_str i t y u _ _ _ _ h]
  .rcases KG g with ⟨j,u,rfl,rfl⟩|⟨y,u,rfl,rfl⟩;.rw[R7]at h;rw[SeqAt.EqAt.str_int x t j u _ _ _ _ h]
   .rw[R5]at h;rw[wpAny_eqBool_str h]
 «strs»:=λk x t v h=>by
  obtain⟨i,u,rfl,e⟩|⟨y,u,rfl,e⟩:=KG h;.rw[nomatch e]
  .injection e with f _;subst f;cases v<;>rfl
set_option genInjectivity true in
inductive V where|non|bl(b:Bool)|int(i:Int)|str(x:Str)|byt(b:Array UInt8)|flt(b:UInt64)|ref(a:Addr)|ty(n:String)deriving DecidableEq
abbrev _root_.YB:=List V
def jz:V->Value->4|.non,u=>u=Value.none|.bl b,u=>u=Value.bool b|.int i,u=>∃t,u=Value.int i t|.str x,u=>∃t,u=Value.str x t|.byt b,u=>∃t,u=Value.bytes b t|.flt b,u=>∃t,u=Value.float b t|.ref a,u=>u=Value.ref a|.ty n,u=>u=Value.type n
abbrev j6:YB->List Value->4:=Paired jz
theorem j6.length(r:j6 c e):⇑c=⇑e:=Paired.length r
theorem j6.get:∀{c:YB}{f:Ye}{i:5}{x:V},j6 c f->c[i]?=!x->∃u,f[i]?=!u/\jz x u|_,_,_,_,.nil,e=>by simp at e|_,_,0,_,.cons r _,e=>by ext|_,_,i+1,x,.cons _ t,e=>by let(-u,j,l):=j6.get t (by simpa using e);ext
def j6.append:∀{c e:YB}{f i:Ye},j6 c f->j6 e i->j6 (c++e) (f++i):=λh s=>by cases(h)with|nil=>rw[s]|cons r _ j=>rw[.cons r j]
def j6.none_of:∀{c:YB}{f:Ye}{i:5},j6 c f->c[i]?=8->f[i]?=8:=λ{c f i}r e=>by let j:=⇑r;ext
def xE:02 V->02 Value->4|some v,some u=>jz v u|none,none=>True|_,_=>False
def KV{κ:Type}:List (κ × V)->List (κ × Value)->4:=Paired λ(p:κ × V)(q:κ × Value)=>p.1=q.1/\jz p.2 q.2
def kV:jI->V|.inl i=>.int i|.inr x=>036
set_option genInjectivity true in
inductive HO where|lst(xs:YB)|tup(xs:YB)|dK(kvs:List (jI×V))|dT(kvs:List (List jI×V))|set(S:Int->Bool)(n:Nat)|ins(C dx:Addr)(fs:List (Str×V))|own(x:Addr)|xd(fs:List (Str×V))|met(f x:Addr)|rng(lo hi:Int)|frz(o:Obj)(u:HO)|tbl(ps:Yk)|ext(φ:Heap->Prop)
abbrev Hp:=Addr->02 HO
noncomputable def upd(H:Hp)(a:Addr)(o:HO):Hp:=λb=>if b=a then !o else H b
def JI:upd H a o a=!o:=by simp_all[upd]
def JC(h:b≠a):upd H a o b=H b:=by simp_all[upd]
def dE{H:Hp} (h:H a=!o)(c:H b=!u)(d:o≠u):a≠b:=()
def Ky{H:Hp} (h:H a=!o)(c:H b=8):a≠b:=()
section
variable (P:Program)(w:World)
def y0(H:Hp)(h:Heap)(a:Addr):HO->4|.lst e=>⇑e<=00/\∃(b:Ye)(n:5),j6 e b/\h.get? a=!{cls:=017,data:=.seq b.toArray n}|.tup e=>(⇑e<=00/\∃o,h.get? a=!o/\o.dict=8)/\∃b:Ye,j6 e b/\IsTup h a b.toArray|.dK c=>⇑c<=00/\(a==sysModules)=7/\∃i,KV c i/\h.DictOf (QC P w) a i|.dT c=>⇑c<=00/\(a==sysModules)=7/\∃e:List (List jI×Addr×Value),Paired (λ(p:List jI×V)(q:List jI×Addr×Value)=>p.1=q.1/\H q.2.1=!(.tup<|p.1.map kV)/\jz p.2 q.2.2) c e/\∃o j r,h.get? a=!o/\o.ExactDict/\o.data=.dict j r/\j.toList=e.map (entryOfKey<|tupleKind<|QC P w)/\(e.map (·.1)).Nodup|.set S n=>h.SetOf (intKind P w) a S n|.ins C g fs=>H g=! .own a/\⇑fs<=1000/\g≠a/\h.get? a=! W.instObj C g/\∃mA,h.Ns1 g mA/\(∀f,xE (fs.lookup f) (mA f))/\PySem.Within mA (fs.map (·.1))|.own _=>∃o,h.get? a=!o|.xd fs=>∃mA,h.Ns1 a mA/\∀f,xE (fs.lookup f) (mA f)|.rng lo s=>∃t u v,h.get? a=!{cls:=.type "range",data:=.fields #[.int lo t,.int s u,.int 1 v]}|.frz o u=>h.get? a=!o/\y0 H h a u|.tbl y=>h.get? a=!{cls:=.none,data:=.fields y}|.met f x=>h.get? a=!(W.methodObj (.ref f)<|.ref x)|.ext φ=>φ h/\(∃o,h.get? a=!o)/\∀l m:Heap,φ l->(∀o,l.get? a=!o->m.get? a=!o)->φ m
def xc(H:Hp)(h:Heap):4:=∀a o,H a=!o->y0 P w H h a o
end
section
variable {a:Addr}
theorem y0.lt(x:y0 P w H h a o):a<h.objs.size:=by cases(o)with|lst i=>let(_,_,_,_,e):=x;rw[Zk e]|tup i=>let(_,_,_,p):=x;rw[p.lt]|dK c=>let(!_,_,(_,_,o,_,_,e,_)):=x;rw[Zk e]|dT c=>let(!_,_,(_,_,o,_,_,e,_)):=x;rw[Zk e]|set S n=>let(o _ _ _,e,_):=x;rw[Zk e]|ins C j fs=>rw[Zk x.2.2.2.1]|own y=>let(_,e):=x;rw[Zk e]|xd fs=>let(-_,(_,_,_,e,_),_):=x;rw[Zk e]|rng lo l=>let(_ _ _,e):=x;rw[Zk e]|frz q u=>rw[Zk x.1]|tbl r=>rw[Zk<|x]|met f y=>rw[Zk<|x]|ext φ=>let(!_,(_,e),_):=x;rw[Zk e]
def xW:∀{l₁:List α}{l₂:List β},Paired F l₁ l₂->(∀a b,F a b->G a b)->Paired G l₁ l₂:=λh f=>by cases(h)with|nil=>rw[.nil]|cons r _ c=>rw[.cons (f _ _ r) c]
def y0.stay(x:y0 P w H h a o)(k:∀b u,b=a\/H b=! .own a->h.get? b=!u->J.get? b=!u)(L:∀b,H b=! .own a->F b=! .own a)(R:∀b i,H b=! .tup i->F b=! .tup i):y0 P w F J a o:=by cases(o)with|lst i=>let(z,s,n,r,e):=x;rw[(z,_,n,r,k _ _ 006 e)]|tup i=>let((z,G,T,U),s,r,j,e,c):=x;rw[((),_,r,_,k _ _ 006 e,c)]|dK B=>let(z,y,X,r,j,l,_,e,c):=x;rw[(z,y,_,r,_,_,_,k _ _ 006 e,c)]|dT B=>let(!z,y,(i,r,j,l,E,e,c)):=x;rw[(z,y,_,xW r (),_,_,_,k _ _ 006 e,c)]|set S n=>let(j l E t,e,c):=x;rw[jS _ _ _ t (k _ _ 006 e,c)]|ins C Y fs=>let(!d,z,ne,e,(mA,(G,l,E,O,c),r)):=x;rw[(L _ d,z,ne,k _ _ 006 e,_,(_,_,_,k _ _ (.inr d) O,c),r)]|own y=>let(_,e):=x;rw[(_,k _ _ 006 e)]|xd fs=>let(mA,(G,l,E,e,c),r):=x;rw[(_,je _ _ _ (k _ _ 006 e,c),r)]|rng lo Z=>let(t u v,e):=x;rw[je t u v<|k _ _ 006 e]|frz j u Q=>rw[(k _ _ 006 x.1,Q x.2)]|tbl ps=>rw[k a _ 006 x]|met f y=>rw[k a _ 006 x]|ext φ=>let(!p,(o,e),I):=x;rw[(I _ _ p λo q=>k _ _ 006 q,(o,k _ _ 006 e),I)]
theorem xc.lt(x:xc P w H h)(e:H a=!o):a<h.objs.size:=(x a o e).lt
def xc.fresh(x:xc P w H h)(e:h.objs.size<=a):H a=8:=by cases q:H a with|none=>rfl|some u=>rw[Zn (Zg (x.lt q) e)<|Zy _]
def xc.kept(x:xc P w H h)(k:∀b u,h.get? b=!u->h'.get? b=!u):xc P w H h':=λa o e=>(x a o e).stay () (λb q=>q) 005
def xc.laid(x:xc P w H h)(k:∀b u,h.get? b=!u->h'.get? b=!u)(i:h.objs.size<=a)(new:y0 P w (upd H a o) h' a o):xc P w (upd H a o) h':=λb u e=>by
 let f:=x.fresh i;cases j:b=a;.simp_all[JI]
 .rw[JC j]at e;rw[(x b u e).stay () λc q=>by rwa[JC (Ky q f),] λc l q=>by rwa[JC (Ky q f),]]
end
def Rd(H:Hp)(a:Addr)(u:HO):4:=H a=!u\/∃o,H a=! .frz o u
def Rd.ok(r:Rd H a u)(x:xc P w H h):y0 P w H h a u:=by
 obtain r|⟨o,r⟩:=r;.rw[x a u r]
 .let(_,q):=x a _ r;rw[q]
def mP:02 HO->4|some (.lst _)=>True|some (.dK _)=>True|some (.dT _)=>True|some (.set _ _)=>True|some (.ins _ _ _)=>True|some (.ext _)=>True|_=>False
def xc.write(ok:xc P w H h)(p:mP (H x))(F:e=x\/H e=! .own x)(k:∀b u,b≠e->h.get? b=!u->j.get? b=!u)(l:∃u,j.get? e=!u)(new:y0 P w (upd H x s) j x s):xc P w (upd H x s) j:=λb u q=>by
 let f:∀c y,H c=! .own y->c≠x:=λc y r z=>by subst z;rwa[r]at p
 let i:∀c n,H c=! .tup n->c≠x:=λc n r z=>by subst z;rwa[r]at p
 cases E:b=x;.simp_all[JI]
 .rw[JC E]at q;cases o:b=e
  .let B:H b=! .own x:=by ext
   rw[q]at B;cases B;let(v,G):=l;rw[(v,by rwa[o,])]
  .rw[(ok b u q).stay (λc v I r=>k c v ?_ r) λc r=>by rwa[JC (f c b r),] λc n r=>by rwa[JC (i c _ r),]];grind
structure Un(fs ex:Yj)(H H':Hp)(h h':Heap):4 where
keep:∀b o,h.get? b=!o->H b=8->b∉fs->b∉ex->h'.get? b=!o
slot:∀b o,h.get? b=!o->H b=8->b∈fs->b∉ex->∃sl,h'.get? b=!{o with slots:=sl}free:∀b o,h.get? b=!o->H b=8->b∉ex->H' b=8
there:∀b o,h.get? b=!o->b∉ex->∃o',h'.get? b=!o'
tups:∀b xs,H b=! .tup xs->H' b=! .tup xs
frzs:∀b o u,H b=! .frz o u->H' b=! .frz o u
tbls:∀b ps,H b=! .tbl ps->∃more,H' b=!(.tbl<|ps++more)
section
variable {h h1 h2 h':Heap}{a x e:Addr}
def Un.any(u:Un fs i H o h h1) (q:h.get? b=!j)(n:H b=8)(c:b∉i):∃l,h1.get? b=!{j with slots:=l}:=by
 cases f:b∈fs;.rw[u.slot b _ q n f c]
 .rw[(_,u.keep b _ q n f c)]
def Un.kept(k:∀b u,h.get? b=!u->h'.get? b=!u):Un fs f H H h h':=((),λb c q d d d=>(_,k b c q),λb b b n b=>n,(),005,λb b b q=>q,λb i q=>(#[],by rw[q,];simp))
theorem Un.refl:Un fs c H H h h:=Un.kept 005
def Un.laid(k:∀b u,h.get? b=!u->h'.get? b=!u)(f:h.objs.size<=a)(c:H a=8):Un fs j H (upd H a o) h h' where
 keep:=018
 slot:=λb u q d d d=>(_,k b u q)
 free:=λb u q n b=>by rwa[JC (Zi<|Zg (Zk q) f),]
 there:=018
 tups:=λb i q=>by rwa[JC (Ky q c),]
 frzs:=λb u i q=>by rwa[JC (Ky q c),]
 tbls:=λb l q=>(#[],by rw[JC (Ky q c),q];simp)
def Un.write(f:mP (H x))(r:e=x\/H e=! .own x)(k:∀b u,b≠e->h.get? b=!u->h'.get? b=!u)(i:∃u,h'.get? e=!u):Un fs s H (upd H x o) h h':=by
 let j:∀b,H b=8->b≠x:=λb n z=>by subst z;rwa[n]at f
 let l:∀b,H b=8->b≠e:=018;let c:∀b u,H b=!u->¬mP !u->b≠x:=018;rw[((),λb u q n _ _=>(_,k b u (l b n) q),λb u q n _=>by rwa[JC (j b n),],λb u q _=>?_,λb p q=>by rwa[JC (c b _ q λz=>z),],λb u p q=>by rwa[JC (c b _ q λz=>z),],λb v q=>(#[],by rw[JC (c b _ q λz=>z),q];simp))];grind
end
noncomputable def trk(h:Heap)(H:Hp):Yj:=(List.range h.objs.size).filter λa=>(H a).isSome
def wm(h:Heap)(H:Hp):Heap:=W.hideAll h<|trk h H
structure Mod(K:f')(mg:Yd)(base:Heap):4 where
kin:K.In base
glob:base.Ns 000 mg
blt:∃mb,base.Ns builtinsNs mb/\∀x:Str,x ≠"__name__"->mb x=bootBuiltins x
nolimit:base.NoLimit
structure Cx where
prog:Program
w:World
K:f'
mg:Yd
base:Heap
A:Around
N:Yi
s₀:Shared
H₀:Hp
env:Env
outer:List Env
stack:List Env
ex:Yj
fn:Str->Bool
calm:Bool
pn:Yb
xe:Ya
abbrev _root_.YE(X:Cx){α:Type}(m:Sem α):=wpAny 015 X.A m
abbrev _root_.YF(P:Program)(w:World)(A:Around){α:Type}(m:Sem α):=wpAny (model P w) A m
abbrev _root_.YG(P:Program)(w:World)(A:Around)(E:Value->Shared->4)(s:Shared){α:Type}(m:StateT PyProof.Rows.SortSt Sem α):=PyProof.Rows.wpS (model P w) A E s m
noncomputable def frs(l:List Env):Yj:=l.filterMap (·.frame)
abbrev Cx.fs(X:Cx):Yj:=frs X.outer
def rq(a:Scope)(x:Str):4:=a.names.lookup x=!.local\/a.names.lookup x=!.cell\/a.names.lookup x=!.free
def yS(a:Scope)(x:Str):4:=a.names.lookup x=!.local\/a.names.lookup x=!.cell
def dc(a:Env)(h:Heap)(m:Yd)(x:Str)(u:Value):4:=a.kindOf x=!.local/\m x=!u\/(a.kindOf x=!.cell\/a.kindOf x=!.free)/\∃c,a.cells.lookup x=!c/\h.IsCell c !u
structure Cx.Ok(X:Cx):4 where
mod:Mod X.K X.mg X.base
kind:X.env.scope.kind=.function
glob:X.env.globals=000
blt:X.env.builtins=builtinsNs
above:X.s₀.heap.objs.size<=X.env.locals
inj:∀x y c,030->X.env.cells.lookup y=!c->x=y
has:∀x,X.env.kindOf x=!.cell\/X.env.kindOf x=!.free->∃c,030
cab:∀x c,X.fn x=6->030->X.s₀.heap.objs.size<=c
hd:X.calm=6->X.A.handled=8
frames:X.A.frames=!X.stack
stk:X.stack=X.outer\/X.stack=X.env::X.outer/\X.env.frame=!X.env.locals
exf:∀b∈X.ex,b≠X.env.locals/\∀x c,030->c≠b
bs:∀b o,X.base.get? b=!o->X.s₀.heap.get? b=!o/\X.H₀ b=8
bsz:X.base.objs.size<=X.s₀.heap.objs.size
noex:∀b o,X.base.get? b=!o->b∉X.ex
exfs:∀b∈X.ex,b∉X.fs
funs:X.s₀.heap.FunFrames X.base X.outer
frf:∀b∈X.fs,X.H₀ b=8
structure Inv(X:Cx)(Y:Yb)(Z:List (02 V))(H:Hp)(s:Shared):4 where
ok:X.Ok
os:s.os=X.s₀.os
bare:AllBare s.gens
base:Un X.fs X.ex X.H₀ H X.s₀.heap s.heap
loc:∃m,s.heap.Ns X.env.locals m/\∀(i:5)(x:Str)(v:V),X.N[i]?=!x->Z[i]?=! !v->rq X.env.scope x->∃u,jz v u/\dc X.env s.heap m x u
cell:∀x c,030->∃v,s.heap.IsCell c v
free:H X.env.locals=8
freeC:∀x c,030->H c=8
pin:∀p∈X.pn++Y,↥s p.1=!p.2/\H p.1=8/\p.1≠X.env.locals/\p.1∉X.fs/\∀v,p.2.data ≠ .cell v
hok:xc X.prog X.w H s.heap
len:⇑Z=⇑X.N
section
variable {X:Cx}
def Cx.Ok.nofr(ok:X.Ok) (e:X.base.get? b=!o):b∉X.fs:=λc=>by let:=(ok.funs.mem c).1;ext
theorem Inv.bs(I:003):∀b o,X.base.get? b=!o->019/\H b=8:=λb o e=>(I.base.keep b o (I.ok.bs b o e).1 (I.ok.bs b o e).2 (I.ok.nofr e)<|I.ok.noex b o e,I.base.free b o (I.ok.bs b o e).1 (I.ok.bs b o e).2<|I.ok.noex b o e)
def Inv.bk(I:003):∀b o,X.base.get? b=!o->019:=λb o e=>(I.bs b o e).1
theorem Inv.mod(I:003):Mod X.K X.mg X.base:=I.ok.mod
def Inv.kIn(I:003):X.K.In s.heap:=I.ok.mod.kin.keeps I.bk
theorem Inv.lt(I:003):X.env.locals<s⁻¹:=qk I.loc λb=>j4 λc b=>c.lt
theorem Inv.sz(I:003):X.s₀.heap.objs.size<=s⁻¹:=Zh I.ok.above<|Zz I.lt
def Inv.nofs(I:003){a:Addr}(h:s⁻¹<=a):a∉X.fs:=λc=>by let(_,o,e,_):=I.ok.funs.mem c;rw[Zn (Zg (Zk e)<|Zh I.sz h)<|Zy _]
def Inv.cne(I:003):∀x c,030->c≠X.env.locals:=λx c e z=>by let(v o,j,l):=I.cell x c e;let(-m,(n,p,q,f,i,_),_):=I.loc;ext
theorem Inv.funs(I:003):s.heap.FunFrames X.base X.outer:=by
 let all:∀l,(∀b∈frs l,b∈X.fs)->X.s₀.heap.FunFrames X.base l->s.heap.FunFrames X.base l:=by intro l;cases(l)with|nil=>intro _ _;trivial|cons j r n=>intro f p;let(!q,(L,o,u,v,x,y),B):=p;let c:=f L (by simp_all[frs]);let(_,e):=I.base.slot L o x (I.ok.frf L c) c λz=>I.ok.exfs L z c;rw[(q,(L,_,u,v,e,y),n λb i=>f b<|by simp_all[frs] B)]
 rw[all _ (λb i=>i) I.ok.funs]
theorem Inv.stack(I:003):s.heap.FunFrames X.base X.stack:=by
 obtain e|⟨e,hf⟩:=I.ok.stk;.rw[e,];rw[I.funs]
 .rw[e,];let(m,c,_):=I.loc;rw[.cons (by rw[I.ok.kind,];decide) hf c (Heap.get?_none_of_le<|Zh I.ok.bsz I.ok.above) I.funs]
def Inv.stkSub(I:003):∀b∈frs X.stack,b∈X.env.locals::X.fs:=λb c=>by
 obtain e|⟨e,hf⟩:=I.ok.stk;.ext
 simp_all[frs]
def Inv.stkFree(I:003):∀b∈frs X.stack,H b=8:=λb hb=>by
 rcases UN.mp (I.stkSub b hb)with e|hb;.rw[e,];rw[I.free]
 .let(_,o,c,_):=I.ok.funs.mem hb;rw[I.base.free b o c (I.ok.frf b hb) λz=>I.ok.exfs b z hb]
def Inv.step{ch:Yj}(I:003)(G:∀b∈ch,(b∈X.ex\/X.s₀.heap.objs.size<=b)/\b≠X.env.locals/\(∀x c,030->c≠b)/\∀p∈X.pn++Y,p.1≠b)(keep:∀b o,b≠X.env.locals->b∉X.fs->b∉ch->019->H b=8->O.get? b=!o)(E:∀b o,b≠X.env.locals->b∈X.fs->b∉ch->019->H b=8->∃sl,O.get? b=!{o with slots:=sl})(free:∀b o,b∉ch->019->H b=8->R b=8)(J:∀b o,b∉ch->019->∃S,O.get? b=!S)(T:∀b U,H b=! .tup U->R b=! .tup U)(frzs:∀b o u,H b=! .frz o u->R b=! .frz o u)(tbls:∀b ps,H b=! .tbl ps->∃more,R b=!(.tbl<|ps++more))(ns:∀m,s.heap.Ns X.env.locals m->O.Ns X.env.locals m)(hok:xc X.prog X.w R O)(hg:AllBare g'):Inv X Y Z R {s with heap:=O,gens:=g',drawn:=d',toks:=t'}:=by
 let neL:∀b o,X.s₀.heap.get? b=!o->b≠X.env.locals:=λb o e=>Zi<|Zg (Zk e) I.ok.above;let B:∀b o,X.s₀.heap.get? b=!o->b∉X.ex->b∉ch:=λb o e f L=>by
  rcases(G b L).1 with z|z;.rw[f z]
  .rw[Zn (Zg (Zk e) z)<|Zy _]
 let j:∀x c,030->∀v,s.heap.IsCell c v->O.IsCell c v:=λx c e v zh=>by
  let(-o,Q,hd):=zh;let y:c∉ch:=018;cases hc:c∈X.fs;.let(sl,q):=E c o (I.cne x c e) hc y Q (I.freeC x c e);rw[(_,q,hd)]
  .rw[(o,keep c o (I.cne x c e) hc y Q<|I.freeC x c e,hd)]
 rw[(I.ok,I.os,hg,(λb o e n L f=>?_,λb o e n L f=>?_,λb o e n f=>?_,λb o e f=>?_,λb U e=>T b U<|I.base.tups b _ e,λb o U e=>frzs b o _<|I.base.frzs b o _ e,λb ps e=>?_),?_,λx c e=>?_,?_,λx c e=>?_,λp hp=>?_,hok,I.len)];.rw[keep b o (neL b o e) L (B b o e f) (I.base.keep b o e n L f)<|I.base.free b o e n f]
 .let(sl,F):=I.base.slot b o e n L f;let(sl',e2):=E b _ (neL b o e) L (B b o e f) F (I.base.free b o e n f);rw[(sl',e2)]
 .let(S,F):=I.base.there b o e f;rw[free b S (B b o e f) F<|I.base.free b o e n f]
 .let(S,F):=I.base.there b o e f;rw[J b S (B b o e f) F]
 .let(m1,F):=I.base.tbls b ps e;grind
 .let(-m,hn,hl):=I.loc;rw[(m,ns m hn,λi x v F e2 e3=>?_)];let(-u,r,l):=hl i x v F e2 e3;rw[(u,r,?_)];obtain l|⟨k,c,e,z⟩:=l;.rw[.inl l]
  .rw[.inr (k,c,e,j x c e _ z)]
 .let(-v,z):=I.cell x c e;rw[(v,j x c e v z)]
 .let(-m,(o,_,_,Q,_),_):=I.loc;rw[free _ o (λz=>(G _ z).2.1 9) Q I.free]
 .let(v o,Q,hd):=I.cell x c e;rw[free c o () Q<|I.freeC x c e]
 .let(!e,n,ne,nf,d):=I.pin p hp;let y:=λz=>(G p.1 z).2.2.2 p hp 9;rw[(keep p.1 _ ne nf y e n,free _ p.2 y e n,ne,nf,d)]
def Inv.un(I:003)(u:Un X.fs [] H j s.heap l)(f:xc X.prog X.w j l):Inv X Y Z j {s with heap:=l,toks:=B}:=by let(-m,(o,E,_,p,r),_):=id I.loc;rw[qk (u.any p I.free ()) λd q=>I.step (ch:=[]) () (λb o d i d e n=>u.keep b o e n i ()) (λb o d i d e n=>u.slot b o e n i ()) (λb o d e n=>u.free b o e n ()) (λb o d e=>u.there b o e ()) u.tups u.frzs u.tbls (λF v=>by let(G x y,c,z):=v;rw[p]at c;cases c;rw[je _ _ _ (q,z)]) f I.bare]
def Inv.call(I:003)(u:Un (frs X.stack) E H v s.heap y)(j:xc X.prog X.w v y)(F:AllBare G)(l:∀b∈E,(b∈X.ex\/X.s₀.heap.objs.size<=b)/\b≠X.env.locals/\(∀x c,030->c≠b)/\∀p∈X.pn++Y,p.1≠b):Inv X Y Z v {s with heap:=y,gens:=G,drawn:=S,toks:=T}:=by let(-m,(o,U,ep,B,r),_):=id I.loc;rw[have(_,q):=u.any B I.free ();I.step l (λb o q J f e n=>u.keep b o e n (λz=>(UN.mp<|I.stkSub b z).elim q J) f) (λb o b b f e n=>u.any e n f) (λb o f e n=>u.free b o e n f) (λb o f e=>u.there b o e f) u.tups u.frzs u.tbls (λm' L=>by let(o' O Q,i,R):=L;rw[B]at i;cases i;rw[je _ _ _ (q,R)]) j F]
def Inv.turned(I:003)(k:∀b o,b≠it->019->i.get? b=!o)(B:H it=8)(j:it≠X.env.locals)(E:it∈X.ex\/X.s₀.heap.objs.size<=it)(F:∀x c,030->c≠it)(G:∀p∈X.pn++Y,p.1≠it):Inv X Y Z H {s with heap:=i,toks:=t'}:=by
 rw[I.step (ch:=[it]) (λb J=>?_) () (λb o d d f e d=>(_,k b o λz=>f<|by simp[z] e)) (λb b b b n=>n) () (λb b e=>e) (λb b b e=>e) (λb L e=>(#[],by rw[e,];simp)) (λm l=>?_) (λb u e=>?_) I.bare];.grind
 .let(o,_,_,y,r):=l;rw[je o _ _ (k _ o (Ne.symm j) y,r)]
 .rw[(I.hok b u e).stay (λc v f q=>k c v ?_ q) (λb q=>q) 005];grind
def Inv.tok(I:003)(t):Inv X Y Z H {s with toks:=t}:=I.un Un.refl I.hok
theorem Inv.kept(I:003)(k:∀b u,↥s b=!u->h'.get? b=!u):Inv X Y Z H {s with heap:=h',toks:=t'}:=I.un (Un.kept k)<|I.hok.kept k
theorem Inv.laid{a:Addr} (I:003)(k:∀b u,↥s b=!u->h'.get? b=!u)(c:s⁻¹<=a)(new:y0 X.prog X.w (upd H a o) h' a o):Inv X Y Z (upd H a o) {s with heap:=h',toks:=t'}:=I.un (Un.laid k c<|I.hok.fresh c)<|I.hok.laid k c new
theorem Inv.write(I:003)(i:mP (H x))(j:e=x\/H e=! .own x)(k:∀b u,b≠e->↥s b=!u->f.get? b=!u)(c:∃u,f.get? e=!u)(new:y0 X.prog X.w (upd H x o) f x o):Inv X Y Z (upd H x o) {s with heap:=f,toks:=l}:=I.un (Un.write i j k c)<|I.hok.write i j k c new
def Inv.pins_of(I:003)(h:∀p∈Y',↥s p.1=!p.2/\H p.1=8/\p.1≠X.env.locals/\p.1∉X.fs/\∀v,p.2.data ≠ .cell v):Inv X Y' Z H s:=(I.ok,I.os,I.bare,I.base,I.loc,I.cell,I.free,I.freeC,λp c=>(Jc.mp c).elim (λz=>I.pin p ())<|h p,I.hok,I.len)
def Hu{N:Yi}(c:N.Nodup){i j:5} (a:N[i]?=!x)(b:N[j]?=!x):i=j:=by let(g,e):=Jd.mp a;let(h,f):=Jd.mp b;rw[(List.getElem_inj c).mp<|e.trans f.symm]
def R8(I:003)(hN:X.N.Nodup)(C:X.N[i]?=!x)(t:yS X.env.scope x)(r:jz v u)(h:∀S,Inv X Y (Z.set i<|!v) H S->(∃a,Heap.SameBut a s.heap S.heap/\(a=X.env.locals\/X.env.cells.lookup x=!a))->Q Yq S)(hf:X.fn x=6\/027:=by trivial):wpAny M A (storeName X.env x u) Q E s:=by
 let(-m,T,hl):=id I.loc;let L:(X.env.scope.kind==.class||X.env.scope.kind==.module&&X.env.locals !=X.env.globals)=7:=by rw[I.ok.kind,];rfl
 let hiσ:i<⇑Z:=by rw[I.len,];rw[(Jd.mp C).1]
 let cne:=I.cne;let g:∀{a:Addr}{R:Heap},(∃o,↥s a=!o/\H a=8)->Heap.SameBut a _ R->xc _ _ H _:=λ{a R}ha f b ob e=>by let(_,_,U):=ha;rw[(I.hok b _ e).stay (λc w' w q=>(f.2 c ?_).trans q) (λb q=>q) 005];grind
 obtain hk|hk:=t
 .rw[wpAny_storeName_local hk T (λR hn' f=>?_) L];let(oL _ _,hoL,_):=id T;rw[h _ (I.ok,I.os,I.bare,(λb o e n F t=>?_,λb o e n F t=>?_,I.base.free,λb o e t=>?_,I.base.tups,I.base.frzs,I.base.tbls),(_,hn',λj y v' l B e3=>?_),λy c e=>?_,I.free,I.freeC,λp hp=>?_,g (_,hoL,I.free) f,by simpa using I.len) (_,f,006)];.rw[(f.2 b<|Zi<|Zg (Zk e) I.ok.above).trans<|I.base.keep b o e n F t]
  .let(sl,l):=I.base.slot b o e n F t;rw[(_,(f.2 b<|Zi<|Zg (Zk e) I.ok.above).trans l)]
  .let(o',l):=I.base.there b o e t;rw[(_,(f.2 b<|Zi<|Zg (Zk e) I.ok.above).trans l)]
  .cases G:j=i;.subst G;rw[C]at l;cases l;rw[U0 hiσ]at B;cases B;rw[(u,r,.inl (hk,()))]
   .rw[Zx (Ne.symm G)]at B;let(u',r',q):=hl j y _ l B e3;rw[(_,r',?_)];obtain⟨k,e⟩|⟨k,c,e,z⟩:=q;.rw[.inl (k,?_)];let:y≠x:=λe=>G<|Hu hN l<|e ▸ C;simp[this,e]
    .rw[.inr (k,c,e,z.sameBut f<|cne y c e)]
  .let(w',z):=I.cell y c e;rw[(_,z.sameBut f<|cne y c e)]
  .let(!e,n,ne,nf,d):=I.pin p hp;rw[((f.2 _ ne).trans e,n,ne,nf,d)]
 .let J:X.fn x=6:=by
   obtain z|z:=hf;.rw[z]
   .rw[z]at hk;cases hk
  let(c,w):=I.ok.has x (.inl hk);let(w',z):=I.cell x c w;rw[wpAny_storeName_cell I.ok.kind hk w z<|λR N f=>?_];let(-oc,O,hocd):=id z;rw[h _ (I.ok,I.os,I.bare,(λb o e n F t=>?_,λb o e n F t=>?_,I.base.free,λb o e t=>?_,I.base.tups,I.base.frzs,I.base.tbls),(m,T.sameBut f<|Ne.symm<|cne x c w,λj y v' l B e3=>?_),λy c' e=>?_,I.free,I.freeC,λp hp=>?_,g (_,O,I.freeC x c w) f,by simpa using I.len) (c,f,.inr w)];.rw[(f.2 b<|Zi<|Zg (Zk e)<|I.ok.cab x c J w).trans<|I.base.keep b o e n F t]
  .let(sl,l):=I.base.slot b o e n F t;rw[(_,(f.2 b<|Zi<|Zg (Zk e)<|I.ok.cab x c J w).trans l)]
  .let(o',l):=I.base.there b o e t;rw[(_,(f.2 b<|Zi<|Zg (Zk e)<|I.ok.cab x c J w).trans l)]
  .cases G:j=i;.subst G;rw[C]at l;cases l;rw[U0 hiσ]at B;cases B;rw[(u,r,.inr (.inl hk,c,w,N))]
   .rw[Zx (Ne.symm G)]at B;let(-u',r',q):=hl j y _ l B e3;rw[(_,r',?_)];obtain q|⟨k,c',e,z'⟩:=q;.rw[.inl q]
    .rw[.inr (k,_,e,z'.sameBut f ?_)];rintro rfl;rw[G<|Hu hN l<|I.ok.inj _ _ _ e w ▸ C]
  .cases P:c'=c;.subst P;rw[(_,N)]
   .let(w2,z2):=I.cell y _ e;rw[(_,z2.sameBut f P)]
  .let(!e,n,ne,nf,d):=I.pin p hp;rw[((f.2 _ ?_).trans e,n,ne,nf,d)];intro q;rw[q,O]at e;let q':=Zqi e;rw[d _<|by rwa[<-q']]
def Am(I:003)(b:X.N.Nodup)(c:X.N[i]?=!x)(e:yS X.env.scope x)(r:jz v u)(h:∀a,Inv X Y (Z.set i<|!v) H a->Q Yq a)(f:X.fn x=6\/027:=by trivial):wpAny M A (storeName X.env x u) Q E s:=R8 I b c e r (λa g b=>h _ g) f
def Inv.call'(I:003)(j:s'.os=s.os)(u:Un (frs X.stack) ch H i s.heap s'.heap)(e:xc X.prog X.w i s'.heap)(l:AllBare s'.gens)(f:∀b∈ch,(b∈X.ex\/X.s₀.heap.objs.size<=b)/\b≠X.env.locals/\(∀x c,030->c≠b)/\∀p∈X.pn++Y,p.1≠b):Inv X Y Z i s':=by let(n,o,q,r,v):=s';subst j;rw[I.call u e l f]
end
abbrev XK:=Value->02 Addr->Hp->4
abbrev St:=List<|02 V
abbrev VK:=V->Hp->4
abbrev TE:=St->Hp->VK->4
abbrev TT:=St->Hp->(Bool->Hp->4)->4
abbrev TA:=St->Hp->(YB->Hp->4)->4
structure Ends where
nx:St->Hp->4
rt:VK
bk:St->Hp->4:=λb b=>False
ct:St->Hp->4:=λb b=>False
abbrev TS:=Ends->St->Hp->4
def EP(X:Cx)(Y:Yb)(Z:St)(Q:VK)(u:Value)(b:Shared):4:=∃v a,Inv X Y Z a b/\jz v u/\Q v a
def TP(X:Cx)(Y:Yb)(Z:St)(Q:Bool->Hp->4)(b:Bool)(c:Shared):4:=∃a,Inv X Y Z a c/\Q b a
def AP(X:Cx)(Y:Yb)(Z:St)(Q:YB->Hp->4)(c:Ye)(e:Shared):4:=∃a b,Inv X Y Z b e/\j6 a c/\Q a b
def SP(X:Cx)(Y:Yb)(D:Ends)(f:Flow)(c:Shared):4:=match f with|.next=>∃b a,Inv X Y b a c/\D.nx b a|.brk=>∃b a,Inv X Y b a c/\D.bk b a|.cont=>∃b a,Inv X Y b a c/\D.ct b a|.ret u=>∃v b a,Inv X Y b a c/\jz v u/\D.rt v a
def PE(X:Cx)(e:Expr)(t:TE):4:=∀(Y:Yb)(s:Shared)(Z:St)(H:Hp)(Q:VK),003->t Z H Q->YE X 007 (EP X Y Z Q) X.xe s
def PT(X:Cx)(e:Expr)(t:TT):4:=∀(Y:Yb)(s:Shared)(Z:St)(H:Hp)(Q:Bool->Hp->4),003->t Z H Q->YE X (isTrue e X.env<|007) (TP X Y Z Q) X.xe s
def PW(X:Cx)(e:Expr)(t:TT):4:=∀(a:Sem Value)(Y:Yb)(s:Shared)(Z:St)(H:Hp)(Q:Bool->Hp->4),003->t Z H Q->YE X (isTrue e X.env a) (TP X Y Z Q) X.xe s
def PA(X:Cx)(b:List Expr)(t:TA):4:=∀(a:Pos)(Y:Yb)(s:Shared)(Z:St)(H:Hp)(Q:YB->Hp->4),003->t Z H Q->YE X (spliced<|backTo a<|01 b X.env) (AP X Y Z Q) X.xe s
def PS(X:Cx)(a:Stmt)(t:TS):4:=∀(Y:Yb)(s:Shared)(Z:St)(H:Hp)(D:Ends),003->t D Z H->YE X (exec a X.env) (SP X Y D) X.xe s
def qY(X:Cx)(a:List Stmt)(t:TS):4:=∀(Y:Yb)(s:Shared)(Z:St)(H:Hp)(D:Ends),003->t D Z H->YE X (execs a X.env) (SP X Y D) X.xe s
def jG(h:wpAny M A t Q E s)(b:∀a s,Q a s->c a s):wpAny M A t c E s:=Zc h b λb b x=>x
section
variable {X:Cx}
def yX(i:5):TE:=λZ H Q=>∃v,Z[i]?=! !v/\Q v H
def tC(v:V):TE:=λb H Q=>Q v H
def Ep:PE X (.Constant 036 j a) (tC<|036):=λb b b H b I h=>Calls.Constant_str (036,H,I.tok _,(_,9),h)
def Gl(X:Cx)(x:Str):4:=X.env.kindOf x=!.globalImplicit
def YI{Z:St} (I:003)(a:Gl X x)(b:X.mg x=!u)(h:Q u s)(c:(x==011)=7:=by decide):YE X (eval (.Name x e) X.env) Q E s:=Calls.Name_function_global I.ok.kind a (Calls.loadGlobal_global (by rw[I.ok.glob,];rw[I.mod.glob.keeps I.bk]) b h) c
def Xx{Z:St} (I:003)(a:Gl X x)(b:X.mg x=8)(c:bootBuiltins x=!u)(h:Q u s)(e:x ≠"__name__":=by decide)(f:(x==011)=7:=by decide):YE X (eval (.Name x g) X.env) Q E s:=by let(-l,i,j):=I.mod.blt;rw[Calls.Name_function_global I.ok.kind a (Calls.loadGlobal_builtin (by rw[I.ok.glob,];rw[I.mod.glob.keeps I.bk]) b (by rw[I.ok.blt,];rw[i.keeps I.bk]) ((j x e).trans c) h) f]
def Hv(a:Gl X x)(b:X.mg x=!u)(r:jz v u)(c:(x==011)=7:=by decide):PE X (.Name x e) (tC v):=λd d d H d I h=>YI I a b (v,H,I,r,h) c
variable {a b:Expr}{ta tb:TE}
def PC(X:Cx)(c:CmpOp)(a b:Expr)(t:TE):4:=∀(Y:Yb)(s:Shared)(Z:St)(H:Hp)(Q:VK),003->t Z H Q->YE X (eval a X.env) (λv s₁=>YE X (eval b X.env) (λu s₂=>YE X (compareOp c v u) (EP X Y Z Q) X.xe s₂) X.xe s₁) X.xe s
def R9(b) (h:c ≠ .In)(e:c ≠ .NotIn):behindInMarks c b=7:=by cases b<;>first|rfl|(show(_&&(_||_)&&_)=7;ext)
def Hw(ta:TE):TE:=λZ H Q=>ta Z H λx c=>Q (.bl<|not<|decide<|x=.non) c
def jz.none_iff(r:jz x v):(v==Value.none)=decide (x=.non):=by cases(x)with|non=>cases r;rfl|bl _=>cases r;rfl|int _=>let(t,rfl):=r;rfl|str _=>let(t,rfl):=r;rfl|byt _=>let(t,rfl):=r;rfl|flt _=>let(t,rfl):=r;rfl|ref _=>cases r;rfl|ty _=>cases r;rfl
def RA(e:PE X a ta):PC X .IsNot a (.Constant .none j c) (Hw ta):=λY s Z H Q I h=>jG (e _ s _ H _ I h) λv l=>j3 λx m=>j7 λf g i=>Constant_none<|isnot_none_gen (_,_,f,by rw[g.none_iff,];rfl,i)
def tB(t:TE):TT:=λZ H Q=>t Z H λx e=>∃c,x=.bl c/\Q c e
def Er(h:PC X f a b t)(e:behindInMarks f b=7:=by first|rw[R9 _ 004<|004]|rfl):PT X (.Compare a [f] [b] g) (tB t):=by intro Y s Z H Q I i;rw[wpAny_isTrue_Compare1 (jG (h _ s _ H _ I i) λv o e=>jG e λu p j=>jG j λc r=>j3 λx w=>j7 λl m n=>?_) e];let(d,rfl,q):=n;cases m;rw[wpAny_truthy_bool (_,l,q)]
def Hx(h:PE X e t)(f:∀c,isTrue e X.env c=(do let v<-c;standAt e.pos;holding [v] (truthy v)):=by intro _;rfl):PT X e (tB t):=by intro Y s Z H Q I g;rw[isTrue_plain (jG (h _ s _ H _ I g) λv m=>j3 λx n=>j7 λi j l=>?_)<|f _];let(d,rfl,q):=l;cases j;rw[wpAny_truthy_bool (_,i,q)]
def sr(t u:TT):TT:=λZ H Q=>t Z H λc e=>if c=6 then u Z e Q else Q 7 e
def tOr(t u:TT):TT:=λZ H Q=>t Z H λc e=>if c=6 then Q 6 e else u Z e Q
def rS(t:TT):TT:=λZ H Q=>t Z H λc e=>Q (not c) e
def RB(j:PT X a l)(m:PW X (.BoolOp .And (b::rest) e) f):PW X (.BoolOp .And (a::b::rest) e) (sr l f):=by intro n Y s Z H Q I h;rw[isTrue_and<|jG (j _ s _ H _ I h) λc o=>yo λp=>j4 λg i=>?_];cases(c)with|true=>rw[m _ _ _ _ _ Q g i]|false=>rw[(_,g,i)]
def gS(j:PT X a l)(m:PW X (.BoolOp .Or (b::rest) e) f):PW X (.BoolOp .Or (a::b::rest) e) (tOr l f):=by intro n Y s Z H Q I h;rw[isTrue_or<|jG (j _ s _ H _ I h) λc o=>yo λp=>j4 λg i=>?_];cases(c)with|true=>rw[(_,g,i)]|false=>rw[m _ _ _ _ _ Q g i]
def Hy(c:PT X a e):PT X (.UnaryOp .Not a f) (rS e):=λY s Z H Q I h=>isTrue_not<|c _ s _ H _ I h
def gw(ta tb:TE):TE:=λZ H Q=>ta Z H λx e=>∃c,x=.bl c/\if c=6 then tb Z e Q else Q (.bl 7) e
def rR(ta tb:TE):TE:=λZ H Q=>ta Z H λx e=>∃c,x=.bl c/\if c=6 then Q (.bl 6) e else tb Z e Q
def Hz(h:PE X a t):PE X (.BoolOp f [a] c) t:=λY s Z H Q I e=>BoolOp_one<|h _ s _ H Q I e
def HA(i:PE X a ta)(j:PE X (.BoolOp .And (b::rest) f) tb):PE X (.BoolOp .And (a::b::rest) f) (gw ta tb):=by intro Y s Z H Q I h;rw[BoolOp_and<|jG (i _ s _ H _ I h) λv m=>j3 λx n=>j7 λg l e=>?_];let(c,rfl,e):=e;cases l;rw[wpAny_truthy_bool ?_];cases(c)with|true=>rw[j _ _ _ _ Q g e]|false=>rw[(.bl _,_,g,9,e)]
def gW(i:PE X a ta)(j:PE X (.BoolOp .Or (b::rest) f) tb):PE X (.BoolOp .Or (a::b::rest) f) (rR ta tb):=by intro Y s Z H Q I h;rw[BoolOp_or<|jG (i _ s _ H _ I h) λv m=>j3 λx n=>j7 λg l e=>?_];let(c,rfl,e):=e;cases l;rw[wpAny_truthy_bool ?_];cases(c)with|false=>rw[j _ _ _ _ Q g e]|true=>rw[(.bl _,_,g,9,e)]
def tIf(t:TT)(ta tb:TE):TE:=λZ H Q=>t Z H λc e=>if c=6 then ta Z e Q else tb Z e Q
def RC(g:PT X c i)(j:PE X a ta)(l:PE X b tb):PE X (.IfExp c a b m) (tIf i ta tb):=by intro Y s Z H Q I h;rw[wpAny_IfExp<|jG (g _ s _ H _ I h) λd n=>yo λo=>j4 λe f=>?_];cases(d)with|true=>rw[j _ _ _ _ Q e f]|false=>rw[l _ _ _ _ Q e f]
end
def qR(K:f')(H:Hp)(a:Addr)(c:YB):4:=Rd H a (.lst c)\/∃(o:Obj)(b:Yk)(n:5),K.lookup a=!o/\o.cls=017/\o.dict=8/\o.data=.seq b n/\b.size<=00/\j6 c b.toList
def yu(K:f')(H:Hp)(a:Addr)(c:YB):4:=Rd H a (.tup c)\/∃(o:Obj)(b:Yk)(n:5),K.lookup a=!o/\o.cls=.type "tuple"/\o.data=.seq b n/\b.size<=00/\j6 c b.toList
def tV:Value->02 V|.none=>!.non|.bool b=>! .bl b|.int i _=>! .int i|.str x _=>! 036|.bytes b _=>! .byt b|.float b _=>! .flt b|.ref a=>! 022|.type n=>! .ty n|_=>8
def jz.abs(r:jz x u):tV u=!x:=by cases(x)with|non=>cases r;rfl|bl _=>cases r;rfl|int _=>let(t,rfl):=r;rfl|str _=>let(t,rfl):=r;rfl|byt _=>let(t,rfl):=r;rfl|flt _=>let(t,rfl):=r;rfl|ref _=>cases r;rfl|ty _=>cases r;rfl
def jz.inj(r:jz x u)(q:jz y u):x=y:=Zqi<|r.abs.symm.trans q.abs
theorem j6.inj:∀{e c:YB}{f:Ye},j6 e f->j6 c f->e=c:=λ{e c f}g h=>by induction g generalizing c with|nil=>cases h;rfl|cons r _ i=>cases h with|cons j l=>rw[r.inj j,i l]
section
variable {Z: St}
def qR.of{K:f'}(h:H a=! .lst c):qR K H a c:=.inl<|.inl h
def yu.of{K:f'}(h:H a=! .tup c):yu K H a c:=.inl<|.inl h
def Inv.list(I:003)(h:qR X.K H a f):∃c:Ye,j6 f c/\PlainL s.heap a c.toArray/\⇑f<=00:=by
 obtain h|⟨o,c,n,hk,hc,hd,i,hz,r⟩:=h;.let(z,c,n,r,e):=h.ok I.hok;rw[(_,r,(_,n,e,9,9,9),z)]
 .rw[(_,r,(o,n,I.kIn a o hk,hc,hd,()),?_)];let e:=⇑r;ext
def Inv.tuple(I:003)(h:yu X.K H a f):∃c:Ye,j6 f c/\IsTup s.heap a c.toArray/\⇑f<=00:=by
 obtain h|⟨o,c,n,hk,hc,i,hz,r⟩:=h;.let(z,c,r,p):=h.ok I.hok;rw[(_,r,p,z.1)]
 .rw[(_,r,(o,I.kIn a o hk,hc,n,()),?_)];let e:=⇑r;ext
def Inv.list_inj(I:003)(h:qR X.K H a i)(j:qR X.K H a l):i=l:=by
 let(f,r,(o,n,e,_,_,d),_):=I.list h;let(c,p,(q,u,v,_,_,x),_):=I.list j;let:f=c:=by ext
 subst this;rw[r.inj p]
def Inv.tuple_inj(I:003)(h:yu X.K H a i)(j:yu X.K H a l):i=l:=by
 let(-f,r,(o,e,_,n,d),_):=I.tuple h;let(-c,p,(q,u,_,v,x),_):=I.tuple j;let:f=c:=by ext
 subst this;rw[r.inj p]
end
noncomputable abbrev Cx.wish(X:Cx)(E:Ya):Cx:={X with xe:=E}
abbrev Cx.nox(X:Cx):Cx:=X.wish λb b=>False
theorem Cx.Ok.wish{X:Cx}(ok:X.Ok)(E:Ya):(X.wish E).Ok:=(ok.mod,ok.kind,ok.glob,ok.blt,ok.above,ok.inj,ok.has,ok.cab,ok.hd,ok.frames,ok.stk,ok.exf,ok.bs,ok.bsz,ok.noex,ok.exfs,ok.funs,ok.frf)
def Cx.Ok.unwish{X:Cx} (ok:(X.wish E).Ok):X.Ok:=(ok.mod,ok.kind,ok.glob,ok.blt,ok.above,ok.inj,ok.has,ok.cab,ok.hd,ok.frames,ok.stk,ok.exf,ok.bs,ok.bsz,ok.noex,ok.exfs,ok.funs,ok.frf)
section
variable {Z: St}
theorem Inv.wish(I:003)(E):Inv (X.wish E) Y Z H s:=(I.ok.wish E,I.os,I.bare,I.base,I.loc,I.cell,I.free,I.freeC,I.pin,I.hok,I.len)
theorem Inv.unwish(I:Inv (X.wish E) Y Z H s):003:=(I.ok.unwish,I.os,I.bare,I.base,I.loc,I.cell,I.free,I.freeC,I.pin,I.hok,I.len)
theorem SP.unwish(h:SP (X.wish E) Y D f i):SP X Y D f i:=by cases(f)with|next=>let(c,e,I,q):=h;rw[(_,_,I.unwish,q)]|brk=>let(c,e,I,q):=h;rw[(_,_,I.unwish,q)]|cont=>let(c,e,I,q):=h;rw[(_,_,I.unwish,q)]|ret u=>let(v c e,I,r,q):=h;rw[(v,_,_,I.unwish,r,q)]
theorem qY.nox{c:List Stmt} (h:qY X.nox c t):qY X c t:=λY s Z H D I e=>Zc (h _ s _ H D (I.wish _) e) (λb b q=>q.unwish) ()
end
section
variable {st:Stmt} {t u:TS} {te:TE}
def gi:TS:=λD Z H=>D.nx Z H
def rP(t u:TS):TS:=λD Z H=>t {D with nx:=u D} Z H
def An:qY X [] gi:=λb b Z H b I h=>wpAny_execs_nil (_,H,I,h)
def YJ(a:PS X st t)(b:qY X rest u):qY X (st::rest) (rP t u):=by intro Y s Z H D I h;rw[wpAny_execs_cons<|jG (a _ s _ H _ I h) λf e q=>?_];cases(f)with|next=>let(g i,c,q):=q;rw[b _ _ _ _ D c q]|ret v=>rw[q]|brk=>rw[q]|cont=>rw[q]
def BJ(a:PS X st t):qY X [st] t:=by intro Y s Z H D I h;rw[wpAny_execs_cons<|jG (a _ s _ H D I h) λf b q=>?_];grind[wpAny_execs_nil]
def sm:TS:=λD Z H=>D.bk Z H
def Inv.quiet{Z:St} (I:003):interactive X.env=7:=by simp[interactive,I.ok.kind]
def gn(te:TE):TS:=λD Z H=>te Z H λb a=>D.nx Z a
def YK(b:PE X e te)(c:swapsWith e 8 a.line X.env=pure 7:=by rfl):PS X (.Expr e a) (gn te):=λY s Z H D I h=>wpAny_Expr_any (jG (b _ s _ H _ I h) λv i=>j3 λx j=>j7 λf l g=>(_,_,f,g)) I.quiet c
def rQ(te:TE):TS:=λD Z H=>te Z H D.rt
def Ao(a:PE X e te):PS X (.Return (!e) b) (rQ te):=λY s Z H D I h=>wpAny_Return_some<|jG (a _ s _ H _ I h) λv i=>j3 λx j=>j7 λc f g=>je x _ _ (c,f,g)
def rV(c:TT)(t u:TS):TS:=λD Z H=>c Z H λb a=>if b=6 then t D Z a else u D Z a
def BK(g:PT X c i)(j:qY X a t)(l:qY X b u):PS X (.If c a b m) (rV i t u):=by intro Y s Z H D I h;rw[wpAny_If<|jG (g _ s _ H _ I h) λd n=>yo λo=>j4 λe f=>?_];cases(d)with|true=>rw[j _ _ _ _ D e f]|false=>rw[l _ _ _ _ D e f]
end
abbrev TG:=V->St->Hp->(St->Hp->4)->4
abbrev kJ:=YB->St->Hp->(St->Hp->4)->4
def PG(X:Cx)(a:Expr)(t:TG):4:=∀(Y:Yb)(s:Shared)(Z:St)(H:Hp)(v:V)(u:Value)(Q:St->Hp->4),003->jz v u->t v Z H Q->YE X (assign a X.env u) (λd e=>∃b c,Inv X Y b c e/\Q b c) X.xe s
def rx(X:Cx)(f:List Expr)(t:kJ):4:=∀(Y:Yb)(s:Shared)(Z:St)(H:Hp)(a:YB)(b:Ye)(Q:St->Hp->4),003->j6 a b->t a Z H Q->YE X (assignInOrder ((assignEach f X.env).map (·.2)) b) (λb g=>∃c e,Inv X Y c e g/\Q c e) X.xe s
abbrev tY:=V->V->Hp->VK->4
def cg(X:Cx)(a:Operator)(t:tY):4:=∀(Y:Yb)(s:Shared)(Z:St)(H:Hp)(x y:V)(v u:Value)(Q:VK),003->jz x v->jz y u->t x y H Q->YE X (inplaceOp a v u) (EP X Y Z Q) X.xe s
def Wh(i:5):TG:=λv Z H Q=>Q (Z.set i<|!v) H
def JR(a:X.N.Nodup)(b:X.N[i]?=!x)(c:yS X.env.scope x)(e:X.fn x=6\/027:=by trivial):PG X (.Name x f) (Wh i):=λY s Z H v u Q I r h=>wpAny_assign_Name<|Am I a b c r (λj g=>(_,H,g,h)) e
def hV:kJ:=λa Z H Q=>a=[]/\Q Z H
def HB(t:TG)(u:kJ):kJ:=λa Z H Q=>∃v r,a=v::r/\t v Z H λb c=>u r b c Q
def Qy:rx X [] hV:=λY s Z H a b Q I r h=>sS h λe h=>assignInOrder_nil (_,H,I,h)
def JK(b:PG X e t)(c:rx X a u)(f:(assignEach (e::a) X.env).map (·.2)=assign e X.env::(assignEach a X.env).map (·.2):=by rfl):rx X (e::a) (HB t u):=by intro Y s Z H m n Q I r h;let(v,o,g,h):=h;subst g;cases r with|cons r i=>rw[f,];rw[assignInOrder_cons<|jG (b _ s _ H _ _ _ I r h) λb p=>j3 λq w=>j4 λj l=>c _ _ _ _ _ _ Q j i l]
def hJ(K:f')(n:5)(t:kJ):TG:=λv Z H Q=>∃a b,v=022/\yu K H a b/\⇑b=n/\t b Z H Q
def Qz(i:X.calm=6)(h:rx X c t)(j:⇑(assignEach c X.env)=n:=by rfl)(f:(assignEach c X.env).findIdx? (·.1)=8:=by rfl):PG X (.Tuple c k l) (hJ X.K n t):=by intro Y s Z H v u Q I r g;let(a,C,m,p,q,g):=g;subst m;cases r;let(-w,x,y,E):=I.tuple p;rw[assign_Tuple_tuple (I.ok.hd i) y (by simp[j,<-q,⇑x]) f λz A=>?_];let B:Inv X _ _ H {s with heap:=z}:=I.kept λb o e=>A b o (Zi<|Zk e) e;rw[h _ _ _ H _ _ Q B () g]
def wX(a:TE)(g:TG):TS:=λD Z H=>a Z H λx b=>g x Z b D.nx
def Es(c:X.N.Nodup)(f:X.N[i]?=!x)(g:yS X.env.scope x)(j:PE X e l)(m:swapsWith e (! .Name x a) b.line X.env=pure 7:=by rfl)(n:X.fn x=6\/027:=by trivial):PS X (.Assign [.Name x a] e b) (wX l<|Wh i):=λY s Z H D I h=>wpAny_Assign_Name (jG (j _ s _ H _ I h) λv t=>j3 λy u=>j7 λo p q=>Am o c f g p (λw r=>(_,_,r,q)) n) m
def so(i:5)(a:TE)(b:tY):TS:=λD Z H=>∃x,Z[i]?=! !x/\a Z H λy c=>b x y c λz e=>D.nx (Z.set i<|!z) e
def RD(o:X.N.Nodup)(g:X.N[i]?=!x)(b:yS X.env.scope x)(p:PE X e q)(t:cg X j A)(B:X.fn x=6\/027:=by trivial):PS X (.AugAssign (.Name x n) j e C) (so i q A):=by
 intro Y s Z H D I h;let(-v,E,h):=h;let(-m,F,G):=I.loc;let f:rq X.env.scope x:=by obtain k|k:=b;rw[.inl k];rw[.inr<|.inl k]
 let(-u,r,l):=G i x v g E f;rw[wpAny_AugAssign_Name ?_];let go:YE X 007 (λw s₂=>YE X (inplaceOp j u w) (λr s₃=>YE X (storeName X.env x r) (λb=>SP X Y D .next) X.xe s₃) X.xe s₂) X.xe s:=by rw[jG (p _ s _ H _ I h) λw T=>j3 λy U=>j7 λJ L M=>jG (t _ _ _ _ v y u w _ J r L M) λz s2=>j3 λzv H2=>j7 λN O P=>Am N o g b O (λs3 Q=>(_,_,Q,P)) B]
 obtain⟨hk,R⟩|⟨hk,c,S,a⟩:=l;.rw[wpAny_loadName_local I.ok.kind hk F R go]
 .rcases hk with hk|hk;.rw[wpAny_loadName_cell I.ok.kind hk S a go]
  .rcases b with k|k;.let:X.env.scope.names.lookup x=!_:=hk;rw[k]at this;cases this
   .let:X.env.scope.names.lookup x=!_:=hk;rw[k]at this;cases this
def ipI(f:3->3->3):tY:=λx y H Q=>∃i j,x=.int i/\y=.int j/\Q (.int<|f i j) H
def RE:cg X .Add (ipI λi j=>i+j):=by intro Y s Z H x y v u Q I a b h;let(i j,c,e,q):=h;subst c;subst e;let(t,rfl):=a;let(f,rfl):=b;rw[iadd_int (.int _,H,I.tok _,(_,9),q)]
structure It where
go:5->Hp->4
yld:5->Hp->V->Hp->4
stop:5->Hp->4
def xr(X:Cx)(Y:Yb)(H:Hp)(b:Addr):4:=H b=8/\b≠X.env.locals/\b∉X.fs/\(b∈X.ex\/X.s₀.heap.objs.size<=b)/\(∀x c,030->c≠b)/\∀p∈X.pn++Y,p.1≠b
def Inv.fpOk{Z:St} {b:Addr}(I:003)(f:s⁻¹<=b)(i:j b=8):xr X Y j b:=by
 rw[(i,UP<|Zg I.lt f,I.nofs f,.inr<|Zh I.sz f,λx c e z=>?_,λp l z=>?_)];.let(v,q):=I.cell x c e;rw[Zn (Zg q.lt<|by rwa[z,])<|Zy _]
 .rw[Zn (Zg (Zk (I.pin p l).1)<|by rwa[z,])<|Zy _]
structure Turn(P:Program)(w:World)(K:f')(tg:Expr)(J:It)(fp:Yj)(it:Addr)(tn:5->Heap->4):4 where
mem:it∈fp
obj:∀i h,tn i h->∀b∈fp,∃o,h.get? b=!o/\∀v,o.data ≠ .cell v
keep:∀i h h',tn i h->(∀b∈fp,∀o,h.get? b=!o->h'.get? b=!o)->tn i h'
item:∀(X:Cx),X.prog=P->X.w=w->X.K=K->X.calm=6->∀(i:5)(Y:Yb)(s:Shared)(Z:St)(H:Hp)(E:Ya),003->(∀b∈fp,xr X Y H b)->tn i s.heap->J.go i H->wpAny (model P w) X.A (pyNext<|.ref it) (λr s1=>∃u,r=!u/\wpAny (model P w) X.A (letOwnedTupleGo tg (.ref it) u) (λd s2=>∃x H',Inv X Y Z H' s2/\jz x u/\J.yld i H x H'/\tn (i+1) s2.heap/\∀b∈fp,H' b=8) E s1) E s
done:∀(X:Cx),X.prog=P->X.w=w->X.K=K->X.calm=6->∀(i:5)(Y:Yb)(s:Shared)(Z:St)(H:Hp)(E:Ya),003->(∀b∈fp,xr X Y H b)->tn i s.heap->J.stop i H->wpAny (model P w) X.A (pyNext<|.ref it) (λr s1=>r=8/\Inv X Y Z H s1) E s
self:∀(A:Around)(i:5)(s:Shared)(Q:Ya)(E:Ya),tn i s.heap->Q (.ref it) s->wpAny (model P w) A (pyIter<|.ref it) Q E s
abbrev TI:=St->Hp->(It->Hp->4)->4
def ci(X:Cx)(Y:Yb)(Z:St)(i:Expr)(R:It->Hp->4)(a:Value)(e:Shared):4:=∃(f:Addr)(g:Yj)(h:5->Heap->4)(J:It)(c:Hp),a=.ref f/\Inv X Y Z c e/\Turn X.prog X.w X.K i J g f h/\h 0 e.heap/\(∀b∈g,xr X Y c b)/\R J c
def PI(X:Cx)(b a:Expr)(wi:TI):4:=∀(Y:Yb)(s:Shared)(Z:St)(H:Hp)(R:It->Hp->4),003->wi Z H R->YE X (eval a X.env) (λv c=>YE X (pyIter v) (ci X Y Z b R) X.xe c) X.xe s
def BL(b:↥s c=!o)(e:o.cls=.type n)(f:o.data=.fields g)(i:["enumerate","zip","dict_itemiterator","dict_reverseitemiterator","odict_iterator","itertools.zip_longest","itertools.pairwise"].contains n=7)(a:Q Yq s):wpAny M A (letOwnedTupleGo j (.ref c) u) Q E s:=by cases j<;>first|rw[Zb a]|(cases(u)<;>first|rw[Zb a]|(rw[Za<|wpAny_load b ?_];rw[e,f];show wpAny M A (if(["enumerate","zip","dict_itemiterator","dict_reverseitemiterator","odict_iterator","itertools.zip_longest","itertools.pairwise"].contains n&&g[0]?==!_)=6 then _ else _) Q E s;rw[(Ze (by intro h;rw[i,Bool.false_and]at h;cases h)),];rw[Zb a]))
def cq(K:f')(a:Addr):It:=(λi H=>∃b x,qR K H a b/\b[i]?=!x,λi H x c=>c=H/\∀b,qR K H a b->b[i]?=!x,λi H=>∃b,qR K H a b/\⇑b<=i)
def cm(K:f')(a:Addr):It:=(λi H=>∃b x,yu K H a b/\b[i]?=!x,λi H x c=>c=H/\∀b,yu K H a b->b[i]?=!x,λi H=>∃b,yu K H a b/\⇑b<=i)
def r0(lo:3)(n:5):It:=(λi b=>i<n,λi H x a=>a=H/\x=.int (lo+i),λi b=>n<=i)
def RF{K:f'} (a j):Turn P w K tg (cq K a) [j] j λi h=>h.IsListIter j a i where
 mem:=by simp
 obj:=λi h f b g=>by let(-o,e,c,d):=f;ext
 keep:=λi h q f k=>f.at λo e=>k _ () o e
 item:=by intro X r t v L i Y s Z H E I m f y;subst r t v;let(N x,n,M):=y;let(-z,A,p,O):=I.list n;let(-u,hu,Q):=A.get M;let(!B,C,R,F,G,J):=m j ();rw[wpAny_pyNext_list_item f p.isList (x:=u) () λq l S=>?_];let T:Inv X _ _ H {s with heap:=q}:=I.turned (λb o g e=>(S.2 b g).trans e) B C F G J;let(-o,e,c,d):=id l;rw[(u,9,BL e c d 004 (x,H,T,Q,(9,λys U=>by rwa[I.list_inj U n,]),l,λb g=>(m b g).1))]
 done:=by intro X r t v L i Y s Z H E I m f y;subst r t v;let(N,n,M):=y;let(-z,A,p,O):=I.list n;let(!B,C,R,F,G,J):=m j ();let hl:=⇑A;rw[wpAny_pyNext_list_end (I.ok.hd L) f p.isList (by simp;lia) λq eb=>(9,I.turned (λb o g e=>eb b o g e) B C F G J)]
 self:=λb b b b b f h=>wpAny_pyIter_listiter f h
def RG{K:f'} (a g):Turn P w K tg (cm K a) [g] g λi h=>h.IsTupleIter g a i where
 mem:=by simp
 obj:=λi h f b l=>by let(-o,e,c,d):=f;ext
 keep:=λi h n f k=>f.at ()
 item:=by intro X q r t J i Y s Z H E I v f y;subst q r t;let(xs x,m,L):=y;let(-M,z,p,N):=I.tuple m;let(-u,O,Q):=z.get L;let(!A,B,R,C,F,G):=v g ();rw[wpAny_pyNext_tuple_item f p (by simpa using O) λn j S=>?_];let T:Inv X _ _ H {s with heap:=n}:=I.turned (λb o l e=>(S.2 b l).trans e) A B C F G;let(-o,e,c,d):=id j;rw[(u,9,BL e c d 004 (x,H,T,Q,(9,λys U=>by rwa[I.tuple_inj U m,]),j,()))]
 done:=by intro X q r t J i Y s Z H E I v f y;subst q r t;let(_,m,L):=y;let(_,z,p,N):=I.tuple m;let(!A,B,R,C,F,G):=v g ();let hl:=⇑z;rw[wpAny_pyNext_tuple_end (I.ok.hd J) f p (by simp;lia) λn eb=>(9,I.turned (λb o l e=>eb b o l e) A B C F G)]
 self:=λb b b b b f h=>wpAny_pyIter_tupleiter f h
def RH{K:f'} (a)(lo)(n):Turn P w K M (r0 lo n) [a] a λi h=>IsRangeIter h a (lo+(i:5)*1) ((n:3)-(i:5)) 1 where
 mem:=by simp
 obj:=018
 keep:=018
 item:=by intro X y z A g i Y s Z H E I j c l;let(!m,p,B,q,r,u):=j a ();rw[(Walks.range (I.ok.hd g) _ _ 1 n).item i s _ _ l c λv x C F f N=>?_];let(t,rfl):=F;let G:Inv X _ _ H {s with heap:=x,toks:=C}:=I.turned () m p q r u;rw[(_,9,BL f 9 9 004 (.int _,H,G,(t,?_),(9,9),f,()))];simp
 done:=λX y z A g i Y s Z H E I j c l=>sR (j a ()) λm p B q r u=>wpAny_pyNext_range_end (I.ok.hd g) c (by let:n<=i:=l;lia) λx J=>(9,I.turned (λb o L e=>J b o L e) m p q r u)
 self:=λb b b b b c h=>wpAny_pyIter_rangeiter c h
def fV(K:f')(c:TE):TI:=λZ H R=>c Z H λx b=>∃a,x=022/\(∃e,qR K b a e)/\R (cq K a) b
def tu(K:f')(c:TE):TI:=λZ H R=>c Z H λx b=>∃a,x=022/\(∃e,yu K b a e)/\R (cm K a) b
def RJ(f:PE X l g):PI X u l (fV X.K g):=by
 intro Y s Z H R I h;rw[jG (f _ s _ H _ I h) λv i=>j3 λx w=>j7 λc j m=>?_];let(-a,e,(y,n),q):=m;subst e;cases j;let(-r,z,p,A):=c.list n;rw[wpAny_pyIter_list p.isList<|j8 _ _ _ _ _ (9,c.kept λb o e=>Zq _ e,RF a _,(_,Zr _ 9,9,9),λb t=>?_,q)];let e:b=i⁻¹:=by simpa using t
 subst e;rw[c.fpOk (Zf _)<|c.hok.fresh<|Zf _]
def RK(f:PE X l g):PI X u l (tu X.K g):=by
 intro Y s Z H R I h;rw[jG (f _ s _ H _ I h) λv i=>j3 λx w=>j7 λc j m=>?_];let(-a,e,(y,n),q):=m;subst e;cases j;let(-r,z,p,A):=c.tuple n;rw[wpAny_pyIter_tuple p<|j8 _ _ _ _ _ (9,c.kept λb o e=>Zq _ e,RG a _,(_,Zr _ 9,9,9),λb t=>?_,q)];let e:b=i⁻¹:=by simpa using t
 subst e;rw[c.fpOk (Zf _)<|c.hok.fresh<|Zf _]
def RL{Z:St} {lo a:3} (I:003)(f:-2^62<=lo)(g:lo<2^62)(h:-2^62<=a)(i:a<2^62)(q:R (r0 lo (a-lo).toNat) H):YE X (pyIter<|.ref s⁻¹) (ci X Y Z n R) E {s with heap:=s.heap.push {cls:=.type "range",data:=.fields #[.int lo t,.int a u,.int 1 v]},toks:=j}:=by
 rw[wpAny_pyIter_range (IsRange.new ..) (small_one f g h i) ?_];let c:Inv X _ _ H {s with heap:=s.heap.push {cls:=.type "range",data:=.fields #[.int lo t,.int a u,.int 1 v]},toks:=j}:=I.kept λb o e=>Zq _ e;rw[j8 (s.heap.push _).objs.size [(s.heap.push _).objs.size] _ _ H (9,c.kept λb o e=>Zq _ e,RH _ _ _,?_,λb p=>?_,q)]
 .let l:lo+(0:5)*1=lo:=by simp
  let m:(a-lo).toNat-(0:5)=Builtin.Range.rangeSize lo a 1:=by grind[rangeSize_one]
  rw[l,m];rw[Zr _ 9]
 .let e:b=(s.heap.push {cls:=.type "range",data:=.fields #[.int lo t,.int a u,.int 1 v]}).objs.size:=by ext
  subst e;rw[c.fpOk (Zf _)<|c.hok.fresh<|Zf _]
def fU(a:TA):TI:=λZ H R=>a Z H λb c=>∃j:3,b=[.int j]/\-2^62<=j/\j<2^62/\R (r0 0 j.toNat) c
def RM(c:Gl X "range")(f:X.mg "range"=8)(g:PA X [a] i)(l:01 [a] X.env=[%[7|eval a X.env]]:=by rfl):PI X w (.Call (.Name "range" p) [a] [] m) (fU i):=by intro Y s Z H R I h;rw[Call_<|Xx I c f boot_range<|PyProof.Rows.callWith_type1 (jG (g _ _ s _ H _ I h) λx y=>j3 λz A=>j7 λn o b=>?_) l 9];let(j,e,b,u,q):=b;subst e;cases o with|cons r v=>cases v;let(t,rfl):=r;rw[call_range_1<|RL n () () b u<|by simpa using q]
def rW(wi:TI)(g:TG)(e:TS):TS:=λD Z H=>wi Z H λJ f=>∃W:5->5->St->Hp->4,(∃m,W 0 m Z f)/\∀i m Z H,W i m Z H->J.stop i H/\D.nx Z H\/J.go i H/\∃N:St->Hp->4,(∀b a,N b a->∃c,c<m/\W (i+1) c b a)/\∀x a,J.yld i H x a->g x Z a λh j=>e {D with nx:=N,ct:=N,bk:=D.nx} h j
def Ap(a:Yj)(h:Heap):Yb:=a.filterMap λb=>(h.get? b).map λo=>%[b|o]
def BM(a:b∈c)(e:h.get? b=!o):%[b|o]∈Ap c h:=Jt.mpr (b,a,by rw[e,];rfl)
def RN(a:p∈Ap c h):p.1∈c/\h.get? p.1=!p.2:=by let(-b,f,e):=Jt.mp a;induction q:h.get? b with|none=>ext|some o=>grind
def Inv.pinned{Z:St} (I:003)(f:∀b∈c,xr X Y H b)(l:∀b∈c,∃o,019/\∀v,o.data ≠ .cell v):Inv X (Y++Ap c s.heap) Z H s:=I.pins_of λp i=>(Jc.mp i).elim (λz=>I.pin p ()) λz=>by let(j,e):=RN z;let(!n,q,r,_):=f _ j;grind
def Inv.unpinned{Z:St} (I:Inv X (Y++c) Z H s):003:=I.pins_of λp e=>I.pin p ()
def Et{wi:TI} (w:PassesOwn 015 X.A X.env X.xe)(Q:X.calm=6)(hi:PI X R p wi)(hg:PG X R g)(a:qY X y tb)(hs:∀x,foldedSetIterable p X.env x=pure x:=by intro _;rfl):PS X (.For R p y [] pos) (rW wi g tb):=by
 intro Y s Z H D I h;rw[wpAny_For (jG (hi Y s Z H _ I h) λv s1 h1=>jG h1 λitv s2 h2=>?_) hs];let(it G S J H2,e,I2,T,L,U,(W,(m0,w0),z)):=h2;subst e;let c:∀{l:Hp},(∀b∈G,l b=8)->∀b∈G,xr X Y l b:=λhn b a=>(hn b a,(U b a).2);rw[codeAny_forLoop_any (λn s'=>∃i A l,Inv X Y A l s'/\S i s'.heap/\(∀b∈G,l b=8)/\W i n A l) ?_ m0<|je 0 Z H2 (I2,L,λb a=>(U b a).1,w0)];intro n s3;rw[qx λi Z3 H3=>qT λI3 B C w3=>?_];obtain⟨E,qn⟩|⟨go,N,hN,step⟩:=z i n Z3 H3 w3;.rw[wpAny_passesOwn w<|jG (T.done X 9 9 9 Q i Y s3 Z3 H3 _ I3 (c C) B E) λr s4=>j4 λM I4=>?_];subst M;rw[wpAny_execs_nil (_,_,I4,qn)]
 .rw[wpAny_passesOwn w<|jG (T.item X 9 9 9 Q i _ _ _ _ _ I3 (c C) B go) λr s4=>yo λu=>j4 λM h4=>?_];subst M;rw[wpAny_passesOwn w<|jG h4 λ_ s5=>j3 λx H5=>uS λI5 r5 y5 vG O=>?_];let P:=I5.pinned (c O)<|T.obj _ _ vG;rw[wpAny_passesOwn w<|jG (hg _ _ _ _ x u _ P r5<|step x _ y5) λ_ s6=>j3 λZ6 H6=>j4 λI6 q6=>?_];rw[wpAny_passesOwn w<|jG (a _ _ _ _ _ I6 q6) λf s7 q=>?_];let again:∀{t:St}{H7:Hp},Inv X (Y++Ap _ _) t H7 s7->N _ _->∃m,m<n/\∃i A l,Inv X _ A l _/\S i _/\(∀b∈G,l b=8)/\W i m A l:=λ{t H7}j F=>by let(-m',hm,w7):=hN _ _ F;rw[(_,hm,_,_,_,j.unpinned,T.keep _ _ _ vG λb a o e=>(j.pin _<|Uo _<|Uo _<|BM a e).1,λb a=>?_,w7)];let(-o,e,d):=T.obj _ _ vG b a;rw[(j.pin _<|Uo _<|Uo _<|BM a e).2.1]
  cases(f)with|next=>let(t H7,j,F):=q;rw[again j F]|cont=>let(t H7,j,F):=q;rw[again j F]|brk=>let(t H7,j,q):=q;rw[(_,_,j.unpinned,q)]|ret v=>let(x7 t H7,j,r7,q):=q;rw[(_,_,_,j.unpinned,r7,q)]
abbrev R2:=V->V->Hp->VK->4
def xu(X:Cx)(f:Value->Value->Sem Value)(r:R2):4:=∀(Y:Yb)(s:Shared)(Z:St)(H:Hp)(x y:V)(v u:Value)(Q:VK),003->jz x v->jz y u->r x y H Q->YE X (f v u) (EP X Y Z Q) X.xe s
def ki(X:Cx)(f:Value->Sem Value)(r:V->Hp->VK->4):4:=∀(Y:Yb)(s:Shared)(Z:St)(H:Hp)(x:V)(v:Value)(Q:VK),003->jz x v->r x H Q->YE X (f v) (EP X Y Z Q) X.xe s
def qc(X:Cx)(f:Value)(r:YB->Hp->VK->4):4:=∀(Y:Yb)(s:Shared)(Z:St)(H:Hp)(a:YB)(b:Ye)(Q:VK),003->j6 a b->r a H Q->YE X (call f b) (EP X Y Z Q) X.xe s
def uN(r:R2)(a b:TE):TE:=λZ H Q=>a Z H λx c=>b Z c λy e=>r x y e Q
def tUn(r:V->Hp->VK->4)(a:TE):TE:=λZ H Q=>a Z H λx b=>r x b Q
def rI(C:3->3->4)(g:3->3->V):R2:=λx y H Q=>∃i j,x=.int i/\y=.int j/\C i j/\Q (g i j) H
def sI(g:3->3->V):R2:=λx y H Q=>∃i j,x=.int i/\y=.int j/\Q (g i j) H
def rU(g:3->V):V->Hp->VK->4:=λx H Q=>∃i,x=.int i/\Q (g i) H
def kf(i:PE X a j)(l:PE X b m) {Z:St} {R:V->V->Hp->4}(I:003)(h:j Z H λx g=>m Z g λy c=>R x y c) {f:Value->Value->Sem Value}(n:∀v u e x y c,Inv X Y Z c e->jz x v->jz y u->R x y c->YE X (f v u) Q X.xe e):YE X (eval a X.env) (λv s₁=>YE X (eval b X.env) (λu s₂=>YE X (f v u) Q X.xe s₂) X.xe s₁) X.xe s:=jG (i _ s _ H _ I h) λv z=>j3 λx g=>j7 λo p q=>jG (l _ _ _ _ _ o q) λu e=>j3 λy c=>j7 λr t w=>n v u _ x y _ r p t w
def HC(c:xu X (binaryOp e) r)(f:PE X a g)(i:PE X b j):PE X (.BinOp a e b l) (uN r g j):=λY s Z H Q I h=>wpAny_BinOp<|kf f i I h λv u p x y t m n o q=>c _ _ _ _ x y v u Q m n o q
def nB{g:3->3->3}(rule:∀i j t u s Q E,C i j->Q (.int (g i j) s.toks) {s with toks:=s.toks+1}->YE X (f (.int i t)<|.int j u) Q E s):xu X f (rI C λi j=>.int<|g i j):=by intro Y s Z H x y v u Q I a b h;let(i j,rfl,rfl,c,q):=h;let(t,rfl):=a;let(e,rfl):=b;rw[rule i j t _ s _ _ c (.int _,H,I.tok _,(_,9),q)]
def fu{g:3->3->3}(rule:∀i j t u s Q E,Q (.int (g i j) s.toks) {s with toks:=s.toks+1}->YE X (f (.int i t)<|.int j u) Q E s):xu X f (sI λi j=>.int<|g i j):=by intro Y s Z H x y v u Q I a b h;let(i j,rfl,rfl,q):=h;let(t,rfl):=a;let(c,rfl):=b;rw[rule i j t _ s _ _ (.int _,H,I.tok _,(_,9),q)]
def vK{g:3->3->Bool}(rule:∀i j t u s Q E,Q (.bool<|g i j) s->YE X (f (.int i t)<|.int j u) Q E s):xu X f (sI λi j=>.bl<|g i j):=by intro Y s Z H x y v u Q I a b h;let(i j,rfl,rfl,q):=h;let(t,rfl):=a;let(c,rfl):=b;rw[rule i j t _ s _ _ (.bl _,H,I,9,q)]
def mW(i j:3):4:=0<j/\j<1073741824
def mV(i j:3):4:=0<=j/\j<=1000000/\i.natAbs<2^64
def RO:xu X (binaryOp .FloorDiv) (rI mW λi j=>.int<|i/j):=nB λi j d d d d d a q=>have b:=a.1;have c:=a.2;floordiv_int () (by rwa[Int.fdiv_eq_ediv_of_nonneg i (),]) (.inl<|PyProof.noPylong_small ())
def RP:xu X (binaryOp .Mod) (rI (λb j=>0<j) λi j=>.int<|i%j):=nB λi j b b b b b a q=>mod_int' ()<|by rwa[Int.fmod_eq_emod_of_nonneg i (),]
def RQ:xu X (binaryOp .Pow) (rI mV λi j=>.int<|i^j.toNat):=nB λb b b b b b b a q=>pow_int_small a.1 a.2.1 a.2.2 q
def unI{g:3->3}(rule:∀i t s Q E,Q (.int (g i) s.toks) {s with toks:=s.toks+1}->YE X (f<|.int i t) Q E s):ki X f (rU λi=>.int<|g i):=by intro Y s Z H x v Q I a h;let(i,rfl,q):=h;let(t,rfl):=a;rw[rule i t s _ _ (.int _,H,I.tok _,(_,9),q)]
def scal:V->V->Bool|.non,.non=>6|.non,.int _=>6|.int _,.non=>6|.non,.bl _=>6|.bl _,.non=>6|.non,.str _=>6|.str _,.non=>6|.int _,.int _=>6|.bl _,.bl _=>6|.str _,.str _=>6|.byt _,.byt _=>6|.int _,.str _=>6|.str _,.int _=>6|.bl _,.str _=>6|.str _,.bl _=>6|_,_=>7
def rEq:R2:=λx y H Q=>scal x y=6/\Q (.bl<|decide<|x=y) H
def rNe:R2:=λx y H Q=>scal x y=6/\Q (.bl<|not<|decide<|x=y) H
def HD:decide (V.int i=V.int j)=(i==j):=by rw[Vb,];simp
def HE:decide (V.bl i=V.bl j)=(i==j):=by rw[Vb,];simp
def HF:decide (V.str i=V.str j)=(i==j):=by rw[Vb,];simp
def HG:decide (V.byt i=V.byt j)=(i.toList==j.toList):=by rw[Vb,];simp
section
variable {ta tb tc:TE}
def Qk{Z:St} (I:003)(q:Q (.bl k) H)(e:k=a):EP X Y Z Q (.bool a) s:=by subst e;rw[(.bl k,H,I,9,q)]
def ft:xu X (compareOp .Eq) rEq:=by intro Y s Z H x y v u Q I e a h;let(c,q):=h;cases(x)with
|non=>cases e;cases(y)with|non=>cases a;rw[PySem.EqNone.eq_none_none<|Qk I q ()]|bl j=>cases a;rw[PySem.EqNone.eq_none_bool<|Qk I q ()]|int j=>let(b,rfl):=a;rw[PySem.EqNone.eq_none_int<|Qk I q ()]|str j=>let(b,rfl):=a;rw[PySem.EqNone.eq_none_str<|Qk I q ()]|_=>rw[Zn (show 7=6 from c) Zj]
|bl i=>cases e;cases(y)with|non=>cases a;rw[PySem.EqNone.eq_bool_none<|Qk I q ()]|bl j=>cases a;rw[eq_bool<|Qk I q HE]|str j=>let(b,rfl):=a;rw[PySem.EqMixed.eq_bool_str<|Qk I q ()]|_=>rw[Zn (show 7=6 from c) Zj]
|int i=>let(t,rfl):=e;cases(y)with|non=>cases a;rw[PySem.EqNone.eq_int_none<|Qk I q ()]|int j=>let(b,rfl):=a;rw[eq_int<|Qk I q HD]|str j=>let(b,rfl):=a;rw[PySem.EqMixed.eq_int_str<|Qk I q ()]|_=>rw[Zn (show 7=6 from c) Zj]
|str i=>let(t,rfl):=e;cases(y)with|non=>cases a;rw[PySem.EqNone.eq_str_none<|Qk I q ()]|bl j=>cases a;rw[PySem.EqMixed.eq_str_bool<|Qk I q ()]|int j=>let(b,rfl):=a;rw[PySem.EqMixed.eq_str_int<|Qk I q ()]|str j=>let(b,rfl):=a;rw[eq_str<|Qk I q HF]|_=>rw[Zn c Zj]
|byt i=>let(t,rfl):=e;cases(y)with|byt j=>let(b,rfl):=a;rw[W.eq_bytes<|Qk I q HG]|_=>rw[Zn (show 7=6 from c) Zj]
|_=>cases(y)<;>rw[Zn (show 7=6 from c) Zj]
def fq:xu X (compareOp .NotEq) rNe:=by intro Y s Z H x y v u Q I e a h;let(c,q):=h;cases(x)with
|non=>cases e;cases(y)with|non=>cases a;rw[PySem.EqNone.ne_none_none<|Qk I q ()]|bl j=>cases a;rw[PySem.EqNone.ne_none_bool<|Qk I q ()]|int j=>let(b,rfl):=a;rw[PySem.EqNone.ne_none_int<|Qk I q ()]|str j=>let(b,rfl):=a;rw[PySem.EqNone.ne_none_str<|Qk I q ()]|_=>rw[Zn (show 7=6 from c) Zj]
|bl i=>cases e;cases(y)with|non=>cases a;rw[PySem.EqNone.ne_bool_none<|Qk I q ()]|bl j=>cases a;rw[ne_bool<|Qk I q<|Zt not HE]|str j=>let(b,rfl):=a;rw[PySem.EqMixed.ne_bool_str<|Qk I q ()]|_=>rw[Zn (show 7=6 from c) Zj]
|int i=>let(t,rfl):=e;cases(y)with|non=>cases a;rw[PySem.EqNone.ne_int_none<|Qk I q ()]|int j=>let(b,rfl):=a;rw[ne_int<|Qk I q<|Zt _ HD]|str j=>let(b,rfl):=a;rw[PySem.EqMixed.ne_int_str<|Qk I q ()]|_=>rw[Zn (show 7=6 from c) Zj]
|str i=>let(t,rfl):=e;cases(y)with|non=>cases a;rw[PySem.EqNone.ne_str_none<|Qk I q ()]|bl j=>cases a;rw[PySem.EqMixed.ne_str_bool<|Qk I q ()]|int j=>let(b,rfl):=a;rw[PySem.EqMixed.ne_str_int<|Qk I q ()]|str j=>let(b,rfl):=a;rw[ne_str<|Qk I q<|Zt not HF]|_=>rw[Zn (show 7=6 from c) Zj]
|byt i=>let(t,rfl):=e;cases(y)with|byt j=>let(b,rfl):=a;rw[W.ne_bytes<|Qk I q<|Zt _ HG]|_=>rw[Zn c Zj]
|_=>cases(y)<;>rw[Zn (show 7=6 from c) Zj]
def RR:xu X (compareOp .In) λx y H Q=>∃i j,x=.str i/\y=.str j/\Q (.bl<|not<|(Builtin.Str.occurrences j i 0 ⇑j 1).isEmpty) H:=by intro Y s Z H x y v u Q I a b h;let(i j,rfl,rfl,q):=h;let(t,rfl):=a;let(c,rfl):=b;rw[in_str<|Qk I q 9]
def RU:xu X (compareOp .NotIn) λx y H Q=>∃i j,x=.str i/\y=.str j/\Q (.bl<|not<|not<|(Builtin.Str.occurrences j i 0 ⇑j 1).isEmpty) H:=by intro Y s Z H x y v u Q I a b h;let(i j,rfl,rfl,q):=h;let(t,rfl):=a;let(c,rfl):=b;rw[notIn_str<|Qk I q 9]
def Qj(b) (h:a ≠ .In:=by decide)(c:a ≠ .NotIn:=by decide):behindInMarks a b=7:=by cases b<;>first|rfl|(show(_&&(_||_)&&_)=7;ext)
def HH(e:xu X (compareOp c) r)(f:PE X a ta)(g:PE X b tb)(i:behindInMarks c b=7):PE X (.Compare a [c] [b] j) (uN r ta tb):=λY s Z H Q I h=>wpAny_Compare1 (kf f g I h λv u o x y p l m n q=>e _ _ _ _ x y v u Q l m n q) i
def gg(t:TE):TT:=λZ H Q=>t Z H λx a=>∃k,x=.bl k/\Q k a
def BN(g:xu X (compareOp f) r)(i:PE X a ta)(j:PE X b tb)(l:behindInMarks f b=7):PT X (.Compare a [f] [b] m) (gg<|uN r ta tb):=by intro Y s Z H Q I h;rw[wpAny_isTrue_Compare1 (jG (i _ s _ H _ I h) λv E=>j3 λx F=>j7 λn o p=>jG (j _ _ _ _ _ n p) λu G=>j3 λy J=>j7 λq t w=>jG (g _ _ _ _ x y v u _ q o t w) λc L z9=>?_) l];let(z,M,A,B,k,e,C):=z9;subst e;cases B;rw[wpAny_truthy_bool (_,A,C)]
def RV(r b:R2)(ta tb tc:TE):TE:=λZ H Q=>ta Z H λx c=>tb Z c λy e=>r x y e λz a=>∃k,z=.bl k/\if k=6 then tc Z a λf g=>b y f g Q else Q (.bl 7) a
def Aq:(00:5)<2^63:=004
def RW:xu X (binaryOp .Add) λx y H Q=>∃i j,x=.str i/\y=.str j/\⇑i+⇑j<=00/\Q (.str<|i++j) H:=by intro Y s Z H x y v u Q I a b h;let(i j,rfl,rfl,c,q):=h;let(t,rfl):=a;let(e,rfl):=b;rw[add_str (λe f=>(.str _,H,I.tok _,(_,9),q)) c]
def Qu(r:j6 [x] a):∃u,a=[u]/\jz x u:=by cases r with|cons b c=>cases c;rw[(_,9,b)]
def BO(r:j6 [x,y] b):∃u a,b=[u,a]/\jz x u/\jz y a:=by cases r with|cons c e=>cases e with|cons f g=>cases g;rw[(_,_,9,c,f)]
def RX:qc X (.builtin "abs") λa H Q=>∃i,a=[.int i]/\Q (.int<|if i<0 then-i else i) H:=by intro Y s Z H a b Q I r h;let(i,rfl,q):=h;let(-u,rfl,(t,rfl)):=Qu r;rw[call_abs_int λu c=>(.int _,H,I.tok _,(_,9),q)]
def RY(c:X.calm=6):qc X (.builtin "max") λb H Q=>∃i j,b=[.int i,.int j]/\Q (.int<|if j>i then j else i) H:=by
 intro Y s Z H b e Q I r h;let(i j,rfl,q):=h;let(u f,rfl,(t,rfl),(g,rfl)):=BO r;rw[max_two_ints (I.ok.hd c) λl m k=>(_,H,I.kept k,?_,q)];cases a:j>i;.rw[Zd a,Zd a];rw[(_,9)]
 .rw[Ze a,Ze a];rw[(_,9)]
def RZ(c:X.calm=6):qc X (.builtin "min") λb H Q=>∃i j,b=[.int i,.int j]/\Q (.int<|if j<i then j else i) H:=by
 intro Y s Z H b e Q I r h;let(i j,rfl,q):=h;let(u f,rfl,(t,rfl),(g,rfl)):=BO r;rw[min_two_ints (I.ok.hd c) λl m k=>(_,H,I.kept k,?_,q)];cases a:j<i;.rw[Zd a,Zd a];rw[(_,9)]
 .rw[Ze a,Ze a];rw[(_,9)]
def Sa:qc X (.type "str") λa H Q=>∃i,a=[.int i]/\i.natAbs.log2<1920/\Q (.str<|toString i) H:=by intro Y s Z H a c Q I r h;let(-i,rfl,b,q):=h;let(-u,rfl,(t,rfl)):=Qu r;rw[PySem.P.str_of_int b (.str _,H,I.tok _,(_,9),q)]
end
structure ObjM(h:Heap)(x dx C:Addr)(mA:Yd):4 where
obj:h.get? x=! W.instObj C dx
ns:h.Ns1 dx mA
ne:dx≠x
def Sb{h:Heap} {mA:Yd}(n:h.Ns1 g mA):∃f,h.get? g=!f/\∀b,W.lookIn b f=! mA b:=by
 let(o i q,j,l,m,_,p):=n;rw[(o,j,λb=>?_)];let e:=p b;unfold nsFind findBy at e;rw[<-Array.find?_toList]at e;ext W.lookIn;rw[l,];dsimp only;split;.ext
 .let a:i.toList.any (·.refKey)=7:=by rw[Vx,];intro y r;let(z t,c):=m y ();simp[DictEntry.refKey,c]
  ext
def ObjM.look{mA:Yd}(I:ObjM h x f C mA):∃e,W.InstAt h x (W.instObj C f) C !e/\∀c,W.lookIn c e=! mA c:=qk (Sb I.ns) λe=>j4 λi j=>(_,(I.obj,9,9,i),j)
section
variable {K:f'} {mA:Yd}
def Sc(X:K.In s.heap)(I:ObjM s.heap x l C mA)(n:W.findIn K (.ref C) "__setattr__"=! ! .builtin "object.__setattr__")(o:W.plainOver K C=6)(p:W.takerIn K C a=!8)(q:W.hasDictIn K C=6)(r:PySem.Within mA t)(u:⇑t<=00)(h:∀f,ObjM f x l C (λy=>if y=a then !v else mA y)->Heap.SameBut l s.heap f->Q Yq {s with heap:=f,toks:=s.toks+2}):YF m w A (setAttr (.ref x) a v) Q E s:=by let(-H,J,L):=I.look;rw[W.set_plain X J n<|W.osa_open X J o p λb=>?_];let(-M,z,g):=W.any_some q;rw[Za<|Zb<|Za<|Za<|wpAny_loadPart I.obj<|Za<|W.Looks.here (W.looks_clsIn X z) ?_];rw[g,];rw[Zb<|Za<|Zb<|Za<|wpAny_nsSet1 I.ns λf c e=>?_];let(N B F,i,j,G):=c.count (PySem.Within.cons _ v r);rw[Za<|wpAny_lookBehind i (by rw[j,];rw[pastItsLine_dict ()])<|Zb<|h _ ((e.2 _<|Ne.symm I.ne).trans I.obj,c,I.ne) e]
end
noncomputable def xg(f:Str)(v:V):List (Str×V)->List (Str×V)|[]=>[%[f|v]]|%[g|x]::r=>if g=f then%[g|v]::r else%[g|x]::xg f v r
theorem HJ(f g)(v):∀fs:List (Str×V),(xg f v fs).lookup g=if g=f then !v else fs.lookup g|[]=>by show List.lookup g [%[f|v]]=_;grind|%[k|x]::r=>by let a:=HJ f g v r;rw[show xg f v _=if k=f then%[k|v]::r else%[k|x]::xg f v r from 9,];grind
theorem Eu(f)(v):∀fs:List (Str×V),f∈(xg f v fs).map (·.1)/\∀g,g∈fs.map (·.1)->g∈(xg f v fs).map (·.1)|[]=>(by simp[xg],())|%[k|x]::r=>by let(a,b):=Eu f v r;rw[show xg f v _=if k=f then%[k|v]::r else%[k|x]::xg f v r from 9,];grind
theorem HK(f)(v):∀fs:List (Str×V),⇑(xg f v fs)<=⇑fs+1|[]=>by simp[xg]|%[k|x]::r=>by let a:=HK f v r;rw[show xg f v _=if k=f then%[k|v]::r else%[k|x]::xg f v r from 9,];grind
def qX(r:xE (!v) o):∃u,o=!u/\jz v u:=by cases o with|none=>rw[(r).elim]|some u=>rw[(u,9,r)]
def HM(b:xc P w H h)(e:H a=! .ins C c fs):∃mA,ObjM h a c C mA/\(∀f,xE (fs.lookup f) (mA f))/\PySem.Within mA (fs.map (·.1))/\⇑fs<=1000/\H c=! .own a:=by let(d,z,ne,g,mA,n,r,q):=b a _ e;rw[(_,(g,n,ne),r,q,z,d)]
structure Cls(K:f')(C:Addr):4 where
pg:W.plainGet K C Str.empty=6
hd:W.hasDictIn K C=6
po:W.plainOver K C=6
sa:W.findIn K (.ref C) "__setattr__"=! ! .builtin "object.__setattr__"
def Cls.get{K:f'} (c:Cls K C)(f):W.plainGet K C f=6:=c.pg
def u0(K:f')(C:Addr)(f:Str):4:=W.findIn K (.ref C) f=!8
def u0.taker{K:f'} (n:u0 K C f):W.takerIn K C f=!8:=by ext W.takerIn;rw[n,];rfl
section
variable {Z: St}
def Se(I:003)(e:H a=! .ins C p fs)(c:Cls X.K C)(n:u0 X.K C f)(l:fs.lookup f=!v)(h:∀u j,Inv X Y Z H j->jz v u->Q u j):wpAny 015 A (getAttr 022 f b) Q E s:=by let(-mA,O,r,_,_,_):=HM I.hok e;let(-u,m,g):=qX (by rw[<-l];rw[r f]);let(-q,J,o):=O.look;rw[W.get_value I.kIn J (W.plainGet_of<|c.get f).1 (W.findObj_own c.hd n 9<|by rw[o,m]) (by cases(v)with|non=>cases g;rfl|bl b=>cases g;rfl|int i=>let(t,e):=g;cases e;rfl|str x=>let(t,e):=g;cases e;rfl|byt b=>let(t,e):=g;cases e;rfl|flt b=>let(t,e):=g;cases e;rfl|ref a=>cases g;rfl|ty n=>cases g;rfl)<|h u _ (I.tok _) g]
def Sf(I:003)(e:H a=! .ins C l fs)(c:Cls X.K C)(n:u0 X.K C f)(G:⇑fs<1000)(J:jz y u)(h:∀j,Inv X Y Z (upd H a<|.ins C l<|xg f y fs) j->Q Yq j):wpAny 015 A (setAttr 022 f u) Q E s:=by
 let(-mA,O,r,wi,_,m):=HM I.hok e;let p:(fs.map (·.1)).length<=00:=by rw[Zql,sizeLine_eq];lia
 rw[Sc I.kIn O c.sa c.po n.taker c.hd wi p λt i v=>h _ ?_];let w:∃o,t.get? _=!o:=f8 i.ns λo _ _=>j4 λx _=>(o,x);rw[I.write (by rw[e,];rw[True.intro]) (.inr m) (λb q B z=>(v.2 b B).trans z) w (by rwa[JC O.ne,],?_,O.ne,i.obj,_,i.ns,λg=>?_,λg F=>?_)];.let:=HK f y fs;lia
 .rw[HJ,];cases q:g=f;.rwa[Zd q,Zd q]
  ext
 .cases q:g=f;.rw[q,];rw[(Eu f y _).1]
  .rw[(Eu f y _).2 g<|wi g λz=>F ?_];ext
def Inv.made(I:003):Inv X Y Z (upd (upd H s⁻¹<|.own<|s⁻¹+1) (s⁻¹+1)<|.ins C s⁻¹ []) {s with heap:=(s.heap.push W.emptyDict).push (W.instObj C s⁻¹)}:=by
 let c:(s.heap.push W.emptyDict).get? _=!_:=Zr _ 9;let f:((s.heap.push W.emptyDict).push<|W.instObj C s⁻¹).get? (s⁻¹+1)=! W.instObj C s⁻¹:=by let:=Zr (s.heap.push W.emptyDict) (o:=W.instObj C s⁻¹) 9;ext
 let i:(s.heap.push _).Ns _ _:=(_,_,_,c,9,λe j=>Zn j (),λb=>9);rw[(I.laid (o:=.own _) (t':=s.toks) (λb u q=>Zq _ q) (Zf _) (_,c)).laid (λb u q=>Zq _ q) () ?_];let ne:s⁻¹≠s⁻¹+1:=();rw[(by rw[JC ne,JI],Ub _,ne,f,_,(Heap.Ns1.of_empty i).at λo q=>Zq _ q,λb=>True.intro,λy l=>Zn 9 l)]
end
def rY(K:f')(c:TE)(f:Str):TE:=λZ H Q=>c Z H λx b=>∃a C e fs v,x=022/\b a=! .ins C e fs/\Cls K C/\u0 K C f/\fs.lookup f=!v/\Q v b
def sv(K:f')(e g:TE)(f:Str):TS:=λD Z H=>g Z H λy h=>e Z h λx b=>∃a C c fs,x=022/\b a=! .ins C c fs/\Cls K C/\u0 K C f/\⇑fs<1000/\D.nx Z (upd b a<|.ins C c<|xg f y fs)
def HN(b:PE X e g)(i:attributeBase e f X.env 007=007):PE X (.Attribute e f j) (rY X.K g f):=by intro Y s Z H Q I h;rw[(Attribute_any_ (jG (b _ s _ H _ I h) λu y z9=>?_)<|by rw[arm_eval_Attribute,i])];let(x,z,m,o,a,C,A,fs,v,p,r,c,n,l,q):=z9;subst p;obtain rfl:=o;rw[Se m r c n l λB E t w=>(v,_,t,w,q)]
def HQ(i:PE X o j)(m:PE X b p)(r:swapsWith b (! .Attribute o f e) g.line X.env=pure 7):PS X (.Assign [.Attribute o f e] b g) (sv X.K j p f):=by intro Y s Z H D I h;rw[plainObj_wpAny_Assign_Attribute (jG (m _ s _ H _ I h) λu G=>j3 λy J=>j7 λt v q=>jG (i _ _ _ _ _ t q) λL M z9=>?_) r];let(x,N,w,z,a,C,O,fs,A,B,c,n,l,E):=z9;subst A;obtain rfl:=z;rw[Sf w B c n l v λP F=>(_,_,F,E)]
structure Room(k:5)(A:Around):4 where
hd:A.handled=8
dp:A.depth+03*k+05<recursionLimit
un:A.units+16*k+200<cLine
def Room.mono(r:Room k A)(h:j<=k):Room j A:=(r.hd,by let:=r.dp;lia,by let:=r.un;lia)
theorem Room.deeper(r:Room (k+1) A)(c):Room k (A.deeper c):=(r.hd,by let:=r.dp;show A.depth+1+03*k+05<_;lia,by let:=r.un;show A.units+03+16*k+200<_;lia)
def Sh{A:Around} :(A.under<|.builtin "type.__call__" (.ref C::a,b)).depth=A.depth+1:=by rfl
def Si{A:Around} :(A.under<|.builtin "type.__call__" (.ref C::a,b)).units=A.units+1:=by rfl
def Room.make(r:Room (k+1) A)(C)(c)(e):Room k (A.under<|.builtin "type.__call__" (.ref C::c,e)):=(r.hd,by let:=r.dp;rw[Sh,];lia,by let:=r.un;rw[Si,];lia)
theorem Room.depth(r:Room k A):A.depth<recursionLimit:=by let:=r.dp;lia
theorem Room.units(r:Room k A):A.units+64<cLine:=by let:=r.un;lia
def wV:TA:=λb H Q=>Q [] H
def Ar(a:TE)(b:TA):TA:=λZ H Q=>a Z H λx c=>b Z c λe f=>Q (x::e) f
section
variable {t:TA}
def K3:PA X [] wV:=λb b b b H Q I h=>Calls.spliced_nil (_,H,I,.nil,h)
def Kz(b:PE X e c)(f:PA X a t)(g:01 (e::a) X.env=%[7|007]::01 a X.env:=by rfl):PA X (e::a) (Ar c t):=by intro i Y s Z H Q I h;rw[g,];rw[Calls.spliced_cons<|jG (b _ s _ H _ I h) λu q=>j3 λx r=>j7 λj l m=>jG (f _ _ _ _ _ _ j m) λv w=>j3 λy z=>j7 λn o p=>(_,_,n,.cons l o,p)]
def rN(t:TA):TE:=λZ H Q=>t Z H λa b=>⇑a<=00/\∀p,b p=8->Q (.ref p) (upd b p<|.tup a)
def rT(t:TA):TE:=λZ H Q=>t Z H λa b=>⇑a<=00/\∀p,b p=8->Q (.ref p) (upd b p<|.lst a)
def Sj(h:PA X c t):PE X (.Tuple c i f) (rN t):=λY s Z H Q I g=>wpAny_Tuple_spliced<|jG (h _ _ s _ H _ I g) λj l=>j3 λm n=>qT λa r z q=>(by rwa[<-⇑r],(.ref _,upd _ _<|.tup _,a.laid (λb u e=>Zq _ e) (Zf _)<|((z,(_,Zr _ 9,9)),_,r,(_,Zr _ 9,9,_,9)),9,q _<|a.hok.fresh<|Zf _))
def HR(h:PA X c t):PE X (.List c f) (rT t):=λY s Z H Q I g=>wpAny_List_spliced<|jG (h _ _ s _ H _ I g) λi j=>j3 λl m=>qT λa r z q=>(by rwa[<-⇑r],(.ref _,upd _ _<|.lst _,a.laid (λb u e=>Zq _ e) (Zf _) (z,_,0,r,Zr _ 9),9,q _<|a.hok.fresh<|Zf _))
end
abbrev Sp:=YB->Hp->VK->XK->4
abbrev k7:=List Env->Hp->Shared->XK->Ya
structure Env0(P:Program)(w:World)(K:f')(mg:Yd)(base:Heap)(A:Around)(outer:List Env)(s:Shared)(H:Hp):4 where
frames:A.frames=!outer
mod:Mod K mg base
bs:∀b o,base.get? b=!o->019/\H b=8
bsz:base.objs.size<=s⁻¹
funs:s.heap.FunFrames base outer
frf:∀b∈frs outer,H b=8
hok:xc P w H s.heap
bare:AllBare s.gens
def CE(a:List Env)(P:Program)(w:World)(H:Hp)(s:Shared)(Q:VK)(u:Value)(b:Shared):4:=∃v c,b.os=s.os/\AllBare b.gens/\Un (frs a) [] H c s.heap b.heap/\xc P w c b.heap/\jz v u/\Q v c
def CR(c:k7)(a:List Env)(P:Program)(w:World)(H:Hp)(s:Shared)(Q:VK)(E:XK)(r:Result)(b:Shared):4:=match r with|.ok (.ret u)=>CE a P w H s Q u b|.ok _=>False|.error e=>c a H s E e b
structure FnOk(P:Program)(w:World)(K:f')(mg:Yd)(base:Heap)(CX:k7)(k:5)(f:Addr)(fd:FuncData)(ps:Yi)(sp:Sp):4 where
len:∀vs H Q E,sp vs H Q E->⇑vs=⇑ps
run:∀(A:Around)(outer:List Env)(s:Shared)(H:Hp)(args:Args)(us:Ye)(vs:YB)(Q:VK)(E:XK),Room k A->Env0 P w K mg base A outer s H->BindsTo s fd args (ps.zip us)->j6 vs us->sp vs H Q E->codeAny (model P w) A (.call (.ref f) args) (CR CX outer P w H s Q E) s
theorem FnOk.mono{K:f'} (F:FnOk P w K l c n j f o p q)(h:j<=k):FnOk P w K l c n k f o p q:=(F.len,λA e s H i u v Q E r=>F.run A _ s H _ _ _ Q E<|r.mono h)
def FnOk.imp{K:f'} (F:FnOk P w K n c o k f p r u)(h:∀e H Q E,i e H Q E->u e H Q E):FnOk P w K n c o k f p r i:=(λe H Q E q=>F.len _ H Q E<|h _ _ _ _ q,λA j s H l G e Q E v x y z B=>F.run A _ s H _ _ _ Q E v x y z<|h _ _ _ _ B)
def Env0.make{K:f'} (e:Env0 P w K i f A c s H)(C)(j)(l):Env0 P w K i f (A.under<|.builtin "type.__call__" (.ref C::j,l)) c s H:=(by first|rw[e.frames]|(simpa using e.frames),e.mod,e.bs,e.bsz,e.funs,e.frf,e.hok,e.bare)
section
variable {Z: St}
def Inv.env0(I:003):Env0 X.prog X.w X.K X.mg X.base X.A X.stack s H:=(I.ok.frames,I.ok.mod,I.bs,Zh I.ok.bsz I.sz,I.stack,I.stkFree,I.hok,I.bare)
def Inv.after(I:003)(h:CE X.stack X.prog X.w H s Q u e):EP X Y Z Q u e:=by let(v i,os,bare,un,c,r,q):=h;let(j,g,d,t,f):=e;obtain rfl:=os;rw[(v,_,I.call un c bare<|λb z=>Zn z (),r,q)]
end
def Ew(b:Sp)(a:YB)(E:XK)(t:TA):TE:=λZ H Q=>t Z H λc e=>b (c++a) e Q E
def gm(C:Addr)(e:Sp)(b:YB)(E:XK)(t:TA):TE:=λZ H Q=>t Z H λf c=>∀x a,c x=8->c a=8->a≠x->e (.ref x::(f++b)) (upd (upd c a<|.own x) x<|.ins C a []) (λv g=>v=.non/\Q (.ref x) g) E
def wN(K:f')(c:FuncData)(b:Yi)(ds:Ye):4:=∀(s:Shared)(a:Ye),K.In s.heap->⇑(a++ds)=⇑b->BindsTo s c (a,[]) (b.zip<|a++ds)
def wN.all{K:f'} (h:∀c:Ye,⇑c=⇑e->bindArgs i (c,[])=pure (e.zip c)):wN K i e []:=λs c b f=>by rw[ZA]at f ⊢;rw[.of_eq<|h _ f]
def Au(b:k7)(X:Cx)(E:XK):4:=∀(Y:Yb)(Z:St)(H:Hp)(s:Shared)(e:Value)(a:Shared),003->b X.stack H s E e a->X.xe e a
def Sk{Z:St} (F:FnOk X.prog X.w X.K X.mg X.base j k f l c m)(n:Room k X.A)(o:wN X.K l c ds)(p:j6 b ds)(q:Au j X E)(I:003)(r:j6 t g)(h:m (t++b) H Q E):YE X (call (.ref f) g) (EP X Y Z Q) X.xe s:=by
 let i:=r.append p;let v:⇑(g++ds)=⇑c:=by rw[<-⇑i];rw[F.len _ _ _ _ h]
 rw[wpAny_call<|codeAny_mono (F.run _ _ s H _ _ _ Q E n I.env0 (o s _ I.kIn v) i h) λr x a=>?_];cases(r)with|error e=>rw[q _ _ H s e _ I a]|ok w=>cases(w)with|ret u=>rw[I.after a]|next=>rw[False.elim a]|brk=>rw[False.elim a]|cont=>rw[False.elim a]
def HS(F:FnOk X.prog X.w X.K X.mg X.base l k f m n o)(u:Room k X.A)(v:Gl X x)(w:X.mg x=! .ref f)(y:W.keepIn X.K (.ref f)=6)(z:wN X.K m n ds)(A:j6 b ds)(B:Au l X E)(C:PA X (e::a) t)(c:(x==011)=7:=by decide)(G:01 (e::a) X.env=%[7|007]::01 a X.env:=by rfl)(g:(backTo i<|01 a X.env).any (·.1)=7:=by rfl):PE X (.Call (.Name x p) (e::a) [] i) (Ew o b E t):=by intro Y s Z H Q I h;rw[wpAny_Call_Name_kw<|YI I v w (W.callWith_K I.ok.mod.kin y (jG (C _ _ s _ H _ I h) λJ L=>j3 λM N=>j7 λj r q=>(j.kIn,Sk F u z A B j r q)) G g) c]
structure Mk(K:f')(C f:Addr):4 where
makes:W.makesIn K C=6
init:W.findIn K (.ref C) "__init__"=! ! .ref f
fn:W.isFn K (.ref f)=6
kp:W.keepIn K (.ref C)=6
def HU(M:Mk X.K C f)(F:FnOk X.prog X.w X.K X.mg X.base A k f B n G)(J:Room (k+1) X.A)(L:Gl X x)(N:X.mg x=! .ref C)(O:wN X.K B n ds)(P:j6 c ds)(R:Au A X E)(S:PA X (e::g) t)(j:(x==011)=7:=by decide)(T:01 (e::g) X.env=%[7|007]::01 g X.env:=by rfl)(l:(backTo m<|01 g X.env).any (·.1)=7:=by rfl):PE X (.Call (.Name x p) (e::g) [] m) (gm C G c E t):=λY s Z H Q I h=>wpAny_Call_Name_kw<|YI I L N (W.callWith_K I.ok.mod.kin M.kp (jG (S _ _ s _ H _ I h) λU o=>j3 λvs H1=>j7 λb r q=>(b.kIn,by
let w:=q _ _ (b.hok.fresh<|Vc _) (b.hok.fresh<|Zf _)<|Zi<|UQ _;let i:=Inv.made (C:=C) b;let y:j6 (V.ref (o⁻¹+1)::(vs++c)) _:=.cons 9<|r.append P;let hl:⇑(Value.ref (o⁻¹+1)::([]++U)++ds)=⇑n:=by let e:=⇑y;rw[F.len _ _ _ _ w]at e;rw[e.symm]
rw[wpAny_call<|W.make_core (W.makes_of b.kIn M.makes) (W.looks_findIn b.kIn M.init) (λz=>W.bind_fn b.kIn _<|Yp.mp M.fn) 006<|codeAny_mono (F.run _ _ _ _ _ _ _ _ E (J.make C _ _) (i.env0.make C _ _) (O _ _ i.kIn hl) y w) λr s' a=>?_]
cases(r)with|error e=>rw[R _ _ _ _ e _ i a]|ok fl=>cases(fl)with|ret u=>let(v H',I3,rv,ev,q3):=i.after a;subst ev;rw[(rv,(V.ref _,_,I3,9,q3))]|next=>rw[False.elim a]|brk=>rw[False.elim a]|cont=>rw[False.elim a])) T l) j
structure FnScope(N P:Yi)(sc:Scope):4 where
kind:sc.kind=.function
co:sc.isCoroutine=7
gen:sc.isGenerator=7
nd:N.Nodup
pre:N.take ⇑P=P
par:∀x∈P,sc.names.lookup x=!.local\/sc.names.lookup x=!.cell
nofree:∀y∈sc.names,y.2 ≠ .free
theorem HV{kindOf:Str->02 NameKind} :∀{binds:List (Str×Value)}{m:Yd},(∀v,%[x|v]∉binds)->bindL kindOf binds m x=m x
|[],_,_=>9|%[n|v]::r,m,h=>by
 ext bindL;rw[HV (),];split;.grind
 .rfl
theorem HW{kindOf:Str->02 NameKind} :∀{binds:List (Str×Value)}{m:Yd},(∀v,%[x|v]∉binds)->bindC kindOf binds m x=m x
|[],_,_=>9|%[n|v]::r,m,h=>by
 ext bindC;rw[HW (),];split;.rfl
 grind
theorem HX{kindOf:Str->02 NameKind} :∀{P:Yi}{a:Ye}{i:5}{m:Yd},P.Nodup->P[i]?=!x->a[i]?=!v->kindOf x=!.local->bindL kindOf (P.zip a) m x=!v|[],_,_,_,_,h,_,_=>by simp at h|_::_,[],_,_,_,_,h,_=>by simp at h|p::P,w::a,0,m,nd,b,h2,hk=>by simp at b h2;subst b;subst h2;show bindL _ (%[p|w]::P.zip _) m p=_;ext bindL;rw[HV λv c=>(Jm.mp nd).1 (List.of_mem_zip c).1,Zd hk];simp|p::P,w::a,i+1,m,nd,b,h2,hk=>by show bindL _ (%[p|w]::P.zip _) m x=_;rw[HX () (by simpa using b) (by simpa using h2) hk]
theorem HY{kindOf:Str->02 NameKind} :∀{P:Yi}{a:Ye}{i:5}{m:Yd},P.Nodup->P[i]?=!x->a[i]?=!v->kindOf x≠!.local->bindC kindOf (P.zip a) m x=!v|[],_,_,_,_,h,_,_=>by simp at h|_::_,[],_,_,_,_,h,_=>by simp at h|p::P,w::a,0,m,nd,b,h2,hk=>by simp at b h2;subst b;subst h2;show bindC _ (%[p|w]::P.zip _) m p=_;ext bindC;rw[HW λv c=>(Jm.mp nd).1 (List.of_mem_zip c).1,Ze hk];simp|p::P,w::a,i+1,m,nd,b,h2,hk=>by show bindC _ (%[p|w]::P.zip _) m x=_;rw[HY () (by simpa using b) (by simpa using h2) hk]
noncomputable def start(N:Yi)(a:YB):St:=a.map some++List.replicate (⇑N-⇑a) 8
noncomputable def qm(h:k7)(P:Program)(w:World)(K:f')(mg:Yd)(base:Heap)(N:Yi)(b:Str)(a:Scope)(f:Addr)(g:Value)(A:Around)(outer:List Env)(s:Shared)(H:Hp)(E:XK):Cx where
 prog:=P
 w:=w
 K:=K
 mg:=mg
 base:=base
 A:=A.deeper (envOfC b a s⁻¹ f g)
 N:=N
 s₀:=s
 H₀:=H
 env:=envOfC b a s⁻¹ f g
 outer:=outer
 stack:=envOfC b a s⁻¹ f g::outer
 ex:=[]
 calm:=6
 fn:=λd=>6
 pn:=[]
 xe:=λe i=>wpAny (model P w) (A.deeper<|envOfC b a s⁻¹ f g) (leaving (envOfC b a s⁻¹ f g) e) (λb c=>h outer H s E e c) (λj c=>h outer H s E j c) i
def HZ{a:Scope} (h:a.names.lookup x=!.cell):∃c,(cellsFrom n a.names []).lookup x=!c:=have q:=W.cellsFrom_some _ n _<|.inl h;Ju.mp q
def Sl{K:f'}(S:FnScope N n a)(Q:A.handled=8)(l:Env0 P w K I m A g s H)(Z:⇑C=⇑n)(r:j6 C J)(x:InCallC s s⁻¹ (bindL (envOfC j a s⁻¹ f F).kindOf (n.zip J) λb=>8) (cellsFrom (s⁻¹+1) a.names []) (bindC (envOfC j a s⁻¹ f F).kindOf (n.zip J) λb=>8) R):Inv (qm T P w K I m N j a f F A g s H E) [] (start N C) H R:=by
 let U:⇑n<=⇑N:=by let:=Zt List.length S.pre;grind
 let(G tk,rfl,L):=x.done;let o:∀b:Addr,b∉(qm T P w K I m N j a f F A g s H E).ex:=λb z=>Zn (show b∈[]from z) ();rw[((l.mod,S.kind,9,9,Zf _,λy z c G M=>?_,λy hy=>?_,λy c _ h=>?_,λd=>Q,Around.frames_deeper l.frames,.inr (9,9),λb z=>Zn z<|o b,l.bs,l.bsz,λb d d=>o b,(),l.funs,l.frf),9,l.bare,Un.kept L,(_,x.toInCall.ns,λi y v G M h3=>?_),λy c h=>(_,x.cell y c h),l.hok.fresh<|Zf _,λy c h=>?_,λp t=>Zn (show p∈[]from t) (),l.hok.kept L,?_)];.rw[name_of_addr x.apart (PySem.mem_of_lookup G)<|PySem.mem_of_lookup M]
 .let hy:=hy;obtain hy|hy:=hy;.rw[HZ hy]
  .rw[Zn 9<|S.nofree _<|PySem.mem_of_lookup hy]
 .rw[Zz<|x.above y c<|PySem.mem_of_lookup h]
 .let hi:i<⇑C:=by grind[start,List.getElem?_replicate]
  let X:C[i]?=!v:=by grind[start,List.getElem?_map]
  let(-u,O,Y):=r.get X;let t:n[i]?=!y:=by rwa[<-S.pre,V1 ()]
  let B:n.Nodup:=by rw[<-S.pre];rw[S.nd.sublist<|List.take_sublist _ _]
  rw[(u,Y,?_)];rcases S.par y (Ug t)with k|k;.rw[.inl (k,HX B t O k)]
  .let(c,e):=HZ k;rw[.inr (.inl k,c,e,?_)];let q:=x.cell y c e;rwa[HY B t O (by show a.names.lookup y≠_;ext)]at q
 .rw[l.hok.fresh<|Zz<|x.above y c<|PySem.mem_of_lookup h]
 .ext start;show _=⇑N;ext
def Ia{K:f'} {dV kV F pm g ct oc:Value}(lk:K.lookup f=!(oc,od,.func<|W.fnOf G c i j a dV kV F pm an g ct,osl))(T:W.codeIn K g c=6)(S:FnScope N U a)(len:∀z H Q E,sp z H Q E->⇑z=⇑U)(m:∀A h s H z Q E,Room k (A.deeper<|envOfC c a s⁻¹ f g)->sp z H Q E->∃t,qY (qm X P w K mg l N c a f g A h s H E) j t/\t {nx:=λb B=>Q .non B,rt:=Q} (start N z) H):FnOk P w K mg l X (k+1) f (W.fnOf G c i j a dV kV F pm an g ct) U sp:=by
 rw[(len,λA h s H args us z Q E Y L hb r M=>?_)];let KX:=L.mod.kin.keeps λb o e=>(L.bs b o e).1;let p:∀y∈U.zip us,a.names.lookup y.1=!_\/a.names.lookup y.1=!_/\((cellsFrom (s⁻¹+1) _ []).lookup y.1).isSome=6:=λ z9 hy=>by
  let(n,v):=z9;obtain q|q:=S.par n (List.of_mem_zip hy).1;.rw[.inl q]
  .rw[.inr (q,W.cellsFrom_some _ _ _<|.inl q)]
 rw[codeAny_call_function Y.depth (KX _ _ lk) 9 S.co S.gen 9 (W.codeRec_of KX T)<|hb _ _ _ _<|wpAny_newFunctionEnv_cells S.kind p λenv he s1 x=>?_];subst he;rw[((L.mod.nolimit.keeps λb o e=>(L.bs b o e).1).keeps x.toInCall.keep,codeAny_func ?_)];let(t,ht,hq):=m A _ s H _ Q E (Y.deeper _) M;let I:Inv (qm X P w K _ _ N c _ f g A _ s H E) _ _ H _:=Sl S Y.hd L (len _ _ _ _ M) r x;rw[Zc (ht _ _ _ H _ I hq) (λfl s' C=>?_) λe s' C=>C];let O:∀{R:St}{B:Hp}{v:V}{u:Value},Inv (qm X P w K mg l N c a f g A h s H E) [] R B s'->jz v u->Q v _->CE _ P w H s Q u _:=λ{R B v u}J Z q=>(v,_,J.os,J.bare,J.base,J.hok,Z,q);cases(fl)with|ret u=>let(v R B,J,Z,q):=C;rw[O J Z q]|next=>let(R B,J,q):=C;rw[O (v:=V.non) J 9 q]|brk=>let(_ _,_,q):=C;rw[False.elim q]|cont=>let(_ _,_,q):=C;rw[False.elim q]
section
variable {t:TA}{id T:String}{r:YB->Hp->VK->Prop}
def wW(r:YB->Hp->VK->4)(t:TA):TE:=λZ H Q=>t Z H λa b=>r a b Q
def Av(g:qc X (.builtin id) r)(i:Gl X x)(j:X.mg x=8)(l:bootBuiltins x=! .builtin id)(m:PA X (e::a) t)(n:x ≠"__name__":=by decide)(b:(x==011)=7:=by decide)(o:01 (e::a) X.env=%[7|007]::01 a X.env:=by rfl)(c:(backTo f<|01 a X.env).any (·.1)=7:=by rfl):PE X (.Call (.Name x p) (e::a) [] f) (wW r t):=λY s Z H Q I h=>wpAny_Call_Name_kw<|Xx I i j l (PyProof.Rows.callWith_builtin1 (jG (m _ _ s _ H _ I h) λw y=>j3 λz A=>j7 λq u v=>g _ _ _ _ _ _ Q q u v) o c) n b
def YL(g:qc X (.type T) r)(i:Gl X x)(j:X.mg x=8)(l:bootBuiltins x=! .type T)(m:PA X (e::a) t)(n:x ≠"__name__":=by decide)(b:(x==011)=7:=by decide)(o:01 (e::a) X.env=%[7|007]::01 a X.env:=by rfl)(c:(backTo f<|01 a X.env).any (·.1)=7:=by rfl):PE X (.Call (.Name x p) (e::a) [] f) (wW r t):=λY s Z H Q I h=>wpAny_Call_Name_kw<|Xx I i j l (PyProof.Rows.callWith_type1 (jG (m _ _ s _ H _ I h) λw y=>j3 λz A=>j7 λq u v=>g _ _ _ _ _ _ Q q u v) o c) n b
end
end L2
namespace HT
open PySem PyProof.Rows
noncomputable def lexLt:Yf->List 3->Bool|[],[]=>7|[],_::_=>6|_::_,[]=>7|x::a,y::b=>if x=y then lexLt a b else decide (x<y)
theorem lexLt_cons(x y)(a b):lexLt (x::a) (y::b)=if x=y then lexLt a b else decide (x<y):=rfl
theorem lexLt_nil_nil:lexLt [] []=7:=rfl
def Sm(y)(a):lexLt [] (y::a)=6:=rfl
def Sn(x)(a):lexLt (x::a) []=7:=rfl
def So(A)(s)(a)(t)(c)(u):∃e,SeqAt.EqAt A s (.int a t) (.int c u) e/\(e=6↔a=c):=(_,SeqAt.EqAt.int_int a t c u,())
def Sq(A)(s)(a)(t)(c)(u)(b)(w)(E)(Q)(h:Q (.bool<|decide<|a<c) s):YF b w A (richCompare .Lt (.int a t)<|.int c u) Q E s:=PyProof.Rows.lt_int h
section
open PySem.SeqAt
open PySem.AutoSeq1 (wpAny_loadPart')
open PySem.MeetsSeq PySem.MeetsSeq2 PySem.MeetsSeq3
def Sr(l b:Addr)(i f:Yk)(n M:5)(N z:02 Addr)(O B:Array (02 Value))(C E:Yf)(P:IntsAre i.toList C)(Q:IntsAre f.toList E):Meets (Builtin.«tuple.__lt__» ([.ref l,.ref b],[])) λ_ R s=>↥s l=!{cls:=.type "tuple",dict:=N,data:=.seq i n,slots:=O}/\↥s b=!{cls:=.type "tuple",dict:=z,data:=.seq f M,slots:=B}/\R (.ok<|.ret<|.bool<|lexLt C E) s:=.of_wp λo w A R s h=>by
 let(F,g,d,G,os):=s;let(S,T,h):=h;let Z:=AutoSeq1.sub_tuple_tuple;let z1:i.size=⇑C:=by rw[<-⇑P];simp
 let z2:f.size=⇑E:=by rw[<-⇑Q];simp
 wp_walk using wpAny_loadPart' S,wpAny_loadPart' T,wpAny_forIn_list _ (λrest b H=>b.1=8/\H=(F,g,d,G,os)/\∃(r v:Ye)(j m:Yf),rest=r.zip v/\IntsAre r j/\IntsAre v m/\⇑j+f.size=⇑m+i.size/\R (.ok<|.ret<|.bool<|lexLt j m) (F,g,d,G,os)) _;case turn=>rintro⟨y,x⟩ rest b H ⟨hb',rfl,r,v,j,m,hz,hvi,hwi,hlen,hR⟩;cases(hvi)with|nil=>rw[List.zip_nil_left]at hz;cases hz|cons a t J=>cases(hwi)with|nil=>rw[List.zip_nil_right]at hz;cases hz|cons c u L=>rw[Vy]at hz;injection hz with hyx hrest;injection hyx with hy hx;subst hy hx;rw[lexLt_cons]at hR;simp only[Zu]at hlen;let(e,U,p):=So A.in1 (_,g,d,_,_) a t c u;rw[Za<|U o w _ _ ?_];cases(e)with
|true=>
rw[Zd (p.mp 9)]at hR
wp_walk
rw[()]|false=>
rw[Ze λq=>Zn (p.mpr q) Zj]at hR;let I:=Sq A.in1 (F,g,d,G,os) a t c u o w
wp_walk using I
rw[()]
 case fin=>
rintro⟨b1,b2⟩ H ⟨hb',rfl,r,v,j,m,hz,hvi,hwi,hlen,hR⟩;simp only at hb';subst hb';let X:lexLt j m=decide (i.size<f.size):=by cases hvi with
|nil=>cases(hwi)with|nil=>simp only[ZC]at hlen;rw[lexLt_nil_nil,];rw[()]|cons c u Y=>simp only[ZC,Zu]at hlen;rw[Sm,];rw[()]
|cons a t X=>cases(hwi)with|nil=>simp only[ZC]at hlen;rw[Sn,];rw[()]|cons c u Y=>cases hz
wp_walk
grind[Builtin.Tuple.tupleCompareSizes]
 grind
end
def lt_tupInts(q:IsTup s.heap l c)(r:IsTup s.heap b a)(t:IntsAre c.toList u)(v:IntsAre a.toList x)(y:A.units<cLine)(h:Q (.bool<|lexLt u x) s):YF m w A (compareOp .Lt (.ref l)<|.ref b) Q E s:=by let((z,B,o,C),F,G,n,H):=id q;let((p,e,data2,f),g,i,I,j):=id r;subst G H i j;rw[richCompare_meets_room (op:=.Lt) (_,F,9) (_,g,9) PySem.F.slot_tuple_lt PySem.F.entry_tuple_lt (PySem.F.args_tuple_lt_2 _ _) (Sr l b _ _ n I B e C f _ _ t v) () y]
def cat_tup(o:IsTup s.heap t f.toArray)(p:IsTup s.heap b c.toArray)(q:f ≠[])(r:c=[]->Q (.ref t) s)(u:c ≠[]->Q (.ref s⁻¹) {s with heap:=s.heap.push {cls:=.type "tuple",data:=.seq (f++c).toArray}})(v:⇑f+⇑c<=00):YF l w A (binaryOp .Add (.ref t)<|.ref b) Q E s:=by
 let((cls,C,data,F),g,x,n,y):=id o;let((m,z,data2,B),a,i,G,j):=id p;subst x y i j;let e:f.toArray++c.toArray=(f++c).toArray:=by simp
 cases h:c=[];.rw[concat_meets (_,g,9) (_,a,9) noFill_tuple_add seq_tuple_add PySem.F.slot_tuple_add PySem.F.entry_tuple_add (PySem.F.args_tuple_add_2 _ _) (tuple_addW1 t b _ _ n _ _ _ _ _ ()<|by simp[h]) (g,a,r h)]
 .rw[concat_meets (_,g,9) (_,a,9) noFill_tuple_add seq_tuple_add PySem.F.slot_tuple_add PySem.F.entry_tuple_add (PySem.F.args_tuple_add_2 _ _) (tuple_addW2 t b _ _ n _ _ _ _ _ (by simpa using q) (by simpa using h) ()) (g,a,?_)];rw[e,];rw[u h]
end HT
namespace L2
abbrev TO:=St->Hp->(02 3->Hp->4)->4
def PO(X:Cx)(e:02 Expr)(t:TO):4:=∀(Y:Yb)(s:Shared)(Z:St)(H:Hp)(Q:02 3->Hp->4),003->t Z H Q->YE X (evalPart e X.env) (λu b=>∃o a,Inv X Y Z a b/\IsPart u o/\Q o a) X.xe s
def nv:TO:=λb H Q=>Q 8 H
def gh(t:TE):TO:=λZ H Q=>t Z H λx a=>∃i,x=.int i/\Q (!i) a
def Ex:∀{a:Ye},j6 (b.map V.int) a->IntsAre a b:=by cases(b)with|nil=>intro a r;cases r;rw[.nil]|cons n b c=>intro a r;cases r with|cons f g=>let(t,e):=f;subst e;rw[.cons n t<|c g]
def Ss(h:PE X e a):PO X (!e) (gh a):=by intro Y s Z H Q I b;rw[jG (h _ s _ H _ I b) λu j=>j3 λx l=>j7 λc f g=>?_];let(i,rfl,q):=g;let(t,rfl):=f;rw[(_,_,c,.int i t,q)]
def gL(K:f'):R2:=λx y H Q=>∃a b e c,x=022/\y=.ref b/\yu K H a e/\yu K H b c/\e ≠[]/\⇑e+⇑c<=00/\(c=[]->Q 022 H)/\(c ≠[]->∀p,H p=8->Q (.ref p) (upd H p<|.tup<|e++c))
def j6.nil_iff(r:j6 c e):e=[]↔c=[]:=by cases(r)with|nil=>simp|cons _ _=>simp
def Su:xu X (binaryOp .Add) (gL X.K):=by intro Y s Z H x y v u Q I g i h;let(a b A B,rfl,rfl,j,l,m,C,n,o):=h;cases g;cases i;let(-p,e,r,_):=I.tuple j;let(-f,c,t,_):=I.tuple l;rw[HT.cat_tup r t (λz=>m<|e.nil_iff.mp z) (λz=>(022,H,I,9,n<|c.nil_iff.mp z)) (λz=>(.ref _,_,I.laid (λb E q=>Zq _ q) (Zf _) ?_,9,o (λw=>z<|c.nil_iff.mpr w) _<|I.hok.fresh<|Zf _)) (by rwa[<-⇑e,<-⇑c])];rw[(((),(_,Zr _ 9,9)),_,e.append c,IsTup.new _ _)]
noncomputable def wH(n:5)(i:3):02 5:=if 0<=i then if i<n then !i.toNat else 8 else if-(n:3)<=i then !(i+n).toNat else 8
def qO{α:Type}(a:List α)(i:3):02 α:=(wH ⇑a i).bind λj=>a[j]?
def Sv(h:wH n i=!j):seqIndex? i n=!j/\j<n/\-(n:3)<=i/\i<n:=by
 unfold wH at h;split at h
 .split at h
  .cases h;exact⟨seqIndex_of (by assumption) (by assumption),by lia,by lia,by assumption⟩
  .cases h
 .split at h
  .cases h;exact⟨seqIndex_neg (by lia) (by assumption),by lia,by assumption,by lia⟩
  .cases h
def Ey(h:qO a i=!v):∃j,seqIndex? i ⇑a=!j/\a[j]?=!v/\j<⇑a/\-(⇑a:3)<=i/\i<⇑a:=by unfold qO at h;induction e:wH ⇑a i with|none=>ext|some j=>rw[e]at h;let(!b,c,f,g):=Sv e;rw[(j,b,h,c,f,g)]
def Aw(b:Expr):4:=∀o i,subscripted b 7 o i=operate [o,i] (getItem o i)
def zP(X:Cx)(r:R2):4:=∀(b a:Expr)(Y:Yb)(s:Shared)(Z:St)(H:Hp)(x y:V)(v u:Value)(Q:VK),003->jz x v->jz y u->r x y H Q->subscripted a 7 v u=operate [v,u] (getItem v u)->YE X (subscriptTail b a v u) (EP X Y Z Q) X.xe s
def kN(X:Cx)(id:String)(r:V->YB->Hp->VK->4):4:=∀(Y:Yb)(s:Shared)(Z:St)(H:Hp)(x:V)(a:YB)(v:Value)(b:Ye)(Q:VK),003->jz x v->j6 a b->r x a H Q->YE X (call (.builtin id)<|v::b) (EP X Y Z Q) X.xe s
section
def zP.or(h:zP X r)(l:zP X n):zP X λx y H Q=>r x y H Q\/n x y H Q:=by
 intro c e Y s Z H x y v u Q I f i q j;obtain q|q:=q;.rw[h _ _ _ s _ H x y v u Q I f i q j]
 .rw[l _ _ _ s _ H x y v u Q I f i q j]
def BP(c:zP X r)(e:PE X a f)(g:PE X b i)(j:Aw b):PE X (.Subscript a b l) (uN r f i):=λY s Z H Q I h=>Subscript_<|kf e g I h λv u p x y t m n o q=>c a b _ _ _ _ x y v u Q m n o q<|j _ _
def gJ(K:f'):R2:=λx y H Q=>∃p a i v,x=.ref p/\y=.int i/\qR K H p a/\qO a i=!v/\Q v H
def gH(K:f'):R2:=λx y H Q=>∃p a i v,x=.ref p/\y=.int i/\yu K H p a/\qO a i=!v/\Q v H
def sH:R2:=λx y H Q=>∃z i c,x=.str z/\y=.int i/\⇑z<=00/\qO z.cps.toList i=!c/\Q (.str ⟨#[c]⟩) H
def rE:zP X (gJ X.K):=by
 intro b c Y s Z H x y v u Q I B C h m;let(p M i z,rfl,rfl,E,F,q):=h;cases B;let(t,rfl):=C;let(-e,r,f,N):=I.list E;let(-j,n,G,O,J,L):=Ey F;let(-w,o,g):=r.get G;let P:=⇑r;let R:=Aq;let a:EP X _ _ Q w s:=(z,H,I,g,q);cases A:0<=i
 .let l:i.toNat=j:=by rw[seqIndex_of A L]at n;ext
  rw[item_listR f.isList A () (by rw[l,];simpa using o) a m]
 .let l:(i+e.toArray.size).toNat=j:=by rw[seqIndex_neg () J]at n;ext
  rw[subscriptTail_builtinR f.isList.typeIs slot_list_getitem.lookup (wpAny_getItem_list_neg f.isList () () () (by rw[l,];simpa using o) (9,a)) m]
def cX:zP X (gH X.K):=by intro a b Y s Z H x y v u Q I g l h m;let(p E i z,rfl,rfl,n,o,q):=h;cases g;let(t,rfl):=l;let(-A,r,f,F):=I.tuple n;let(-j,G,B,J,L,M):=Ey o;let(-w,C,c):=r.get B;let N:=⇑r;let O:=Aq;let e:EP X _ _ Q w s:=(z,H,I,c,q);rw[subscriptTail_builtinR f.typeIs slot_tuple_getitem.lookup (getItem_tuple (j:=j) f () () () (by simpa using C) (9,e)) m]
def rIx(K:f'):R2:=λx y H Q=>gJ K x y H Q\/gH K x y H Q\/sH x y H Q
def Sw:zP X (rIx X.K):=rE.or<|cX.or<|by
 intro a b Y s Z H x y v u Q I f g h l;let(z i c,rfl,rfl,w,m,q):=h;let(t,rfl):=f;let(A,rfl):=g;let(-j,e,n,B,o,p):=Ey m;let r:⇑z.cps.toList=⇑z:=by rfl
 rw[r]at e o p;let C:=Aq;rw[tail_any (typeIs_str s z t) slot_str_getitem.lookup (getItem_str (by grind) (by rw[e,];simpa using n) (.str _,H,I.tok _,(_,9),q)) l]
def Sx:qc X (.builtin "len") λg H Q=>∃p b,g=[.ref p]/\(qR X.K H p b\/yu X.K H p b)/\Q (.int ⇑b) H:=by
 intro Y s Z H g l Q I r h;let(p b,rfl,hq,q):=h;let(-u,rfl,i):=Qu r;cases i;let m:=Aq;obtain hq|hq:=hq;.let(c,e,f,j):=I.list hq;let a:=⇑e;rw[Calls.call_len_list f.isList () (.int _,H,I.tok _,(s.toks+1,()),q)]
 .let(c,e,f,j):=I.tuple hq;let a:=⇑e;rw[len_tuple f () (.int _,H,I.tok _,(s.toks+1,()),q)]
def Sy:qc X (.builtin "len") λa H Q=>∃z,a=[.str z]/\⇑z<=00/\Q (.int ⇑z) H:=by intro Y s Z H a b Q I r h;let(z,rfl,c,q):=h;let(-u,rfl,(t,rfl)):=Qu r;let e:=Aq;rw[len_str () (.int _,H,I.tok _,(_,9),q)]
def qc.or(h:qc X f r)(i:qc X f j):qc X f λc H Q=>r c H Q\/j c H Q:=by
 intro Y s Z H c l Q I e q;obtain q|q:=q;.rw[h _ s _ H _ _ Q I e q]
 .rw[i _ s _ H _ _ Q I e q]
def Sz:qc X 017 λA H Q=>∃p g,A=[.ref p]/\(qR X.K H p g\/yu X.K H p g)/\∀l,H l=8->Q (.ref l) (upd H l<|.lst g):=by
 intro Y s Z H A C Q I r h;let(p g,rfl,hq,q):=h;let(-u,rfl,B):=Qu r;cases B;let i:∀a,j6 _ a->⇑g<=00->∀f v,(∀b E,↥s b=!_->f.get? b=!_)->f.get? s⁻¹=!{cls:=017,dict:=8,data:=.seq a.toArray v,slots:=#[]}->EP X _ _ Q _ {s with heap:=f}:=λa c j f v m e=>(.ref _,_,I.laid m (Zf _)<|show y0 _ _ _ _ _ (.lst _)from(j,_,_,c,e),9,q _<|I.hok.fresh<|Zf _);obtain hq|hq:=hq;.let(a,c,w,j):=I.list hq;let t:=⇑c;let(o,x,y,n,z):=w.isList;rw[call_list_seq p 006 x y z (λf v m e=>i _ c j _ _ m e)<|by simp<;>lia]
 .let(a,c,w,j):=I.tuple hq;let t:=⇑c;let(o,x,y,n,z):=w;rw[call_list_seq p (.inr 9) x y z (λf v m e=>i _ c j _ _ m e)<|by simp<;>lia]
def S0:qc X (.type "tuple") λj H Q=>∃p a,j=[.ref p]/\((qR X.K H p a/\∀l,H l=8->Q (.ref l) (upd H l<|.tup a))\/yu X.K H p a/\Q (.ref p) H):=by
 intro Y s Z H j z Q I r h;let(p,a,rfl,h):=h;let(-u,rfl,w):=Qu r;cases w;obtain⟨c,q⟩|⟨c,q⟩:=h;.let(-f,g,i,m):=I.list c;let n:=⇑g;rw[call_tuple_list i.isList (λt x=>?_) ()];let v:Inv X _ _ H {s with heap:=t}:=I.kept x;let y:Inv X _ _ (upd H _<|.tup _) {s with heap:=t.push _}:=v.laid (λb o e=>Zq _ e) (Zf _)<|((m,(_,Zr _ 9,9)),_,g,IsTup.new _ _);rw[(.ref _,_,y,9,q _<|v.hok.fresh<|Zf _)]
 .let(-f,g,i,m):=I.tuple c;rw[call_tuple_same i (.ref p,H,I,9,q)]
def rM(K:f')(T:String)(x:V)(H:Hp):4:=match x with|.str _=>T="str"|.int _=>T="int"|.ref p=>(T="list"/\∃b,qR K H p b)\/(T="tuple"/\∃o,K.lookup p=!o/\o.cls=.type "tuple"/\o.dict=8)\/T="dict"/\((∃a,H p=! .dK a)\/∃a,H p=! .dT a)\/T="set"/\∃S n,H p=! .set S n|_=>False
def Ib{Z:St} (I:003)(r:jz x v)(g:rM X.K T x H):s.TypeIs v T/\∀a,v=022->∃m,↥s a=!m/\m.dict=8:=by cases(x)with
|str z=>let(t,rfl):=r;cases g;rw[(typeIs_str s z t,λb e=>nomatch e)]|int i=>let(t,rfl):=r;cases g;rw[(typeIs_int s i t,λb e=>nomatch e)]|ref p=>
cases r;obtain⟨rfl,A,u⟩|⟨rfl,o,b,w,h⟩|⟨rfl,b⟩|⟨rfl,S,n,b⟩:=g
.let(-y,_,q,_):=I.list u;rw[(q.isList.typeIs,λa e=>?_)];cases e;let(o n,e,c,h,_):=q;rw[(o,e,h)]
.rw[((o,I.kIn p o b,w),λa e=>?_)];cases e;rw[(o,I.kIn _ o b,h)]
.let z:∃o,↥s p=!o/\o.ExactDict:=by
  obtain⟨j,b⟩|⟨j,b⟩:=b;.let(_,_,_,_,o,_,_,e,f,_):=I.hok p _ b;rw[(o,e,f)]
  .let(!_,_,(_,_,o,_,_,e,f,_)):=I.hok p _ b;rw[(o,e,f)]
 let(o,e,f):=z;rw[((o,e,f.1),λa l=>?_)];cases l;rw[(o,e,f.2.1)]
.let(o _ _ _,e,f,_):=I.hok p _ b;rw[((o,e,f.1),λa l=>?_)];cases l;rw[(o,e,f.2.1)]|_=>rw[False.elim g]
def uO(K:f')(T:String)(r:V->YB->Hp->VK->4)(b:TE):TE:=λZ H Q=>b Z H λx a=>rM K T x a/\r x [] a Q
def u2(K:f')(T:String)(r:V->YB->Hp->VK->4)(b:TE)(t:TA):TE:=λZ H Q=>b Z H λx a=>rM K T x a/\t Z a λc e=>r x c e Q
variable {T id:String}
def Ic(m:PlainAttrs T)(e:Slot T a id)(i:typeOf (.builtin id)=pure (.type "method_descriptor"))(n:kN X id r)(p:PE X o q)(b:attributeBase o a X.env (eval o X.env)=eval o X.env:=by rfl)(c:(f.endLine==g.line)=6:=by rfl):PE X (.Call (.Attribute o a f) [] [] g) (uO X.K T r q):=by intro Y s Z H Q I h;rw[wpAny_Call_method0_late b c<|jG (p _ s _ H _ I h) λv z=>j3 λx A=>qT λj l t u=>?_];let(w,y):=Ib j l t;rw[qE T _ (m,e,i,w,y,Calls.callWith_builtin 9<|PySem.evalArgs_none<|n _ _ _ _ x _ v [] Q j l .nil u)]
def Q7(w:PlainAttrs T)(j:Slot T c id)(n:typeOf (.builtin id)=pure (.type "method_descriptor"))(y:kN X id r)(z:PE X o A)(B:PA X (e::i) t)(f:attributeBase o c X.env (eval o X.env)=eval o X.env:=by rfl)(l:((backTo a<|01 (e::i) X.env).all (λx=>not<|x.1)&&(backToKw a<|keywordEach [] X.env).all (λx=>x.1.isSome)&&decide (⇑(e::i)+⇑([]:List Keyword)+(if([]:List Keyword).isEmpty then 0 else 1)<30))=6:=by rfl)(g:(m.endLine==a.line)=6:=by rfl)(C:01 (e::i) X.env=%[7|007]::01 i X.env:=by rfl)(b:(backTo a<|01 i X.env).any (·.1)=7:=by rfl):PE X (.Call (.Attribute o c m) (e::i) [] a) (u2 X.K T r A t):=by intro Y s Z H Q I h;rw[wpAny_Call_method_late f l g 9<|jG (z _ s _ H _ I h) λv P=>j3 λx R=>qT λp q E F=>?_];let(G,J):=Ib p q E;rw[(T,_,w,j,n,G,J,?_)];let u:=B a _ _ _ _ _ p F;rw[C]at u ⊢;rw[Calls.callWith_builtin (by show(7||(backTo _ _).any _)=7;rw[b,]<;>rfl)<|Calls.evalArgs_plain<|jG u λL S=>j3 λU H2=>j7 λM N O=>y _ _ _ _ x _ v L Q M q N O]
end
def da(X:Cx)(id:String)(r:V->YB->Hp->VK->4):4:=∀(Y:Yb)(s:Shared)(Z:St)(H:Hp)(x:V)(a:YB)(v:Value)(b:Ye)(Q:VK),003->jz x v->j6 a b->r x a H Q->YE X (call (.builtin id)<|v::b) (EP X Y Z Q) X.xe s
def j6.one:∀{x:V}{c:Ye},j6 [x] c->∃u,c=[u]/\jz x u:=λh=>by cases h with|cons r t=>cases t;rw[(_,9,r)]
def j6.two:∀{x y:V}{c:Ye},j6 [x,y] c->∃u v,c=[u,v]/\jz x u/\jz y v:=λh=>by cases h with|cons r t=>cases t with|cons e t=>cases t;rw[(_,_,9,r,e)]
def ww:∀{c:Ye},j6 [] c->c=[]|_,.nil=>9
section
variable {Z: St}
def Inv.lset{i c:Ye} (I:003)(o:H l=! .lst z)(e:↥s l=!{cls:=017,data:=.seq i.toArray n})(p:f i.toArray=c.toArray)(r:j6 j c)(v:⇑j<=00):Inv X Y Z (upd H l<|.lst j) {s with heap:=s.heap.update l (Obj.mapSeq f),toks:=B}:=by let q:=PySem.IsL.update e f;rw[p]at q;rw[I.write (by rw[o,];rw[trivial]) 006 (λE u x y=>(Heap.get?_update_other _ _<|Ne.symm x).trans y) (_,q) (v,_,_,r,q)]
def Inv.lnew(I:003)(f:j6 e c)(i:⇑e<=00):Inv X Y Z (upd H s⁻¹<|.lst e) {s with heap:=s.heap.push {cls:=017,data:=.seq c.toArray},toks:=j}:=I.laid (λb b q=>Zq _ q) (Zf _) (i,_,0,f,Zr _ 9)
theorem Inv.fresh(I:003):H s⁻¹=8:=I.hok.fresh<|Zf _
def Inv.lstM(I:003)(i:H l=! .lst f):⇑f<=00/\∃(c:Ye)(n:5),j6 f c/\⇑f=⇑c/\↥s l=!{cls:=017,data:=.seq c.toArray n}:=by let(z,c,n,r,e):=I.hok l _ i;rw[(z,_,n,r,⇑r,e)]
def S3(h:n<=00):Builtin.List.listTooLong n=7:=by simp_all[Builtin.List.listTooLong]
end
def BQ:V->YB->Hp->VK->4:=λx b H Q=>∃l a y,x=.ref l/\b=[y]/\H l=! .lst a/\⇑a<00/\Q .non (upd H l<|.lst<|a++[y])
def KH:da X "list.append" BQ:=by intro Y s Z H x i v j Q I b c h;let(l m y,rfl,rfl,a,o,q):=h;cases b;let(-u,rfl,f):=c.one;let(z,g,n,r,p,e):=I.lstM a;rw[call_meets F.slot_list_append (_,e,9) F.entry_list_append (F.args_list_append_2 _ _) (PySem.list_append l _ n u ()) (e,(.non,_,I.lset a e () (r.append<|.cons f .nil) ?_,9,q))];grind
def Ie:V->YB->Hp->VK->4:=λx e H Q=>∃l b a c,x=.ref l/\e=[.ref b]/\H l=! .lst a/\H b=! .lst c/\⇑a+⇑c<=00/\Q .non (upd H l<|.lst<|a++c)
def Ig:da X "list.extend" Ie:=by
 intro Y s Z H x A v B Q I j m h;let(l b C E,rfl,rfl,i,o,G,q):=h;cases j;let(-u,rfl,p):=m.one;cases p;let(z,c,n,r,J,e):=I.lstM i;let(L,a,M,t,w,y):=I.lstM o;let g:c.toArray.size+a.toArray.size<=00:=by ext
 let f:¬(not c.toArray.isEmpty&&Builtin.List.listTooLong (c.toArray.size+a.toArray.size))=6:=by rw[S3 g,Vl];rw[Zj]
 rw[call_meets F.slot_list_extend (_,e,9) F.entry_list_extend (F.args_list_extend_2 _ _) (AutoSeq1.list_extend_list_list_0 l _ n b _ _ f () ()) (e,y,(.non,_,I.lset i e () (r.append t) ?_,9,q))];ext
set_option maxRecDepth 100000 in
section
variable {κ: Type}[DecidableEq κ]
noncomputable def qq(a:List (κ × V))(k:κ):02 V:=(a.find? λb=>decide<|b.1=k).map (·.2)
noncomputable def qJ(a:List (κ × V))(k:κ)(v:V):List (κ × V):=if a.any λb=>decide<|b.1=k=6 then a.map λb=>if b.1=k then%[b.1|v]else b else a++[%[k|v]]
def Ez{k:κ}(e:p.1=k):qq (p::r) k=!p.2:=by simp[qq,e]
theorem E1{k:κ}(e:¬p.1=k):qq (p::r) k=qq r k:=by simp[qq,e]
theorem Ih(k):∀a:List (κ × V),a.any λb=>decide<|b.1=k=(qq a k).isSome
|[]=>9|p::r=>by
 rw[List.any_cons,];cases e:p.1=k;.simp[Ez e,Zp e]
 .rw[E1 e,Zo e,Bool.false_or];rw[Ih k r]
def BR(a:List (κ × V))(k)(v):⇑(qJ a k v)<=⇑a+1:=by grind[qJ,Zql,List.length_append,List.length_cons,List.length_nil]
def xE.isSome_eq(r:xE o u):o.isSome=u.isSome:=by cases(o)with
|none=>cases(u)with|none=>rfl|some _=>rw[(r).elim]
|some _=>cases(u)with|none=>rw[(r).elim]|some _=>rfl
theorem xE.getD(r:xE o u)(c:jz d e):jz (o.getD d) (u.getD e):=by cases(o)with
|none=>cases(u)with|none=>rw[c]|some _=>rw[(r).elim]
|some _=>cases(u)with|none=>rw[(r).elim]|some _=>rw[r]
def KV.val{f:List (κ × Value)}(r:KV c f)(k):xE (qq c k) (valueAt f k):=by cases(r)with|nil=>rw[True.intro]|@cons p q j i h t l=>
let(n,o):=h;cases e:p.1=k
.let b:valueAt (q::i) k=!q.2:=by simp_all[valueAt]
 rwa[Ez e,b]
grind[valueAt,E1]
theorem KV.any{f:List (κ × Value)}(r:KV c f)(k):c.any λe=>decide<|e.1=k=f.any λe=>decide<|e.1=k:=by cases(r)with|nil=>rfl|cons h t i=>ext
def KV.repl{f:List (κ × Value)}(r:KV e f)(k) (j:jz y u):KV (e.map λc=>if c.1=k then%[c.1|y]else c) (f.map λc=>if c.1=k then%[c.1|u]else c):=by cases(r)with|nil=>rw[.nil]|@cons p q l n h t i=>
rw[.cons ?_ i]
grind
def KV.put{c:List (κ × Value)}(r:KV f c)(k) (i:jz y u):KV (qJ f k y) (stored c k u):=by
 ext qJ stored;rw[r.any,];cases e:c.any λj=>decide<|j.1=k=6;.rw[Zd e,Zd e];rw[r.repl k i]
 .rw[Ze e,Ze e];rw[Paired.snoc r (9,i)]
theorem KV.length{e:List (κ × Value)}(r:KV c e):⇑c=⇑e:=Paired.length r
end
def Wz(r:jz (kV k) u):(QC P w).is k u=6:=by cases(k)with|inl i=>let(t,e):=r;subst e;rw[Ht i t]|inr x=>let(t,e):=r;subst e;rw[R3 x t]
theorem Ii:∀{a:List jI}{b:Ye},j6 (a.map kV) b->ItemsAre (QC P w) a b|[],_,r=>by cases r;rw[.nil]|k::a,_,r=>by cases r with|cons h t=>rw[.cons (Wz h)<|Ii t]
abbrev KT(H:Hp):List (List jI×V)->List (List jI×Addr×Value)->4:=Paired λp q=>p.1=q.1/\H q.2.1=!(.tup<|p.1.map kV)/\jz p.2 q.2.2
def KT.val(r:KT H c f)(k):xE (qq c k) ((atKey f k).map (·.2)):=by cases(r)with|nil=>rw[True.intro]|@cons p q j i h t l=>
let(!n,_,o):=h;cases e:p.1=k
.let b:atKey (q::i) k=!q.2:=by simp_all[atKey]
 rwa[Ez e,b]
grind[atKey,E1]
def KT.repl(r:KT H c f)(k) (j:jz y u):KT H (c.map λe=>if e.1=k then%[e.1|y]else e) (f.map<|putAt k u):=by cases(r)with|nil=>rw[.nil]|@cons p q l n h t i=>
rw[.cons ?_ i]
grind[putAt]
def KT.put(r:KT H c f)(k) (j:H b=!(.tup<|k.map kV))(i:jz y u):KT H (qJ c k y) (storedH f k b u):=by
 let e:c.any λl=>decide<|l.1=k=(atKey f k).isSome:=by rw[Ih,(r.val k).isSome_eq,Option.isSome_map]
 ext qJ storedH;rw[e,];cases q:(atKey f k).isSome=6;.rw[Zd q,Zd q];rw[r.repl k i]
 .rw[Ze q,Ze q];rw[Paired.snoc r (9,j,i)]
def KT.keeps(r:KT H c f)(j:∀b e,H b=! .tup e->i b=! .tup e):KT i c f:=xW r ()
def Ij(ok:xc P w H h)(e:Rd H a u):y0 P w H h a u:=e.ok ok
def W0(ok:xc P w H h)(e:Rd H a (.dK b)):⇑b<=00/\(a==sysModules)=7/\∃c,KV b c/\h.DictOf (QC P w) a c:=Ij ok e
def Ax(ok:xc P w H h)(e:H a=! .dK b):⇑b<=00/\(a==sysModules)=7/\∃c,KV b c/\h.DictOf (QC P w) a c:=W0 ok<|.inl e
theorem Xy(ok:xc P w H h)(e:H a=!(.tup<|b.map kV)):(tupleKind<|QC P w).is h b a:=by let(_,c,r,o,f,g,n,i):=ok a _ e;rw[je o _ n (f,g,i,by simpa using Ii r)]
def WK(ok:xc P w H h)(e:Rd H a (.dT b)):⇑b<=00/\(a==sysModules)=7/\∃c,KT H b c/\h.DictOfH (tupleKind<|QC P w) a c:=by
 let(!z,y,(c,r,o,u,v,g,i,j,n,s)):=Ij ok e;rw[(z,y,_,r,o,_,_,g,i,j,n,λx f=>?_,s)];let all:∀{l:List _}{m:List _},KT H l m->∀x∈m,(tupleKind<|QC P w).is h x.1 x.2.1:=by intro l m q;cases(q)with|nil=>intro x f;rw[nomatch f]|@cons p q A B C t E=>grind[Xy]
 rw[all r x f]
def mo(ok:xc P w H h)(e:H a=! .dT b):⇑b<=00/\(a==sysModules)=7/\∃c,KT H b c/\h.DictOfH (tupleKind<|QC P w) a c:=WK ok<|.inl e
def xl(H:Hp)(a:Addr)(y:V)(r:02 V):4:=(∃c k,Rd H a (.dK c)/\y=kV k/\r=qq c k)\/∃c k b,Rd H a (.dT c)/\y=.ref b/\H b=!(.tup<|k.map kV)/\r=qq c k
def wD(H:Hp)(a:Addr)(y v:V)(e:Hp):4:=(∃c k,H a=! .dK c/\y=kV k/\⇑c<00/\e=upd H a (.dK<|qJ c k v))\/∃c k b,H a=! .dT c/\y=.ref b/\H b=!(.tup<|k.map kV)/\⇑c<00/\e=upd H a (.dT<|qJ c k v)
theorem xl.k{k:jI}(e:H a=! .dK c):xl H a (kV k) (qq c k):=.inl (_,k,.inl e,9,9)
theorem wD.k{k:jI} (e:H a=! .dK c)(f:⇑c<00):wD H a (kV k) v (upd H a<|.dK<|qJ c k v):=.inl (_,k,e,9,f,9)
section
variable {Z: St}
def Inv.big(I:003):sysModules<s⁻¹:=have h:=(I.mod.glob.keeps I.bk).lt;Uh 004 h
def S4(w:A.units+1<cLine)(I:003)(g:xl H a y !v)(r:jz y u)(h:∀i t,Inv X Y Z H t->jz v i->Q i t):wpAny 015 A (getItem 022 u) Q E s:=by
 obtain⟨j,k,e,m,l⟩|⟨j,k,b,e,m,x,l⟩:=g;.subst m;let(!z,B,(F,c,n)):=W0 I.hok e;let(i,o,f):=qX (by rw[l,];rw[c.val k]);rw[wpAny_getItem_of (Wz r) n.mapOf o<|h _ _ (I.tok _) f]
 .subst m;cases r;let(!z,B,(G,c,n)):=WK I.hok e;let(-i,o,f):=qX (by rw[l,];rw[c.val k]);let(-p,C,q):=Jh.mp o;rw[wpAny_getItem_heap (tupleKind_room_in1 w) (Xy I.hok x) n C ?_];rw[q,];rw[h _ _ (I.tok _) f]
def tN(r:A.units+1<cLine)(I:003)(g:xl H a y o)(n:jz y u)(h:∀p,Inv X Y Z H p->Q (.bool o.isSome) p):wpAny 015 A (compareOp .In u<|022) Q E s:=by
 obtain⟨f,k,e,i,l⟩|⟨f,k,b,e,i,t,l⟩:=g;.subst i;let(!z,j,(v,c,m)):=W0 I.hok e;rw[wpAny_in_of (Wz n) j m.mapOf ?_];rw[<-(c.val k).isSome_eq,<-l];rw[h _<|I.tok _]
 .subst i;cases show u=Value.ref b from n;let(!z,j,(w,c,m)):=WK I.hok e;rw[wpAny_in_heap (tupleKind_room_in1 r) (Xy I.hok t) j m ?_];let q:=(c.val k).isSome_eq;rw[Option.isSome_map]at q;rw[<-q,<-l];rw[h _<|I.tok _]
def S5(r:A.units+1<cLine)(I:003)(g:xl H a y o)(n:jz y u)(h:∀p,Inv X Y Z H p->Q (.bool<|not o.isSome) p):wpAny 015 A (compareOp .NotIn u<|022) Q E s:=by
 obtain⟨f,k,e,i,l⟩|⟨f,k,b,e,i,t,l⟩:=g;.subst i;let(!z,j,(v,c,m)):=W0 I.hok e;rw[wpAny_notIn_of (Wz n) j m.mapOf ?_];rw[<-(c.val k).isSome_eq,<-l];rw[h _<|I.tok _]
 .subst i;cases n;let(!z,j,(w,c,m)):=WK I.hok e;rw[wpAny_notIn_heap (tupleKind_room_in1 r) (Xy I.hok t) j m ?_];let q:=(c.val k).isSome_eq;rw[Option.isSome_map]at q;rw[<-q,<-l];rw[h _<|I.tok _]
def E2(I:003)(f:mP (H a))(g:Heap.SameBut a s.heap c)(h:∃q,c.get? a=!q)(new:y0 X.prog X.w (upd H a e) c a e):Inv X Y Z (upd H a e) {s with heap:=c,toks:=j}:=I.write f 006 (λb q i z=>(g.2 b i).trans z) h new
def E3(z:⇑b<=00)(e:(a==sysModules)=7)(c:KV b f)(g:h.DictOf (QC P w) a f):y0 P w i h a (.dK b):=(z,e,_,c,g)
def S6(M:A.units+1<cLine)(I:003)(g:wD H a y v N)(B:jz y u)(C:jz v r)(h:∀F,Inv X Y Z N F->Q Yq F):wpAny 015 A (setItem 022 u r) Q E s:=by
 obtain⟨f,k,e,n,l,o⟩|⟨f,k,b,e,n,G,l,o⟩:=g
 .subst n o;let(!z,p,(O,i,t)):=Ax I.hok e;let J:⇑O<=00:=by rwa[<-⇑i]
  let w:⇑(qJ f k v)<=00:=by let:=BR f k v;lia
  rw[wpAny_setItem_pairs (hsz:=J) (Wz B) t λL j x=>h _ ?_];let P:∃q,L.get? a=!q:=f8 j λq _ _=>j4 λm _=>(q,m);rw[E2 I (by rw[e,];rw[True.intro]) x P<|E3 w p (i.put k C) j]
 .subst n o;cases B;let(!z,p,(R,i,t)):=mo I.hok e;let J:⇑R<=00:=by rwa[<-Paired.length i]
  let w:⇑(qJ f k v)<=00:=by let:=BR f k v;lia
  rw[wpAny_setItem_heap (tupleKind_room_in1 M) (Xy I.hok G) t λL j x=>h _ ?_];let(q es ep,m,S,T,U,_,h5):=j;rw[E2 I (by rw[e,];rw[True.intro]) x (q,m) (w,p,_,(i.put k G C).keeps λc ys ec=>?_,q,_,_,m,S,T,U,h5)];rwa[JC (),]
end
section
variable {Z: St}
def ms(I:003)(e:Rd H a (.dK c))(h:∀t f,Inv X Y Z H f->Q (.int ⇑c t) f):wpAny 015 A (call (.builtin "len") [022]) Q E s:=by let(!z,g,(j,b,i)):=W0 I.hok e;rw[call_len_dict g i (by rw[<-⇑b];rw[sizeLine_eq]at z;lia) ?_];rw[<-⇑b];rw[h _ _<|I.tok _]
end
def vh(i:Expr):4:=∀a b,subscripted i 7 a b=operate [a,b] (getItem a b)
def S7{T id:String}(f:typeLookup (.type T) "__getitem__"=pure ! .builtin id)(g:vh b)(h:YF a w A (eval c e) (λo s₁=>YF a w A (eval b e) (λi s₂=>s₂.TypeIs o T/\YF a w A (getItem o i) Q E s₂) E s₁) E s):YF a w A (eval (.Subscript c b j) e) Q E s:=by
 rw[Subscript_<|Zc h (λo s₁ h₁=>Zc h₁ (λi s₂ h₂=>?_) λb b x=>x) λb b x=>x];let(l,h₂):=h₂;rw[Za<|Za<|wpAny_specialOf l f ?_];let m:YF a w A (subscripted b 7 o i) (λr s₃=>YF a w A (letTemporaryGo c o r>>=λb=>pure r) Q E s₃) E s₂:=by rw[g,];rw[wpAny_operating<|Zc h₂ (λr s₃ h₃=>Za<|wpAny_letTemporaryGo<|Zb h₃) λb b x=>x]
 grind[wpAny_pure,wpAny_bind]
def gv(c e:TE):TE:=λZ H Q=>c Z H λx f=>e Z f λy b=>∃a v,x=022/\xl b a y !v/\Q v b
def sj(c e:TE):TE:=λZ H Q=>c Z H λy f=>e Z f λx b=>∃a o,x=022/\xl b a y o/\Q (.bl o.isSome) b
def S8(c e:TE):TE:=λZ H Q=>c Z H λy f=>e Z f λx b=>∃a o,x=022/\xl b a y o/\Q (.bl<|not o.isSome) b
def gD(c e f:TE):TS:=λD Z H=>f Z H λv g=>c Z g λx h=>e Z h λy i=>∃a b,x=022/\wD i a y v b/\D.nx Z b
def E4(m:X.A.units+1<cLine)(n:PE X o p)(q:PE X i r)(t:vh i):PE X (.Subscript o i w) (gv p r):=by intro Y s Z H Q I h;rw[S7 PySem.F.slot_dict_getitem.lookup t<|jG (n _ s _ H _ I h) λu J=>j3 λx L=>j7 λz A B=>jG (q _ _ _ _ _ z B) λM N z9=>?_];let(y,O,c,C,a,v,E,g,F):=z9;subst E;obtain rfl:=A;rw[(by
obtain⟨f,k,e,_,_⟩|⟨f,k,b,e,_,_,_⟩:=g
.let(!_,_,(P,_,j)):=W0 c.hok e;rw[j.typeIs]
.let(!_,_,(R,_,j)):=WK c.hok e;rw[j.typeIs],S4 m c g C λS T G l=>(v,_,G,l,F))]
def S9(b:X.A.units+1<cLine)(c:PE X i e)(f:PE X o j):PC X .In i o (sj e j):=by intro Y s Z H Q I h;rw[jG (c _ s _ H _ I h) λw z=>j3 λy A=>j7 λl m n=>jG (f _ _ _ _ _ l n) λu B z9=>?_];let(x,C,p,q,a,E,r,g,t):=z9;subst r;obtain rfl:=q;rw[tN b p g m λF v=>(.bl _,_,v,9,t)]
def Ik(b:X.A.units+1<cLine)(c:PE X i e)(f:PE X o j):PC X .NotIn i o (S8 e j):=by intro Y s Z H Q I h;rw[jG (c _ s _ H _ I h) λw z=>j3 λy A=>j7 λl m n=>jG (f _ _ _ _ _ l n) λu B z9=>?_];let(x,C,p,q,a,E,r,g,t):=z9;subst r;obtain rfl:=q;rw[S5 b p g m λF v=>(.bl _,_,v,9,t)]
def Il(f:X.A.units+1<cLine)(j:PE X o l)(m:PE X i n)(p:PE X b q)(t:swapsWith b (! .Subscript o i c) e.line X.env=pure 7):PS X (.Assign [.Subscript o i c] b e) (gD l n q):=by intro Y s Z H D I h;rw[wpAny_Assign_Subscript (jG (p _ s _ H _ I h) λr N=>j3 λv O=>j7 λw z A=>jG (j _ _ _ _ _ w A) λu P=>j3 λx Q=>j7 λB C E=>jG (m _ _ _ _ _ B E) λR S z9=>?_) t];let(y,T,F,G,a,U,J,g,L):=z9;subst J;obtain rfl:=C;rw[S6 f F g G z λs4 M=>(_,_,M,L)]
def SA(h:Heap)(a:sysModules<h.objs.size):y0 P w H (h.push {cls:=.type "dict",data:=.dict #[]}) h.objs.size (.dK []):=(Ub _,(),_,.nil,Heap.DictOf.new h)
def si:TE:=λb H Q=>∀p,H p=8->Q (.ref p) (upd H p<|.dK [])
def Xz(a more:List (jI×V)):List (jI×V):=more.foldl (λb c=>qJ b c.1 c.2) a
def vk:∀{more:List (jI×V)}{i:List (jI×Value)}{c:List (jI×V)}{f:List (jI×Value)},KV more i->KV c f->KV (Xz c more) (merged f i):=by intro more i c f r;induction r generalizing c f with|nil=>intro q;rw[q]|@cons p q n o h t j=>
intro l;let e:KV (qJ c p.1 p.2) (stored f q.1 q.2):=by let:=l.put p.1 h.2;rwa[<-h.1]
rw[j e]
theorem Im:∀more a,⇑(Xz a more)<=⇑a+⇑more|[],a=>by show ⇑a<=⇑a+0;lia|p::r,a=>by let b:=Im r<|qJ a p.1 p.2;let c:=BR a p.1 p.2;show(Xz _ r).length<=_;grind
structure M1(X:Cx)(o:Expr)(m:Str)(apos:Pos)(e:Expr)(cpos:Pos):4 where
base:attributeBase o m X.env (eval o X.env)=eval o X.env
few:((backTo cpos<|01 [e] X.env).all (λx=>not<|x.1)&&(backToKw cpos<|keywordEach [] X.env).all (λx=>x.1.isSome)&&decide (⇑([e]:List Expr)+⇑([]:List Keyword)+(if([]:List Keyword).isEmpty then 0 else 1)<30))=6
line:(apos.endLine==cpos.line)=6
trees:backTo cpos (01 [e] X.env)=[%[7|007]]
structure M2(X:Cx)(o:Expr)(m:Str)(apos:Pos)(e f:Expr)(cpos:Pos):4 where
base:attributeBase o m X.env (eval o X.env)=eval o X.env
few:((backTo cpos<|01 [e,f] X.env).all (λx=>not<|x.1)&&(backToKw cpos<|keywordEach [] X.env).all (λx=>x.1.isSome)&&decide (⇑([e,f]:List Expr)+⇑([]:List Keyword)+(if([]:List Keyword).isEmpty then 0 else 1)<30))=6
line:(apos.endLine==cpos.line)=6
trees:backTo cpos (01 [e,f] X.env)=[%[7|007],%[7|eval f X.env]]
def IsD(H:Hp)(a:Addr):4:=(∃b,Rd H a (.dK b))\/∃b,Rd H a (.dT b)
def Io{Z:St} (I:003)(d:IsD H a):s.TypeIs 022 "dict"/\(∀b,Value.ref a=.ref b->∃f,↥s b=!f/\f.dict=8)/\(a==sysModules)=7:=by
 obtain⟨g,e⟩|⟨g,e⟩:=d;.let(_,h,l,_,c):=W0 I.hok e;rw[(c.typeIs,λb q=>?_,h)];cases q;let(f _ _,i,j,_):=c;rw[(_,i,j.2.1)]
 .let(_,h,m,_,c):=WK I.hok e;rw[(c.typeIs,λb q=>?_,h)];cases q;let(f _ _,i,j,_):=c;rw[(_,i,j.2.1)]
section
variable {Z: St}
def SE(r:A.units+1<cLine)(I:003)(g:xl H a y o)(n:jz y u)(h:∀p q,Inv X Y Z H q->jz (o.getD .non) p->Q p q):wpAny 015 A (call (.builtin "dict.get") [022,u]) Q E s:=by
 obtain⟨i,k,e,j,l⟩|⟨i,k,b,e,j,t,l⟩:=g;.subst j;let(!z,m,(v,c,f)):=W0 I.hok e;rw[call_meetsIn PySem.F.slot_dict_get f.typeIs PySem.F.entry_dict_get (PySem.F.args_dict_get_2 _ _) (meets_dict_get _ a (Wz n) m) (_,f.mapOf,h _ _ (I.tok _) ?_)];rw[l,];rw[(c.val k).getD 9]
 .subst j;cases n;let(!z,m,(w,c,f)):=WK I.hok e;rw[call_meetsIn PySem.F.slot_dict_get f.typeIs PySem.F.entry_dict_get (PySem.F.args_dict_get_2 _ _) (meetsH_dict_get _ a b m) (tupleKind_room_in1 r,k,_,Xy I.hok t,f,h _ _ (I.tok _) ?_)];rw[l,];rw[(c.val k).getD 9]
def SF(v:A.units+1<cLine)(I:003)(g:xl H a y o)(n:jz y u)(p:jz d r)(h:∀q t,Inv X Y Z H t->jz (o.getD d) q->Q q t):wpAny 015 A (call (.builtin "dict.get") [022,u,r]) Q E s:=by
 obtain⟨i,k,e,j,l⟩|⟨i,k,b,e,j,w,l⟩:=g;.subst j;let(!z,m,(x,c,f)):=W0 I.hok e;rw[call_meetsIn PySem.F.slot_dict_get f.typeIs PySem.F.entry_dict_get (PySem.F.args_dict_get_3 _ _ _) (meets_dict_get_default (QC _ _) a (Wz n) m r) (_,f.mapOf,h _ _ (I.tok _) ?_)];rw[l,];rw[(c.val k).getD p]
 .subst j;cases n;let(!z,m,(B,c,f)):=WK I.hok e;rw[call_meetsIn PySem.F.slot_dict_get f.typeIs PySem.F.entry_dict_get (PySem.F.args_dict_get_3 _ _ _) (meetsH_dict_get_default (tupleKind _) a b m r) (tupleKind_room_in1 v,k,_,Xy I.hok w,f,h _ _ (I.tok _) ?_)];rw[l,];rw[(c.val k).getD p]
end
def SG(e f:TE):TE:=λZ H Q=>e Z H λx b=>∃a,x=022/\IsD b a/\f Z b λy c=>∃o,xl c a y o/\Q (o.getD .non) c
def SH(e f g:TE):TE:=λZ H Q=>e Z H λx b=>∃a,x=022/\IsD b a/\f Z b λy h=>g Z h λz c=>∃o,xl c a y o/\Q (o.getD z) c
def SI(j:X.A.units+1<cLine)(l:PE X o n)(p:PE X e q)(m:M1 X o "get" b e c):PE X (.Call (.Attribute o "get" b) [e] [] c) (SG n q):=by intro Y s Z H Q I h;rw[wpAny_Call_method m.base m.few m.line PySem.F.plainAttrs_dict PySem.F.slot_dict_get PySem.F.type_dict_get<|jG (l _ s _ H _ I h) λu F z9=>?_];let(x,G,i,r,a,t,d,v):=z9;subst t;obtain rfl:=r;let(!w,z,_):=Io i d;rw[(w,z,?_)];rw[m.trees,];rw[Calls.callWith_builtin 9<|Calls.evalArgs_plain<|Calls.spliced_cons<|jG (p _ _ _ _ _ i v) λJ L z9=>by let(y,M,A,B,N,g,C):=z9;rw[Calls.spliced_nil<|SE j A g B λO P E f=>(_,_,E,f,C)]]
def SJ(l:X.A.units+1<cLine)(n:PE X o p)(q:PE X e r)(t:PE X f v)(m:M2 X o "get" b e f c):PE X (.Call (.Attribute o "get" b) [e,f] [] c) (SH p r v):=by intro Y s Z H Q I h;rw[wpAny_Call_method m.base m.few m.line PySem.F.plainAttrs_dict PySem.F.slot_dict_get PySem.F.type_dict_get<|jG (n _ s _ H _ I h) λu P z9=>?_];let(x,R,j,w,a,A,d,B):=z9;subst A;obtain rfl:=w;let(!C,E,_):=Io j d;rw[(C,E,?_)];rw[m.trees,];rw[Calls.callWith_builtin 9<|Calls.evalArgs_plain<|Calls.spliced_cons<|jG (q _ _ _ _ _ j B) λS T=>j3 λy U=>j7 λF G J=>Calls.spliced_cons<|jG (t _ _ _ _ _ F J) λfv s3 z9=>by let(z,H3,L,M,ov,g,N):=z9;rw[Calls.spliced_nil<|SF l L g G M λw' s4 O i=>(_,_,O,i,N)]]
end L2
namespace Att
open PySem PySem.W PySem.Calls PyProof.Rows
theorem SK:∀c e,WellAll P h e (c.map WData.int)->IntsAre e c:=by intro c;cases(c)with|nil=>intro e w;cases w;rw[.nil]|cons n c f=>intro e w;cases w with|cons a b=>cases a;rw[.cons _ _<|f _ b]
def SL{l:OpenLaw} (o:l.most=!n)(b:l.row.toRowW.claim.pre args=6)(f:WellAll P h e args):∃a i c,e=[Value.ref a]/\args=[WData.list (c.map WData.int)]/\h.get? a=!{cls:=017,data:=.seq i.toArray}/\IntsAre i c/\⇑c<=n:=by
 let(d r,rfl,p,q):=hasAllW_cons (pre_splitW b).1;obtain rfl:=hasAllW_nil q;let(-v,rfl,s):=hasW_list p;let(c,rfl):=items_int s;let j:⇑c<=n:=by
  let g:(WTm.not<|.lt (.lit<|.int n)<|.len<|.arg 0).holds [] {args:=[.list (c.map .int)]}=6:=by let g:=(holds_andW<|(pre_splitW b).2).1;rwa[o]at g
  let w:=condW_of g 9;ext
 cases f with|cons t u=>cases u;cases t with|list x m=>grind[SK]
def attach_call{l:OpenLaw}(J:l.most=!n)(t:d.params.defaults=[])(call:∀w s₀ s₁ u B m o C v e a g x,Ground q b [] L w s₀ u B s₁.heap->M w s₁.heap->↥s₁ m=!o->o.data=.func (docDef d.name d.params d.body d.scope C v e)->s₁.heap.CodeRec v d.name->u d.name=! .ref m->↥s₁ a=!{cls:=017,data:=.seq g.toArray}->IntsAre g x->⇑x<=n->s₁.gens=#[]->codeAny (model l.prog w) callerA (.call (.ref m) ([022],[])) (λr p=>r=.ok (.ret<|.bool 6)/\OldK s₁.heap p.heap/\p.os=s₁.os/\AllBare p.gens) s₁):WalkO q b L M l.row.toRowW d [] λf g=>PySem.call f g:=by intro w s₀ s₁ u B G Yy m o C v e Z kV N O y E z P F H as h I Q A R;obtain rfl:=Dflts.none E t;obtain rfl:=Dflts.noKw E;let(a,g,x,rfl,rfl,i,c,j):=SL J h A;rw[enter_call<|codeAny_mono (call w _ _ _ _ _ o _ _ _ a _ _ G Yy N (fd_plain O) y z i c j P) λr p S=>?_];let(rfl,T,U,X):=S;rw[(.inl (_,_,_,9,λb=>9,.bool _,postW_of 9 (w_eq_bool (w_res 9) w_lit) 9,λb=>(List.Pairwise.nil,λb Y=>nomatch Y)),T,U,X)]
end Att
namespace L2
def SN:∀{a:Ye}{b:Yf},IntsAre a b->j6 (b.map V.int) a:=λh=>by cases(h)with|nil=>rw[.nil]|cons n t _ c=>rw[.cons (t,9) c]
def kn(H:Hp):4:=∀b,H b=8\/∃o a,H b=!(.frz o<|.lst a)
def SO{K:f'}(Q:K.In s₁.heap)(t:s₁.heap.Ns 000 R)(f:s₁.heap.Ns builtinsNs mb)(I:∀x:Str,x ≠"__name__"->mb x=bootBuiltins x)(y:s₁.heap.NoLimit)(hg:s₁.gens=#[])(J:↥s₁ a=!{cls:=017,data:=.seq S.toArray})(T:IntsAre S G)(hl:⇑G<=00)(hr:Room k callerA)(F:∀g:Heap,K.In g->g.Ns 000 R->FnOk P w K R g CX k U fd [x] sp)(p:∀s u,BindsTo s fd ([u],[]) [%[x|u]])(L:∀H:Hp,kn H->qR K H a (G.map V.int)->sp [022] H (λv b=>v=.bl 6) λb b b=>False)(M:∀H e i,CX [] H s₁ (λb b b=>False) e i->False):codeAny (model P w) callerA (.call (.ref U) ([022],[])) (λr i=>r=.ok (.ret<|.bool 6)/\OldK s₁.heap i.heap/\i.os=s₁.os/\AllBare i.gens) s₁:=by
 let X:=SN T;let A:=⇑T;let l:∀H:Hp,kn H->qR K H a (G.map V.int)->xc P w H s₁.heap->(∀b,H b≠8->b=a)->(H a≠8->K.lookup a=8)->codeAny (model P w) callerA (.call (.ref U) ([022],[])) (λr i=>r=.ok (.ret<|.bool 6)/\OldK s₁.heap i.heap/\i.os=s₁.os/\AllBare i.gens) s₁:=by
  intro H Y hS B hA hK;let c:∀{b:Addr}{o:Obj},↥s₁ b=!o->H b=8->(wm _ H).get? b=!o:=λe n=>W.hideAll_get _ e λN=>by let q:=(Jf.mp N).2;ext
  let O:∀{b:Addr}{o:Obj}{Z:Array _}{ep:5},↥s₁ b=!o->o.data=.dict Z ep->H b=8:=018;let j:∀{b:Addr}{m:Str->02 _},s₁.heap.Ns b m->(wm _ H).Ns b m:=λ{b m}(o,Z,ep,e,d,r)=>je o _ _ (c e<|O e d,d,r);let C:K.In (wm _ H):=λb o e=>c (Q b o e)<|by grind
  let hM:Mod K _ (wm _ H):=(C,j t,(_,j f,I),qk y λmc=>j4 λh1 h2=>(_,j h1,h2));let e0:Env0 P w K _ (wm _ H) callerA _ _ H:=(9,hM,λb o e=>by
let e':=W.of_hideAll _ e;rw[(e',?_)]
induction q:H b with|none=>rfl|some x=>let N:b∈trk s₁.heap H:=Jf.mpr (Ji.mpr<|Zk e',by simp[q]);let z:(wm s₁.heap H).get? b=8:=W.hideAll_none _ N;simp_all,Yu<|W.hideAll_size _ _,trivial,λb f=>Zn (show b∈([]:List _)from f) (),B,.of_eq hg);rw[codeAny_mono ((F _ C<|j t).run _ _ _ H (_,_) _ [022] _ _ hr e0 (p _ _) (.cons 9 .nil)<|L H Y hS) λr i h=>?_];cases(r)with|error e=>rw[(M H e _ h).elim]|ok fl=>cases(fl)with|next=>rw[False.elim h]|brk=>rw[False.elim h]|cont=>rw[False.elim h]|ret u=>let(v H',os,bare,un,E,r',q):=h;let q':v=.bl _:=q;subst q';obtain rfl:=r';rw[(9,OldK.of_keep λb o e=>?_,os,bare)];induction q:H b with|none=>rw[un.keep b o e q (λz=>Zn (show b∈([]:List _)from z) ()) ()]|some u=>
  obtain z|⟨ob,xs,z⟩:=Y b;.rw[q]at z;cases z
  .let(e1,_):=B b _ z;let(e2,_):=E b _ (un.frzs b _ _ z);rw[e]at e1;cases e1;rw[e2]
 induction hk:K.lookup a with|some o=>let e:=Q a o hk;rw[J]at e;cases e;rw[l _ (λb=>006) (.inr<|je _ _ _ (hk,9,9,9,by rwa[Zm,A],by simpa using X)) (λb u z=>by let z':=z;cases z') () λz=>Zn 9 z]|none=>
rw[l (λb=>if b=a then !(.frz {cls:=017,data:=.seq S.toArray}<|.lst<|G.map _)else 8) (λb=>?_) (.inl<|.inr ({cls:=.type _,data:=.seq _},Zd 9)) (λb u z=>?_) (λb z=>?_) λb=>hk]
.cases f:b=a;.rw[018]
 .rw[.inl<|Ze f]
.cases f:b=a;.cases(Zd f).symm.trans z;subst f;rw[(J,by rwa[Zql,],_,_,X,J)]
 .cases(Ze f).symm.trans z
.cases f:b=a;.rw[f]
 .rw[Zn (Ze f) z]
def walk_of{l:W.OpenLaw} {K:Params->f'}{CX:World->k7}{sp:World->Sp}(L:l.most=!n)(m:n<=00)(p:d.params.defaults=[])(M:Room k callerA)(N:∀w h,O w h->(K w.params).In h)(F:∀w i r h,(K w.params).In h->h.Ns 000 i->i d.name=! .ref r->∃t:FuncData,(∀s u,BindsTo s t ([u],[]) [%[x|u]])/\∀b:Heap,(K w.params).In b->b.Ns 000 i->FnOk l.prog w (K w.params) i b (CX w) k r t [x] (sp w))(y:∀w H a(z:Yf),⇑z<=n->kn H->qR (K w.params) H a (z.map V.int)->sp w [022] H (λv b=>v=.bl 6) λb b b=>False)(A:∀w H s e E,CX w [] H s (λb b b=>False) e E->False):W.WalkO q B Y O l.row.toRowW d [] λf I=>PySem.call f I:=by rw[Att.attach_call L p λw s₀ s₁ i Z r o pm cd P a I z G Yy ho hd Q C j g c R=>?_];let J:=N w _ Yy;let(-t,S,T):=F w _ _ _ J G.T.g C;rw[SO J G.T.g G.T.b G.T.builtins G.T.nolimit R j g (Zh c m) M T S (λH U X=>y w H a _ c U X) λH e E=>A w H _ e _]
noncomputable def YM(s:Stmt)(j:5):Stmt:=match s with|.ClassDef _ _ _ a _ _ _ _ _ _ _=>a.getD j (.Pass (0,0,0,0))|_=>.Pass (0,0,0,0)
noncomputable def X0(s:Stmt):Arguments:=match s with|.FunctionDef _ a _ _ _ _ _ _ _ _=>a|_=>{posonlyargs:=[],args:=[],vararg:=8,kwonlyargs:=[],kw_defaults:=[],kwarg:=8,defaults:=[]}
def Kj(s:Stmt):List Stmt:=match s with|.FunctionDef _ _ b _ _ _ _ _ _ _=>b|_=>[]
noncomputable def Qd(s:Stmt):Scope:=match s with|.FunctionDef _ _ _ _ _ _ a _ _ _=>a|_=>{kind:=.function,names:=[],isGenerator:=7,isCoroutine:=7}
abbrev yz:k7:=λb b b b b b=>False
abbrev E0:XK:=λb b b=>False
def E5:Au yz X E0:=λb b b b b b b h=>h.elim
structure Fun(K:f')(x qual:Str)(st:Stmt)(f:Addr)(fd:FuncData):4 where
ex:∃(oc:Value)(od:02 Addr)(kV doc pm:Value)(an:02 Addr)(cdv ct:Value)(osl:Array (02 Value)),fd=W.fnOf x qual (X0 st) (Kj st) (Qd st) .none kV doc pm an cdv ct/\K.lookup f=!(oc,od,.func fd,osl)/\W.codeIn K cdv qual=6
kp:W.keepIn K (.ref f)=6
section
variable {K:f'}
def Fun.ok{n:Stmt} (F:Fun K x e n f y)(S:FnScope N u (Qd n))(len:∀l H Q E,v l H Q E->⇑l=⇑u)(i:∀j A c s H l Q E,Room k (A.deeper<|envOfC e (Qd n) s⁻¹ f j)->v l H Q E->∃t,qY (qm yz P w K z o N e (Qd n) f j A c s H E).nox (Kj n) t/\t {nx:=λb B=>Q .non B,rt:=Q} (start N l) H):FnOk P w K z o yz (k+1) f y u v:=by let(O,R,kV,G,T,U,j,X,I,rfl,J,p):=F.ex;rw[Ia J p S len λA c s H l Q E L r=>?_];let(t,h,q):=i _ A _ s H _ Q E L r;rw[(t,h.nox,q)]
def Fun.binds{j:Stmt} (F:Fun K x c j f r)(h:∀kV e n o i p l,⇑l=⇑q->bindArgs (W.fnOf x c (X0 j) (Kj j) (Qd j) .none kV e n o i p) (l,[])=pure (q.zip l)):wN K r q []:=by let(v,y,kV,e,n,o,i,p,s,rfl,z,u):=F.ex;rw[.all<|h _ _ _ _ _ _]
def fun_mk{b:Stmt} {kV g h e i:Value}(l:K.lookup f=!(n,o,.func<|W.fnOf x a (X0 b) (Kj b) (Qd b) .none kV g h j e i,m))(c:W.codeIn K e a=6)(k:W.keepIn K (.ref f)=6):Fun K x a b f (W.fnOf x a (X0 b) (Kj b) (Qd b) .none kV g h j e i):=(wc _ _ _ _ _ _ _ (_,_,9,l,c),k)
end
def JW(a:Room k A):A.units+1<cLine:=UR () a.units
def Ip(h:n<=1000):n<00:=UR h<|004
section
variable {X:Cx}
def pv(i){x:Str}{f:Pos}(o:X.N[i]?=!x:=by rfl)(p:rq X.env.scope x:=by first|rw[Or.inl 9]|rw[Or.inr<|Or.inl 9]|rw[Or.inr<|Or.inr 9])(g:(x==011)=7:=by decide)(j:(x==("__classdict__":Str))=7:=by decide):PE X (.Name x f) (yX i):=by
 intro Y s Z H Q I h;let(-v,e,h):=h;let(-m,q,t):=I.loc;let(-u,r,l):=t i x v o e p;let b:EP X _ _ Q u s:=(v,H,I,r,h);obtain⟨hk,w⟩|⟨hk,c,n,a⟩:=l;.rw[wpAny_Name (wpAny_loadName_local I.ok.kind hk q w b) g]
 .rcases hk with hk|hk;.rw[wpAny_Name (wpAny_loadName_cell I.ok.kind hk n a b) g]
  .rw[wpAny_Name (wpAny_loadName_free I.ok.kind hk n a b j) g]
end
def jk(H a:Hp):4:=∀b o,H b=!o->a b=!o
theorem jk.refl(H):jk H H:=λb b h=>h
theorem jk.trans(a:jk H e)(b:jk e f):jk H f:=λc o h=>b c o<|a c o h
def jk.free(e:jk H c) (h:c l=Option.none):H l=Option.none:=by induction q:H l with|none=>rfl|some o=>rw[e l o q]at h;cases h
def jk.seq{K:f'} (e:jk H c)(h:qR K H a f):qR K c a f:=by
 rcases h with(h|⟨o,h⟩)|h;.rw[.inl<|.inl<|e _ _ h]
 .rw[.inl<|.inr (o,e _ _ h)]
 .rw[.inr h]
def SQ:qc X (.builtin "len") λc H Q=>∃a b,c=[V.ref a]/\H a=! .dK b/\Q (.int ⇑b) H:=by intro Y s Z H c i Q I r h;let(a b,rfl,e,q):=h;let(-u,rfl,f):=Qu r;cases f;rw[ms I (.inl e) λt j g=>(.int _,H,g,(t,9),q)]
end L2
def J6{P:4}{α:Type}{z:α}(h:8=!z):P:=by cases h
def JF{P:4}(h:7=6):P:=by cases h
namespace L2
theorem E6(g):∀(b:List (Str×NameKind))f,(∀y∈b,y.2=.free->∃c,g.cells.lookup y.1=!c)->∃j,(forIn b f λ(x:Str×NameKind)(r:List (Str×Addr))=>(match x with|%[i|l]=>if(l==NameKind.free)=6 then do let a<-cellOf g i;pure (ForInStep.yield<|%[i|a]::r)else pure (ForInStep.yield r):Sem (ForInStep<|List<|Str×Addr)))=(pure j:Sem (List<|Str×Addr))/\(∀x c,j.lookup x=!c->g.cells.lookup x=!c\/f.lookup x=!c)/\(∀x c,f.lookup x=!c->∃m,j.lookup x=!m)/\∀y∈b,y.2=.free->∃c,j.lookup y.1=!c|[],f,_=>(_,9,λb b h=>.inr h,λx c h=>(c,h),λb h=>nomatch h)|%[n|k]::r,f,h=>by rw[List.forIn_cons,];induction hk:k==NameKind.free with
|true=>
let o:k=.free:=by ext
let(-c,p):=h _ Zqs o;let(j,e,q,s,t):=E6 g r _ ();rw[(j,?_,λx m u=>?_,λx m u=>?_,λy v w=>?_)]
.simp only[hk,cellOf,p];rw[e]
.rcases q x m u with q|q;exact .inl q
 rw[List.lookup_cons]at q;induction hb:x==n with|true=>rw[hb]at q;cases q;obtain rfl:x=n:=by simpa using hb
                                                       exact .inl p|false=>rw[hb]at q;exact .inr q
.induction hb:x==n with|true=>exact s x c (by rw[List.lookup_cons,hb])|false=>exact s x m (by rw[List.lookup_cons,hb];exact u)
rcases List.mem_cons.mp v with rfl|v
.exact s n c (by rw[List.lookup_cons,beq_self_eq_true])
exact t y v w|false=>
let(j,e,q,s,t):=E6 g r f ()
refine⟨j,?_,q,s,fun y v w=>?_⟩
.simp only[hk];exact e
rcases List.mem_cons.mp v with rfl|v
.cases w;simp at hk
exact t y v w
def SR(b)(a)(h:∀y∈a.names,y.2=.free->∃c,b.cells.lookup y.1=!c):∃f,closureFor a b=pure f/\(∀x c,f.lookup x=!c->b.cells.lookup x=!c)/\∀y∈a.names,y.2=.free->∃c,f.lookup y.1=!c:=by let(-f,e,g,_,i):=E6 _ _ [] h;rw[(_,?_,λx c j=>(g x c j).elim id<|λq=>by simp at q,i)];first|(rfl)|rw[Zt (·>>=λl=>pure l) e]
theorem BS{env:Env}{x:Str}:∀{names:List (Str×NameKind)},(names.lookup x=!.free->(names.map λ%[n|k]=>if k==NameKind.free&&env.scope.kind==.function&&env.kindOf n==!.cell then%[n|NameKind.cell]else%[n|k]).lookup x=!.cell\/(names.map λ%[n|k]=>if k==NameKind.free&&env.scope.kind==.function&&env.kindOf n==!.cell then%[n|NameKind.cell]else%[n|k]).lookup x=!.free)/\∀a,(names.map λ%[n|k]=>if k==NameKind.free&&env.scope.kind==.function&&env.kindOf n==!.cell then%[n|NameKind.cell]else%[n|k]).lookup x=!a->a=.cell\/a=.free->names.lookup x=!.free\/names.lookup x=!.cell
|[]=>by simp
|%[n|k]::r=>by
 obtain⟨b,c⟩:=@BS env x r
 simp only[List.map_cons]
 induction hx:x==n with
 |true=>
  refine ⟨fun h=>?_,fun k' h e=>?_⟩
  .simp only[List.lookup_cons,hx]at h;obtain rfl:=Option.some.inj h;split<;>simp[List.lookup_cons,hx]
  .rw[List.lookup_cons,hx];by_cases q:(k==NameKind.free&&env.scope.kind==.function&&env.kindOf n==!.cell)=true
   .have:k=.free:=by cases k<;>first|rfl|(simp at q)
    rw[this,];exact .inl rfl
   .rw[if_neg q]at h;simp only[List.lookup_cons,hx]at h;have h:k=k':=by simpa using h
    subst h;exact e.elim (fun z=>.inr (z▸rfl)) (fun z=>.inl (z▸rfl))
 |false=>
  refine ⟨fun h=>?_,fun k' h e=>?_⟩
  .simp only[List.lookup_cons,hx]at h;split<;>simp only[List.lookup_cons,hx]<;>exact b h
  .rw[List.lookup_cons,hx];refine c k' ?_ e;split at h<;>simp only[List.lookup_cons,hx]at h<;>exact h
theorem Ay:∀a n b,cellsFrom n a b=cellsFrom n a []++b
|[],_,_=>9|%[c|e]::r,n,b=>by
 ext cellsFrom;split;.rw[Ay r,Ay r _ [%[c|n]],Uf];rfl
 .rw[Ay r n _]
theorem E7:∀a n b,%[x|c]∈cellsFrom n a b->%[x|c]∈b\/%[x|NameKind.cell]∈a
|[],_,_,h=>.inl h|%[e|f]::r,n,b,h=>by
 unfold cellsFrom at h;split at h
 .rcases E7 r _ _ h with z|z;.grind
  ext
 .rcases E7 r n _ h with z|z;.rw[.inl z]
  ext
noncomputable def Iq:02 NameKind->Bool|some .cell=>6|_=>7
def SS(h:Iq o=6):o=!.cell:=by cases(o)with|none=>rw[JF h]|some k=>cases(k)<;>first|rfl|rw[JF h]
structure CellsAt(scope:Scope)(env:Env)(cl:List (Str×Addr))(C:Addr)(h1:Heap):4 where
from_:∀x c,cl.lookup x=!c->env.cells.lookup x=!c/\scope.names.lookup x≠!.cell\/C<c/\h1.IsCell c 8
free:∀x,scope.names.lookup x=!.free->∃c,cl.lookup x=!c/\env.cells.lookup x=!c
own:∀x,scope.names.lookup x=!.cell->∃c,cl.lookup x=!c
inj:∀x y c,cl.lookup x=!c->cl.lookup y=!c->x=y
def SU{i:Heap}{C:Addr}(j:∀x c,h.lookup x=!c->b.cells.lookup x=!c)(l:∀y∈a.names,y.2=.free->∃c,h.lookup y.1=!c)(inj:∀x y c,b.cells.lookup x=!c->b.cells.lookup y=!c->x=y)(f:∀x c,b.cells.lookup x=!c->c<=C)(m:i.objs.size=C+1)(n:∀y∈a.names,y.2=.cell->a.names.lookup y.1=!.cell):CellsAt a b (cellsFrom (C+1) a.names h) C (pushCells i a.names):=by
 let ok:=cellsFrom_ok a.names i (C+1) _ ((),List.Pairwise.nil) ();rw[m]at ok;let look:∀x c,(cellsFrom (C+1) a.names h).lookup x=!c->%[x|c]∈cellsFrom (C+1) a.names []\/h.lookup x=!c/\a.names.lookup x≠!.cell:=λx c e=>by rw[Ay,List.lookup_append]at e;induction q:(cellsFrom (C+1) a.names []).lookup x with|some d=>grind[Zqi,PySem.mem_of_lookup]|none=>rw[q]at e;rw[.inr (e,λz=>?_)];let:=W.cellsFrom_some a.names (C+1) []<|.inl z;rw[q]at this;rw[JF this]
 rw[(λx c e=>?_,λx e=>?_,λx e=>?_,λx y c o p=>?_)]
 .rcases look x c e with z|⟨z1,z2⟩;.rw[.inr ((ok.empty x c z).2,(ok.empty x c z).1)]
  ext
 .let(c,g):=l %[x|.free] (PySem.mem_of_lookup e) 9;rw[(c,?_,j x c g)];rw[Ay,List.lookup_append];induction q:(cellsFrom (C+1) _ _).lookup x with
|some d=>
rcases E7 _ _ _ (PySem.mem_of_lookup q)with z|z
.cases z
.let:=n _ z 9;rw[e]at this;cases this|none=>rw[g]
 .rw[Ju.mp<|W.cellsFrom_some _ _ _<|.inl e]
 .rcases look x c o with z|⟨z1,_⟩<;>obtain w|⟨w1,_⟩:=look y c p;.rw[PySem.name_of_addr ok.apart z w]
  .rw[Zn (f y c<|j y c w1)<|Nat.not_le_of_lt (ok.empty x c z).2]
  .rw[Zn (f x c<|j x c z1)<|Nat.not_le_of_lt (ok.empty y c w).2]
  .rw[018]
def SW(f:Q (newEnv a s⁻¹ b (cellsFrom (s⁻¹+1) a.names g) c 8 .none (!e) builtinsNs) {s with heap:=pushCells (s.heap.push {cls:=.type "dict",data:=.dict #[]}) a.names}):wpAny M A (newFunctionEnv a b g [] c 8 .none<|!e) Q E s:=by rw[Za<|wpAny_alloc<|Za<|wpAny_layCells _ () _ _ _ _ ?_];rw[Heap.size_push,];rw[Za<|Zb<|Zb f]
def Az(X:Cx)(C:Addr):Ya:=λx b=>∃m,b.heap.Ns C m/\∀c,Heap.SameBut C b.heap c->∀a:Env,a.locals=C->YE X (passOn "comprehension.variables-let-go" x a:Sem Value) (λb b=>False) X.xe {b with heap:=c}
def JP(X:Cx)(a:Scope)(N:Yi)(b:List (Str×Addr))(C:Addr)(s:Shared)(H:Hp)(ex:Yj):Cx where
 prog:=X.prog
 w:=X.w
 K:=X.K
 mg:=X.mg
 base:=X.base
 A:=X.A
 N:=N
 s₀:=s
 H₀:=H
 env:=compEnvC a b C X.env
 outer:=X.stack
 stack:=X.stack
 ex:=ex
 fn:=λx=>Iq<|a.names.lookup x
 calm:=X.calm
 pn:=[]
 xe:=notedBy 015 X.A (compEnvC a b C X.env) (Az X C)
def X1(X:Cx)(C:Addr)(s:Shared)(H:Hp)(a:Yj):4:=∃Y Z,003/\(∀b∈a,xr X Y H b)/\s⁻¹<=C
def KY(cap:List (02 5))(Z:St):St:=cap.map λo=>o.bind λj=>(Z[j]?).join
structure CompOk(X:Cx)(scope:Scope)(N:Yi)(cap:List (02 5)):4 where
kind:scope.kind=.function
loc:∀y∈scope.names,y.2=.local->scope.names.lookup y.1=!.local
cell:∀y∈scope.names,y.2=.cell->scope.names.lookup y.1=!.cell
free:∀y∈scope.names,y.2=.free->X.env.kindOf y.1=!.cell\/X.env.kindOf y.1=!.free
len:⇑cap=⇑N
cap:∀(i j:5)(x:Str),cap[i]?=! !j->N[i]?=!x->X.N[j]?=!x/\scope.names.lookup x=!.free
noncomputable def Kk(a:Scope)(b:Env)(c N:Yi)(cap:List (02 5)):Bool:=decide (a.kind=.function)&&a.names.all (λy=>(not<|decide<|y.2=.local)||decide (a.names.lookup y.1=!.local))&&a.names.all (λy=>(not<|decide<|y.2=.cell)||decide (a.names.lookup y.1=!.cell))&&a.names.all (λy=>(not<|decide<|y.2=.free)||(decide (b.kindOf y.1=!.cell)||decide (b.kindOf y.1=!.free)))&&decide (⇑cap=⇑c)&&(c.zip cap).all λp=>match p.2 with|none=>6|some j=>decide (N[j]?=!p.1)&&decide (a.names.lookup p.1=!.free)
def CompOk.of{cap:List (02 5)}(h:Kk c X.env N X.N cap=6):CompOk X c N cap:=by
 unfold Kk at h;simp only[Uc,decide_eq_true_eq,U4]at h;let(((((f,q),r),s),l),u):=h;rw[(f,λy e n=>?_,λy e n=>?_,λy e v=>?_,l,λi j x o p=>?_)];.grind
 .grind
 .grind
 .let z:%[x|!j]∈N.zip cap:=by rw[Ug (i:=i) ?_];rw[VQ,];rw[(p,o)]
  grind
section
variable {Z: St} {C D:Addr}{fp:Yj}
def SX(ok:CompOk X a N cap)(I:003)(E:∀b∈fp,xr X Y H b)(A:∀b∈fp,b<s⁻¹)(f:CellsAt a X.env F C G)(y:s⁻¹<=C)(n:∀b o,019->G.get? b=!o)(J:G.Ns C m):Inv (JP X a N F C s H fp) [] (KY cap Z) H {s with heap:=G,toks:=tk}:=by
 let O:∀x,(JP X _ N F C s H fp).env.kindOf x=!_\/(JP X _ N F C s H fp).env.kindOf x=!.free->a.names.lookup x=!.free\/a.names.lookup x=!_:=λx h=>by
  obtain h|h:=h;.rw[BS (env:=X.env) (x:=x) (names:=a.names).2 _ h<|006]
  .rw[BS (x:=x).2 _ h<|.inr 9]
 rw[((I.ok.mod,ok.kind,I.ok.glob,I.ok.blt,y,f.inj,λx h=>?_,λx c z e=>?_,I.ok.hd,I.ok.frames,006,λb t=>(?_,λx c e=>?_),I.bs,Zh I.ok.bsz I.sz,λb o e t=>?_,λb t z=>?_,I.stack,I.stkFree),9,I.bare,Un.kept n,(m,J,λi x v L g e3=>?_),λx c e=>?_,I.hok.fresh y,λx c e=>?_,λp P=>Zn P<|by show ¬p∈[]++[];simp,I.hok.kept n,?_)]
 .rcases O x h with q|q;.let(-c,e,_):=f.free x q;rw[(c,e)]
  .rw[f.own x q]
 .rcases f.from_ x c e with ⟨_,q⟩|⟨q,_⟩;.rw[Zn (SS z) q]
  .rw[Zh y<|Zz q]
 .rw[Zi<|Zg (A b t) y]
 .rcases f.from_ x c e with ⟨q,_⟩|⟨q,_⟩;.rw[(E b t).2.2.2.2.1 x c q]
  .rw[UP<|Uh (Zg (A b t) y) q]
 .rcases(E b t).2.2.2.1 with z|z;.rw[I.ok.noex b o e z]
  .rw[Zn (Zg (Zk e)<|Zh I.ok.bsz z)<|Zy _]
 .rcases UN.mp (I.stkSub b z)with q|q;.rw[(E b t).2.1 q]
  .rw[(E b t).2.2.1 q]
 .let L:=L;let Q:∃j,cap[i]?=! !j/\Z[j]?=! !v:=by let g:(cap.map _)[i]?=!_:=g;rw[Zv]at g;induction q:cap[i]? with|none=>rw[q]at g;rw[J6 g]|some o=>
rw[q]at g
cases(o)with|none=>cases g|some j=>let g:some (Z[j]?).join=!_:=g;induction q2:Z[j]? with|none=>rw[q2]at g;cases g|some w=>rw[q2]at g;rw[(j,9,by cases g;rw[q2])]
  let(-j,R,S):=Q;let(T,M):=ok.cap i j x R L;let(-m0,_,U):=I.loc;let fr:=ok.free _ (PySem.mem_of_lookup M) 9;let(u,r,l):=U j x v T S (fr.elim (λz=>.inr<|.inl z) λz=>.inr<|.inr z);rw[(u,r,.inr ((BS).1 M,?_))];obtain⟨k,_⟩|⟨_,c,ec,z⟩:=l;.ext
  .let(-c',e',B):=f.free x M;rw[ec]at B;obtain rfl:=Zqi B;rw[(c,e',z.keeps n)]
 .rcases f.from_ x c e with ⟨q,_⟩|⟨_,q⟩;.let(v,z):=I.cell x c q;rw[(v,z.keeps n)]
  .rw[(_,q)]
 .rcases f.from_ x c e with ⟨q,_⟩|⟨q,_⟩;.rw[I.freeC x c q]
  .rw[I.hok.fresh<|Zh y<|Zz q]
 .show(cap.map _).length=⇑N;rw[Zql,];rw[ok.len]
def SY{w:St} (I:003)(i:∀b∈fp,xr X Y H b)(x:s⁻¹<=C)(y:s⁻¹<=D)(j:D≠C)(J:Inv (JP X l N P C s H fp) [] w g m)(A:↥m D=!{cls:=017,data:=.seq p.toArray k})(R:g D=8)(E:j6 t p)(F:⇑t<=00)(h:Heap.SameBut C m.heap G)(q:Q (.ref D) (upd g D<|.lst t)):EP X Y Z Q (.ref D) {m with heap:=G}:=by
 let r:∀b o,019->b≠C:=λb o e=>Zi<|Zg (Zk e) x;let L:∀b o,019->b≠D:=λb o e=>Zi<|Zg (Zk e) y;let tD:∀b u,g b=!u->b≠D:=018;let tC:∀b u,g b=!u->b≠C:=λb u e z=>by let:=J.free;rw[z,show g C=8 from this]at e;rw[J6 e]
 let B:=J.base;rw[(.ref D,upd _ D _,I.call' J.os ?_ ?_ J.bare<|λb a=>((i b a).2.2.2.1,(i b a).2.1,(i b a).2.2.2.2.1,(i b a).2.2.2.2.2),9,q)]
 .rw[(λb o e n a f=>(h.2 b<|r b o e).trans<|B.keep b o e n a f,λb o e n a f=>?_,λb o e n f=>?_,λb o e f=>?_,λb M e=>?_,λb o u e=>?_,λb S e=>?_)];.let(-T,z):=B.slot b o e n a f;rw[(_,(h.2 b<|r b o e).trans z)]
  .rw[JC (L b o e),];rw[B.free b o e n f]
  .let(O,z):=B.there b o e f;rw[(O,(h.2 b<|r b o e).trans z)]
  .let z:=B.tups b _ e;rwa[JC (tD b _ z),]
  .let z:=B.frzs b o u e;rwa[JC (tD b _ z),]
  .let(more,z):=B.tbls b _ e;rw[(_,by rwa[JC (tD b _ z),])]
 .intro b u e;cases a:b=D;.subst a;rw[JI]at e;obtain rfl:=Zqi e;rw[(F,_,k,E,(h.2 b j).trans A)]
  .rw[JC a]at e;rw[(J.hok b u e).stay (λc v U z=>(h.2 c ?_).trans z) (λc z=>by rwa[JC (tD c _ z),])<|λc M z=>by rwa[JC (tD c _ z),]];grind
end
def my(cap:List (02 5))(g:TG)(j:TE)(Z:St)(Q:VK):It->Hp->4:=λJ l=>∃W:5->5->YB->St->Hp->4,(∃m,W 0 m [] (KY cap Z) l)/\∀i m b c a,W i m b c a->⇑b<00/\((J.stop i a/\∀D,a D=8->Q (.ref D) (upd a D<|.lst b))\/J.go i a/\∀x e,J.yld i a x e->g x c e λf n=>j f n λy o=>∃h,h<m/\W (i+1) h (b++[y]) f o)
def YN(cap:List (02 5))(wi:TI)(g:TG)(a:TE):TE:=λZ H Q=>wi Z H<|my cap g a Z Q
def SZ(cap:List (02 5))(g:TG)(n:TT)(o:TE)(Z:St)(Q:VK):It->Hp->4:=λJ p=>∃W:5->5->YB->St->Hp->4,(∃m,W 0 m [] (KY cap Z) p)/\∀i m c h a,W i m c h a->⇑c<00/\((J.stop i a/\∀D,a D=8->Q (.ref D) (upd a D<|.lst c))\/J.go i a/\∀x j,J.yld i a x j->g x h j λf q=>n f q λb l=>if b=6 then o f l λy r=>∃e,e<m/\W (i+1) e (c++[y]) f r else ∃e,e<m/\W (i+1) e c f l)
def BT(cap:List (02 5))(wi:TI)(g:TG)(a:TT)(b:TE):TE:=λZ H Q=>wi Z H<|SZ cap g a b Z Q
section
variable {X:Cx}{tg iter elt c:Expr} {wi:TI}
def A0(X:Cx)(Y:Yb)(Z:St)(Q:VK)(b:02 (Value->Sem Unit))(R:Ya):4:=∀(C D:Addr)(m:Yd)(a:Shared)(r:Flow),a.heap.Ns C m->¬C=X.env.locals->C∉X.fs->X.s₀.heap.objs.size<=C->(∀x c,030->c≠C)->(∀p∈X.pn++Y,p.1≠C)->(∀e,Heap.SameBut C a.heap e->EP X Y Z (λv f=>f C=8/\Q v f) (.ref D) {a with heap:=e})->compPost 015 X.A X.xe b R (.ref D) C (.ok r) a
def Ir:A0 X Y Z Q 8 (EP X Y Z Q):=λC D m g r b d d d d d k=>(m,b,λh a=>by let(v i,e,f,_,q):=k _ a;rw[(v,_,e,f,q)])
def mK(X:Cx)(tg elt:Expr)(g f:Value)(a:Env)(R:Result->Yz)(I:5->Yz)(b:(Bool->Yz)->Yz)(n:5)(s:Shared):4:=let E:Ya:=notedBy 015 X.A a λe j=>R (.error e) j
YE X (pyNext g) (λr h=>match r with|none=>R (.ok .next) h|some v=>YE X (letOwnedTupleGo tg g v) (λd l=>YE X (assign tg a v) (λd o=>b (λok i=>if ok=6 then YE X (eval elt a) (λx p=>YE X (call (.builtin "list.append") [f,x]) (λb q=>∃m,m<n/\I m q) E p) E i else ∃m,m<n/\I m i) o) E l) E h) E s
def Iu(N){test:Env->(Result->Yz)->(Bool->Yz)->Yz}(lp:∀{it acc:Value}{env:Env}{R:Result->Yz}{s:Shared}I,(∀n s,I n s->mK X tg elt it acc env R I (test env R) n s)->∀n,I n s->codeAny 015 X.A (.compLoop (.ListComp elt [(tg,iter,ifs,0)] a pos) 0 it acc env) R s)(ht:∀A C s H ex{Y:Yb}{s7:Shared}{Z7:St}{H7:Hp}{R:Result->Yz}{q:Bool->Hp->4}{Q:Bool->Yz},X1 X C s H ex->(∀e E,Az X C e E->R (.error e) E)->Inv (JP X a N A C s H ex) Y Z7 H7 s7->tt Z7 H7 q->(∀b s8 H8,Inv (JP X a N A C s H ex) Y Z7 H8 s8->q b H8->Q b s8)->test (compEnvC a A C X.env) R Q s7)(cap)(hc:X.calm=6)(okB:Kk a X.env N X.N cap=6)(hi:PI X tg iter wi)(hg:∀A C s H ex,PG (JP X a N A C s H ex) tg g)(he:∀A C s H ex,X1 X C s H ex->PE (JP X a N A C s H ex) elt te)(hs:∀x,foldedSetIterable iter X.env x=pure x) {Z:St} (I:003)(h:BT cap wi g tt te Z H Q)(fin:A0 X Y Z Q use R):YE X (comprehension (.ListComp elt [(tg,iter,ifs,0)] a pos) a X.env fpos (newList []) 7 (eval iter X.env) use) R X.xe s:=by
 let ok:=CompOk.of okB;let(-cl0,hcl,hcl1,hcl2):=SR X.env a λy hy hf=>I.ok.has y.1<|ok.free y hy hf;rw[wpAny_comprehension_free (use:=use) 9 hs hcl ok.kind ok.loc<|jG (hi Y s Z H _ I h) λxv s1 h1=>jG h1 λitv j h2=>?_];let(it t tn J L,e,F,T,st2,f2,(W,(m0,w0),turn)):=h2;subst e;let P:∀b∈t,b<j⁻¹:=λb w=>qk (T.obj _ _ st2 b w) λ_=>j4 λe _=>Zk e;rw[wpAny_newObj_type<|SW ?_];dsimp only;generalize hP:j.heap.push {cls:=017,dict:=8,data:=.seq ([]:Ye).toArray}=P2;let hC:P2.objs.size=j⁻¹+1:=by rw[<-hP,Heap.size_push]
 let S:j⁻¹≠P2.objs.size:=by rw[hC,];rw[by lia]
 let l:j⁻¹<=P2.objs.size:=by rw[hC,];rw[Vc _]
 let below:∀b,b<j⁻¹->b≠P2.objs.size/\b≠j⁻¹:=();let U:CellsAt a X.env (cellsFrom (P2.objs.size+1) a.names cl0) P2.objs.size (pushCells (P2.push {cls:=.type "dict",data:=.dict #[]}) a.names):=SU hcl1 hcl2 F.ok.inj (λx c e=>Zh (Zz<|by let(_,_,ho,_):=F.cell x c e;rw[Zk ho]) l) (Heap.size_push ..) ok.cell;let hns1:(pushCells (P2.push {cls:=.type "dict",data:=.dict #[]}) a.names).Ns P2.objs.size λ_=>8:=(Heap.Ns.new P2<|.type "dict").keeps<|pushCells_keeps _ _;generalize cellsFrom (P2.objs.size+1) a.names cl0=A at U ⊢;let old:∀b o,↥j b=!o->(pushCells (P2.push {cls:=.type "dict",data:=.dict #[]}) a.names).get? b=!o:=λb o e=>pushCells_keeps _ _ b o<|Zq _<|hP ▸ Zq _ e;let hacc:(pushCells (P2.push {cls:=.type "dict",data:=.dict #[]}) a.names).get? j⁻¹=!{cls:=017,data:=.seq ([]:Ye).toArray 0}:=pushCells_keeps _ _ _ _<|Zq _<|hP ▸ Zr _ 9;generalize pushCells (P2.push {cls:=.type "dict",data:=.dict #[]}) a.names=g1 at U hns1 old hacc ⊢;let M:∀{H':Hp}{pl:Yb},(∀b∈t,H' b=8)->(∀p∈pl,p.1∉t)->∀b∈t,xr (JP X a N A P2.objs.size j L t) pl H' b:=λ{H' pl}hn G b w=>by
  rw[(hn b w,(below b<|P b w).1,λz=>?_,.inl w,λx c e=>?_,λp hq z=>?_)]
  .rcases UN.mp (F.stkSub b z)with q|q;.rw[(f2 b w).2.1 q]
   .rw[(f2 b w).2.2.1 q]
  .rcases U.from_ x c e with ⟨q,_⟩|⟨q,_⟩;.rw[(f2 b w).2.2.2.2.1 x c q]
   .rw[UP<|Uh (Zg (P b w) l) q]
  .let hq:p∈([]:Yb)++pl:=hq;grind[List.nil_append]
 let nD:j⁻¹∉t:=λz=>Zn (P _ z)<|Zy _;let loop:∀s3:Shared,s3={j with heap:=g1}->codeAny 015 X.A (.compLoop (.ListComp elt [(tg,iter,ifs,0)] a pos) 0 (.ref it) (.ref j⁻¹)<|compEnvC a A P2.objs.size X.env) (compPost 015 X.A X.xe use R (.ref j⁻¹) P2.objs.size) s3:=by
  rintro s3 rfl;let I0:=SX (tk:=j.toks) ok F f2 P U l old hns1;rw[lp (λn E=>∃i ys B k Z' H',Inv (JP X a N A P2.objs.size j L t) [] Z' H' E/\tn i E.heap/\(∀b∈t,H' b=8)/\↥E j⁻¹=!{cls:=017,data:=.seq (List.toArray B) k}/\H' j⁻¹=8/\j6 ys B/\W i n ys Z' H') ?_ m0<|wd 0 [] [] 0 (KY cap Z) L (I0,T.keep _ _ _ st2<|λb d o e=>old b o e,λb w=>(f2 b w).1,hacc,F.hok.fresh<|Zf _,.nil,w0)];let cat:X1 X P2.objs.size j L t:=(_,_,F,f2,l);let ce:∀e E,Az X P2.objs.size e E->compPost 015 X.A X.xe use R (.ref j⁻¹) P2.objs.size (.error e) E:=λe E h=>by cases(use)<;>rw[h]
  let xe:∀e E,(JP X a N A P2.objs.size j L t).xe e E->notedBy 015 X.A (compEnvC a A P2.objs.size X.env) (λe E=>compPost 015 X.A X.xe use R (.ref j⁻¹) P2.objs.size (.error e) E) e E:=λe E h=>Zc h (λb j q=>ce e j q) λe j q=>ce e j q;intro n s4;rw[vM λi ys B k Z4 H4=>vN λI4 st4 fr4 hd4 hn4 rv4 w4=>?_];let(hz,tn4):=turn i n ys Z4 H4 w4;let J4:Inv (JP X a N A P2.objs.size j L t) [%[j⁻¹|{cls:=017,data:=.seq B.toArray k}]] Z4 H4 s4:=I4.pins_of λp G=>by let e:=Jb.mp G;subst e;rw[(hd4,hn4,S,?_,λv z=>by cases z)];rw[λz=>Zn (Zg (by
rcases UN.mp (F.stkSub _ z)with q|q
.rw[UR (Yu q) F.lt]
.let(_,o,ho,_):=F.ok.funs.mem q;rw[Zg (Zk ho) F.sz])<|Zf j⁻¹)<|Zy _]
  let np:∀p ∈[%[j⁻¹|({cls:=017,data:=.seq B.toArray k}:Obj)]],p.1∉t:=λp G=>by let e:=Jb.mp G;subst e;rw[nD]
  obtain⟨stop,qn⟩|⟨go,step⟩:=tn4
  .rw[Zc (T.done (JP X a N A P2.objs.size j L t) 9 9 9 hc i _ s4 Z4 H4 (λb b=>False) J4 (M fr4 np) st4 stop) (λr s5 h5=>?_) λb b f=>f.elim];let(rfl,I5):=h5;let(m,hm,_):=id I5.loc;let p5:=I5.pin %[j⁻¹|_]<|Uo _ Zqs;rw[fin _ _ m _ _ hm (UP<|Zg F.lt l) (F.nofs l) (Zh F.sz l) (λx c e z=>?_) (λp G z=>?_) λh' hs'=>SY F f2 l (Zf _) S (I5.pins_of λp G=>nomatch G) p5.1 p5.2.1 rv4 (Zz hz) hs' (by rw[JC (Ne.symm S),];rw[I5.free],qn _ p5.2.1)];.let(v o,ho,hd):=F.cell x c e;let:=Zk ho;rw[z]at this;rw[Zn (Zg this l)<|Zy _]
   .let:=Zk (F.pin p G).1;rw[z]at this;rw[Zn (Zg this l)<|Zy _]
  .rw[Zc (T.item (JP X a N A P2.objs.size j L t) 9 9 9 hc i _ s4 Z4 H4 (λb b=>False) J4 (M fr4 np) st4 go) (λr s5 h5=>?_) λb b f=>f.elim];let(u,rfl,h5):=h5;rw[Zc h5 (λ_ s6 h6=>?_) λb b f=>f.elim];let(x H6,I6,r6,y6,st6,fr6):=h6;let I6':=I6.pinned (M fr6 np)<|T.obj _ _ st6;rw[Zc (hg A P2.objs.size j L t _ s6 Z4 H6 x u _ I6' r6<|step x H6 y6) (λ_ s7 h7=>?_) xe];let(Z7 H7,I7,q7):=h7;rw[ht A P2.objs.size j L t cat ce I7 q7 λbv s8 H8 I8 q8=>?_];let O:∀H9 s9 Z9,Inv (JP X a N A P2.objs.size j L t) ([%[j⁻¹|{cls:=017,data:=.seq B.toArray k}]]++Ap t s6.heap) Z9 H9 s9->(∀b∈t,∀o,↥s6 b=!o->↥s9 b=!o)/\∀b∈t,H9 b=8:=λH9 s9 Z9 I9=>by rw[(λb w o e=>(I9.pin %[b|o]<|Uo _<|Uo _<|BM w e).1,λb w=>?_)];let(-o,e,d):=T.obj _ _ st6 b w;rw[(I9.pin %[b|o]<|Uo _<|Uo _<|BM w e).2.1]
   let p8:=I8.pin %[j⁻¹|_]<|Uo _<|Vd _ Zqs;cases(bv)with|false=>rw[Ze ()]at q8 ⊢;let(-m',hm',w8):=q8;let(z1,z2):=O _ _ _ I8;rw[(m',hm',i+1,ys,B,k,Z7,H8,I8.pins_of (λp G=>nomatch G),T.keep _ _ _ st6 z1,z2,p8.1,p8.2.1,rv4,w8)]|true=>
  rw[Zd 9]at q8 ⊢;rw[Zc (he A P2.objs.size j L t cat _ s8 Z7 H8 _ I8 q8) (λyv s9 h9=>?_) xe];let(y H9,I9,ry,(m',hm',w9)):=h9;let p9:=I9.pin %[j⁻¹|_]<|Uo _<|Vd _ Zqs;let hl:=⇑rv4;rw[append_at (hsz:=by show B.toArray.size<=00;rw[Zm,<-hl];rw[Zz hz]) p9.1 λh10 hs10 hd10=>?_];let I10:Inv (JP X a N _ _ j L t) [] Z7 H9 {s9 with heap:=h10}:=(I9.pins_of (Y':=[]) λp G=>nomatch G).turned (t':=s9.toks) (it:=j⁻¹) (λb o w e=>(hs10.2 b w).trans e) p9.2.1 S (.inr<|Zf _) (λx c e z=>by let(v o,ho,hd):=I9.cell x c e;rw[z,p9.1]at ho;cases ho;cases hd)<|λp G=>Zn G<|by show ¬p∈[]++[];simp
  let(z1,z2):=O _ _ _ I9;rw[(m',hm',i+1,ys++[y],B++[yv],k+1,Z7,H9,I10,T.keep _ _ _ st6<|λb w o e=>?_,z2,?_,p9.2.1,j6.append rv4<|.cons ry .nil,w9)];.let hb':b≠j⁻¹:=λz=>nD (by rw[<-z];rw[w]);rw[(hs10.2 b hb').trans<|z1 b w o e]
  .rw[hd10.trans ?_];simp
 rw[codeAny_compStart_list (loop _ 9)<|T.self _ 0 _ _ _ (T.keep _ _ _ st2<|λb d o e=>old b o e)<|loop _ 9]
def Iv(N)(cap)(o:X.calm=6)(f:Kk a X.env N X.N cap=6)(p:PI X tg iter wi)(r:∀i C s H e,PG (JP X a N i C s H e) tg g)(t:∀i C s H e,X1 X C s H e->PE (JP X a N i C s H e) elt u)(v:∀x,foldedSetIterable iter X.env x=pure x) {Z:St} (I:003)(h:YN cap wi g u Z H Q)(j:A0 X Y Z Q l R):YE X (comprehension (.ListComp elt [(tg,iter,[],0)] a w) a X.env m (newList []) 7 (eval iter X.env) l) R X.xe s:=Iu (test:=λb b Q s=>Q 6 s) N (λI b n h=>W.kcp_loop I b n h) (λb b b b b b b b b b b b b b I q k=>k _ _ _ I q) _ o f p r t v I h j
def Iw(N)(cap)(i:X.calm=6)(e:Kk a X.env N X.N cap=6)(j:PI X tg iter wi)(l:∀f C s H b,PG (JP X a N f C s H b) tg g)(m:∀f C s H b,X1 X C s H b->PE (JP X a N f C s H b) elt n)(o:∀x,foldedSetIterable iter X.env x=pure x:=by intro _;rfl):PE X (.ListComp elt [(tg,iter,[],0)] a p) (YN cap wi g n):=λY s Z H Q I h=>Iv N _ i e j l m o I h Ir
def Ta(N)(cap)(h:X.calm=6)(b:Kk a X.env N X.N cap=6)(i:PI X tg iter wi)(j:∀e C s H f,PG (JP X a N e C s H f) tg g)(o:∀e C s H f,PE (JP X a N e C s H f) elt l)(m:∀x,foldedSetIterable iter X.env x=pure x:=by intro _;rfl):PE X (.ListComp elt [(tg,iter,[],0)] a n) (YN cap wi g l):=Iw N _ h b i j () m
end
mutual
def Is(H:Hp):PyData->V->Prop| .none,v=>v=.non| .bool b,v=>v=.bl b| .int i,v=>v=.int i| .str x,v=>v=.str x| .list ds,v=>∃a c,v=.ref a/\H a=some (.lst c)/\qD H ds c| .tuple ds,v=>∃a c,v=.ref a/\H a=some (.tup c)/\qD H ds c| .dict _,_=>False
def qD(H:Hp):List PyData->YB->Prop| [],a=>a=[]|d::ds,a=>∃x r,a=x::r/\Is H d x/\qD H ds r
end
mutual
theorem Is.same{H j:Hp}(e:jk H j):∀d v,Is H d v->Is j d v| .none,_,h=>h| .bool _,_,h=>h| .int _,_,h=>h| .str _,_,h=>h| .list _,v,h=>have ⟨a,l,c,f,i⟩:=h;⟨a,_,c,e _ _ f,qD.same e _ _ i⟩| .tuple _,v,h=>have ⟨a,l,c,f,i⟩:=h;⟨a,_,c,e _ _ f,qD.same e _ _ i⟩| .dict _,_,h=>h.elim
theorem qD.same{H f:Hp}(e:jk H f):∀ds c,qD H ds c->qD f ds c| [],_,h=>by simp_all [qD]|d::ds,c,h=>have ⟨x,r,i,j,l⟩:=h;⟨x,r,i,Is.same e d x j,qD.same e _ r l⟩
end
theorem qD.length:∀{ds:List PyData}{c:YB},qD H ds c->⇑c=⇑ds|[],_,h=>by simp_all[qD]|d::ds,c,h=>by let(x r,rfl,_,e):=h;rw[Zu,Zu,qD.length e]
theorem qD.get:∀{ds:List PyData}{c:YB}{i:5}{d:PyData},qD H ds c->ds[i]?=!d->∃x,c[i]?=!x/\Is H d x|[],_,_,_,_,e=>by simp at e|d::ds,c,0,f,h,e=>by grind[qD]|d::ds,c,i+1,f,h,e=>by let(x r,rfl,_,j):=h;let(-y,l,n):=qD.get j (by simpa using e);ext
theorem Ix:∀(a:Yf),qD H (a.map PyData.int) (a.map V.int)|[]=>by rfl|n::a=>(_,_,9,by rfl,Ix _)
theorem Iy:∀{ns:Yf}{a:YB},qD H (ns.map PyData.int) a->a=ns.map V.int|[],_,h=>by simp_all[qD]|n::ns,a,h=>by let(x r,rfl,b,c):=h;rw[b,Iy c];rfl
def xY:Is H (.list ds) v↔∃a c,v=022/\H a=! .lst c/\qD H ds c:=Iff.rfl
def zn:Is H (.tuple ds) v↔∃a c,v=022/\H a=! .tup c/\qD H ds c:=Iff.rfl
mutual
def Kc:PyData->Bool| .int _=>true| .list a=>W1 a| .tuple a=>W1 a| .none=>false| .bool _=>false| .str _=>false| .dict _=>false
def W1:List PyData->Bool| []=>true|x::a=>Kc x&&W1 a
end
mutual
theorem Tb:∀d:PyData,Kc d=true->d.canLay0=true| .int _,_=>by rfl| .list _,h=>E8 _ h| .tuple _,h=>E8 _ h| .none,h=>by rfl| .bool _,h=>by rfl| .str _,h=>by simp_all [Kc]| .dict _,h=>by simp_all [Kc]theorem E8:∀a:List _,W1 a=true->PyData.canLayAll0 a=true| [],_=>by rfl|x::a,h=>by have ⟨b,c⟩:=Jq.mp h;unfold PyData.canLayAll0;rw[Tb x b,E8 _ c];rfl
end
mutual
theorem E9:∀d e:PyData,Kc d=true->Kc e=true->(PyData.eqv d e=true↔d=e)| .int i,.int j,_,_=>by unfold PyData.eqv;simp| .int i,.list _,_,_=>by unfold PyData.eqv;simp| .int i,.tuple _,_,_=>by unfold PyData.eqv;simp| .list _,.int j,_,_=>by unfold PyData.eqv;simp| .list _,.list _,a,h2=>by have q:=EA _ _ a h2;simp_all [PyData.eqv]| .list _,.tuple _,_,_=>by unfold PyData.eqv;simp| .tuple _,.int j,_,_=>by unfold PyData.eqv;simp| .tuple _,.list _,_,_=>by unfold PyData.eqv;simp| .tuple _,.tuple _,a,h2=>by have q:=EA _ _ a h2;simp_all [PyData.eqv]| .none,_,h,_=>by simp_all [Kc]| .bool _,_,h,_=>by simp_all [Kc]| .str _,_,h,_=>by simp_all [Kc]| .dict _,_,h,_=>by simp_all [Kc]|_,.none,_,h=>by simp_all [Kc]|_,.bool _,_,h=>by simp_all [Kc]|_,.str _,_,h=>by simp_all [Kc]|_,.dict _,_,h=>by simp_all [Kc]theorem EA:∀a b:List _,W1 a=true->W1 b=true->(PyData.eqvAll a b=true↔a=b)| [],[],_,_=>by unfold PyData.eqvAll;simp| [],y::b,_,_=>by unfold PyData.eqvAll;simp|x::a,[],_,_=>by unfold PyData.eqvAll;simp|x::a,y::b,c,h2=>by have ⟨e,f⟩:=Jq.mp c;have ⟨g,h⟩:=Jq.mp h2;unfold PyData.eqvAll;rw[Bool.and_eq_true_iff,E9 x y e g,EA _ _ f h];simp
end
def Tc(a:Kc d=6)(b:Kc e=6)(h:d≠e):PyData.eqv d e=7:=by grind[E9]
def Td(a:Kc d=6):PyData.eqv d d=6:=(E9 d d a a).mpr 9
noncomputable def xx:Yf->3|[]=>0|x::r=>r.foldl max x
def yp:Yf->3|[]=>0|x::r=>r.foldl min x
theorem Iz:∀(r:Yf)x,x<=r.foldl max x/\(∀y∈r,y<=r.foldl max x)/\(r.foldl max x=x\/r.foldl max x∈r)
|[],x=>by simp|y::r,x=>by
 let(!b,a,c):=Iz r (max x y);show x<=r.foldl _ _/\(∀z∈y::r,z<=r.foldl _ _)/\(r.foldl _ _=x\/r.foldl _ _∈y::r);rw[((),λz hz=>?_,?_)]
 .rcases UN.mp hz with rfl|hz;.omega
  .rw[a z hz]
 grind
def X2(h:l ≠[]):xx l∈l/\∀y∈l,y<=xx l:=by cases(l)with|nil=>ext|cons x r=>
let(!a,b,h3):=Iz r x;rw[(?_,λy hy=>?_)]
.rcases h3 with h3|h3;.show r.foldl _ x∈x::r;rw[h3,];rw[Zqs]
 .rw[Zqm _ h3]
.rcases UN.mp hy with rfl|hy;.rw[a]
 .rw[b y hy]
def I1(a:M∈l)(b:∀y∈l,y<=M):M=xx l:=by let(c,e):=X2 (l:=l) ();grind
theorem IA:∀(r:Yf)x,r.foldl min x<=x/\(∀y∈r,r.foldl min x<=y)/\(r.foldl min x=x\/r.foldl min x∈r)
|[],x=>by simp|y::r,x=>by
 let(!b,a,c):=IA r (min x y);show r.foldl _ _<=x/\(∀z∈y::r,r.foldl _ _<=z)/\(r.foldl _ _=x\/r.foldl _ _∈y::r);rw[((),λz hz=>?_,?_)]
 .rcases UN.mp hz with rfl|hz;.omega
  .rw[a z hz]
 grind
def BU(h:l ≠[]):yp l∈l/\∀y∈l,yp l<=y:=by cases(l)with|nil=>ext|cons x r=>
let(!a,b,h3):=IA r x;rw[(?_,λy hy=>?_)]
.rcases h3 with h3|h3;.show r.foldl _ x∈x::r;rw[h3,];rw[Zqs]
 .rw[Zqm _ h3]
.rcases UN.mp hy with rfl|hy;.rw[a]
 .rw[b y hy]
def EB(a:M∈l)(b:∀y∈l,M<=y):M=yp l:=by let(c,e):=BU (l:=l) ();grind
def Te(w:X.calm=6):qc X (.builtin "max") λm H Q=>∃a c,m=[022]/\qR X.K H a (c.map V.int)/\c ≠[]/\Q (.int<|xx c) H:=by
 intro Y s Z H m J Q I r h;let(a c,rfl,x,y,q):=h;let(-u,rfl,z):=Qu r;obtain rfl:=z;let(-A,B,p,L):=I.list x;let n:=Ex B;let(i,e):=n.allInts.items;let f:c=i.toList.map (·.1):=by rw[<-n.numsOf,<-nums_intItems,<-e]
 let l:0<i.size:=by grind
 let g:=p.isList;rw[e]at g;rw[max_intList (I.ok.hd w) g l λv M N C E=>?_];let(t,rfl):=intItems_at C;let(O,F):=argBest_gt (numAt i) (i.size-1);rw[(.int _,H,I.kept E,(t,?_),q)];congr 1;rw[I1 ?_ λb o=>?_];.rw[f,numAt_eq];rw[PySem.getD_mem<|by rw[Zql,Ue];lia]
 .rw[f]at o;let(-j,G,rfl):=PySem.mem_getD o;rw[Zql,Ue]at G;rw[<-numAt_eq];rw[F j ()]
def Th(w:X.calm=6):qc X (.builtin "min") λm H Q=>∃a c,m=[022]/\qR X.K H a (c.map V.int)/\c ≠[]/\Q (.int<|yp c) H:=by
 intro Y s Z H m J Q I r h;let(a c,rfl,x,y,q):=h;let(-u,rfl,z):=Qu r;obtain rfl:=z;let(-A,B,p,L):=I.list x;let n:=Ex B;let(i,e):=n.allInts.items;let f:c=i.toList.map (·.1):=by rw[<-n.numsOf,<-nums_intItems,<-e]
 let l:0<i.size:=by grind
 let g:=p.isList;rw[e]at g;rw[min_intList (I.ok.hd w) g l λv M N C E=>?_];let(t,rfl):=intItems_at C;let(O,F):=argBest_lt (numAt i) (i.size-1);rw[(.int _,H,I.kept E,(t,?_),q)];congr 1;rw[EB ?_ λb o=>?_];.rw[f,numAt_eq];rw[PySem.getD_mem<|by rw[Zql,Ue];lia]
 .rw[f]at o;let(-j,G,rfl):=PySem.mem_getD o;rw[Zql,Ue]at G;rw[<-numAt_eq];rw[F j ()]
def wO(P:Program)(w:World)(K:f')(c:Yd)(a:Heap)(b:Str)(k:5)(e:Yi)(h:Sp):4:=∃f g,FnOk P w K c a yz k f g e h/\wN K g e []/\W.keepIn K (.ref f)=6/\c b=! .ref f
theorem wO.mono{K:f'} (c:wO P w K l e i j n o)(h:j<=k):wO P w K l e i k n o:=by let(f p,F,r):=c;rw[(f,_,F.mono h,r)]
def A1(c:wO X.prog X.w X.K X.mg X.base a k u l)(m:Room k X.A)(n:Gl X a)(o:PA X (e::g) t)(h:(a==011)=7:=by decide)(q:01 (e::g) X.env=%[7|007]::01 g X.env:=by rfl)(i:(backTo j<|01 g X.env).any (·.1)=7:=by rfl):PE X (.Call (.Name a p) (e::g) [] j) (Ew l [] E0 t):=by let(f v,F,b,r,s):=c;rw[HS F m n s r b .nil E5 o h q i]
def Kt(h:H p=8)(o):jk H (upd H p o):=λb u q=>by rwa[JC (Ky q h),]
def Q8(h:n<=1000):n<=00:=Zz<|Ip h
noncomputable def pD(p:3×3):PyData:=.tuple [.int p.1,.int p.2]
def rD(r:J0):PyData:=.tuple<|r.map pD
def rC:Is H (pD p) v↔∃a,v=022/\H a=! .tup [.int p.1,.int p.2]:=by
 constructor;.rintro⟨a,g,b,c,f⟩;let e:=Iy (ns:=[p.1,p.2]) f;ext
 .rintro⟨a,b,c⟩;rw[(a,_,b,c,Ix [p.1,p.2])]
def BV(o)(s:jk H a)(h:H l=8):jk H (upd a l o):=λb u e=>by rw[JC (Ky e h),];rw[s b u e]
theorem Ti:∀a:Yf,W1 (a.map PyData.int)=6|[]=>by rfl|n::a=>by show W1 (PyData.int n::a.map _)=6;ext W1;rw[Ti,];rfl
def EC(p):Kc (pD p)=6:=by rfl
theorem Tj:∀a:Yf,PyData.depthAll (a.map PyData.int)=0|[]=>by rfl|n::a=>by show PyData.depthAll (PyData.int n::a.map _)=0;ext PyData.depthAll;rw[Tj,];rfl
def Qp:bootBuiltins "len"=! .builtin "len":=boot_len
def BW:bootBuiltins "max"=! .builtin "max":=boot_max
def IB:bootBuiltins "min"=! .builtin "min":=boot_min
def ED:bootBuiltins "sorted"=! .builtin "sorted":=boot_sorted
def IC:bootBuiltins "sum"=! .builtin "sum":=boot_sum
def Tk:bootBuiltins "int"=! .type "int":=boot_int
def BX:bootBuiltins "str"=! .type "str":=boot_str
def WL:bootBuiltins "list"=! 017:=boot_list
def A3:bootBuiltins "tuple"=! .type "tuple":=boot_tuple
def EE:bootBuiltins "dict"=! .type "dict":=boot_dict
def bt_set:bootBuiltins "set"=! .type "set":=boot_set
def ID:entryFor table "dict.update.loop"=!Builtin.«dict.update.loop»:=entryFor_of_tree<|by rfl
def BY:plainId "dict.update.loop"=6:=002
section
variable {K:Type}[DecidableEq K]
noncomputable def mr(h:KeyKind q w K)(n t d:Addr)(a:Yk)(g:List (K×Value))(F:Heap)(hlen:a.size=⇑g)(Q:∀(j:5)k v,g[j]?=!%[k|v]->∃u y,a[j]?=! .ref u/\F.IsTuple u #[y,v]/\h.is k y=6/\u≠n/\u≠d)(G:F.IsTuple t a)(n1:t≠n)(n2:t≠d)(S:d≠n)(m:5):∀i:5,⇑g-i=m->∀A R s(c:List (K×Value)),A.handled=8->s.heap.IsTupleIter n t i->(∀b o,b≠n->b≠d->F.get? b=!o->019)->s.heap.DictOf h d c->⇑c+(⇑g-i)<=00->(∀z tk,z.DictOf h d (merged c<|g.drop i)->(∀b o,b≠n->b≠d->F.get? b=!o->z.get? b=!o)->R (.ok<|.ret .none) {s with heap:=z,toks:=tk})->wpAny (model q w) A.in1 (Builtin.«dict.update.loop» ([.ref d,.ref n,rawInt i,.none],[])) (λB M=>match B with|.done f=>R (.ok f) M|.again c'=>c'.quiet=6/\codeAny (model q w) A c' R M) (λe M=>R (.error e) M) s:=by cases(m)with
|zero=>
intro i N A R s c U X keep Y Z O;let hx:a[i]?=8:=by rw[Array.getElem?_eq_none_iff,];lia
let ht:s.heap.IsTuple t a:=by let(-o,p,r):=G;rw[(o,keep t o n1 n2 p,r)]
ext Builtin.«dict.update.loop»;rw[Za<|wpAny_pyNext_tuple_end U X ht hx λz eb=>?_];let hd0:g.drop i=[]:=Vm ();rw[hd0]at O;let H:z.DictOf h d c:=by let(o es ep,p,r):=Y;rw[je o es ep (eb d o S p,r)]
let B:=O z s.toks H<|λb o I P e=>eb b o I<|keep b o I P e;ext Builtin.Dict.addKeywords;rw[Za<|Zb<|Zb B]|succ m ih=>
intro i N A R s c U X keep Y Z O;let C:i<⇑g:=()
let(l,hkv):∃l,g[i]?=!l:=(_,Zqg C);let(u y,hx,hta,J,a1,a2):=Q i l.1 l.2 hkv;let ht:s.heap.IsTuple t a:=by let(-o,p,r):=G;rw[(o,keep t o n1 n2 p,r)]
ext Builtin.«dict.update.loop»;rw[Za<|wpAny_pyNext_tuple_item X ht hx λI st1 E=>?_];let(-ot,hot,hoc,(nn,hod)):=hta;let x:I.get? u=!ot:=(E.2 u a1).trans<|keep u ot a1 a2 hot;let hD1:I.DictOf h d c:=by let(o es ep,p,r):=Y;rw[je o es _ ((E.2 d S).trans p,r)]
dsimp only;rw[Za<|wpAny_holding<|Za<|wpAny_tryCatch ?_];ext Builtin.Dict.pairItems;rw[Za<|wpAny_typeOf (T:="tuple") (_,x,hoc) ?_];rw[Zd 004,];rw[Za<|wpAny_seqItems x hod<|Zb ?_];show wpAny _ _ (holding _<|dictSet d _ _) _ _ _;rw[wpAny_holding<|wpAny_dictSet_pairs J hD1 (λP hD2 L=>?_) ()];let hc:i+1=(i+1:3):=by push_cast;rfl
rw[Zb ?_];rw[hc,];let st2:P.IsTupleIter n t (i+1):=by let(-o,p,r):=st1;rw[(o,(L.2 _<|Ne.symm S).trans p,r)]
let k2:∀b o,b≠n->b≠d->F.get? b=!o->P.get? b=!o:=λb o b1 b2 e=>(L.2 b b2).trans<|(E.2 b b1).trans<|keep b o b1 b2 e;let z2:⇑(stored c l.1 l.2)+(⇑g-(i+1))<=00:=by
 let:⇑(stored c l.1 l.2)<=⇑c+1:=by
  ext stored;split;.rw[Zql,];lia
  .rw[Ua,Uj];lia
 rw[N]at Z;rw[Nat.sub_succ,N];rw[Zh (Nat.add_le_add_right this m)<|Zh (Yu<|Nat.succ_add_eq_add_succ _ m) Z]
let e:merged c (g.drop i)=merged (stored c l.1 l.2) (g.drop<|i+1):=by
 rw[Uq C,];let:g[i]=l:=by let:=Zqg C;rw[this]at hkv;rw[Zqi hkv]
 rw[this,];rfl
rw[(plainId_quiet BY _,codeAny_builtin ID<|by rw[Around.under_plainId BY,];rw[ih _ (by rw[Nat.sub_succ,N];rfl) A R _ (stored _ _ _) U st2 k2 hD2 z2 λz tk H kk=>O _ _ (by rwa[e,]) kk])]
end
def Tl(r:↥s a=!o)(t:o.cls=.type "tuple")(i:o.data=.seq z k)(u:o.dict=8)(j:typeLookup (.type "tuple") f=pure 8)(l:(["__module__","__name__","__qualname__","__doc__","__annotations__"]:Yi).contains f=7)(B:A.handled=8)(h:∀p v,(∀b o,019->p.get? b=!o)->Q 8 {s with heap:=p,toks:=v})(q:⇑f+100<=00:=by size_fits):YF x w A (getAttr? 022 f) Q E s:=by
 let(c,C,G,H):=o;simp only at t i u;subst t i u;let(I,g,d,v,os):=s;let y:∀m,((I,g,d,m,os):Shared).TypeIs 022 "tuple":=λ_=>(_,r,9);let J:=sub_AttributeError;let L:=F.slot_tuple_getattribute.lookup;let M:=F.slot_tuple_getattribute.bind<|022;let N:=am_tuple_getattr_none;ext getAttr? getAttrBy? getAttrBy;repeat(any_goals(first|assumption|rw[y _]|((with_reducible show wpAny _ _ (call (Value.builtin "tuple.__getattribute__") _ _) _ _ _);rw[call_meets F.slot_tuple_getattribute (y _) am_entry_tuple_getattribute (F.args_tuple_getattribute_2 _ _) (meets_getattribute_miss_tuple a z k H f _ j l q) (r,B,λp m e n=>?_)])|wp_step))
 let(O P,R):=n.there;show wpAny _ _ (getattributeRaised _ _ _ _ _ _ _) _ _ _;ext getattributeRaised;repeat(any_goals(first|assumption|wp_step))
 rw[h _ _ n.of.keeps]
section
variable {K:Type}[DecidableEq K]
def Tn(i:KeyKind x w K) (U:A.handled=8)(L:↥s t=!o)(M:o.cls=.type "tuple")(m:o.data=.seq a n)(hd:o.dict=8)(y:a.size=⇑B)(N:∀(j:5)k v,B[j]?=!%[k|v]->∃l f,a[j]?=! .ref l/\s.heap.IsTuple l #[f,v]/\i.is k f=6)(hz:⇑B<=00)(h:∀I X,I.DictOf i s⁻¹ (merged [] B)->(∀b u,↥s b=!u->I.get? b=!u)->Q (.ref s⁻¹) {s with heap:=I,toks:=X}):YF x w A (call (.type "dict") [.ref t]) Q E s:=by
 rw[callType_codes (Q₁:=λC s₁=>C=.ref s⁻¹/\s₁={s with heap:=s.heap.push {cls:=.type "dict",data:=.dict #[]}}) F.kt_called_dict (F.kt_typeCall_dict_1 _) F.entry_dict_init (kt_code_dict_new _ (9,9)) ?_];rintro C s₁ ⟨rfl,rfl⟩;let c:(s.heap.push {cls:=.type "dict",data:=.dict #[]}).DictOf i s⁻¹ []:=Heap.DictOf.new s.heap;rw[(c.typeIs,F.args_dict_init_2 _ _,?_)];let q:(s.heap.push {cls:=.type "dict",data:=.dict #[]}).get? t=!o:=Zq _ L;ext Builtin.«dict.__init__»;rw[Za ?_];ext Builtin.Dict.selfAndRest;rw[Za<|wpAny_notOrdered_dict c.typeIs ?_];show wpAny _ _ (pure %[s⁻¹|[Value.ref t]]) _ _ _;rw[Zb ?_];show wpAny _ _ (Builtin.Dict.updateFrom "dict.__init__" s⁻¹ (.ref t) [] .none) _ _ _;ext Builtin.Dict.updateFrom;rw[Za<|wpAny_typeOf (T:="tuple") (o,q,M) ?_];rw[Zd 004,];rw[Za (Tl q M m hd (by rw[typeLookup_type,builtinLookup_eq_fast];kernel_rfl) 002 U (λp tk2 J=>?_)<|004)];rw[Zd (by rfl),];let G:p.IsTuple t a:=(o,J _ _ q,M,n,m);let lt:s⁻¹<p.objs.size:=by let(O _ _,e,_):=c;rw[Zk<|J _ _ e]
 let D2:p.DictOf i s⁻¹ []:=by let(O Y Z,e,r):=c;rw[je O Y Z (J _ _ e,r)]
 rw[Za<|wpAny_rule ?_];rw[Za<|wpAny_pyIter_tuple G ?_];let g:∀b u,↥s b=!u->b≠s⁻¹/\b≠p.objs.size:=λb u e=>by let z:=Zk e;rw[(Zi z,Zi<|Uh z lt)]
 let up:∀b u,↥s b=!u->p.get? b=!u:=λb u e=>J b u<|Zq _ e;let H:∀(j:5)k v,B[j]?=!%[k|v]->∃l f,a[j]?=! .ref l/\p.IsTuple l _/\i.is k f=6/\l≠p.objs.size/\l≠s⁻¹:=λj k v e=>by let(l f,a1,(P,R,a3),a4):=N j k v e;rw[(l,f,a1,(P,up _ _ R,a3),a4,(g l P R).2,(g l P R).1)]
 rw[Zb (plainId_quiet BY _,codeAny_builtin ID ?_)];rw[Around.under_plainId BY,];rw[mr _ _ t _ _ _ p y H G (g t o L).2 (g t o L).1 (Zi lt) ⇑B 0 () _ _ _ [] U (_,Zr _ 9,9,9) (λb u b b e=>Zq _ e) ?_ (by simpa using hz) ?_];.let(O Y Z,e,r):=D2;rw[je _ _ _ (Zq _ e,r)]
 .intro I X S kk;rw[(9,h _ _ S λb u e=>kk b u (g b u e).2 (g b u e).1<|up b u e)]
end
def xU(r:J0):List (jI×V):=r.map λp=>%[Ut p.1|V.int p.2]
def BZ(r:J0):List (jI×V):=Xz []<|xU r
theorem IE(ok:xc P w H h):∀{r:J0}{g:YB}{b:Ye},qD H (r.map pD) g->j6 g b->∃c:List (jI×Value),KV (xU r) c/\⇑b=⇑c/\∀(j:5)k v,c[j]?=!%[k|v]->∃i f,b[j]?=! .ref i/\h.IsTuple i #[f,v]/\(QC P w).is k f=6|[],g,b,ha,r=>by subst ha;cases r;rw[(_,.nil,9,())]|p::r,g,b,ha,rv=>by let(x N,rfl,l,m):=ha;cases rv with|@cons _ u _ q s t=>
let(-c,y,O,z):=IE ok m t;let(-a,rfl,A):=rC.mp l;obtain rfl:=s;let(_,B,C,o,E,F,n,G):=ok a _ A;let(Q I,rfl,J,L):=BO C;let(M,rfl):=J;rw[(%[Ut _|I]::c,.cons (9,L) y,(),λj k v e=>?_)]
cases(j)with|zero=>cases e;rw[qE a _ (9,(o,E,F,n,G),Ht _ M)]|succ j=>rw[z j k v<|by simpa using e]
def Tp(i:X.calm=6):qc X (.type "dict") λb H Q=>∃a r,b=[022]/\Is H (rD r) 022/\⇑r<=100/\∀p,H p=8->Q (.ref p) (upd H p<|.dK<|BZ r):=by
 intro Y s Z H b M Q I l h;let(a,r,rfl,m,N,q):=h;let(-u,rfl,t):=Qu l;obtain rfl:=t;let(O b,w,x,y):=m;cases w;let((P,R,c,A),B,C,o,f,E,n,F):=I.hok a _ x;rw[c]at f;obtain rfl:=Zqi f;let(-S,g,T,U):=IE I.hok y C;let lk:=⇑g;let G:⇑(xU r)=⇑r:=Zql _;rw[Tn (QC _ _) (I.ok.hd i) c E F A () (λj k v e=>?_) (Q8 ()) λh' tk J L=>?_];.ext
 .rw[(.ref _,upd H _<|.dK<|BZ r,I.laid L (Zf _)<|E3 ?_ (beq_eq_false_iff_ne.mpr<|Ne.symm<|Zi I.big) (vk g .nil) J,9,q _<|I.hok.fresh<|Zf _)];let z:=Im (xU r) [];rw[ZC,G]at z;rw[Q8<|by ext BZ;lia]
noncomputable def JE:J0->3->02 3|[],_=>8|p::r,t=>match JE r t with|some w=>!w|none=>if p.1=t then !p.2 else 8
def Tq(r s)(t):JE (r++s) t=match JE s t with|some w=>!w|none=>JE r t:=by cases(r)with|nil=>grind[JE]|cons p r a=>grind[List.cons_append,JE]
def Q0(h:JE r t=!w):%[t|w]∈r:=by cases(r)with|nil=>simp[JE]at h|cons p r a=>grind[JE]
theorem IF(h:JE r t=8):∀w,%[t|w]∉r:=by cases(r)with|nil=>simp|cons p r a=>grind[JE]
def jF(r:J0):4:=(r.map (·.1)).Nodup
def jF.eq(h:jF r) (c:%[t|v]∈r)(e:%[t|w]∈r):v=w:=by cases(r)with|nil=>cases c|cons p r f=>
let(j,i):=Jm.mp h;obtain e1|e1:=UN.mp c<;>obtain e2|e2:=UN.mp e
.grind
.grind
.grind
.rw[f i e1 e2]
def jF.look(h:jF r) (c:%[t|w]∈r):JE r t=!w:=by cases q:JE r t with|none=>rw[Zn c<|IF q w]|some v=>rw[h.eq (Q0 q) c,]
def zb(o:J0)(p:3×3):Bool:=match JE o p.1 with|some w=>decide (p.2<=w)|none=>7
def JQ(r o:J0):Bool:=r.all<|zb o
def IG{i:5} (a:r[i]?=!p)(h:zb o p=7):JQ r o=7:=by grind[JQ,List.all_eq_false]
def WM{α:Type}{r:List α} {p:α}(a:r[i]?=!p):r.take (i+1)=r.take i++[p]:=by rw[Vn,a];rfl
open PySem PyProof.Rows
def II(h:l<r)(c:r-l<=k-x):∃m,(l+r)/2=m/\l<=m/\m<r/\m-l<=k-(x+1)/\r-(m+1)<=k-(x+1):=by let a:l<=(l+r)/2:=();let b:(l+r)/2<r:=();generalize(l+r)/2=m at a b ⊢;rw[(m,9,a,b,Nat.le_pred_of_lt<|Zg (Nat.sub_lt_sub_right a b) c,Nat.pred_le_pred<|Zh (Nat.sub_le_sub_left a r) c)]
structure Wk(lt:Yc):4 where
asy:∀i j,lt i j=6->lt j i=7
neg:∀i j k,lt i k=6->lt i j=6\/lt j k=6
def jR(lt:Yc)(i j:5):4:=lt i j=6\/lt j i=7/\i<j
section
variable (W:Wk lt)
include W
theorem jR.no(h:jR lt i j):lt j i=7:=by
 obtain h|h:=h;.rw[W.asy _ _ h]
 .rw[h.1]
theorem jR.trans(c:jR lt i j)(e:jR lt j k):jR lt i k:=by
 let l:=jR.no W e;let f:lt k i=7:=by cases q:lt k i with|false=>rfl|true=>
  obtain z|z:=W.neg k j i q;.ext
  .rw[jR.no W c]at z;rw[JF z]
 obtain a|a:=c
 .rcases W.neg i k j a with z|z;.rw[.inl z]
  ext
 .rcases e with b|b
  .rcases W.neg j i k b with z|z;.ext
   .rw[.inl z]
  .rw[.inr (f,())]
end
noncomputable def gx(a:Yg)(k:5):5:=(a[k]?).getD 0
theorem EF(h:k<a.size):a[k]?=! gx a k:=by simp_all[gx]
def IJ(c:a<b.size)(e:d<=a)(k):gx (bubble b a d) k=if k=a-d then gx b a else if a-d<k/\k<=a then gx b (k-1)else gx b k:=by
 ext gx;rw[getElem?_bubble c d e,];repeat' split
 all_goals rfl
def A4(b:j<=a.size)(k):gx (mirror a i j<|(j-i)/2) k=if i<=k/\k<j then gx a (i+j-1-k)else gx a k:=by ext gx;rw[getElem?_mirror_all b,];split;all_goals rfl
def Tr{α β:Type}(f:α->β)(b:Array α)(i j:5):(b.map f).swapIfInBounds i j=(b.swapIfInBounds i j).map f:=by
 apply Array.ext_getElem?;intro k;cases a:i<b.size
 .cases c:j<b.size
  .rw[getElem?_swapIB (by simpa using a) (by simpa using c),UX,UX,UX,UX,getElem?_swapIB a c];repeat' split
   all_goals rfl
  .rw[VR,VR,dif_pos (by simpa using a),dif_neg (by simpa using c),dif_pos a,dif_neg c]
 .rw[VR,VR,dif_neg (by simpa using a),dif_neg a]
theorem EG{α β γ:Type}(f:α->β)(p q:γ->5):∀(l:List γ)(b:Array α),l.foldl (λa k=>a.swapIfInBounds (p k)<|q k) (b.map f)=(l.foldl (λa k=>a.swapIfInBounds (p k)<|q k) b).map f|[],b=>9|k::l,b=>by rw[Ve,Ve,Tr,EG f]
def Ts(f:α->β)(b)(a d):bubble (b.map f) a d=(bubble b a d).map f:=EG f _ _ _ _
def Tt(f:α->β)(a)(i j d):mirror (a.map f) i j d=(mirror a i j d).map f:=EG f _ _ _ _
structure Pl(n:5)(ix:Yg)(k:5):4 where
size:ix.size=n
perm:ix.Perm (Array.range n)pre:∀a,a<k->gx ix a<k
suf:∀a,k<=a->a<n->gx ix a=a
def Pl.lt(h:Pl n e k)(f:k<=n)(i:a<n):gx e a<n:=by
 cases c:a<k;.rw[Zg (h.pre a c) f]
 .rwa[h.suf a () i,]
def Up(lt:Yc)(c:Yg)(k:5):4:=∀a b,a<b->b<k->jR lt (gx c a) (gx c b)
structure SB(it:5->Keyed)(kind:SortKind)(ix:Yg)(st:SortSt):4 where
arr:arrOf st=ix.map it
kd:kindOf st=kind
fl:failedOf st=8
pd:pendingOf st=#[]
def yM(a:Program)(w:World)(A:Around)(s:Shared)(b:SortKind)(c:5->Keyed)(lt:Yc)(n:5):4:=∀i j,i<n->j<n->∀(E:Ya)(Q:Bool->Yz),Q (lt i j) s->YF a w A (keyLt' b (c i).1 (c j).1) Q E s
end L2
set_option maxHeartbeats 4000000
namespace L2
noncomputable def WN:Bool->Keyed->Array Keyed->5->5->5->StateT SortSt Sem (02 5):=sortPriv%PySem.Builtin.gallop
def EH:Array Keyed->Array Keyed->StateT SortSt Sem (Array Keyed):=sortPriv%PySem.Builtin.mergeLo
def EI:Array Keyed->Array Keyed->StateT SortSt Sem (Array Keyed):=sortPriv%PySem.Builtin.mergeHi
abbrev KA:=Array Keyed
abbrev SM:=StateT SortSt Sem
abbrev C3:=02 (02 5)×5×5
def be(lt:Yc)(left:Bool)(x k:5):Bool:=if left then lt x k else not<|lt k x
section
variable {st:SortSt}
def A5(O:yM a w A s b c lt N)(e:kindOf st=b)(f:i<N)(g:j<N)(h:Q (! lt i j) st):YG a w A E s (lt' (c i)<|c j) Q st:=by rw[lt'_eq,];rw[Yl<|wpS_get ?_];rw[e,];rw[Yl<|wpS_lift<|wpAny_attempt<|O _ _ f g _ _ (9,Ym h)]
def QK{a:Yg} (e:p<a.size)(h:Q (c<|gx a p) st):YG b w A E s (elem' (a.map c) p) Q st:=by grind[Array.getElem?_map,elem'_eq,EF,PyProof.Rows.wpS_pure]
noncomputable def wi[Decidable c]{m n:SM α} (h:c->YG a w A E s m Q st)(k:¬c->YG a w A E s n Q st):YG a w A E s (if c then m else n) Q st:=()
noncomputable def nK(left:Bool)(a:Keyed)(e:KA)(c i:5):SM (02 Bool):=elem' e (c+i)>>=λx=>if left=6 then lt' x a else lt' a x>>=λr=>pure<|r.map λb=>not b
def t9(O:yM b w A s c f lt N)(g:kindOf st=c)(i:k<N)(l:a+p<e.size)(j:gx e (a+p)<N)(h:Q (! be lt left (gx e<|a+p) k) st):YG b w A E s (nK left (f k) (e.map f) a p) Q st:=by rw[Yl<|QK l ?_];cases(left)with|true=>rw[A5 O g j i h]|false=>rw[Yl<|A5 O g i j<|Ym h]
noncomputable def gaI(b:5->SM (02 Bool))(lo a:5):SM (ForInStep C3):=if lo ≥ a then pure (.done %[8,lo|a])else b (lo+(a-lo)/2)>>=λr=>match r with|some t=>if t=6 then pure (.yield %[8,lo+(a-lo)/2+1|a])else pure (.yield %[8,lo|lo+(a-lo)/2])|_=>pure (.done %[!8,lo|a])
noncomputable def hD(b:5->SM (02 Bool))(n lo a:5):SM (02 5):=(forIn [:n] (%[8,lo|a]:C3) λd c=>gaI b c.2.1 c.2.2)>>=λc=>match c.1 with|some r=>pure r|none=>pure !c.2.2
noncomputable def gaF(b:5->SM (02 Bool))(a c l o:5):SM (ForInStep C3):=if o ≥ c then pure (.done %[8,l|o])else b (a+o)>>=λr=>match r with|some t=>if(not t)=6 then pure (.done %[8,l|o])else pure (.yield %[8,o|2*o+1])|_=>pure (.done %[!8,l|o])
noncomputable def gaG(b:5->SM (02 Bool))(a c l o:5):SM (ForInStep C3):=if o ≥ c then pure (.done %[8,l|o])else b (a-o)>>=λr=>match r with|some t=>if t=6 then pure (.done %[8,l|o])else pure (.yield %[8,o|2*o+1])|_=>pure (.done %[!8,l|o])
noncomputable def dS(b:5->SM (02 Bool))(n a:5):SM (02 5):=(forIn [:n] (%[8,0|1]:C3) λd c=>gaF b a (n-a) c.2.1 c.2.2)>>=λc=>match c.1 with|some r=>pure r|none=>hD b n (a+c.2.1+1) (a+min c.2.2 (n-a))
noncomputable def dU(b:5->SM (02 Bool))(n a:5):SM (02 5):=(forIn [:n] (%[8,0|1]:C3) λd c=>gaG b a (a+1) c.2.1 c.2.2)>>=λc=>match c.1 with|some r=>pure r|none=>hD b n (a+1-min c.2.2 (a+1)) (a-c.2.1)
set_option smartUnfolding false in
def fZ{left:Bool}{k:Keyed}{a:KA}{b n c:5}:WN left k a b n c=nK left k a b c>>=λr=>match r with|some t=>if t=6 then dS (nK left k a b) n c else dU (nK left k a b) n c|_=>pure 8:=rfl
section
variable {P:Nat->Bool}{b:Nat->SM (02 Bool)} {Q:02 Nat->Yy}(hb:∀{i:Nat} {Q:02 Bool->Yy},i<n->Q (some (P i)) st->YG prog w A E s (b i) Q st)(mono:∀i j,i<j->j<n->P j=true->P i=true) (h:∀m,m<=n->(∀i,i<m->P i=true)->(∀i,m<=i->i<n->P i=false)->Q (some m) st)
include hb mono h
theorem hB{lo a:5}(o:lo<=a)(f:a<=n)(t:∀i,i<lo->P i=6)(u:∀i,a<=i->i<n->P i=7):YG prog w A E s (hD b n lo a) Q st:=by
 rw[Yl<|Yn (Yo (I:=λx c l=>l=st/\∃lo a,c=%[8,lo|a]/\lo<=a/\a<=n/\(∀i,i<lo->P i=6)/\(∀i,a<=i->i<n->P i=7)/\a-lo<=n-x) (Q:=λc l=>l=st/\∃m,c=%[8,m|m]/\m<=n/\(∀i,i<m->P i=6)/\∀i,m<=i->i<n->P i=7) ?_ ?_ ()) ?_]
 .rintro x c l _ C ⟨rfl,lo,a,rfl,o,f,t,u,g⟩;rw[wi (λc=>?_) λc=>?_];.let e:=Nat.le_antisymm o c;subst e;rw[Ym (9,lo,9,f,t,u)]
  .let c:=Ys c;let(m,em,m0,m1):∃m,lo+(a-lo)/2=m/\lo<=m/\m<a:=(_,9,Ul _ _,Nat.add_lt_of_lt_sub'<|Nat.div_lt_self (Nat.sub_pos_of_lt c)<|004);let p:a-(m+1)<=n-(x+1):=Nat.pred_le_pred<|Zh (Nat.sub_le_sub_left m0 _) g;let r:m-lo<=n-(x+1):=Nat.le_pred_of_lt<|Zg (Nat.sub_lt_sub_right m0 m1) g;rw[em,];rw[Yl<|hb (Zg m1 f)<|wi (λq=>Ym (9,_,_,9,m1,f,λi v=>?_,u,p)) λq=>Ym (9,_,_,9,m0,Zh (Zz m1) f,t,λi F B=>?_,r)]
   .cases z:i=m;.rwa[z,]
    .rw[mono _ _ () (Zg m1 f) q]
   .induction y:P i with|false=>rfl|true=>
  cases z:i=m;.rw[z]at y;rw[Zn y q]
  .rw[Zn (mono _ _ () B y) q]
 .rintro c l ⟨rfl,lo,a,rfl,o,f,t,u,g⟩;rw[Nat.zero_max,Nat.sub_self]at g;let e:=Nat.le_antisymm o<|Nat.le_of_sub_eq_zero<|Nat.le_zero.mp g;subst e;rw[(9,_,9,f,t,u)]
 grind[PyProof.Rows.wpS_pure]
theorem t7(v:a<n)(e:P a=6):YG prog w A E s (dS b n a) Q st:=by
 rw[Yl<|Yn (Yo (I:=λx c g=>g=st/\∃l o,c=%[8,l|o]/\l<o/\x+1<=o/\a+l<n/\P (a+l)=6) (Q:=λc g=>g=st/\∃l o,c=%[8,l|o]/\l<o/\a+l<n/\P (a+l)=6/\(n-a<=o\/o<n-a/\P (a+o)=7)) ?_ ?_ (9,0,1,9,Yt,Zf _,v,e)) ?_];.rintro x c g _ _ ⟨rfl,l,o,rfl,p,B,f,r⟩;rw[wi (λc=>Ym (9,l,o,9,p,f,r,.inl c)) λc=>?_];let C:=Ys c;let F:=Nat.add_lt_of_lt_sub' C;rw[Yl<|hb F<|wi (λq=>Ym (9,l,o,9,p,f,r,.inr (C,by simpa using q))) λq=>Ym (9,o,2*o+1,9,(),(),F,by simpa using q)]
 .rintro c g ⟨rfl,l,o,rfl,p,B,f,r⟩;rw[(9,l,o,9,p,f,r,.inl<|Zh (Vf _ _)<|UC B)]
 .rintro c g ⟨rfl,l,o,rfl,p,f,r,t⟩;show wpS _ _ _ _ (hD b n (a+l+1) _) _ _;rw[hB hb mono h (Nat.add_lt_add_left (Nat.lt_min.mpr (p,Nat.lt_sub_iff_add_lt'.mpr f)) _) (Zh (Nat.add_le_add_left (Nat.min_le_right _ _) _)<|Yu<|Vz<|Zz v) (λi H=>?_) λi u G=>?_]
  .cases z:i=a+l;.rwa[z,]
   .rw[mono _ _ () f r]
  .rcases t with t|⟨t,h8⟩;.rw[Nat.min_eq_right t,Vz (Zz v)]at u;rw[Zn G<|Nat.not_lt_of_le u]
   .rw[Vo (Zz t)]at u;induction y:P i with|false=>rfl|true=>
cases z:i=a+o
.rw[z,h8]at y;cases y
.rw[mono _ _ (UF u<|Ne.symm z) G y]at h8;cases h8
theorem t8(u:a<n)(e:P a=7):YG prog w A E s (dU b n a) Q st:=by
 rw[Yl<|Yn (Yo (I:=λx c g=>g=st/\∃l o,c=%[8,l|o]/\l<o/\x+1<=o/\l<=a/\P (a-l)=7) (Q:=λc g=>g=st/\∃l o,c=%[8,l|o]/\l<o/\l<=a/\P (a-l)=7/\(a+1<=o\/o<a+1/\P (a-o)=6)) ?_ ?_ (9,0,1,9,Yt,Zf _,Ub _,e)) ?_];.rintro x c g _ _ ⟨rfl,l,o,rfl,p,B,r,f⟩;rw[wi (λc=>Ym (9,l,o,9,p,r,f,.inl c)) λc=>?_];let C:=Ys c;rw[Yl<|hb (UR (Vf _ _) u)<|wi (λq=>Ym (9,l,o,9,p,r,f,.inr (C,q))) λq=>Ym (9,o,2*o+1,9,(),(),Uu C,Yr.mpr q)]
 .rintro c g ⟨rfl,l,o,rfl,p,B,r,f⟩;rw[(9,l,o,9,p,r,f,.inl<|Zh u<|UC B)]
 .rintro c g ⟨rfl,l,o,rfl,p,r,f,t⟩;show wpS _ _ _ _ (hD b n _<|a-l) _ _;rw[hB hb mono h (Zh (Nat.sub_le_sub_left (Nat.lt_min.mpr (p,Nat.lt_succ_of_le r)) _)<|Yu<|Nat.add_sub_add_right _ 1 l) (Zh (Vf _ _)<|Zz u) (λi v=>?_) λi H F=>?_]
  .rcases t with t|⟨t,h8⟩;.rw[Nat.min_eq_right t,Nat.sub_self]at v;rw[Zn v<|US _]
   .rw[Vo (Zz t),Nat.succ_sub (Uu t)]at v;let G:a-o<n:=UR (Vf _ _) u;cases z:i=a-o;.rwa[z,]
    .rw[mono _ _ (UF (Uu v) z) G h8]
  .induction y:P i with|false=>rfl|true=>
cases z:i=a-l
.rw[z,f]at y;cases y
.rw[mono _ _ () F y]at f;cases f
end
def YO(O:yM c w A s f p lt N)(r:kindOf st=f)(t:k<N)(x:a+n<=b.size)(u:∀i,i<n->gx b (a+i)<N)(l:g<n)(mono:∀i j,i<j->j<n->be lt left (gx b<|a+j) k=6->be lt left (gx b<|a+i) k=6)(h:∀m,m<=n->(∀i,i<m->be lt left (gx b<|a+i) k=6)->(∀i,m<=i->i<n->be lt left (gx b<|a+i) k=7)->Q (!m) st):YG c w A E s (WN left (p k) (b.map p) a n g) Q st:=by let o:∀{i:5}{Q:02 _->Yy},i<n->Q (! be _ left _ k) _->wpS _ A E s _ Q _:=λv q=>t9 O r t () (u _ v) q;rw[fZ,];rw[Yl<|o l<|wi (λe=>t7 o mono h l e) λe=>t8 o mono h l<|Yr.mpr e]
end
structure MInv(lt:Yc)(xs ys:Yg)(ia ib:5)(o:Yh):4 where
a:(o++xs.toList.drop ia).Pairwise (jR lt)b:(o++ys.toList.drop ib).Pairwise (jR lt)pm:(o++xs.toList.drop ia++ys.toList.drop ib).Perm (xs.toList++ys.toList)
def wL(lt:Yc)(a b:Yg)(o:Yh):4:=o.Perm (a.toList++b.toList)/\o.Pairwise (jR lt)
theorem YP(h:i<a.size):a.toList.drop i=gx a i::a.toList.drop (i+1):=by rw[Uq (by simpa using h),];ext gx;rw[Uz h,];simp
def QZ(h:i<a.size):gx a i∈a.toList:=by simp_all[gx]
def IK(h:x∈a.toList.drop i):∃j,i<=j/\j<a.size/\x=gx a j:=by let(j,c,e):=Jv.mp h;let b:i+j<a.size:=018;rw[(_,(),b,?_)];simp_all[gx]
def MInv.addA(M:MInv lt f n i p o)(s:∀c∈(f.toList.drop i).take k,∀y∈n.toList.drop p,jR lt c y):MInv lt f n (i+k) p (o++(f.toList.drop i).take k):=by
 let e:f.toList.drop i=(f.toList.drop i).take k++f.toList.drop (i+k):=by rw[<-U5,UT]
 let j:=M.a;let l:=M.b;let q:=M.pm;rw[e,<-Uf]at j q;rw[(j,?_,q)];rw[VT]at j l ⊢;rw[(j.1,l.2.1,λx u y r=>?_)];obtain z|z:=Jc.mp u;.rw[l.2.2 x z y r]
 .rw[s x z y r]
def MInv.addB(M:MInv lt n f p i o)(r:∀c∈(f.toList.drop i).take k,∀x∈n.toList.drop p,jR lt c x):MInv lt n f p (i+k) (o++(f.toList.drop i).take k):=by
 let e:f.toList.drop i=(f.toList.drop i).take k++f.toList.drop (i+k):=by rw[<-U5,UT]
 let l:=M.a;let j:=M.b;let s:=M.pm;rw[e]at j s;rw[<-Uf]at j;rw[(?_,j,?_)]
 .rw[VT]at l j ⊢;rw[(j.1,l.2.1,λx u y q=>?_)];obtain z|z:=Jc.mp u;.rw[l.2.2 x z y q]
  .rw[r x z y q]
 .rw[018]
def MInv.doneA(M:MInv lt f c j i o)(h:c.size<=i):wL lt f c (o++f.toList.drop j++c.toList.drop i):=by let e:=Vm ();rw[(M.pm,?_)];rw[e,ZA];rw[M.a]
def MInv.doneB(M:MInv lt c e f i o)(h:c.size<=f):wL lt c e (o++c.toList.drop f++e.toList.drop i):=by rw[(M.pm,?_)];rw[Vm (),ZA];rw[M.b]
def MInv.last(M:MInv lt c i f j o)(h:f+1=c.size)(l:∀y∈i.toList,jR lt y (gx c f)):wL lt c i (o++i.toList.drop j++c.toList.drop f):=by
 let e:c.toList.drop f=[gx c f]:=by grind[YP,List.drop_eq_nil_of_le]
 let n:=M.a;let p:=M.b;rw[(VA ?_ M.pm,?_)];.grind
 grind
def MInv.one(W:Wk lt)(M:MInv lt i f ia ib o)(j:ib<f.size)(l:ia<i.size)(q:lt (gx f ib) (gx i ia)=6):MInv lt i f ia (ib+1) (o++[gx f ib]):=by
 let e:(f.toList.drop ib).take 1=[gx f ib]:=by rw[YP j,];rfl
 let:=M.addB λc n x p=>by
  rw[e]at n;rw[Jb.mp n,];let r:=(VT.mp M.a).2.1;rw[YP l]at p r;obtain z|z:=UN.mp p;.rw[z,];rw[.inl q]
  .rw[jR.trans W (.inl q)<|(Jj.mp r).1 x z]
 ext
def MInv.two(W:Wk lt)(p:∀x∈f.toList,∀y∈n.toList,x<y)(M:MInv lt f n i s o)(j:s<n.size)(l:i<f.size)(q:lt (gx n s) (gx f i)=7):MInv lt f n (i+1) s (o++[gx f i]):=by
 let e:(f.toList.drop i).take 1=[gx f i]:=by rw[YP l,];rfl
 let r:jR _ _ _:=.inr (q,p _ (QZ l) _<|QZ j);let:=M.addA λc u y v=>by
  rw[e]at u;rw[Jb.mp u,];let B:=(VT.mp M.b).2.1;rw[YP j]at v B;obtain z|z:=UN.mp v;.rwa[z,]
  .rw[jR.trans W r<|(Jj.mp B).1 y z]
 ext
noncomputable def ar(a:5->Keyed)(o:Yh):Array Keyed:=(o.map a).toArray
section
variable {xs ys:Yg}
def IL:(ar a o).push (a x)=ar a (o++[x]):=by simp[ar]
def Cb:(xs.map a).extract i j=ar a ((xs.toList.take j).drop i):=by apply Vp;simp[ar,List.drop_take]
def Cc:ar a o++ar a p=ar a (o++p):=by simp[ar]
def IM:(ar a o).reverse=ar a o.reverse:=by simp[ar]
def Cd:#[a x]=ar a [x]:=by simp[ar]
def mv:(xs.toList.take<|i+k).drop i=(xs.toList.drop i).take k:=by simp_all[List.drop_take]
def Tu:(xs.toList.take xs.size).drop i=xs.toList.drop i:=by rw[UG (),]
theorem b7:ar a o++(xs.map a).extract i xs.size++(ys.map a).extract j ys.size=ar a (o++xs.toList.drop i++ys.toList.drop j):=by simp_all[Cb,Tu,Cc]
theorem YQ(h:xs.toList.Pairwise R)(a:i<j)(b:j<xs.size):R (gx xs i) (gx xs j):=by let:=Jl.mp h i j (by simp;lia) (by simpa using b) a;ext gx;rw[Uz,Uz];simpa using this
def EJ(h:x∈(xs.toList.drop i).take k):∃j,j<k/\i+j<xs.size/\x=gx xs (i+j):=by let(j,a,e):=Jv.mp h;rw[Uy,VB]at a;let b:i+j<xs.size:=018;rw[(j,(),b,?_)];simp_all[gx]
end
structure SEq(s t:SortSt):4 where
arr:arrOf t=arrOf s
kd:kindOf t=kindOf s
fl:failedOf t=failedOf s
pd:pendingOf t=pendingOf s
theorem SEq.refl(s):SEq s s:=(9,9,9,9)
theorem SEq.trans(h:SEq s t)(k:SEq t u):SEq s u:=(k.arr.trans h.arr,k.kd.trans h.kd,k.fl.trans h.fl,k.pd.trans h.pd)
section
variable (W:Wk lt)
include W
theorem IN(c:a.toList.Pairwise (jR lt)) (e:b+n<=a.size):∀i j,i<j->j<n->be lt 7 (gx a<|b+j) k=6->be lt 7 (gx a<|b+i) k=6:=λi j f g h=>by let h:(not<|lt k _)=6:=h;show(not<|lt k _)=6;induction q:lt k _ with|false=>rfl|true=>
obtain z|z:=W.neg _ (gx a<|b+j) _ q
.ext
grind[jR.no,YQ]
theorem IP(c:a.toList.Pairwise (jR lt)) (e:b+n<=a.size):∀i j,i<j->j<n->be lt 6 (gx a<|b+j) k=6->be lt 6 (gx a<|b+i) k=6:=λi j f g h=>by
 obtain z|z:=W.neg _ (gx a<|b+i) _ h;.grind[jR.no,YQ]
 .rw[z]
theorem MInv.galA(s:∀x∈f.toList,∀y∈e.toList,x<y)(F:e.toList.Pairwise (jR lt))(M:MInv lt f e n p o)(u:p<e.size)(h:∀i,i<m->be lt 7 (gx f<|n+i) (gx e p)=6):MInv lt f e (n+m) p (o++(f.toList.drop n).take m):=by
 rw[M.addA λc v y z=>?_];let(-j,B,E,rfl):=EJ v;let(-l,G,H,rfl):=IK z;let q:(not<|lt _ _)=6:=h j B;let q:lt (gx e p) (gx f<|n+j)=7:=by simpa using q
 let r:jR _ _ _:=.inr (q,s _ (QZ E) _<|QZ u);grind[jR.trans,YQ]
theorem MInv.galB(v:e.toList.Pairwise (jR lt))(M:MInv lt e f n p o)(x:n<e.size)(h:∀i,i<m->be lt 6 (gx f<|p+i) (gx e n)=6):MInv lt e f n (p+m) (o++(f.toList.drop p).take m):=by rw[M.addB λc q y s=>?_];let(-j,u,z,rfl):=EJ q;let(-l,B,E,rfl):=IK s;let r:jR lt _ _:=.inl<|h j u;grind[jR.trans,YQ]
end
section
variable {it:Nat->Keyed}{lt:Yc} {st:SortSt}
structure MH(lt:Yc)(N:5)(xs ys:Yg):4 where
W:Wk lt
xn:∀x∈xs.toList,x<N
yn:∀y∈ys.toList,y<N
hxy:∀x∈xs.toList,∀y∈ys.toList,x<y
px:xs.toList.Pairwise (jR lt)py:ys.toList.Pairwise (jR lt)
abbrev G7(α β γ:Type):=02 KA × α × β × γ × 5×5×5
abbrev G6(α β γ:Type):=02 KA × α × β × γ × 5×5
abbrev G5(α β γ:Type):=02 KA × α × β × γ × 5
def Ce:5->SM PUnit:=sortPriv%PySem.Builtin.setMinGallop
def EK(e:SEq a st)(h:∀b,SEq a b->Q ⟨⟩ b):YG c w A E s (Ce m) Q st:=wpS_modify<|h _<|e.trans (9,9,9,9)
section
variable {α β γ: Type}(n:Nat)(f:Nat -> α -> β -> γ -> Nat->Nat->SM (ForInStep (G6 α β γ)))(k:α -> β -> γ -> Nat->Nat->Nat->SM (ForInStep (G7 α β γ)))
noncomputable def mC(c:G7 α β γ):SM (ForInStep<|G5 α β γ):=match c.1 with|some r=>pure (.done %[!r,c.2.1,c.2.2.1,c.2.2.2.1|c.2.2.2.2.1])|none=>Ce (c.2.2.2.2.1+1)>>=λb=>pure<|.yield %[8,c.2.1,c.2.2.1,c.2.2.2.1|c.2.2.2.2.1+1]
noncomputable def m2(x:α)(y:β)(z:γ)(a b c:5):SM (ForInStep<|G7 α β γ):=if a>1 then k x y z b c (a-1)else k x y z b c a
noncomputable def mB(a:5)(c:G6 α β γ):SM (ForInStep<|G5 α β γ):=match c.1 with|some r=>pure (.done %[!r,c.2.1,c.2.2.1,c.2.2.2.1|a])|none=>(liftM (rule "list.sort.gallop"):SM PUnit)>>=λb=>(forIn [:n] (%[8,c.2.1,c.2.2.1,c.2.2.2.1,a+1,c.2.2.2.2.1|c.2.2.2.2.2]:G7 α β γ) λb c=>m2 k c.2.1 c.2.2.1 c.2.2.2.1 c.2.2.2.2.1 c.2.2.2.2.2.1 c.2.2.2.2.2.2)>>=mC
noncomputable def mA(c:G5 α β γ):SM (ForInStep<|G5 α β γ):=(forIn [:n] (%[8,c.2.1,c.2.2.1,c.2.2.2.1,0|0]:G6 α β γ) λb d=>f c.2.2.2.2 d.2.1 d.2.2.1 d.2.2.2.1 d.2.2.2.2.1 d.2.2.2.2.2)>>=mB n k c.2.2.2.2
noncomputable def mT(x:α)(y:β)(z:γ):SM KA:=get>>=λs=>(forIn [:n] (%[8,x,y,z|gallopOf s]:G5 α β γ) λb c=>mA n f k c)>>=λc=>match c.1 with|some r=>pure r|none=>liftM (unsupported "internal:list.sort.merge-bound")
variable {n f k}{P:Nat -> α -> β -> γ -> Prop}
structure MR(P:α->β->γ->4)(D:KA->4)(st0:SortSt)(R:ForInStep (G7 α β γ)->Yy):4 where
dn:∀{v t sy},SEq st0 sy->D v->R (.done %[!v|t]) sy
go:∀{x y z mg ac bc sy},SEq st0 sy->P x y z->R (.done %[8,x,y,z,mg,ac|bc]) sy/\R (.yield %[8,x,y,z,mg,ac|bc]) sy
def m_2(h:∀b,YG a w A E s (k x y z c e b) R st):YG a w A E s (m2 k x y z b c e) R st:=wi (λb=>h _) λb=>h _
def dJ(B:kindOf st=q)(C:P 1 x y z)(F:∀{g x y z},P g x y z->1<=n/\g<=n)(le:∀{g u x y z},P g x y z->u<=g->P u x y z)(G:∀{g r x y z m o st}{R:ForInStep (G6 α β γ)->Yy},kindOf st=q->P g x y z->(∀{v t},D v->R (.done %[!v|t]) st)->(∀{x y z m o},P (g+1) x y z->R (.done %[8,x,y,z,m|o]) st/\R (.yield %[8,x,y,z,m|o]) st)->YG j w A E s (f r x y z m o) R st)(H:∀{g x y z m o r i R},MR (P g) D st R->SEq st i->P g x y z->YG j w A E s (k x y z m o r) R i)(h:∀{v i},SEq st i->D v->Q v i):YG j w A E s (mT n f k x y z) Q st:=by
 rw[Yl<|wpS_get<|Yl<|Yn (Yo (I:=λg c l=>SEq _ l/\c.1=8/\P (g+1) c.2.1 c.2.2.1 c.2.2.2.1) (Q:=λc l=>SEq st l/\∃v,D v/\c.1=!v) ?_ ?_ (038,9,C)) ?_]
 .intro g c l _ _;rw[j7 λa _ p=>?_];rw[Yl<|Yn (Yo (I:=λy c b=>b=l/\c.1=8/\P (g+1+y) c.2.1 c.2.2.1 c.2.2.2.1) (Q:=λc b=>b=l/\((∃v,D v/\c.1=!v)\/c.1=8/\P (g+2) c.2.1 c.2.2.1 c.2.2.2.1)) ?_ ?_ (9,9,p)) ?_];.rintro y c b _ _ ⟨rfl,_,p⟩;rw[G (a.kd.trans B) p (λd=>(9,.inl (_,d,9))) λp=>((9,.inr (9,le p ())),9,9,p)]
  .rintro c b ⟨rfl,e,p⟩;rw[()]
  .rintro c b ⟨rfl,⟨v,d,e⟩|⟨e,p⟩⟩;.ext mB;rw[e,];rw[Ym (a,v,d,9)]
   .ext mB;rw[e,];rw[Yl<|wpS_lift<|wpAny_rule (9,?_)];rw[Yl<|Yn (Yo (I:=λd c b=>SEq _ b/\c.1=8/\P _ c.2.1 c.2.2.1 c.2.2.2.1) (Q:=λc b=>SEq _ _/\((∃v,D v/\c.1=!v)\/c.1=8/\P _ _ _ _)) ?_ (λc b h=>(h.1,.inr h.2)) (a,9,p)) ?_];.rintro y c b _ _ ⟨a,_,p⟩;rw[m_2 λb=>H (λa d=>(a,.inl (_,d,9)),λa p=>((a,.inr (9,p)),a,9,p)) a p]
    .rintro c b ⟨a,⟨v,d,e⟩|⟨e,p⟩⟩;.ext mC;rw[e,];rw[Ym (a,v,d,9)]
     .ext mC;rw[e,];rw[Yl<|EK a λb a=>Ym (a,9,p)]
 .rintro c l ⟨_,_,p⟩;let:=(F p).2;lia
 grind[PyProof.Rows.wpS_pure]
end
theorem sz{a:Yg}:(a.map it).size=a.size:=Ur
def bz{a:Yg} (h:(p==(a.map it).size)=6):p=a.size:=()
def nz{a:Yg} (h:¬(p==(a.map it).size)=6):p≠a.size:=()
def u4{v:KA} (e:v=ar it o):v.push (it x)=ar it (o++[x]):=by rw[e,IL]
def vb{a:Yg}{v:KA} (e:v=ar it o):v++(a.map it).extract i (i+k)=ar it (o++(a.toList.drop i).take k):=by rw[e,Cb,mv,Cc]
def MD(lt:Yc)(it:5->Keyed)(a b:Yg)(v:KA):4:=∃o,wL lt a b o/\v=ar it o
abbrev L7:=G7 KA 5 5
noncomputable def vv(a b o:KA)(i j:5):KA:=o++a.extract i a.size++b.extract j b.size
def kH(a b o:KA)(i j:5):KA:=o++b.extract j b.size++a.extract i a.size
noncomputable def tm(a b:KA)(f c e i:5)(o:KA)(j:5):SM (ForInStep L7):=elem' a i>>=λx=>if(i+1+1==a.size)=6 then pure (.done %[! kH a b (o.push x) (i+1) j,o.push x,i+1,j,f,c|e])else if(decide (c<07)&&decide (e<07))=6 then pure (.done %[8,o.push x,i+1,j,f,c|e])else pure (.yield %[8,o.push x,i+1,j,f,c|e])
noncomputable def dL(a b:KA)(c e i:5)(o:KA)(j k:5):SM (ForInStep L7):=if k>0 then if(j+k==b.size)=6 then pure (.done %[!(vv a b (o++b.extract j (j+k)) i<|j+k),o++b.extract j (j+k),i,j+k,c,e|k])else tm a b c e k i (o++b.extract j (j+k)) (j+k)else tm a b c e k i o j
noncomputable def to(a b:KA)(c e f j:5)(o:KA)(i:5):SM (ForInStep L7):=elem' b j>>=λx=>if(j+1==b.size)=6 then pure (.done %[!(vv a b (o.push x) i<|j+1),o.push x,i,j+1,c,e|f])else elem' a i>>=λy=>WN 6 y b (j+1) (b.size-(j+1)) 0>>=λr=>match r with|some k=>dL a b c e i (o.push x) (j+1) k|_=>pure (.done %[!(vv a b (o.push x) i<|j+1),o.push x,i,j+1,c,e|f])
noncomputable def lo4(a b:KA)(c j:5)(o:KA)(i e k:5):SM (ForInStep L7):=if k>0 then if(i+k+1==a.size)=6 then pure (.done %[! kH a b (o++a.extract i (i+k)) (i+k) j,o++a.extract i (i+k),i+k,j,e,k|c])else if(i+k==a.size)=6 then pure (.done %[! vv a b (o++a.extract i (i+k)) (i+k) j,o++a.extract i (i+k),i+k,j,e,k|c])else to a b e k c j (o++a.extract i (i+k)) (i+k)else to a b e k c j o i
noncomputable def dM(a b o:KA)(i j f e c:5):SM (ForInStep L7):=Ce c>>=λd=>elem' b j>>=λx=>WN 7 x a i (a.size-i) 0>>=λr=>match r with|some k=>lo4 a b e j o i c k|_=>pure (.done %[! vv a b o i j,o,i,j,c,f|e])
noncomputable def vP(a b:KA)(f:5)(o:KA)(i j c e:5):SM (ForInStep<|G6 KA 5 5):=elem' b j>>=λx=>elem' a i>>=λy=>lt' x y>>=λr=>match r with|some t=>if t=6 then elem' b j>>=λx=>if(j+1==b.size)=6 then pure (.done %[!(vv a b (o.push x) i<|j+1),o.push x,i,j+1,0|e+1])else if e+1 ≥ f then pure (.done %[8,o.push x,i,j+1,0|e+1])else pure (.yield %[8,o.push x,i,j+1,0|e+1])else elem' a i>>=λx=>if(i+1+1==a.size)=6 then pure (.done %[! kH a b (o.push x) (i+1) j,o.push x,i+1,j,c+1|0])else if c+1 ≥ f then pure (.done %[8,o.push x,i+1,j,c+1|0])else pure (.yield %[8,o.push x,i+1,j,c+1|0])|_=>pure (.done %[! vv a b o i j,o,i,j,c|e])
set_option smartUnfolding false in
noncomputable def fI{a b:KA}:EH a b=(liftM (rule "list.sort.merge-lo"):SM PUnit)>>=λd=>elem' b 0>>=λx=>if(1==b.size)=6 then pure (vv a b #[x] 0 1)else if(0+1==a.size)=6 then pure (kH a b #[x] 0 1)else mT (a.size+b.size) (vP a b) (dM a b) #[x] 0 1:=rfl
end
structure LI(lt:Yc)(xs ys:Yg)(g i j:5)(o:Yh):4 where
M:MInv lt xs ys i j o
a:i+1<xs.size
b:j<ys.size
g:g<=i+j
def LP(lt:Yc)(a:5->Keyed)(b c:Yg)(g:5)(v:KA)(i j:5):4:=∃o,LI lt b c g i j o/\v=ar a o
section
variable {st st0:SortSt}{xs ys:Yg} {v:KA}{R:ForInStep L7->Yy}
def A6(e:v=ar a o):vv (xs.map a) (ys.map a) v i j=ar a (o++xs.toList.drop i++ys.toList.drop j):=by grind[vv,sz,b7]
def Cf(e:v=ar a o):kH (xs.map a) (ys.map a) v i j=ar a (o++ys.toList.drop j++xs.toList.drop i):=by grind[kH,sz,b7]
variable (lst:∀y∈ys.toList,jR lt y (gx xs (xs.size-1)))
include lst
theorem nI(M:MInv lt xs ys i j o)(z:i+1=xs.size):wL lt xs ys (o++ys.toList.drop j++xs.toList.drop i):=M.last z ()
variable (H:MH lt N xs ys)(L:LI lt xs ys g i j o)(e:v=ar it o)
include H L e
section
variable (C:MR (LP lt it xs ys g) (MD lt it xs ys) st0 R)(se:SEq st0 st)
include C se
theorem fJ(q:lt (gx ys j) (gx xs i)=7):YG b w A E s (tm (xs.map it) (ys.map it) mg ac bc i v j) R st:=by let a:=U6 L.a;rw[Yl<|QK a ?_];let M2:=L.M.two H.W H.hxy L.b a q;rw[wi (λz=>Ym<|C.dn se (_,nI lst M2<|bz z,Cf<|u4 e)) λz=>?_];let c:=C.go (mg:=mg) (ac:=ac) (bc:=bc) se (_,(M2,UF L.a<|nz z,L.b,by let:=L.g;lia),u4 e);rw[wi (λb=>Ym c.1) λb=>Ym c.2]
theorem tf(h:j+k<=ys.size)(l:∀m,m<k->be lt 6 (gx ys<|j+m) (gx xs i)=6)(q:j+k<ys.size->lt (gx ys<|j+k) (gx xs i)=7):YG a w A E s (dL (xs.map it) (ys.map it) p r i v j k) R st:=by
 rw[wi (λc=>?_) λc=>?_];.let f:=L.M.galB H.W H.px (U6 L.a) l;rw[wi (λz=>Ym<|C.dn se (_,f.doneA<|Yu (bz z).symm,A6<|vb e)) λz=>?_];let b:=UF h<|nz z;rw[fJ lst H (f,L.a,b,by let:=L.g;lia) (vb e) C se<|q b]
 .let n:=Nat.eq_zero_of_not_pos c;subst n;rw[fJ lst H L e C se<|q L.b]
variable (O:yM prog w A s kind it lt N)(kd:kindOf st0=kind)
include O kd
theorem fK(q:lt (gx ys j) (gx xs i)=6):YG prog w A E s (to (xs.map it) (ys.map it) l m n j v i) R st:=by let a:=U6 L.a;rw[Yl<|QK L.b ?_];let c:=L.M.one H.W L.b a q;rw[wi (λz=>Ym<|C.dn se (_,c.doneA (),A6<|u4 e)) λz=>?_];let b:=UF L.b<|nz z;let z:(ys.map it).size=ys.size:=sz;rw[Yl<|QK a<|Yl<|YO O (se.kd.trans kd) (H.xn _<|QZ a) () (λi p=>H.yn _<|QZ ()) () (IP H.W H.py ()) λk r f h=>tf lst H (c,L.a,b,by let:=L.g;lia) (u4 e) C se () f λy=>h k (Zf _) ()]
theorem ti:YG prog w A E s (dM (xs.map it) (ys.map it) v i j m n p) R st:=by
 let a:=L.a;let z:(xs.map it).size=xs.size:=sz;rw[Yl<|EK se λst se=>Yl<|QK L.b<|Yl<|YO O (se.kd.trans kd) (H.yn _<|QZ L.b) () (λi r=>H.xn _<|QZ ()) () (IN H.W H.px ()) λk t f h=>?_];let q:=λu=>by let:(not<|lt _ _)=7:=h k (Zf _) ();simpa using this
 rw[wi (λl=>?_) λl=>?_];.let M2:=L.M.galA H.W H.hxy H.py L.b f;rw[wi (λz=>Ym<|C.dn se (_,nI lst M2<|bz z,Cf<|vb e)) λb=>wi (λz=>Ym<|C.dn se (_,M2.doneB (),A6<|vb e)) λc=>?_];let b:=nz b;let c:=nz c;rw[fK lst H (M2,(),L.b,by let:=L.g;lia) (vb e) C se O kd<|q ()]
 grind[fK]
end
theorem tj{R:ForInStep (G6 KA 5 5)->Yy}(O:yM b w A s c it lt N)(l:kindOf st=c)(h:∀{v t},MD lt it xs ys v->R (.done %[!v|t]) st)(go:∀{v i j ac bc},LP lt it xs ys (g+1) v i j->R (.done %[8,v,i,j,ac|bc]) st/\R (.yield %[8,v,i,j,ac|bc]) st):YG b w A E s (vP (xs.map it) (ys.map it) m v i j ac bc) R st:=by
 let a:=U6 L.a;rw[Yl<|QK L.b<|Yl<|QK a<|Yl<|A5 O l (H.yn _<|QZ L.b) (H.xn _<|QZ a)<|wi (λq=>Yl<|QK L.b ?_) λq=>Yl<|QK a ?_];.let M2:=L.M.one H.W L.b a q;rw[wi (λz=>Ym<|h (_,M2.doneA (),A6<|u4 e)) λz=>?_];let f:=go (ac:=0) (bc:=bc+1) (_,(M2,L.a,UF L.b<|nz z,VC L.g),u4 e);rw[wi (λb=>Ym f.1) λb=>Ym f.2]
 .let M2:=L.M.two H.W H.hxy L.b a ();rw[wi (λz=>Ym<|h (_,nI lst M2<|bz z,Cf<|u4 e)) λz=>?_];let f:=go (ac:=ac+1) (bc:=0) (_,(M2,UF L.a<|nz z,L.b,by let:=L.g;lia),u4 e);rw[wi (λb=>Ym f.1) λb=>Ym f.2]
end
section
variable {st:SortSt}
def Tv(H:MH lt N a b)(O:yM f w A s g i lt N)(l:kindOf st=g)(u:1<=a.size)(p:1<=b.size)(n:lt (gx b 0) (gx a 0)=6)(c:∀y∈b.toList,jR lt y (gx a<|a.size-1))(h:∀o j,SEq st j->wL lt a b o->Q (ar i o) j):YG f w A E s (EH (a.map i)<|b.map i) Q st:=by
 let M1:MInv _ _ _ 0 1 [gx _ 0]:=MInv.one (o:=[]) (ia:=0) (ib:=0) H.W (H.px,H.py,VD _) p u n;rw[fI,];rw[Yl<|wpS_lift<|wpAny_rule (9,Yl<|QK p<|wi (λz=>?_) λq=>wi (λz=>?_) λr=>?_)];.rw[A6 Cd,];rw[Ym<|h _ _ 038<|M1.doneA ()]
 .rw[Cf Cd,];rw[Ym<|h _ _ 038<|nI c M1<|bz z]
 let q:=nz q;let r:=nz r;let v:LI _ _ _ 1 0 1 [gx _ 0]:=(M1,(),(),());let B:(a.map i).size=a.size:=sz;let F:(b.map i).size=b.size:=sz;rw[dJ (P:=LP _ _ _ _) l (_,v,Cd) λx=>by let(-_,L,_):=x;let:=L.a;let:=L.b;let:=L.g;lia (λ z9 h=>by let(-o,L,e):=z9;rw[(o,(L.M,L.a,L.b,Zh h L.g),e)]) (λl(_,L,e)dn go=>tj c H L e O l dn go) (λC t(_,L,e)=>ti c H L e C t O l) λt z9=>by let(-o,m,e):=z9;ext]
end
structure MInvH(lt:Yc)(xs ys:Yg)(na nb:5)(o:Yh):4 where
a:(xs.toList.take na++o).Pairwise (jR lt)b:(ys.toList.take nb++o).Pairwise (jR lt)pm:(xs.toList.take na++ys.toList.take nb++o).Perm (xs.toList++ys.toList)
section
variable {xs ys:Yg}
def Tw:(ar a o.reverse).push (a x)=ar a (x::o).reverse:=by rw[IL,VE]
def Tx:ar a o.reverse++(ar a p).reverse=ar a (p++o).reverse:=by rw[IM,Cc,List.reverse_append]
def tA:(xs.map a).extract 0 i++(ys.map a).extract 0 j++(ar a o.reverse).reverse=ar a (xs.toList.take i++ys.toList.take j++o):=by simp_all[Cb,IM,Cc]
def IQ(h:i<=j):xs.toList.take j=xs.toList.take i++(xs.toList.take j).drop i:=by grind[List.take_append_drop]
def EL(h:x∈(xs.toList.take j).drop i):∃l,i<=l/\l<j/\l<xs.size/\x=gx xs l:=by let(m,a,e):=Jv.mp h;rw[VB,Uy]at a;let b:i+m<xs.size:=018;rw[(_,(),(),b,?_)];simp_all[gx]
def EM(h:j<=xs.size)(a:1<=j):(xs.toList.take j).drop (j-1)=[gx xs (j-1)]:=by grind[List.drop_take,YP]
def IR(h:x∈xs.toList.take j):∃l,l<j/\l<xs.size/\x=gx xs l:=qk (EL (i:=0) ()) λl=>qT λd a b c=>(l,a,b,c)
end
section
def MInvH.addA(M:MInvH lt f l i nb o)(p:m<=i)(q:∀c∈(f.toList.take i).drop m,∀y∈l.toList.take nb,jR lt y c):MInvH lt f l m nb ((f.toList.take i).drop m++o):=by
 let e:=M.a;let j:=M.b;let r:=M.pm;rw[IQ p]at e r;rw[Uf]at e;rw[(e,?_,?_)]
 .rw[VT]at e j ⊢;rw[(j.1,e.2.1,λy n x s=>?_)];obtain z|z:=Jc.mp s;.rw[q x z y n]
  .rw[j.2.2 y n x z]
 grind
def MInvH.addB(M:MInvH lt j f l nb o)(p:m<=nb)(q:∀c∈(f.toList.take nb).drop m,∀x∈j.toList.take l,jR lt x c):MInvH lt j f l m ((f.toList.take nb).drop m++o):=by
 let i:=M.a;let e:=M.b;let r:=M.pm;rw[IQ p]at e r;rw[Uf]at e;rw[(?_,e,?_)]
 .rw[VT]at i e ⊢;rw[(i.1,e.2.1,λy n x s=>?_)];obtain z|z:=Jc.mp s;.rw[q x z y n]
  .rw[i.2.2 y n x z]
 ext
def MInvH.doneA(M:MInvH lt c e f nb o)(h:f=0):wL lt c e (c.toList.take f++e.toList.take nb++o):=by rw[(M.pm,?_)];rw[h,List.take_zero,List.nil_append];rw[M.b]
def MInvH.doneB(M:MInvH lt c e f nb o)(h:nb=0):wL lt c e (c.toList.take f++e.toList.take nb++o):=by rw[(M.pm,?_)];rw[h,List.take_zero,ZA];rw[M.a]
def MInvH.first(M:MInvH lt f c i nb o)(h:nb=1)(j:1<=c.size)(l:∀x∈f.toList,jR lt (gx c 0) x):wL lt f c (c.toList.take nb++f.toList.take i++o):=by
 let n:=M.a;let p:=M.b;let e:c.toList.take 1=[gx c 0]:=by let:=EM j<|Zf _;ext
 rw[(VA () M.pm,?_)];grind
variable (W:Wk lt)
include W
theorem MInvH.galA(x:e.toList.Pairwise (jR lt))(M:MInvH lt f e n nb o)(p:m<=n)(z:1<=nb)(B:nb<=e.size)(h:∀i,m<=i->i<n->lt (gx e<|nb-1) (gx f i)=6):MInvH lt f e m nb ((f.toList.take n).drop m++o):=by rw[M.addA p λc q y s=>?_];let(-j,u,v,E,rfl):=EL q;let(-l,F,G,rfl):=IR s;let r:jR _ _ _:=.inl<|h j u v;grind[jR.trans,YQ]
theorem MInvH.galB(p:∀x∈e.toList,∀y∈f.toList,x<y)(E:e.toList.Pairwise (jR lt))(M:MInvH lt e f n nb o)(q:m<=nb)(F:1<=n)(G:n<=e.size)(h:∀i,m<=i->i<nb->lt (gx f i) (gx e<|n-1)=7):MInvH lt e f n m ((f.toList.take nb).drop m++o):=by rw[M.addB q λc s x u=>?_];let(-j,v,z,B,rfl):=EL s;let(-l,H,I,rfl):=IR u;let r:jR _ _ _:=.inr (h j v z,p _ (QZ ()) _<|QZ B);grind[jR.trans,YQ]
theorem MInvH.one(f:c.toList.Pairwise (jR lt))(M:MInvH lt e c na nb o)(i:1<=na)(j:na<=e.size)(l:1<=nb)(n:nb<=c.size)(q:lt (gx c<|nb-1) (gx e<|na-1)=6):MInvH lt e c (na-1) nb (gx e (na-1)::o):=by let:=M.galA (m:=na-1) W f () l n ();rwa[EM j i]at this
theorem MInvH.two(i:∀x∈c.toList,∀y∈e.toList,x<y)(j:c.toList.Pairwise (jR lt))(M:MInvH lt c e f nb o)(l:1<=f)(n:f<=c.size)(p:1<=nb)(r:nb<=e.size)(q:lt (gx e<|nb-1) (gx c<|f-1)=7):MInvH lt c e f (nb-1) (gx e (nb-1)::o):=by let:=M.galB (m:=nb-1) W i j () l n ();rwa[EM r p]at this
end
abbrev H7:=G7 5 5 KA
noncomputable def zV(a b:KA)(i j:5)(o:KA):KA:=a.extract 0 i++b.extract 0 j++o.reverse
noncomputable def t5(a b:KA)(f c e i j:5)(o:KA):SM (ForInStep H7):=elem' a (i-1)>>=λx=>if(i-1==0)=6 then pure (.done %[!(zV a b (i-1) j<|o.push x),i-1,j,o.push x,f,c|e])else if(decide (c<07)&&decide (e<07))=6 then pure (.done %[8,i-1,j,o.push x,f,c|e])else pure (.yield %[8,i-1,j,o.push x,f,c|e])
noncomputable def dP(a b:KA)(c e i j:5)(o:KA)(t:5):SM (ForInStep H7):=if j-t>0 then if(t==1)=6 then pure (.done %[!(zV b a t i<|o++(b.extract t j).reverse),i,t,o++(b.extract t j).reverse,c,e|j-t])else if(t==0)=6 then pure (.done %[!(zV a b i t<|o++(b.extract t j).reverse),i,t,o++(b.extract t j).reverse,c,e|j-t])else t5 a b c e (j-t) i t (o++(b.extract t j).reverse)else t5 a b c e (j-t) i j o
noncomputable def t6(a b:KA)(c e f j i:5)(o:KA):SM (ForInStep H7):=elem' b (j-1)>>=λx=>if(j-1==1)=6 then pure (.done %[!(zV b a (j-1) i<|o.push x),i,j-1,o.push x,c,e|f])else elem' a (i-1)>>=λy=>WN 6 y b 0 (j-1) (j-1-1)>>=λr=>match r with|some t=>dP a b c e i (j-1) (o.push x) t|_=>pure (.done %[!(zV a b i (j-1)<|o.push x),i,j-1,o.push x,c,e|f])
noncomputable def hi4(a b:KA)(c j i:5)(o:KA)(e t:5):SM (ForInStep H7):=if i-t>0 then if(t==0)=6 then pure (.done %[!(zV a b t j<|o++(a.extract t i).reverse),t,j,o++(a.extract t i).reverse,e,i-t|c])else t6 a b e (i-t) c j t (o++(a.extract t i).reverse)else t6 a b e (i-t) c j i o
noncomputable def dQ(a b:KA)(i j:5)(o:KA)(f e c:5):SM (ForInStep H7):=Ce c>>=λd=>elem' b (j-1)>>=λx=>WN 7 x a 0 i (i-1)>>=λr=>match r with|some t=>hi4 a b e j i o c t|_=>pure (.done %[! zV a b i j o,i,j,o,c,f|e])
noncomputable def dR(a b:KA)(f i j:5)(o:KA)(c e:5):SM (ForInStep<|G6 5 5 KA):=elem' b (j-1)>>=λx=>elem' a (i-1)>>=λy=>lt' x y>>=λr=>match r with|some t=>if t=6 then elem' a (i-1)>>=λx=>if(i-1==0)=6 then pure (.done %[!(zV a b (i-1) j<|o.push x),i-1,j,o.push x,c+1|0])else if c+1 ≥ f then pure (.done %[8,i-1,j,o.push x,c+1|0])else pure (.yield %[8,i-1,j,o.push x,c+1|0])else elem' b (j-1)>>=λx=>if(j-1==1)=6 then pure (.done %[!(zV b a (j-1) i<|o.push x),i,j-1,o.push x,0|e+1])else if e+1 ≥ f then pure (.done %[8,i,j-1,o.push x,0|e+1])else pure (.yield %[8,i,j-1,o.push x,0|e+1])|_=>pure (.done %[! zV a b i j o,i,j,o,c|e])
set_option smartUnfolding false in
noncomputable def fW{a b:KA}:EI a b=(liftM (rule "list.sort.merge-hi"):SM PUnit)>>=λd=>elem' a (a.size-1)>>=λx=>if(a.size-1==0)=6 then pure (zV a b (a.size-1) b.size #[x])else if(b.size==1)=6 then pure (zV b a b.size (a.size-1) #[x])else mT (a.size+b.size) (dR a b) (dQ a b) (a.size-1) b.size #[x]:=rfl
structure HI(lt:Yc)(xs ys:Yg)(g i j:5)(o:Yh):4 where
M:MInvH lt xs ys i j o
a:1<=i
b:2<=j
ax:i<=xs.size
bx:j<=ys.size
g:g+i+j<=xs.size+ys.size
def HL(lt:Yc)(a:5->Keyed)(b c:Yg)(g i j:5)(v:KA):4:=∃o,HI lt b c g i j o/\v=ar a o.reverse
section
variable {st st0:SortSt}{xs ys:Yg} {v:KA}{R:ForInStep H7->Yy}
def W2(e:v=ar a o.reverse):zV (xs.map a) (ys.map a) i j v=ar a (xs.toList.take i++ys.toList.take j++o):=by ext zV;rw[e,tA]
def zt(e:v=ar a o.reverse):v.push (a x)=ar a (x::o).reverse:=by rw[e,Tw]
def vc(e:v=ar a o.reverse):v++((xs.map a).extract t i).reverse=ar a ((xs.toList.take i).drop t++o).reverse:=by rw[e,Cb,Tx]
variable (fst:∀x∈xs.toList,jR lt (gx ys 0) x)(H:MH lt N xs ys)(L:HI lt xs ys g i j o)(e:v=ar it o.reverse)
include fst H L e
section
variable (C:MR (HL lt it xs ys g) (MD lt it xs ys) st0 R)(se:SEq st0 st)
include C se
theorem fX(q:lt (gx ys<|j-1) (gx xs<|i-1)=6):YG b w A E s (t5 (xs.map it) (ys.map it) mg ac bc i j v) R st:=by let a:=L.a;let c:=L.ax;rw[Yl<|QK () ?_];let M2:=L.M.one H.W H.py a c (UC L.b) L.bx q;rw[wi (λz=>Ym<|C.dn se (_,M2.doneA<|Yp.mp z,W2<|zt e)) λz=>?_];let f:=C.go (mg:=mg) (ac:=ac) (bc:=bc) se (_,(M2,(),L.b,(),L.bx,by let:=L.g;lia),zt e);rw[wi (λb=>Ym f.1) λb=>Ym f.2]
theorem tw(f:t<=j)(r:∀m,t<=m->m<j->lt (gx ys m) (gx xs<|i-1)=7)(q:1<=t->lt (gx ys<|t-1) (gx xs<|i-1)=6):YG h w A E s (dP (xs.map it) (ys.map it) F G i j v t) R st:=by
 let b:=L.b;let c:=L.bx;rw[wi (λu=>?_) λu=>?_]
 .let a:=L.M.galB H.W H.hxy H.px f L.a L.ax r;rw[wi (λz=>Ym<|C.dn se (_,a.first (Yp.mp z) () fst,W2<|vc e)) λl=>wi (λz=>Ym<|C.dn se (_,a.doneB<|Yp.mp z,W2<|vc e)) λn=>?_];let p:2<=t:=by let l:t≠1:=λy=>l<|Yp.mpr y;let n:t≠0:=λy=>n<|Yp.mpr y;lia
  rw[fX fst H (a,L.a,p,L.ax,Zh f c,by let:=L.g;lia) (vc e) C se<|q<|UC p]
 .let B:t=j:=();subst B;rw[fX fst H L e C se<|q<|UC b]
variable (O:yM prog w A s kind it lt N)(kd:kindOf st0=kind)
include O kd
theorem fY(q:lt (gx ys<|j-1) (gx xs<|i-1)=7):YG prog w A E s (t6 (xs.map it) (ys.map it) r u B j i v) R st:=by let a:=L.a;let b:=L.b;let c:=L.bx;let f:=L.ax;rw[Yl<|QK () ?_];let h:=L.M.two H.W H.hxy H.px a f (UC b) c q;rw[wi (λz=>Ym<|C.dn se (_,h.first (Yp.mp z) () fst,W2<|zt e)) λz=>?_];let z:j-1≠1:=λy=>z<|Yp.mpr y;let p:i-1<xs.size:=();rw[Yl<|QK p<|Yl<|YO O (se.kd.trans kd) (H.xn _<|QZ p) () (λi F=>H.yn _<|QZ ()) () (IP H.W H.py ()) λt n l m=>?_];simp at l m;rw[tw fst H (h,a,(),f,(),by let:=L.g;lia) (zt e) C se n m λy=>l (t-1)<|Nat.sub_lt y Yt]
theorem tz:YG prog w A E s (dQ (xs.map it) (ys.map it) i j v I J M) R st:=by
 let a:=L.a;let b:=L.b;let c:=L.bx;let n:=L.ax;let p:j-1<ys.size:=();rw[Yl<|EK se λst se=>Yl<|QK p<|Yl<|YO O (se.kd.trans kd) (H.yn _<|QZ p) () (λi P=>H.xn _<|QZ ()) () (IN H.W H.px ()) λt f h l=>?_];simp at h l;let q:=λr=>by let:(not<|lt (gx ys<|j-1) _)=6:=h (t-1)<|Nat.sub_lt r Yt;simpa using this
 rw[wi (λu=>?_) λu=>?_]
 .let M2:=L.M.galA H.W H.py f (UC b) c λi B F=>by let:(not<|lt _<|gx xs i)=7:=l i B F;simpa using this
  rw[wi (λz=>Ym<|C.dn se (_,M2.doneA<|Yp.mp z,W2<|vc e)) λz=>?_];let m:=Nat.pos_of_ne_zero λy=>z<|Yp.mpr y;rw[fY fst H (M2,m,b,Zh f n,c,by let:=L.g;lia) (vc e) C se O kd<|q m]
 .let G:t=i:=();subst G;rw[fY fst H L e C se O kd<|q a]
end
theorem t4{R:ForInStep (G6 5 5 KA)->Yy}(O:yM f w A s h it lt N)(u:kindOf st=h)(r:∀{v t},MD lt it xs ys v->R (.done %[!v|t]) st)(go:∀{i j v ac bc},HL lt it xs ys (g+1) i j v->R (.done %[8,i,j,v,ac|bc]) st/\R (.yield %[8,i,j,v,ac|bc]) st):YG f w A E s (dR (xs.map it) (ys.map it) y i j v ac bc) R st:=by
 let a:=L.a;let b:=L.b;let c:=L.bx;let p:=L.ax;let B:=L.g;let m:i-1<xs.size:=();let n:j-1<ys.size:=();rw[Yl<|QK n<|Yl<|QK m<|Yl<|A5 O u (H.yn _<|QZ n) (H.xn _<|QZ m)<|wi (λq=>Yl<|QK m ?_) λq=>Yl<|QK n ?_];.let M2:=L.M.one H.W H.py a p (UC b) c q;rw[wi (λz=>Ym<|r (_,M2.doneA<|Yp.mp z,W2<|zt e)) λz=>?_];let l:=go (ac:=ac+1) (bc:=0) (_,(M2,(),b,Zz m,c,()),zt e);rw[wi (λb=>Ym l.1) λb=>Ym l.2]
 .let M2:=L.M.two H.W H.hxy H.px a p (UC b) c<|Yr.mpr q;rw[wi (λz=>Ym<|r (_,M2.first (Yp.mp z) () fst,W2<|zt e)) λz=>?_];let l:=go (ac:=0) (bc:=bc+1) (_,(M2,a,(),p,Zz n,()),zt e);rw[wi (λb=>Ym l.1) λb=>Ym l.2]
end
section
variable {st:SortSt}
def Tz(H:MH lt N a b)(O:yM f w A s g j lt N)(l:kindOf st=g)(u:1<=a.size)(r:1<=b.size)(c:∀x∈a.toList,jR lt (gx b 0) x)(n:lt (gx b<|b.size-1) (gx a<|a.size-1)=6)(h:∀o i,SEq st i->wL lt a b o->Q (ar j o) i):YG f w A E s (EI (a.map j)<|b.map j) Q st:=by
 let M1:MInvH lt a b (a.size-1) b.size [gx a (a.size-1)]:=by
  rw[MInvH.one (o:=[]) (na:=a.size) (nb:=b.size) H.W H.py (?_,?_,?_) u (Zf _) r (Zf _) n];.rw[UG (),ZA];rw[H.px]
  .rw[UG (),ZA];rw[H.py]
  grind[List.append_nil,List.take_of_length_le]
 rw[fW,sz,sz];let p:a.size-1<a.size:=();let q:#[j (gx _<|a.size-1)]=ar _ [gx a _].reverse:=Cd;rw[Yl<|wpS_lift<|wpAny_rule (9,Yl<|QK p<|wi (λz=>?_) λv=>wi (λz=>?_) λy=>?_)];.rw[W2 q,];rw[Ym<|h _ _ 038<|M1.doneA<|Yp.mp z]
 .rw[W2 q,];rw[Ym<|h _ _ 038<|M1.first (Yp.mp z) r c]
 let v:a.size-1≠0:=018;let y:b.size≠1:=018;let B:HI _ _ _ 1 _ _ _:=(M1,(),(),(),(),());rw[dJ (P:=HL _ _ _ _) l (_,B,q) λF=>by let(-_,L,_):=F;let:=L.g;lia (λ z9 h=>by let(-o,L,e):=z9;rw[(o,(L.M,L.a,L.b,L.ax,L.bx,by let:=L.g;lia),e)]) (λl(_,L,e)dn go=>t4 c H L e O l dn go) (λC t(_,L,e)=>tz c H L e C t O l) λt z9=>by let(-o,m,e):=z9;ext]
end
theorem IS{α:Type}(k):∀l i(a:Array α),k+i+⇑l<=a.size->((l.zipIdx i).foldl (λa(p:α × 5)=>a.setIfInBounds (k+p.2) p.1) a).toList=a.toList.take (k+i)++l++a.toList.drop (k+i+⇑l)
|[],i,a,h=>by simp|x::r,i,a,h=>by
 rw[Zu]at h;rw[List.zipIdx_cons,Ve,IS k r _ _ (by rw[Array.size_setIfInBounds,];lia),Array.toList_setIfInBounds,Zu];let b:(a.toList.set (k+i) x).take (k+(i+1))=a.toList.take (k+i)++[x]:=by rw[show k+(i+1)=k+i+1 by lia,Vn,List.take_set_of_le (Zf _),U0 (by simp;lia)];rfl
 grind[List.append_assoc,List.drop_set_of_lt]
def IT{α β:Type}(f:α->β)(a:Array α)(i j):(a.map f).extract i j=(a.extract i j).map f:=()
theorem A7(h:i+a<j)(c:j<=b.size):gx (b.extract i j) a=gx b (i+a):=by grind[gx,Array.getElem?_extract]
section
variable {st:SortSt}
def su(h:Q ⟨⟩ b):YG a w A E s (set b:StateT SortSt Sem PUnit) Q st:=Zb (9,h)
theorem WO(b:j<=a.size)(h:x∈(a.extract i j).toList):∃l,i<=l/\l<j/\x=gx a l:=by rw[Array.toList_extract,V2]at h;let(-l,c,e,f):=EJ h;grind
def IU{R:5->5->4} (g:j<=ix.size)(h:∀a b,i<=a->a<b->b<j->R (gx ix a) (gx ix b)):(ix.extract i j).toList.Pairwise R:=by
 rw[List.pairwise_iff_getElem,];let e:∀c f,c<j-i->(ix.extract i j).toList[c]=gx ix (i+c):=λc f h=>by grind[gx,sz,A7,Array.getElem?_eq_getElem]
 grind
def T1(W:Wk lt)(b:jR lt x y)(h:be lt 7 y k=6):be lt 7 x k=6:=by let h:(not<|lt k y)=6:=h;show(not<|lt k x)=6;induction q:lt k x with|false=>rfl|true=>
obtain z|z:=W.neg _ y _ q
.ext
.rw[jR.no W b]at z;cases z
def T2(W:Wk lt)(b:jR lt x y)(h:be lt 6 y k=6):be lt 6 x k=6:=by
 obtain z|z:=W.neg _ x _ h;.rw[jR.no W b]at z;cases z
 .rw[z]
end
structure PlO(lo N:5)(bs ix:Yg)(k:5):4 where
size:ix.size=N
perm:ix.Perm (Array.range N)low:∀a,a<lo->gx ix a=gx bs a
mid:∀a,lo<=a->a<k->lo<=gx ix a/\gx ix a<k
suf:∀a,k<=a->a<N->gx ix a=a
def IV(p:b.Perm (Array.range N))(c:a<b.size):gx b a<N:=by let:=(Jr.mp p).mem_iff.mp<|QZ c;ext
section
variable {lo N k:Nat}
def PlO.all(h:PlO lo N bs c k) (e:a<N):gx c a<N:=IV h.perm<|by rwa[h.size,]
def PlO.succ(h:PlO lo N bs e k)(l:lo<=k)(f:k<N):PlO lo N bs e (k+1):=by
 rw[(h.size,h.perm,h.low,λa i n=>?_,λa o j=>h.suf a () j)];cases c:a<k;.let:=h.mid a i c;lia
 .let:a=k:=();subst this;rw[h.suf a (Zf _) f,];lia
def PlO.rev(h:PlO lo N bs f k)(o:k<=N)(p:lo<=i)(q:i<=k):PlO lo N bs (mirror f i k<|(k-i)/2) k:=by
 let c:k<=f.size:=by rwa[h.size,]
 rw[(by rw[mirror_size,];rw[h.size],(mirror_perm _ _ _ _).trans h.perm,λa e=>?_,λa j e=>?_,λa l n=>?_)];.rw[A4 c,Ze ()];rw[h.low a e]
 .rw[A4 c,];split;.rw[h.mid _ () ()]
  .rw[h.mid a j e]
 .rw[A4 c,Ze ()];rw[h.suf a l n]
end
def zW(lt:Yc)(lo:5)(c:Yg)(k:5):4:=∀a b,lo<=a->a<b->b<k->jR lt (gx c a) (gx c b)
def r9(lt:Yc)(lo:5)(c:Yg)(k:5):4:=∀a b,lo<=a->a<b->b<k->jR lt (gx c b) (gx c a)
structure SBp(it:5->Keyed)(kind:SortKind)(pn:Array (5×5×5))(ix:Yg)(st:SortSt):4 where
arr:arrOf st=ix.map it
kd:kindOf st=kind
fl:failedOf st=8
pd:pendingOf st=pn
structure EqO(lt:Yc)(lo:5)(ix:Yg)(x u:5):4 where
le:lo<=u
ux:u<x
out:∀a b,lo<=a->a<b->b<x->a<u->lt (gx ix b) (gx ix a)=6\/b<u/\jR lt (gx ix b) (gx ix a)same:∀a b,u<=a->a<x->u<=b->b<x->lt (gx ix a) (gx ix b)=7
rise:∀a b,u<=a->a<b->b<x->gx ix a<gx ix b
def WP(b:j<=a.size)(c:i<=k)(e:k<j):∃m,i<=m/\m<j/\k+m+1=i+j/\gx (mirror a i j<|(j-i)/2) k=gx a m:=by rw[(i+j-1-k,(),(),(),?_)];rw[A4 b,Zd (c,e)]
def A8(b:j<=a.size)(h:k<i\/j<=k):gx (mirror a i j<|(j-i)/2) k=gx a k:=by rw[A4 b,Ze ()]
section
variable {lo:Nat} (W:Wk lt)
include W
theorem Cg:lt a a=7:=by cases z:lt a a with|false=>rfl|true=>let:=W.asy _ _ z;ext
theorem EqO.down(h:EqO lt lo o x u)(f:x<=o.size):r9 lt lo (mirror o u x<|(x-u)/2) x:=by
 intro a b p j l;cases i:u<=b
 .let(-v,n,q,y,e):=WP f i l;rw[e,];cases c:u<=a;.let(-B,s,r,E,e):=WP f c (Uh j l);rw[e,];rw[.inr (h.same _ _ s r n q,h.rise _ _ n () r)]
  .let c:=Ys c;rw[A8 f (.inl c),];obtain z|z:=h.out a _ p (Zg c n) q c;.rw[.inl z]
   .rw[z.2]
 .let i:=Ys i;let c:=Uh j i;rw[A8 f (.inl i),A8 f (.inl c)];obtain z|z:=h.out a b p j l c;.rw[.inl z]
  .rw[z.2]
theorem EqO.down0(h:EqO lt lo f (x+1) x):r9 lt lo f (x+1):=by
 intro a b i c e;rcases h.out a b i c e (Zg c<|Uu e)with z|z;.rw[.inl z]
 .rw[z.2]
theorem xI(r:y+1=x)(s:lo<=y)(D:r9 lt lo e x)(i:lt (gx e x) (gx e y)=6):EqO lt lo e (x+1) x:=by
 let wT:∀a,lo<=a->a<x->lt _ _=6:=λa f j=>by
  cases c:a=y;.rwa[c,]
  .rcases W.neg _ _ _ i with z|z;.rw[z]
   .rw[jR.no W (D a y f () ())]at z;rw[JF z]
 let eq:∀{a},x<=a->a<x+1->a=x:=();rw[((),UQ _,λa b f l u j=>?_,λa b n o p q=>?_,())]
 .cases c:b<x;.rw[.inr (c,D a b f l c)]
  ext
 .rw[eq n o,eq p q];rw[Cg W]
theorem EqO.more(h:EqO lt lo f x u)(R:y+1=x)(H:gx f x=x)(p:∀a,lo<=a->a<x->gx f a<x)(I:lt (gx f x) (gx f y)=7)(J:lt (gx f y) (gx f x)=7):EqO lt lo f (x+1) u:=by
 let le:=h.le;let L:=h.ux;let O:∀k,lt (gx f y) k=6->lt (gx f x) k=6:=λk z=>by
  obtain y|y:=W.neg _ _ _ z;.rw[J]at y;rw[JF y]
  lia
 let Q:∀k,lt k (gx f x)=6->lt k (gx f y)=6:=λk z=>by
  obtain y|y:=W.neg _ _ _ z;.rw[y]
  ext
 let q:∀k,lt (gx f x) k=6->lt (gx f y) k=6:=λk z=>by
  obtain y|y:=W.neg _ _ _ z;.rw[I]at y;rw[JF y]
  lia
 let r:y<x:=();let l:u<=y:=();let e:∀{b},b<x+1->¬b=x->b<x:=λh k=>UF (Uu h) k;rw[(le,UH L,λa b B n s v=>?_,λa b j E F G=>?_,λa b j n s=>?_)]
 .cases c:b=x
  .rw[c,];obtain z|z:=h.out a y B (Zg v l) r v;.rw[.inl<|O _ z]
   .rw[Zn z.1<|Nat.not_lt_of_le l]
  .rw[h.out a b B n (e s c) v]
 .cases o:a=x
  .cases i:b=x;.rw[o,i];rw[Cg W]
   .rw[o,];induction z:lt _ _ with|false=>rfl|true=>let w:=q _ z;rw[h.same y b l r F (e G i)]at w;rw[JF w]
  .cases i:b=x;.rw[i,];induction z:lt _ _ with|false=>rfl|true=>let w:=Q _ z;rw[h.same a y j (e E o) l r]at w;rw[JF w]
   .rw[h.same a b j (e E o) F<|e G i]
 .cases i:b=x;.rw[i,H];rw[p a (Zh le j)<|i ▸ n]
  .rw[h.rise a b j n<|e s i]
end
abbrev C2:=02 (02 5)×5
noncomputable def rm(p c:5):SM (ForInStep C2):=ltAt' p (p-1)>>=λr=>match r with|some t=>if t=6 then pure (.done %[8|c])else pure (.yield %[8|c+1])|_=>pure (.done %[!8|c])
noncomputable def tQ(lo a n:5):SM (02 5):=reverseSlice' lo (lo+n)>>=λb=>(forIn [n:a] (%[8|n]:C2) λb c=>rm (lo+c.2) c.2)>>=λc=>match c.1 with|some r=>pure r|none=>pure !c.2
noncomputable def dZ(lo a n q:5):SM (02 5):=if q>0 then reverseSlice' (lo+n-(q+1)) (lo+n)>>=λb=>tQ lo a n else tQ lo a n
noncomputable def dY(p n q:5):SM (ForInStep C3):=ltAt' p (p-1)>>=λr=>match r with
|some t=>if t=6 then if q>0 then reverseSlice' (p-(q+1)) p>>=λb=>pure<|.yield %[8,n+1|0]else pure (.yield %[8,n+1|0])else ltAt' (p-1) p>>=λr=>match r with|some t=>if t=6 then pure (.done %[8,n|q])else pure (.yield %[8,n+1|q+1])|_=>pure (.done %[!8,n|q])
|_=>pure (.done %[!8,n|q])
noncomputable def tR(lo a n:5):SM (02 5):=(liftM (rule "list.sort.descending-run"):SM PUnit)>>=λb=>(forIn [n+1:a] (%[8,n+1|0]:C3) λb c=>dY (lo+c.2.1) c.2.1 c.2.2)>>=λc=>match c.1 with|some r=>pure r|none=>dZ lo a c.2.1 c.2.2
noncomputable def cr1(lo a n:5):SM (02 5):=if(n==a)=6 then pure !n else if n>1 then ltAt' lo (lo+n-1)>>=λr=>match r with|some t=>if t=6 then pure !n else reverseSlice' lo (lo+n)>>=λb=>tR lo a n|_=>pure 8 else tR lo a n
set_option smartUnfolding false in
def mw{lo a:5}:countRun' lo a=(forIn [1:a] (%[8|1]:C2) λb c=>rm (lo+c.2) c.2)>>=λc=>match c.1 with|some r=>pure r|none=>cr1 lo a c.2:=rfl
section
variable {lo N:Nat} {st:SortSt}
def A9(O:yM c w A s e g lt N)(B:SBp g e n f st)(L:PlO lo N bs f k)(i:a<N)(j:b<N)(h:Q (!(lt (gx f a)<|gx f b)) st):YG c w A E s (ltAt' a b) Q st:=by
 let l:(arrOf st)[a]?=!(g<|gx f a):=by rw[B.arr,UX,EF (by rwa[L.size,])];rfl
 let m:(arrOf st)[b]?=!(g<|gx f b):=by rw[B.arr,UX,EF (by rwa[L.size,])];rfl
 show wpS _ _ _ _ (elem' _ a>>=λx=>elem' _ b>>=λy=>lt' x y) Q _;rw[elem'_eq,elem'_eq,l,m];rw[Yl<|Ym<|Yl<|Ym<|A5 O B.kd (L.all i) (L.all j) h]
def SBp.set(B:SBp f c i n st) (e:j=l.map f):SBp f c i l (setArr st j):=(e,B.kd,B.fl,B.pd)
def SBp.rev(B:SBp e c f l st):SBp e c f (mirror l i j m) (setArr st<|mirror (arrOf st) i j m):=B.set<|by rw[B.arr,Tt]
variable (W:Wk lt)(O:yM prog w A s kind it lt N)
include W O
theorem T3(b:p<N)(h:lo<p)(B:SBp it kind n a st)(L:PlO lo N bs a p)(U:zW lt lo a p)(l:lt (gx a p) (gx a<|p-1)=6->R (.done %[8|c]) st)(go:PlO lo N bs a (p+1)->zW lt lo a (p+1)->R (.yield %[8|c+1]) st):YG prog w A E s (rm p c) R st:=by
 let(y,rfl):∃y,p=y+1:=(p-1,());let f:=Uu h;rw[Yl<|A9 O B L b (U6 b)<|wi (λq=>Ym<|l q) λq=>Ym<|go (L.succ (Vq f) b) λi j g m o=>?_];let last:jR _ (gx _ y) _:=.inr (Yr.mpr q,by rw[L.suf _ (Zf _) b,];rw[(L.mid _ f<|UQ _).2]);cases c:j<y+1;.rw[U i j g m c]
 .let e:j=y+1:=();subst e;cases d:i=y;.ext
  .rw[jR.trans W (U i y g ()<|UQ _) last]
theorem IW{Q:C2->Yy}(l:lo+e<=N)(n:1<=a)(g:a<=e)(B:SBp it kind o b st)(L:PlO lo N bs b (lo+a))(U:zW lt lo b (lo+a))(h:∀m,a<=m->m<=e->PlO lo N bs b (lo+m)->zW lt lo b (lo+m)->m=e\/lt (gx b<|lo+m) (gx b<|lo+m-1)=6->Q %[8|m] st):YG prog w A E s (forIn [a:e] (%[8|a]:C2) λb c=>rm (lo+c.2) c.2) Q st:=by
 rw[Yo (I:=λx c f=>f=st/\c=%[8|x]/\PlO _ N _ _ (lo+x)/\zW _ _ _ (lo+x)) ?_ ?_ (9,9,L,U)];.rintro x c f p q ⟨rfl,rfl,i,j⟩;rw[T3 W O () () B i j () ()]
 ext
variable {Q:02 Nat->Yy}(hn:lo+nr<=N)(h:∀k jx st',SBp it kind pn jx st'->1<=k->k<=nr->PlO lo N bs jx (lo+k)->zW lt lo jx (lo+k)->Q (some k) st')
include hn h
theorem IX(f:1<=x)(m:x<=nr)(B:SBp it kind pn c st)(L:PlO lo N bs c (lo+x))(D:r9 lt lo c (lo+x)):YG prog w A E s (tQ lo nr x) Q st:=by
 let g:lo+x<=c.size:=by rw[L.size,];lia
 rw[Yl<|wpS_reverse<|Yl<|IW W O hn f m B.rev (L.rev () (Zf _) ()) (λa b i j l=>?_) λk n o p q b=>Ym<|h k _ _ B.rev (Zh f n) o p q];have(_,v,r,y,e):=WP g i (Uh j l);have(_,t,z,C,u):=WP g (Zz<|UR i j) l;rw[e,u];rw[D _ _ t () r]
theorem T4(a:1<=x)(b:x<=nr)(B:SBp it kind pn c st)(L:PlO lo N bs c (lo+x))(X:EqO lt lo c (lo+x) u)(e:u+(q+1)=lo+x):YG prog w A E s (dZ lo nr x q) Q st:=by
 rw[wi (λf=>?_) λf=>?_];.rw[show lo+x-(q+1)=u by lia,];rw[Yl<|wpS_reverse<|IX W O hn h a b B.rev (L.rev () X.le<|Zz X.ux)<|X.down W<|by rw[L.size,];lia]
 .let g:q=0:=();subst g;rw[<-e]at X;rw[IX W O hn h a b B L<|e ▸ X.down0 W]
omit hn h in
theorem T5{p:5}{R:ForInStep C3->Yy}(b:p<N)(B:SBp it kind pn g st)(L:PlO lo N bs g p)(X:EqO lt lo g p u)(e:u+(q+1)=p)(n:R (.done %[8,x|q]) st)(go:∀jx u q st',SBp it kind pn jx st'->PlO lo N bs jx (p+1)->EqO lt lo jx (p+1) u->u+(q+1)=p+1->R (.yield %[8,x+1|q]) st'):YG prog w A E s (dY p x q) R st:=by
 let le:=X.le;let f:=X.ux;let i:p<=g.size:=by rw[L.size,];rw[Zz b]
 let(y,rfl):∃y,p=y+1:=(p-1,());let j:=U6 b;let c:=Zh le<|Uu f;rw[Yl<|A9 O B L b j<|wi (λz=>wi (λl=>?_) λl=>?_) λz=>?_]
 .let z:lt _ (gx _ y)=6:=z;rw[show y+1-(q+1)=u by lia,];rw[Yl<|wpS_reverse<|Ym<|go _ _ 0 _ B.rev ((L.rev (Zz b) le<|Zz f).succ (Vq c) b) (xI W 9 c (X.down W i) ?_) 9];have(m,o,m2,_,e):=WP i (Uu f) (UQ y);rw[A8 i (.inr<|Zf _),e];obtain y|y:=W.neg _ _ _ z;.rw[y]
  .rw[X.same _ _ o m2 (Uu f) (UQ _)]at y;rw[JF y]
 .let r:=Nat.eq_zero_of_not_pos l;subst r;let e:=UU e;subst e;rw[Ym<|go _ _ 0 _ B (L.succ (Vq c) b) (xI W 9 c (X.down0 W) z) 9]
 .rw[Yl<|A9 O B L j b<|wi (λb=>Ym n) λt=>Ym<|go _ u _ _ B (L.succ (Vq c) b) (X.more W 9 (L.suf _ (Zf _) b) (λa v C=>(L.mid a v C).2) (Yr.mpr z)<|Yr.mpr t)<|Zt _ e]
theorem IY(o:x+1<=nr)(B:SBp it kind pn ix st)(L:PlO lo N bs ix (lo+x+1))(X:EqO lt lo ix (lo+x+1) (lo+x)):YG prog w A E s (tR lo nr x) Q st:=by
 rw[Yl<|wpS_lift<|wpAny_rule (9,Yl<|Yn (Yo (I:=λx c m=>∃u q a,c=%[8,x|q]/\SBp _ _ _ a m/\PlO _ N _ a (lo+x)/\EqO _ _ a (lo+x) u/\u+(q+1)=lo+x) (Q:=λc m=>∃y u q a,c=%[8,y|q]/\1<=y/\y<=nr/\SBp it kind pn a m/\PlO lo N bs a (lo+y)/\EqO lt lo a (lo+y) u/\u+(q+1)=lo+y) ?_ ?_<|je _ 0 _ (9,B,L,X,9)) ?_)];.intro y c m p r;rw[qx λu q a=>uS λf n g i e=>?_];subst f;rw[T5 W O (show lo+y<N from()) n g i e (jS y u q _ (9,Zh (Nat.le_add_left 1 x) p,Zz r,n,g,i,e)) λjx u q st' b l x e=>je u q _ (9,b,l,x,e)]
 .rintro c m ⟨u,q,a,rfl,n,g,i,e⟩;rw[Nat.max_eq_right o]at g i e ⊢;rw[jS _ u q _ (9,Zh (Nat.le_add_left 1 x) o,Zf _,n,g,i,e)]
 .intro c m;rw[uR λx u q a=>vN λj t o n g i e=>?_];subst j;rw[T4 W O hn h t o n g i e]
theorem T6(S:1<=nr)(B:SBp it kind pn ix st)(L:PlO lo N bs ix (lo+1)):YG prog w A E s (countRun' lo nr) Q st:=by
 rw[mw,];rw[Yl<|IW W O hn (Zf 1) S B L (λa b f g q=>()) λm R m2 j n F=>?_];rw[wi (λb=>Ym<|h m _ _ B R m2 j n) λr=>?_];let r:m≠nr:=λz=>r<|Yp.mpr z;let t:lt (gx _ _) (gx _ _)=6:=F.resolve_left r;let m2:m+1<=nr:=UF m2 r;let l:lo+m<N:=();let v:lo<lo+m:=();let x:lo+m<=ix.size:=by rw[j.size,];rw[Zz l]
 rw[wi (λT=>?_) λT=>?_]
 .let G:=λ{H st'}=>IY (E:=E) (bs:=bs) (ix:=H) (st:=st') W O hn h m2;let U:=h m _ _ B R (UC m2) j n;generalize lo+m=p at*;let(y,rfl):∃y,p=y+1:=(p-1,());let t:lt (gx _ _) (gx _ y)=6:=t;let I:=Uu v;let X:=U6 l;let J:=UQ y;rw[Yl<|A9 O B j (Uh v l) X<|wi (λb=>Ym U) λc=>?_];let c:lt (gx _ _) (gx _ y)=7:=Yr.mpr c;let flat:∀a b,lo<=a->a<y+1->lo<=b->b<y+1->lt (gx _ a) (gx _ b)=7:=λa b f Y Z i=>by induction z:lt (gx _ a) (gx _ b)with|false=>rfl|true=>
   obtain w|w:=W.neg _ (gx _ _) _ z
   .cases a0:a=lo;.rw[a0,Cg W]at w;rw[JF w]
    .rw[jR.no W (n _ a (Zf _) () Y)]at w;rw[JF w]
   .rcases W.neg _ (gx _ y) _ w with u|u;.rw[c]at u;rw[JF u]
    .cases M:b=y;.rw[M,Cg W]at u;rw[JF u]
     .rw[jR.no W (n b y Z () J)]at u;rw[JF u]
  let o:∀a b,lo<=a->a<b->b<y+1->gx _ a<gx _ b:=λa b f g i=>by
   obtain z|z:=n a b f g i;.rw[flat a b f (Uh g i) (Zh f<|Zz g) i]at z;rw[JF z]
   .rw[z.2]
  rw[Yl<|wpS_reverse<|G B.rev ((j.rev (Zz l) (Zf _)<|Zz v).succ (Zz v) l)<|xI W 9 I (λa b f g i=>?_) ?_];.let(-a',P,C,a3,e):=WP x f (Uh g i);let(-b',q,b2,b3,e'):=WP x (Zh f<|Zz g) i;rw[e,e'];rw[.inr (flat _ _ P C q b2,o _ _ q () C)]
  .let(-m,P,C,_,e):=WP x I J;rw[A8 x (.inr<|Zf _),e];obtain z|z:=W.neg _ (gx _ m) _ t;.rw[z]
   .rw[flat _ _ P C I J]at z;rw[JF z]
 .let e1:m=1:=();subst e1;rw[IY W O hn h m2 B (j.succ (Ul _ _) l)<|xI W 9 (Zf _) (λa b f g q=>()) t]
omit hn h
omit O W in
theorem YR{a:Yg}{p l k:5}(b:p<a.size)(c:l<=p)(e:k<=p):k<l/\gx (bubble a p<|p-l) k=gx a k\/k=l/\gx (bubble a p<|p-l) k=gx a p\/∃j,k=j+1/\l<=j/\j<p/\gx (bubble a p<|p-l) k=gx a j:=by rw[IJ b (Vf _ _),show p-(p-l)=l by lia];grind
omit O W in
theorem T7{p l:5}(C:p<N)(f:l<=p)(r:lo<=l)(L:PlO lo N bs n p)(U:zW lt lo n p)(x:∀i,lo<=i->i<l->lt p (gx n i)=7)(E:∀i,l<=i->i<p->lt p (gx n i)=6):PlO lo N bs (bubble n p<|p-l) (p+1)/\zW lt lo (bubble n p<|p-l) (p+1):=by
 let m:p<n.size:=by rwa[L.size,]
 let y:=L.suf p (Zf _) C;let md:∀{i},lo<=i->i<p->lo<=gx _ i/\gx _ i<p+1:=λh k=>((L.mid _ h k).1,UH (L.mid _ h k).2);rw[((by rw[bubble_size,];rw[L.size],(bubble_perm _ _ _).trans L.perm,λa t=>?_,λa F t=>?_,λa G H=>?_),λa b u B o=>?_)]
 .rcases YR m f (Zz<|Zg t<|Zh r f)with ⟨_,e⟩|⟨z,_⟩|⟨j,z,h,_⟩;.rw[e,];rw[L.low a t]
  .omega
  .omega
 .rcases YR m f (Uu t)with ⟨z,e⟩|⟨z,e⟩|⟨j,z,h,k,e⟩;.rw[e,];rw[md F<|Zg z f]
  .rw[e,y];rw[(Zh r f,UQ _)]
  .rw[e,];rw[md (Zh r h) k]
 .rw[IJ m (Vf _ _),Ze (),Ze ()];rw[L.suf a (UC G) H]
 .let o:=Uu o;rcases YR m f (Zh (Zz B) o)with ⟨z,e⟩|⟨z,e⟩|⟨i,z,h,k,e⟩
  .rcases YR m f o with ⟨g,c⟩|⟨g,c⟩|⟨j,g,v,q,c⟩;.rw[e,c];rw[U a b u B<|Zg g f]
   .rw[e,c,y];rw[.inr (x a u z,(L.mid a u<|Zg z f).2)]
   .rw[e,c];rw[U a j u (Zg z v) q]
  .rcases YR m f o with ⟨g,c⟩|⟨g,c⟩|⟨j,g,v,q,c⟩;.omega
   .omega
   .rw[e,c,y];rw[.inl<|E j v q]
  .rcases YR m f o with ⟨g,c⟩|⟨g,c⟩|⟨j,g,v,q,c⟩;.omega
   .omega
   .rw[e,c];rw[U i j (Zh r h) () q]
theorem T8{Q:Bool->Yy}(Y:lo+g<=N)(Z:ok<=g)(o:1<=ok)(B:SBp it kind pn F st)(L:PlO lo N bs F (lo+ok))(U:zW lt lo F (lo+ok))(h:∀jx st',SBp it kind pn jx st'->PlO lo N bs jx (lo+g)->zW lt lo jx (lo+g)->Q 6 st'):YG prog w A E s (binarySort' lo g ok) Q st:=by
 rw[binarySort'_eq,];let G:max ok 1=ok:=();rw[G,];rw[Yl<|Yn (Yo (I:=λk c st'=>c=%[8|Yq]/\∃jx,SBp it kind pn jx st'/\PlO lo N bs jx (lo+k)/\zW lt lo jx (lo+k)) (Q:=λc st'=>c=%[8|Yq]/\∃jx,SBp it kind pn jx st'/\PlO lo N bs jx (lo+g)/\zW lt lo jx (lo+g)) ?_ ?_ (9,F,B,L,U)) ?_]
 .rintro k c p hk1 hk2 ⟨rfl,jx,H,J,M⟩;let ek:gx jx (lo+k)=lo+k:=J.suf _ (Zf _) ();rw[Yl<|Yn (Yo (I:=λx c n=>n=p/\∃l r,c=%[8,l|r]/\l<=r/\r<=k/\r-l<=k-x/\(∀i,i<l->lt (lo+k) (gx jx<|lo+i)=7)/\∀i,r<=i->i<k->lt (lo+k) (gx jx<|lo+i)=6) (Q:=λc n=>n=p/\∃l r,c=%[8,l|r]/\l<=k/\(∀i,i<l->lt (lo+k) (gx jx<|lo+i)=7)/\∀i,l<=i->i<k->lt (lo+k) (gx jx<|lo+i)=6) ?_ ?_ ()) ?_]
  .rintro x c n _ hx ⟨rfl,l,r,rfl,lr,t,u,f,j⟩;dsimp only;cases P:l ≥ r;.rw[Zd P,];let e:l=r:=();subst e;rw[Ym (9,l,l,9,t,f,j)]
   .rw[Ze P,];let(-m,G,m1,m2,m3,m4):=II (Ys P) u;rw[G,];let mk:=Zg m2 t;rw[Yl<|A9 O H J () () ?_];rw[ek,];induction q:lt (lo+k) (gx jx<|lo+m)with
|true=>
simp only[if_true];rw[Ym (9,l,m,9,m1,Zz mk,m3,f,λi a b=>?_)];cases R:i=m
.rw[R,];rw[q]
.rcases W.neg (lo+k) (gx jx<|lo+i) _ q with z|z;.rw[z]
 .rw[jR.no W (M (lo+m) (lo+i) () () ())]at z;rw[JF z]|false=>
simp only[UD,if_false];rw[Ym (9,m+1,r,9,m2,t,m4,λi a=>?_,j)];cases R:i=m;.rw[R,];rw[q]
.induction z:lt _ (gx _ _)with|false=>rfl|true=>
obtain y|y:=W.neg _ (gx _ _) _ z
.rw[q]at y;rw[JF y]
.rw[jR.no W (M _ _ () () ())]at y;rw[JF y]
  .rintro c n ⟨rfl,l,r,rfl,lr,t,u,f,j⟩;let e:l=r:=();subst e;rw[(9,l,l,9,t,f,j)]
  .rintro c n ⟨rfl,l,r,rfl,lk,f,j⟩;show wpS _ _ _ _ (moveDown' _ (lo+l)>>=λb=>pure<|ForInStep.yield _) _ _;rw[moveDown'_eq,];let f:∀i,lo<=i->i<lo+l->lt _ (gx _ i)=7:=λi o S=>by let(d,rfl):=Vg o;rw[f d<|VF S]
   let j:∀i,lo+l<=i->i<lo+k->lt _ (gx _ i)=6:=λi o S=>by let(d,rfl):=Vg (Zh (Ul _ _) o);rw[j d (V3 o)<|VF S]
   let X:=T7 () (Nat.add_le_add_left lk _) (Ul _ _) J M f j;rw[Yl<|wpS_modify<|Ym (9,bubble _ _ _,H.set<|by rw[H.arr,Ts],X.1,X.2)]
 .rintro c p ⟨rfl,jx,T,v,C⟩;let e:max ok g=g:=();rw[e]at v C;rw[(9,_,T,v,C)]
 .rintro c p ⟨rfl,jx,T,v,C⟩;rw[Ym<|h _ p T v C]
end
structure Seg(lt:Yc)(ix:Yg)(a b:5):4 where
pl:∀i,a<=i->i<b->a<=gx ix i/\gx ix i<b
up:∀i j,a<=i->i<j->j<b->jR lt (gx ix i) (gx ix j)
def Seg.same(S:Seg lt l a b)(h:∀i,a<=i->i<b->gx n i=gx l i):Seg lt n a b:=(λi c e=>by rw[h i c e,];rw[S.pl i c e],λi j c e f=>by rw[h i c (),h j () f];rw[S.up i j c e f])
section
variable {lt:Yc}{st:SortSt}{N:Nat}
def Seg.join(W:Wk lt)(S:Seg lt c a m)(T:Seg lt c m b)(p:m<b)(k:∀i,a<=i->i<m->jR lt (gx c i) (gx c m))(q:a<=m):Seg lt c a b:=by
 rw[(λi f o=>?_,λi j f l n=>?_)]
 .cases z:i<m;.let:=S.pl i f z;lia
  .let:=T.pl i () o;lia
 .cases z:j<m;.rw[S.up i j f l z]
  .cases y:m<=i;.rw[T.up i j y l n]
   .cases e:j=m;.ext
    .rw[jR.trans W (k i f ())<|T.up m j (Zf _) () n]
def Seg.put(W:Wk lt)(S:Seg lt e a f)(T:Seg lt e f b)(hb:b<=e.size)(G:a<=m)(L:m<f)(hk:1<=k)(E:f+k<=b)(R:∀i,a<=i->i<m->lt (gx e f) (gx e i)=7)(U:∀i,f+k<=i->i<b->lt (gx e i) (gx e<|f-1)=7)(M:wL lt (e.extract m f) (e.extract f<|f+k) o):∃q:Yg,q.toList=e.toList.take m++o++e.toList.drop (f+k)/\⇑o=f+k-m/\q.Perm e/\Seg lt q a b/\∀i,i<a\/b<=i->gx q i=gx e i:=by
 let ol:⇑o=f+k-m:=by rw[M.1.length_eq,Ua,Ue,Ue,VU,VU,Vo (),Vo ()];lia
 let Y:m+⇑o=f+k:=();let H:e.toList.take m++((e.extract m f).toList++(e.extract f<|f+k).toList)++e.toList.drop (f+k)=e.toList:=by
  let ex:(e.extract m f).toList++e.toList.drop f=e.toList.drop m:=by
   rw[Array.toList_extract,V2];let:e.toList.drop f=(e.toList.drop m).drop (f-m):=by rw[U5,Vz (Zz L)]
   rw[this,UT]
  let ey:(e.extract f<|f+k).toList++e.toList.drop (f+k)=e.toList.drop f:=by rw[Array.toList_extract,V2,VG,<-U5,UT]
  rw[Uf,Uf,ey,ex,UT]
 let pm:(e.toList.take m++o++e.toList.drop (f+k)).Perm e.toList:=by
  conv=>rhs;rw[<-H]
  rw[List.Perm.append_right _<|List.Perm.append_left _ M.1]
 let I:∀x∈o,(∃b,m<=b/\b<f/\x=gx e b)\/∃b,f<=b/\b<f+k/\x=gx e b:=λx hx=>by
  rcases Jc.mp (M.1.mem_iff.mp hx)with z|z;.rw[.inl<|WO () z]
  .rw[.inr<|WO (Zh E hb) z]
 let(q,ej):∃q:Yg,q=(e.toList.take m++o++e.toList.drop (f+k)).toArray:=(_,9);let J:q.toList=e.toList.take m++o++e.toList.drop (f+k):=by rw[ej,]
 let r:⇑(e.toList.take m)=m:=by rw[Uy,Ue];rw[Vo ()]
 let F:∀i,i<m->gx q i=gx e i:=λi h=>by ext gx;rw[<-Vh,<-Vh,J,Uf,UV (by rw[r,];rw[h]),List.getElem?_take,Zd h]
 let at2:∀j h,gx q (m+j)=o[j]:=λj h=>by ext gx;rw[<-Vh,J,Uf,UI (by rw[r,];rw[Ul _ _]),r,VG,UV h,Zqg h];rfl
 let n:∀j,gx q (f+k+j)=gx e (f+k+j):=λj=>by ext gx;rw[<-Vh,<-Vh,J,UI (by rw[Ua,r,Y];rw[Ul _ _]),Ua,r,Y,VG,List.getElem?_drop]
 let s:∀i,i<m\/(∃j,j<⇑o/\i=m+j)\/∃j,i=f+k+j:=λi=>by
  cases c1:i<m;.rw[.inl c1]
  .cases c2:i<f+k;.rw[.inr<|.inl (i-m,(),())]
   .rw[.inr<|.inr (i-(f+k),())]
 let Z:∀i j,a<=i->i<m->f<=j->j<b->jR lt (gx e i) (gx e j):=λi j O h l p=>by
  let nb:=UR l p;let pk:jR lt (gx e i) (gx e f):=.inr (R i O h,Zg (S.pl i O<|Uh h L).2 (T.pl f (Zf _) nb).1);cases z:j=f;.rw[z,];rw[pk]
  .rw[jR.trans W pk<|T.up f j (Zf _) () p]
 let sq:∀i c,a<=i->i<f->f+k<=c->c<b->jR lt (gx e i) (gx e c):=λi c O l p h3=>by
  let sk:jR lt (gx e<|f-1) (gx e c):=.inr (U c p h3,Zg (S.pl (f-1) () ()).2 (T.pl c (Zh (Ul _ _) p) h3).1);cases z:i=f-1;.rw[z,];rw[sk]
  .rw[jR.trans W (S.up i _ O () ()) sk]
 let sp:∀{y},a<=y->y<f->a<=gx _ y/\gx e y<b:=λl p=>((S.pl _ l p).1,by let:=(S.pl _ l p).2;lia);let tp:∀{y},f<=y->y<b->a<=gx e y/\gx e y<b:=λl p=>(by let:=(T.pl _ l p).1;lia,(T.pl _ l p).2);rw[(q,J,ol,?_,(λi l p=>?_,λi j l X Q=>?_),λi h=>?_)];.rw[Array.perm_iff_toList_perm,J];rw[pm]
 .rcases s i with c|⟨j,c,rfl⟩|⟨j,rfl⟩;.rw[F i c,];rw[sp l<|Uh c L]
  .rw[at2 j c,];rcases I _ (Uv c)with ⟨y,u,v,B⟩|⟨y,u,v,B⟩;.rw[B,];rw[sp (Zh G u) v]
   .rw[B,];rw[tp u<|Zg v E]
  .rw[n j,];rw[tp () p]
 .rcases s i with c|⟨i,c,rfl⟩|⟨i,rfl⟩
  .rw[F i c,];obtain d|⟨j,d,rfl⟩|⟨j,rfl⟩:=s j;.rw[F j d,];rw[S.up i j l X<|Uh d L]
   .rw[at2 j d,];rcases I _ (Uv d)with ⟨y,u,v,B⟩|⟨y,u,v,B⟩;.rw[B,];rw[S.up i y l (Zg c u) v]
    .rw[B,];rw[Z i y l c u<|Zg v E]
   .rw[n j,];rw[Z i _ l c () Q]
  .rw[at2 i,];obtain d|⟨j,d,rfl⟩|⟨j,rfl⟩:=s j;.omega
   .rw[at2 j,];rw[Jl.mp M.2 i j c d<|VF X]
   .rw[n,];rcases I _ (Uv c)with ⟨y,u,v,B⟩|⟨y,u,v,B⟩;.rw[B,];rw[sq y _ (Zh G u) v (Ul _ _) Q]
    .rw[B,];rw[T.up y _ u (Zg v<|Ul _ _) Q]
  .rcases s j with d|⟨j,d,rfl⟩|⟨j,rfl⟩;.omega
   .omega
   .rw[n,n];rw[T.up _ _ () X Q]
 .rcases h with z|z;.rw[F i<|Zg z G]
  .let(j,rfl):=Vg (Zh E z);rw[n j]
def T9{x y z:5×5×5}:((l++x::y::r).toArray.setIfInBounds ⇑l z).eraseIdxIfInBounds (⇑l+1)=(l++z::r).toArray:=by simp_all[List.eraseIdx_append_of_length_le]
noncomputable def sY(b:5)(v:KA):SM Bool:=(modify λs=>setArr s<|List.foldl (λa x=>match x with|%[p|j]=>a.setIfInBounds (b+j) p) (arrOf s) v.toList.zipIdx)>>=λb=>get>>=λz=>pure (failedOf z).isNone
noncomputable def dF(a:KA)(c e b k:5):SM Bool:=if(k==0)=6 then pure 6 else if e<=k then EH (a.extract c b) (a.extract b<|b+k)>>=sY c else EI (a.extract c b) (a.extract b<|b+k)>>=sY c
noncomputable def dG(a:KA)(c b e nb:5):SM Bool:=if(b==0)=6 then pure 6 else elem' a (c+b-1)>>=λx=>WN 6 x a e nb (nb-1)>>=λr=>match r with|some k=>dF a c b e k|_=>pure 7
noncomputable def dI(a:KA)(b c e nb:5):SM Bool:=elem' a e>>=λx=>WN 7 x a b c 0>>=λr=>match r with|some k=>dG a (b+k) (c-k) e nb|_=>pure 7
set_option smartUnfolding false in
def fF{i:5}:mergeAt' i=get>>=λz=>match(pendingOf z)[i]?,(pendingOf z)[i+1]? with|some %[sa,a|b],some %[sb,nb|_]=>set (setPending z<|((pendingOf z).setIfInBounds i %[sa,a+nb|b]).eraseIdxIfInBounds<|i+1)>>=λb=>dI (arrOf z) sa a sb nb|_,_=>liftM (unsupported "internal:list.sort.pending"):=rfl
def EN:pendingOf (setPending st p)=p:=by rfl
section
variable {Q:Bool->Yy}(W:Wk lt)(S:Seg lt ix a (q+1))(T:Seg lt ix (q+1) b)(hz:ix.size=N)(hb:b<=N)(B:SBp it kind pn ix st)(h:∀jx st',SBp it kind pn jx st'->jx.Perm ix->Seg lt jx a b->(∀i,i<a\/b<=i->gx jx i=gx ix i)->Q true st')
include W S T hz hb B h
theorem IZ(g:a<=c)(j:c<q+1)(m:1<=k)(n:q+1+k<=b)(p:∀i,a<=i->i<c->lt (gx ix<|q+1) (gx ix i)=7)(r:∀i,q+1+k<=i->i<b->lt (gx ix i) (gx ix q)=7)(e:SEq st t)(M:wL lt (ix.extract c<|q+1) (ix.extract (q+1)<|q+1+k) o):YG l w A E s (sY c<|ar it o) Q t:=by
 let(-jx,u,H,v,y,C):=S.put W T (by rwa[hz,]) g j m n p r M;rw[Yl<|wpS_modify<|Yl<|wpS_get<|Ym ?_];let f:=e.fl.trans B.fl;rw[f,];rw[h _ _ (?_,e.kd.trans B.kd,f,e.pd.trans B.pd) v y C];rw[e.arr,B.arr];apply Vp;let F:(ar it o).toList=o.map it:=by simp[ar]
 rw[Eq.trans (Zt (λz=>(List.foldl (λ(a:Array _)x=>a.setIfInBounds (c+x.2) x.1) _ z.zipIdx).toList) F) ?_];let G:c+⇑o=q+1+k:=();rw[IS _ _ 0 _ (),Array.toList_map,Array.toList_map,u,Zql,Nat.add_zero,G,Ud,Ud,List.map_take,List.map_drop]
theorem La(j:∀i,a<=i->i<q+1->jR lt (gx ix i) (gx ix<|q+1))(c:a<=q+1)(e:q+1<b):Q 6 st:=h _ _ B 038 (S.join W T e j c) 009
variable (O:yM prog w A s kind it lt N)(vP:∀i,i<N->gx ix i<N)
include O vP
theorem sV(e:f+u=q+1)(u1:1<=u)(g:a<=f)(L:q+1<b)(v:q+1+k<=b)(m3:∀i,a<=i->i<f->lt (gx ix<|q+1) (gx ix i)=7)(m4:∀i,f<=i->i<q+1->lt (gx ix<|q+1) (gx ix i)=6)(k3:∀i,q+1<=i->i<q+1+k->lt (gx ix i) (gx ix q)=6)(P:∀i,q+1+k<=i->i<b->lt (gx ix i) (gx ix q)=7):YG prog w A E s (dF (ix.map it) f u (q+1) k) Q st:=by
 let m:f<q+1:=();let bz:b<=ix.size:=by rw[hz,];rw[hb]
 rw[wi (λc=>Ym<|La W S T hz hb B h (λi h3 hi=>?_) (Zz<|UR g m) L) λc=>?_]
 .let c:k=0:=Yp.mp c;subst c;let b:jR lt (gx ix q) (gx ix<|q+1):=.inr (P _ (Zf _) L,Zg (S.pl q (Zh g<|Uu m)<|UQ _).2 (T.pl _ (Zf _) L).1);cases z:i=q;.rw[z,];rw[b]
  .rw[018]
 let I:1<=k:=018;let C:q+1<=ix.size:=();let n:=Zh v bz;let xn:∀x∈(ix.extract f<|q+1).toList,x<N:=λx p=>by grind[WO]
 let yn:∀y∈(ix.extract (q+1)<|q+1+k).toList,y<N:=λx p=>by let(-l,r,t,rfl):=WO n p;rw[vP _ ()]
 let U:∀x∈(ix.extract f<|q+1).toList,∀y∈(ix.extract (q+1)<|q+1+k).toList,x<y:=λx p y X=>by let(-l,r,t,rfl):=WO C p;let(-l',Y,Z,rfl):=WO n X;rw[Zg (S.pl l (Zh g r) t).2 (T.pl l' Y<|Zg Z v).1]
 let px:=IU (ix:=ix) (R:=jR lt) (i:=f) (j:=q+1) C λa b h ab bm=>S.up a b (Zh g h) ab bm;let py:=IU (ix:=ix) (R:=jR lt) (i:=q+1) (j:=q+1+k) n λa b h ab bm=>T.up a b h ab<|Zg bm v;let H:MH lt N (ix.extract f<|q+1) (ix.extract (q+1)<|q+1+k):=(W,xn,yn,U,px,py);let J:(ix.extract f<|q+1).size=u:=by rw[VU,];lia
 let sy:(ix.extract (q+1)<|q+1+k).size=k:=by rw[VU,];lia
 let gx0:gx (ix.extract f<|q+1) 0=gx ix f:=A7 m C;let F:gx (ix.extract f<|q+1) (u-1)=gx ix q:=by rw[A7 () C,show f+(u-1)=q by lia]
 let G:gx (ix.extract (q+1) _) 0=gx _ _:=A7 () n;let gyl:gx (ix.extract (q+1)<|q+1+k) (k-1)=gx ix (q+k):=by rw[A7 () n,show q+1+(k-1)=q+k by lia]
 rw[IT,IT];rw[wi (λ_=>Yl<|Tv H O B.kd (by rw[J,];rw[u1]) (by rw[sy,];rw[I]) (by rw[G,gx0];rw[m4 _ (Zf _) m]) (λy X=>?_) λo s2 se M=>IZ W S T hz hb B h g m I v m3 P se M) λ_=>Yl<|Tz H O B.kd (by rw[J,];rw[u1]) (by rw[sy,];rw[I]) (λx p=>?_) (by rw[J,sy,gyl,F];rw[k3 _ () ()]) λo s2 se M=>IZ W S T hz hb B h g m I v m3 P se M];.let(-l,r,t,rfl):=WO n X;rw[J,F];rw[.inl<|k3 l r t]
 .let(-l,r,t,rfl):=WO C p;rw[G,];rw[.inl<|m4 l r t]
theorem sW(e:f+u=q+1)(H:1<=y)(I:q+1+y=b)(l:a<=f)(n:∀i,a<=i->i<f->lt (gx ix<|q+1) (gx ix i)=7)(r:∀i,f<=i->i<q+1->lt (gx ix<|q+1) (gx ix i)=6):YG prog w A E s (dG (ix.map it) f u (q+1) y) Q st:=by
 let m:q+1<b:=();let t:q+1<N:=();let v:a<=q+1:=();rw[wi (λc=>Ym<|La W S T hz hb B h (λi o x=>.inr (n i o ?_,Zg (S.pl i o x).2 (T.pl _ (Zf _) m).1)) v m) λc=>?_];.ext
 let z:1<=u:=018;rw[show f+u-1=q by rw[e,];rfl,];rw[Yl<|QK ()<|Yl<|YO O B.kd (vP _<|U6 t) () () () (λi j C J q=>T2 W (T.up _ _ (Ul _ _) (Nat.add_lt_add_left C _) ()) q) λk L F G=>sV W S T hz hb B h O vP e z l m () n r (λi g p=>?_) λi g p=>?_];.let(d,rfl):=Vg g;rw[F d<|VF p]
 .let(d,rfl):=Vg (Zh (Ul _ _) g);rw[G d (V3 g) ()]
theorem sX(e:a+x=q+1)(g:1<=x)(l:1<=y)(n:q+1+y=b):YG prog w A E s (dI (ix.map it) a x (q+1) y) Q st:=by
 let o:q+1<N:=();rw[Yl<|QK ()<|Yl<|YO O B.kd (vP _ o) () () g (λi j p u q=>T1 W (S.up _ _ (Ul _ _) (Nat.add_lt_add_left p _) ()) q) λm m2 r t=>sW W S T hz hb B h O vP (by rwa[Nat.add_assoc,Vz m2]) l n (Ul _ _) (λi c f=>?_) λi c f=>?_];.let(d,rfl):=Vg c;let z:(not<|lt _ _)=6:=r d<|VF f;simpa using z
 .let(d,rfl):=Vg (Zh (Ul _ _) c);let z:(not<|lt _ _)=7:=t d (V3 c) ();simpa using z
end
def TB(W:Wk lt)(O:yM f w A s b m lt N)(B:SBp m b (l++%[a,x|n]::%[a+x,y|t]::r).toArray c st)(o:c.size=N)(u:c.Perm (Array.range N))(S:Seg lt c a (a+x))(T:Seg lt c (a+x) (a+x+y))(v:1<=x)(z:1<=y)(p:a+x+y<=N)(h:∀j g,SBp m b (l++%[a,x+y|n]::r).toArray j g->j.Perm c->Seg lt j a (a+x+y)->(∀i,i<a\/a+x+y<=i->gx j i=gx c i)->Q 6 g):YG f w A E s (mergeAt' ⇑l) Q st:=by
 let C:(pendingOf st)[⇑l]?=!%[a,x|n]:=by rw[B.pd,];simp
 let F:(pendingOf st)[⇑l+1]?=!%[a+x,y|t]:=by rw[B.pd,List.getElem?_toArray,UI (Ul _ _),VG];rfl
 rw[fF,];rw[Yl<|wpS_get ?_];rw[C,F];rw[B.arr,];let G:SBp m _ (l++%[a,x+y|n]::r).toArray c (setPending _<|((pendingOf st).setIfInBounds ⇑l _).eraseIdxIfInBounds _):=(B.arr,B.kd,B.fl,by rw[EN,B.pd];rw[T9]);let(q,e):∃q,a+x=q+1:=(a+x-1,());rw[e]at S T p h ⊢;rw[sX W S T o p G h O λi H=>IV u<|by rwa[o,] e v z 9]
def yT(lt:Yc)(c:Yg):5->List (5×5×5)->5->4|a,[],b=>a=b|a,p::r,b=>p.1=a/\1<=p.2.1/\Seg lt c a (a+p.2.1)/\yT lt c (a+p.2.1) r b
theorem yT.le:∀{l:List (5×5×5)}{a b:5},yT lt c a l b->a+⇑l<=b|[],a,b,h=>by rw[h,];simp|p::r,a,b,(_,h2,_,h4)=>by let:=h4.le;grind
theorem yT.app:∀{l r:List (5×5×5)}{a b:5},yT lt e a (l++r) b->∃c,yT lt e a l c/\yT lt e c r b|[],r,a,b,h=>(a,9,h)|p::l,r,a,b,(f,h2,h3,h4)=>qk (yT.app h4) λc=>j4 λi j=>(c,(f,h2,h3,i),j)
theorem yT.cat:∀{l r:List (5×5×5)}{a b c:5},yT lt e a l c->yT lt e c r b->yT lt e a (l++r) b|[],r,a,b,c,h,k=>by rwa[h,]|p::l,r,a,b,c,(f,h2,h3,h4),k=>(f,h2,h3,yT.cat h4 k)
theorem yT.same:∀{l:List (5×5×5)}{a b:5},yT lt c a l b->(∀i,a<=i->i<b->gx e i=gx c i)->yT lt e a l b|[],a,b,h,_=>h|p::r,a,b,(f,h2,h3,h4),k=>(f,h2,h3.same λi x y=>k i x<|by let:=h4.le;lia,h4.same ())
structure RI(it:5->Keyed)(kind:SortKind)(lt:Yc)(N:5)(ps:List (5×5×5))(lo:5)(ix:Yg)(st:SortSt):4 where
b:SBp it kind ps.toArray ix st
size:ix.size=N
perm:ix.Perm (Array.range N)ch:yT lt ix 0 ps lo
le:lo<=N
def Lb{i lo:5} (W:Wk lt)(O:yM f w A s a m lt N)(R:RI m a lt N b lo q st)(U:i+1<⇑b)(h:∀g j e,⇑g+1=⇑b->RI m a lt N g lo j e->(∀i,lo<=i->gx j i=gx q i)->Q 6 e):YG f w A E s (mergeAt' i) Q st:=by let(l,x,y,r,rfl,hl):∃l x y r,b=l++x::y::r/\⇑l=i:=(b.take i,b[i],b[i+1],b.drop<|i+2,by simp,());let(-c,t,u):=R.ch.app;let(_,v,_):=x;let(_,z,_):=y;let(!B,C,F,G,H,I,J):=u;let L:=B;let M:=G;let P:=C;let S:=H;let n:yT _ _ (c+v+z) r _:=J;subst L M;let X:=n.le;let le:=R.le;subst hl;rw[TB W O R.b R.size R.perm F I P S () λj e T o p Y=>h _ _ _ () (T,by rw[o.size_eq,];rw[R.size],o.trans R.perm,?_,R.le) ()];rw[Nat.add_assoc]at p;rw[(t.same ()).cat (9,(),p,?_)];rw[<-Nat.add_assoc];rw[n.same ()]
def TC{x:5×5×5}(f):(l++[x]).toArray.modify ((l++[x]).toArray.size-1) f=(l++[f x]).toArray:=by
 let e:∀l:List _,(l++[x]).modify ⇑l f=l++[f x]:=λl=>by cases(l)with|nil=>rfl|cons y l a=>show y::(l++[x]).modify _ f=_;rw[a,];rfl
 simp[e]
abbrev U2:=02 Unit×Unit
abbrev U1:=02 Unit×5
noncomputable def d9(a:5):SM (ForInStep U2):=get>>=λz=>match if(pendingOf z).size>1 then(pendingOf z)[(pendingOf z).size-2]? else 8 with|some %[_,_|older]=>if older<=a then pure (.done %[8|Yq])else mergeAt' ((pendingOf z).size-2)>>=λb=>if(not b)=6 then pure (.done %[!Yq|Yq])else pure (.yield %[8|Yq])|_=>pure (.done %[8|Yq])
noncomputable def ss(lo n:5):SM (ForInStep U1):=(modify λs=>setPending s<|(pendingOf s).push %[lo,n|0])>>=λb=>pure<|.yield %[8|lo+n]
noncomputable def d7(lo n a:5)(c:U2):SM (ForInStep U1):=match c.1 with|some r=>pure (.done %[!r|lo])|none=>(modify λs=>setPending s<|(pendingOf s).modify ((pendingOf s).size-1) λ%[st,len|_]=>%[st,len|a])>>=λb=>ss lo n
noncomputable def n8(N lo n:5):SM (ForInStep U1):=get>>=λz=>match(pendingOf z).back? with|some %[b,a|_]=>(forIn [:N] (%[8|Yq]:U2) λd d=>d9<|power' N (2*b+a) (2*b+a+a+n) N)>>=d7 lo n (power' N (2*b+a) (2*b+a+a+n) N)|_=>ss lo n
noncomputable def srB(N a lo:5):SM (ForInStep U1):=if lo ≥ N then pure (.done %[8|lo])else countRun' lo (N-lo)>>=λr=>match r with|some n=>if n<a then(liftM (rule "list.sort.binary-insertion"):SM PUnit)>>=λd=>binarySort' lo (min (N-lo) a) n>>=λb=>if(not b)=6 then pure (.done %[!Yq|lo])else n8 N lo (min (N-lo) a)else n8 N lo n|_=>pure (.done %[!Yq|lo])
noncomputable def d8(p:Array (5×5×5)):5:=if Option.any (λx=>decide<|x<p[p.size-2+1]?.elim 0 λx=>x.2.1) (if p.size-2>0 then p[p.size-2-1]?.map λx=>x.2.1 else 8)=6 then p.size-2-1 else p.size-2
noncomputable def dA:SM (ForInStep U2):=get>>=λz=>if(pendingOf z).size<=1 then pure (.done %[8|Yq])else mergeAt' (d8<|pendingOf z)>>=λb=>if(not b)=6 then pure (.done %[!Yq|Yq])else pure (.yield %[8|Yq])
set_option smartUnfolding false in
def gy:sortRuns'=get>>=λz=>(forIn [:(arrOf z).size] (%[8|0]:U1) λb c=>srB (arrOf z).size (minRun' (arrOf z).size (arrOf z).size 0) c.2)>>=λc=>match c.1 with|some r=>pure r|none=>(forIn [:(arrOf z).size] (%[8|Yq]:U2) λb b=>dA)>>=λc=>match c.1 with|some r=>pure r|none=>pure Yq:=rfl
def TD[Decidable c]{x y z:5}(h:x<=z)(k:y<=z):(if c then x else y)<=z:=by split<;>assumption
def TF:d8 p<=p.size-2:=TD (Vf _ _)<|Zf _
section
variable {lo k pw:Nat} {R:ForInStep U1->Yy}(Sg:Seg lt jx lo (lo+k))(k1:1<=k)(k2:lo+k<=N)(suf:∀i,lo+k<=i->i<N->gx jx i=i)(go:∀ps jx st',RI it kind lt N ps (lo+k) jx st'->(∀i,lo+k<=i->i<N->gx jx i=i)->R (.yield (none,lo+k)) st')
include Sg k1 k2 suf go
theorem Lc(a:RI it kind lt N ps lo jx st):YG b w A E s (ss lo k) R st:=Yl<|wpS_modify<|Ym<|go (ps++[%[lo,k|0]]) _ _ ((a.b.arr,a.b.kd,a.b.fl,by rw[EN,a.b.pd];simp),a.size,a.perm,a.ch.cat (9,k1,Sg,9),k2) suf
theorem TH(l:1<=⇑ps)(a:RI it kind lt N ps lo jx st):YG b w A E s (d7 lo k pw %[8|Yq]) R st:=by
 obtain z|⟨l2,v,z⟩:=List.eq_nil_or_concat ps;.ext
 .subst z;rw[List.concat_eq_append]at a;rw[Yl<|wpS_modify<|Lc (ps:=l2++[%[v.1,v.2.1|pw]]) Sg k1 k2 suf go ((a.b.arr,a.b.kd,a.b.fl,?_),a.size,a.perm,?_,a.le)];.rw[EN,a.b.pd];rw[TC _]
  .let(-c,e,f,g,h,j):=a.ch.app;rw[e.cat (f,g,h,j)]
end
def TJ{lo m:5} (W:Wk lt)(O:yM e w A s a g lt N)(q:1<=⇑h)(j:RI g a lt N h lo n st)(l:Q (.done %[8|Yq]) st)(go:∀b f c,1<=⇑b->RI g a lt N b lo f c->(∀i,lo<=i->gx f i=gx n i)->Q (.yield %[8|Yq]) c):YG e w A E s (d9 m) Q st:=by
 rw[Yl<|wpS_get ?_];rw[j.b.pd,];split
 .let r:2<=⇑h:=by grind
  rw[wi (λb=>Ym l) λb=>Yl<|Lb W O j () λb f c t o p=>Ym<|go _ _ _ () o p]
 .rw[Ym l]
def TK{lo k:5} (W:Wk lt)(O:yM f w A s b o lt N)(B:SBp o b a.toArray p st)(L:PlO lo N x p (lo+k))(U:zW lt lo p (lo+k))(C:yT lt x 0 a lo)(le:lo<=N)(q:1<=k)(r:lo+k<=N)(go:∀a e g,RI o b lt N a (lo+k) e g->(∀i,lo+k<=i->i<N->gx e i=i)->R (.yield %[8|lo+k]) g):YG f w A E s (n8 N lo k) R st:=by
 let t:Seg _ _ _ _:=(L.mid,U);let u:RI _ _ _ N _ _ _ _:=(B,L.size,L.perm,C.same λi b j=>L.low i j,le);rw[Yl<|wpS_get ?_];rw[B.pd,];obtain z|⟨l,y,z⟩:=List.eq_nil_or_concat a;.subst z;rw[Lc t q r L.suf go u]
 .let h:1<=⇑a:=by ext
  rw[show a.toArray.back?=!y by simp_all,];rw[Yl<|Yn (Yo (I:=λb c m=>c=%[8|Yq]/\∃a e,1<=⇑a/\RI _ _ _ N a _ e m/\∀i,lo<=i->gx e i=gx _ i) ?_ (λb b z=>z) (9,_,_,h,u,009)) ?_];.rintro y c m _ _ ⟨rfl,a,e,h,n,un⟩;rw[TJ W O h n () ()]
  .rintro c m ⟨rfl,a,e,h,n,un⟩;rw[TH (t.same ()) q r (λi v j=>(un i<|Zh (Ul _ _) v).trans<|L.suf i v j) go h n]
def TL(W:Wk lt)(O:yM f w A s a h lt N)(R:RI h a lt N g N i st)(j:⇑g<=1->Q (.done %[8|Yq]) st)(go:∀b l e,⇑b+1=⇑g->RI h a lt N b N l e->Q (.yield %[8|Yq]) e):YG f w A E s dA Q st:=by rw[Yl<|wpS_get ?_];rw[R.b.pd,];rw[wi (λc=>Ym<|j c) λc=>Yl<|Lb W O R ?_ λb i e m n b=>Ym<|go _ _ _ m n];let:=TF (p:=g.toArray);grind
def TM(W:Wk lt)(O:yM C w A s n F lt N)(M:RI F n lt N [] 0 j st)(o:∀i,i<N->gx j i=i)(t:2<=N)(h:∀q l,arrOf l=q.map F->failedOf l=8->Pl N q N->Up lt q N->Q Yq l):YG C w A E s sortRuns' Q st:=by
 let sz:(arrOf st).size=N:=by rw[M.b.arr,Ur];rw[M.size]
 rw[gy,];rw[Yl<|wpS_get ?_];rw[sz,];rw[Yl<|Yn (Yo (I:=λx c y=>∃lo f j,c=%[8|lo]/\x<=lo/\RI F n lt N f lo j y/\∀i,lo<=i->i<N->gx j i=i) (Q:=λc y=>∃f j,c=%[8|N]/\RI F n lt N f N j y) ?_ ?_ (0,[],j,9,Zf _,M,λi b hi=>o i hi)) ?_]
 .rintro x c y _ xn ⟨lo,f,j,rfl,T,R,o⟩;let le:=R.le;rw[wi (λu=>?_) λu=>?_];.let e:lo=N:=Nat.le_antisymm le u;subst e;rw[Ym (f,j,9,R)]
  let u:lo<N:=Ys u;let L1:PlO lo N j j (lo+1):=(R.size,R.perm,009,λa z t=>by rw[o a z (Zg t u),];rw[(z,t)],λa z t=>o a (UC z) t);let sub:∀{k},k<=N-lo->lo+k<=N:=λh=>Zh (Nat.add_le_add_left h _)<|Yu<|Vz le;let G:∀{k X Y}{v:ForInStep _->Yy},SBp _ _ _ X Y->1<=k->k<=N-lo->PlO _ N _ _ _->zW _ _ _ _->(∀f q l,x+1<=lo+k->RI _ _ _ N f _ q l->(∀i,lo+k<=i->i<N->gx _ i=i)->v (.yield _) _)->wpS (model _ w) A E s (n8 N _ k) _ _:=λB Z k2 L U g=>TK W O B L U R.ch le Z (sub k2) λf q l v H=>g _ _ _ (Nat.add_le_add T Z) v H;rw[Yl<|T6 W O (sub<|Zf _) (λm kx s2 B2 m1 m2 L2 U2=>wi (λmn=>Yl<|wpS_lift<|wpAny_rule (9,Yl<|T8 W O (sub<|Nat.min_le_left _ _) (Nat.le_min.mpr (m2,Zz mn)) m1 B2 L2 U2 λX Y B3 L3 U3=>G B3 (Nat.le_min.mpr (Nat.sub_pos_of_lt u,Nat.zero_lt_of_lt mn)) (Nat.min_le_left _ _) L3 U3 λf q l g v H=>je _ _ _ (9,g,v,H))) λb=>G B2 m1 m2 L2 U2 λf q l g v H=>je _ _ _ (9,g,v,H)) (Nat.sub_pos_of_lt u) R.b L1]
 .rintro c y ⟨lo,f,j,rfl,T,R,o⟩;let le:=R.le;grind
 .rintro c y ⟨f,j,rfl,R⟩;rw[Yl<|Yn (Yo (I:=λx c J=>∃f j,c=%[8|Yq]/\(⇑f<=1\/⇑f+x<=N)/\RI _ _ _ N f N j J) (Q:=λc J=>∃f j,c=%[8|Yq]/\⇑f<=1/\RI F n lt N f N j J) ?_ ?_ (_,_,9,.inr<|by let:=R.ch.le;lia,R)) ?_];.rintro x c J _ xn ⟨f,j,rfl,lp,R⟩;rw[TL W O R (λc1=>(_,_,9,c1,R)) ()]
  .grind
  .rintro c J ⟨f,j,rfl,lp,R⟩;cases f with|nil=>let:0=N:=R.ch;lia|cons p r=>let e:r=[]:=List.eq_nil_of_length_eq_zero<|Nat.le_zero.mp<|Nat.le_of_succ_le_succ lp;subst e;let(!d1,d2,P,S):=R.ch;let S:0+p.2.1=N:=S;rw[S]at P;rw[Ym<|h _ _ R.b.arr R.b.fl (R.size,R.perm,λa ha=>(P.pl a (Ub _) ha).2,λa z t=>Zn t<|Nat.not_lt_of_le z) λa b ab bn=>P.up a b (Ub _) ab bn]
end
open PySem PyProof.Rows
section
variable {st:SortSt}
def Ld(W:Wk lt)(O:yM b w A s c f lt n) (B:SB f c ix st)(L:Pl n ix 1)(g:2<=n)(j:n<1000)(h:∀e a,arrOf a=e.map f->failedOf a=8->Pl n e n->Up lt e n->Q Yq a):YG b w A E s sortRuns' Q st:=TM W O ((B.arr,B.kd,B.fl,B.pd),L.size,L.perm,9,Ub _) (λi l=>if z:i=0 then by rw[z,];let:=L.pre 0 ();lia else L.suf i () l) g h
end
def jM(a:Ye)(i:5):Value:=a.getD i .none
def EO(a):a.toArray.zip a.toArray=(Array.range ⇑a).map λi=>%[jM a i|jM a i]:=by
 apply Array.ext_getElem?;intro k;rw[UX,];cases h:k<⇑a
 .rw[Array.getElem?_range,Zd h];let e:jM a k=a[k]:=by ext jM;rw[Ui,Zqg];rfl
  simp[h,e]
 .rw[Array.getElem?_range,Ze h,V4 (by simp;lia)];rfl
def Le(h:k<n):gx (Array.range n) k=k:=by simp_all[gx]
def Ch(n k)(b:k<=n):Pl n (Array.range n) k:=by rw[(Array.size_range,Array.Perm.refl _,λa c=>?_,λa b h=>Le h)];rwa[Le (),]
section
variable {prog:Program}{w:World}{A:Around} {s:Shared}{lt:Yc}
def vj(prog:Program)(w:World)(A:Around)(s:Shared)(b:Ye)(lt:Yc):4:=∃a,(∀(E:Ya)(Q:SortKind->Yz),Q a s->YF prog w A (keyKind' b.toArray) Q E s)/\yM prog w A s a (λi=>%[jM b i|jM b i]) lt ⇑b
def Lf(W:Wk lt)(p:↥s a=! seqObj "list" c.toArray n)(t:⇑c<1000)(C:∀y,(∀b o,b≠a->019->y.get? b=!o)->2<=⇑c->vj prog w A {s with heap:=y} c lt)(h:∀f,Pl ⇑c f ⇑c->Up lt f ⇑c->P (.done<|.ret .none) {s with heap:=sortedHeap s.heap a c (f.map<|jM c)}):YF prog w A (Builtin.«list.sort» ([022],[])) P E s:=by
 rw[list_sort_plain,];let O:a<s⁻¹:=Zk p;let(u,F):∃u,(s.heap.update a<|Obj.mapSeq λb=>#[]).get? a=! seqObj "list" #[] u:=(_,get?_update_seq p<|λb=>#[]);rw[Za<|listItems_at p 9<|Za<|listUpdate_at p 9<|Za<|seqEpoch_at F 9<|Za<|wpAny_newTuple<|Za<|wpAny_newList<|wpAny_holding ?_];let v:∀b,b<s⁻¹->b≠(s.heap.update a<|Obj.mapSeq λb=>#[]).objs.size:=λb q=>by rw[Heap.size_update,];rw[Zi q]
 let x:∀b,b<s⁻¹->b≠((s.heap.update a<|Obj.mapSeq λb=>#[]).push<|seqObj "tuple" c.toArray 0).objs.size:=λb q=>by rw[size_push',Heap.size_update];rw[by lia]
 let r:(((s.heap.update a<|Obj.mapSeq λb=>#[]).push<|seqObj "tuple" c.toArray 0).push<|seqObj "list" #[] 0).get? a=! seqObj "list" #[] u:=by grind[Heap.get?_push_ne]
 let G:∀b o,b≠a->019->(((s.heap.update a<|Obj.mapSeq λb=>#[]).push<|seqObj "tuple" c.toArray 0).push<|seqObj "list" #[] 0).get? b=!o:=λb o q e=>by rw[Heap.get?_push_ne _ _ _ (x b<|Zk e),Heap.get?_push_ne _ _ _ (v b<|Zk e),Heap.get?_update_ne _ _ _ _ q];rw[e]
 let z:∀(f:Yg),(f.map λi=>%[jM c i|jM c i]).map (·.2)=f.map (jM c):=by simp
 show YF prog w A _ P E {s with heap:=((s.heap.update a<|Obj.mapSeq λb=>#[]).push<|seqObj "tuple" c.toArray 0).push (seqObj "list" #[] 0)};dsimp only;let sz:c.toArray.size=⇑c:=by simp
 cases l:c.toArray.size<2;.rw[Zd l,Zd l];rw[Za<|Zb ?_];rw[StateT.run_pure,];rw[Za<|Zb ?_];dsimp only;rw[Za<|seqEpoch_at r 9<|Za<|listUpdate_at r 9 ?_ (hsz2:=by rw[Ur,EO,Ur,Array.size_range,sizeLine_eq];lia)];simp only[bne_self_eq_false,UD,if_false];let g:=h (Array.range _) (Ch _ _<|Zf _) λi j R S=>();rw[<-z,<-EO]at g;rw[Zb g]
 .rw[Ze l,Ze l];let(-B,H,I):=C _ G ();rw[Za<|H _ _ ?_];rw[Za<|Zc (Ld W I (ix:=Array.range _) (st:=SortSt.mk' _ (c.toArray.zip _) _ 07 _) (Q:=λb m=>∃f,arrOf m=f.map (λi=>%[jM c i|jM c i])/\failedOf m=8/\Pl _ f _/\Up _ f _) (EO _,9,9,9) (Ch _ _ ()) () t λf m J L M N=>(_,J,L,M,N)) ?_ λb b e=>e];rintro⟨⟨⟩,m⟩ T ⟨rfl,f,q1,q2,q3,q4⟩;dsimp only;rw[Za<|seqEpoch_at r 9<|Za<|listUpdate_at r 9 ?_ (hsz2:=by rw[Ur,q1,Ur,q3.size,sizeLine_eq];lia)];rw[q2,];simp only[bne_self_eq_false,UD,if_false];let g:=h _ q3 q4;rw[<-z,<-q1]at g;rw[Zb g]
def Lg(W:Wk lt)(j:wpAny (model prog w) A.in1 (collect x) (λa c=>⇑a<1000/\(∀f,(∀b o,↥c b=!o->f.get? b=!o)->2<=⇑a->vj prog w A.in1.in1 {c with heap:=f} a lt)/\∀g f l,Pl ⇑a g ⇑a->Up lt g ⇑a->(∀b o,↥c b=!o->f.get? b=!o)->c⁻¹<=l->(∃e,f.get? l=! seqObj "list" (g.map<|jM a) e)->Q (.ref l) {c with heap:=f}) E s):YF prog w A (call (.builtin "sorted") [x]) Q E s:=by rw[Calls.call_function_entry kind_sorted plain_sorted entry_sorted (args_sorted1 _)<|Za<|Zb<|Za<|Zc j (λa c z=>?_) λb b e=>e];let(h,m,n):=z;let i:(c.heap.push<|seqObj "list" a.toArray 0).get? _=!_:=Zr _ 9;let q:∀b o,↥c b=!o->b≠c⁻¹:=λb o e=>Zi<|Zk e;rw[Za<|wpAny_newList<|Za<|wpAny_holding<|wpAny_call_entry slot_list_sort (_,i,9) entry_list_sort (Lf W i h (λf r=>m _ λb o e=>r b o (q b o e)<|Zq _ e) λg p u=>(_,9,Zb (_,9,n _ _ _ p u (λb o e=>?_) (Zf _)<|sortedHeap_at i)))<|args_list_sort _];grind[size_push',sortedHeap_old,Nat.lt_succ_of_lt,Heap.lt_size,Heap.get?_push_of_some]
end
structure Tot{α:Type}(ltb:α->α->Bool):4 where
asy:∀a b,ltb a b=6->ltb b a=7
neg:∀a b c,ltb a c=6->ltb a b=6\/ltb b c=6
tot:∀a b,ltb a b=7->ltb b a=7->a=b
def Tot.irr(T:Tot c)(a):c a a=7:=by cases q:c a a with|false=>rfl|true=>let:=T.asy _ _ q;ext
def Tot.wk{c:α->α->Bool}(T:Tot c)(f:5->α):Wk λi j=>c (f i)<|f j:=(λi j=>T.asy _ _,λi j k=>T.neg _ _ _)
noncomputable def qu(p q:3×3):Bool:=decide (p.1<q.1)||decide (p.1=q.1)&&decide (p.2<q.2)
theorem X3:qu p q=6↔p.1<q.1\/p.1=q.1/\p.2<q.2:=by ext qu;simp
theorem AA:qu p q=7↔¬(p.1<q.1\/p.1=q.1/\p.2<q.2):=by rw[<-X3];simp
def wG:Tot qu:=by
 rw[(λa b h=>?_,λa b c h=>?_,λa b e f=>?_)];.rw[X3]at h;rw[AA,];lia
 .grind[X3]
 grind[AA]
def jL:J0->J0->Bool|[],[]=>7|[],_::_=>6|_::_,[]=>7|p::r,q::s=>if p=q then jL r s else qu p q
def W3(p q)(r s):jL (p::r) (q::s)=if p=q then jL r s else qu p q:=rfl
theorem Lh:∀a b:J0,jL a b=6->jL b a=7
|[],[],h=>JF h|[],_::_,_=>9|_::_,[],h=>JF h|p::r,q::s,h=>by
 rw[W3]at h ⊢;cases e:p=q;.rw[Zd e]at h;rw[Zd e.symm,];rw[Lh r s h]
 .rw[Ze e]at h;rw[Ze λz=>e z.symm,];rw[wG.asy _ _ h]
theorem Li:∀a b c:J0,jL a c=6->jL a b=6\/jL b c=6
|[],[],c,h=>.inr h|[],_::_,_,_=>006|_::_,_,[],h=>JF h|p::r,[],q::s,_=>.inr 9|p::r,x::t,q::s,h=>by
 rw[W3]at h;rw[W3,W3];cases e:p=q
 .rw[Zd e]at h;cases f:p=x;.rw[Zd f,Zd (f.symm.trans e)];rw[Li r t s h]
  .rw[Ze f,Ze λz=>f<|e.trans z.symm];induction z:qu p x with|true=>simp|false=>
right;rw[<-e]
induction y:qu x p with|true=>rfl|false=>rw[Zn (wG.tot _ _ z y) f]
 .rw[Ze e]at h;cases f:p=x;.ext
  .rw[Ze f,];cases g:x=q;.left;rwa[g,]
   .rw[Ze g,];rw[wG.neg _ _ _ h]
theorem Lj:∀a b:J0,jL a b=7->jL b a=7->a=b
|[],[],_,_=>9|[],_::_,h,_=>by cases h|_::_,[],_,h=>by cases h|p::r,q::s,c,h2=>by
 rw[W3]at c h2;cases e:p=q;.rw[Zd e]at c;rw[Zd e.symm]at h2;rw[e,Lj r s c h2]
 .rw[Ze e]at c;rw[Ze λz=>e z.symm]at h2;rw[Zn (wG.tot _ _ c h2) e]
def y9:Tot jL:=(Lh,Li,Lj)
section
variable {α: Type}(ltb:α -> α -> Bool)
noncomputable def wl(x:α):List α->List α|[]=>[x]|y::r=>if ltb x y=6 then x::y::r else y::wl x r
def Ql:List α->List α|[]=>[]|x::r=>wl ltb x (Ql r)
def Sd(l:List α):4:=l.Pairwise λa b=>ltb b a=7
variable {ltb}
theorem EQ(x):∀l:List α,(wl ltb x l).Perm (x::l)
|[]=>VD _|y::r=>by
 ext wl;split;.rfl
 .rw[((EQ x r).cons y).trans<|List.Perm.swap x y r]
theorem QL:∀l:List α,(Ql ltb l).Perm l|[]=>VD _|x::r=>(EQ x _).trans ((QL r).cons x)
theorem Lk(T:Tot ltb)(x):∀l:List α,Sd ltb l->Sd ltb (wl ltb x l)
|[],_=>VH _ _|y::r,h=>by
 let(!f,b):=Jj.mp h;ext wl;split
 .rename_i c;rw[Jj.mpr (λz a=>?_,h)];obtain e|e:=UN.mp a;.rw[e,];rw[T.asy _ _ c]
  .induction q:ltb z x with|false=>rfl|true=>
obtain u|u:=T.neg x z y c
.rw[T.asy _ _ u]at q;rw[JF q]
ext
 .rw[Jj.mpr (λz a=>?_,Lk T x r b)];grind[EQ]
theorem WQ(T:Tot ltb):∀l:List α,Sd ltb (Ql ltb l)|[]=>List.Pairwise.nil|x::r=>Lk T x _ (WQ T r)
theorem AB(T:Tot ltb):∀{a b:List α},a.Perm b->Sd ltb a->Sd ltb b->a=b|[],b,p,_,_=>p.nil_eq|x::r,b,p,ha,hb=>by cases(b)with|nil=>ext|cons y t=>
let(!c,f):=Jj.mp ha;let(!g,h):=Jj.mp hb;let e:x=y:=by
 rcases UN.mp (p.mem_iff.mp Zqs)with z|z;.rw[z]
 .rcases UN.mp (p.mem_iff.mpr Zqs)with u|u;.rw[u.symm]
  .rw[T.tot _ _ (g x z)<|c y u]
subst e;rw[AB T p.cons_inv f h,]
def ER(T:Tot ltb) (p:Pl ⇑l c ⇑l)(u:Up (λi j=>ltb (l.getD i d)<|l.getD j d) c ⇑l):c.toList.map (λi=>l.getD i d)=Ql ltb l:=by
 rw[AB T ?_ ?_<|WQ T l]
 .rw[VA ?_ (QL l).symm];let q:c.toList.Perm (List.range ⇑l):=by let:=Jr.mp p.perm;simpa using this
  rw[(q.map _).trans<|List.Perm.of_eq ?_];apply List.ext_getElem;.simp
  .intro i o e;simp[e]
 .rw[Jl.mpr λa b f g h=>?_];rw[VV,VV];let sz:⇑c.toList=⇑l:=by rw[Ue,p.size]
  rw[Zql]at f g;let m:c.toList[a]=gx c a:=by simp_all[gx]
  let n:c.toList[b]=gx c b:=by simp_all[gx]
  rw[m,n];rw[jR.no (T.wk _)<|u a b h ()]
end
theorem Qv{α:Type}{l:List α} {d x:α}(h:l[i]?=!x):l.getD i d=x:=()
def X4(h:Heap)(b:Ye)(c:J0):4:=⇑b=⇑c/\∀(i:5)p,c[i]?=!p->∃a o n t u,b[i]?=! 022/\h.get? a=!o/\o.cls=.type "tuple"/\o.data=.seq #[.int p.1 t,.int p.2 u] n
theorem Ll:∀{b:Ye}{c:J0},X4 h b c->∃fs,W.KatTups h b fs/\⇑fs=⇑b/\∀v∈fs,∃k t,v=Value.int k t|[],c,q=>(_,.nil,9,())|v::b,[],q=>by let:=q.1;simp at this|v::b,p::c,q=>by let(a o n t u,e,f,g,j):=q.2 0 p 9;obtain rfl:=Zqi e;let(-fs,l,m,s):=Ll (by let:=q.1;simp_all,λi p r=>q.2 (i+1) p r);rw[(.int _ t::fs,.cons f g j 9 l,by simp[m],λv w=>?_)];grind
def TN(q:X4 s.heap l f)(M:2<=⇑l):vj m w A s l λi j=>qu (f.getD i %[0|0])<|f.getD j %[0|0]:=by
 let(-fs,x,N,y):=Ll q;rw[(tuples'<|Value.type "int"!=Value.type _,λE Q h=>W.kat_kind (T:=Value.type _) x () (λv B=>?_) 9 h,λi j O P E Q h=>?_)];.let(k t,rfl):=y v B;rw[W.Looks.of_pure 9]
 .let R:=q.1;let(p,r):∃p,f[i]?=!p:=018;let(b,e):∃p,f[j]?=!p:=018;let(a o n t u,C,F,S,G):=q.2 i p r;let(U X Y Z H,I,J,f3,L):=q.2 j _ e;dsimp only at h;rw[Qv r,Qv e]at h;show wpAny (model _ w) A (keyLt' _ (jM _ i)<|jM _ j) Q E s;ext jM;rw[Qv C,Qv I];rw[W.kat_lt F G J L ?_];rw[W.kat_cons<|PySem.SeqAt.EqAt.int_int _ t _ _ _ w _ _ ?_];cases c:p.1=b.1
  .rw[show(p.1==b.1)=6 by simpa using c,];rw[W.kat_yes<|W.kat_cons<|PySem.SeqAt.EqAt.int_int _ u b.2 H _ w _ _ ?_];cases d:p.2=b.2;.rw[show(p.2==b.2)=6 by simpa using d,];rw[W.kat_yes<|W.kat_nil ?_];grind[AA]
   .rw[show(p.2==b.2)=7 by simp_all,];rw[W.kat_no<|W.kat_one _ _<|lt_int ?_];let z:qu p b=decide (p.2<b.2):=by grind[X3,AA]
    rw[z]at h;rw[h]
  .rw[show(p.1==b.1)=7 by simpa using c,];rw[W.kat_no<|oneLt_int ?_];let z:qu p b=decide (p.1<b.1):=by
    cases g:p.1<b.1;.rw[Zp g,X3];lia
    .rw[Zo g,AA];lia
   rwa[z]at h
structure RowAt(h:Heap)(v:Value)(r:J0)(a:Addr)(o:Obj)(us:Ye)(n:5):4 where
isv:v=022
get:h.get? a=!o
cls:o.cls=.type "tuple"dat:o.data=.seq us.toArray n
prs:X4 h us r
def ES(ok:xc P w H h)(g:Is H (rD r) x)(j:jz x v):∃a o l n,RowAt h v r a o l n:=by
 let(a J,rfl,m,c):=g;obtain rfl:=j;let(_,q,e,o,s,t,n,y):=ok a _ m;rw[jS a o _ n (9,s,t,y,?_,λi p z=>?_)];.let L:=⇑c;let M:=⇑e;ext
 .let(-x,A,B):=c.get (by rw[Zv,z];rfl);let(u,N,C):=e.get A;let(-b,rfl,E):=rC.mp B;obtain rfl:=C;let(_,f,F,O,Q,R,S,T):=ok b _ E;let(U X,rfl,G,I):=BO F;let(Y,rfl):=G;let(Z,rfl):=I;ext
theorem Lm(L:A.units+04<cLine) {E:Ya} :∀{r j:J0}{e b:Ye}i,X4 s.heap e r->X4 s.heap b j->x=decide (⇑r<⇑j)->Q (jL r j) s->W.KatLex B w A 7 x Q (e.zip b) i s|[],[],e,b,i,q,f,hf,h=>by obtain rfl:e=[]:=Jo.mp q.1;rw[W.kat_nil ?_];rw[hf,];rw[h]|[],p::j,e,b,i,q,f,hf,h=>by obtain rfl:e=[]:=Jo.mp q.1;rw[W.kat_nil ?_];rw[hf,Zp ()];rw[h]|p::r,[],e,b,i,q,f,hf,h=>by obtain rfl:b=[]:=Jo.mp f.1;rw[List.zip_nil_right,];rw[W.kat_nil ?_];rw[hf,Zo ()];rw[h]|p::r,g::j,e,b,i,q,f,hf,h=>by let(a o n t u,l,C,F,G):=q.2 0 p 9;let(S T U M N,m,H,I,J):=f.2 0 _ 9;cases e with|nil=>rw[J6 l]|cons v e=>cases b with|nil=>rw[J6 m]|cons X b=>
let l:some v=!_:=l;let m:some _=! Value.ref _:=m;obtain rfl:=Zqi l;obtain rfl:=Zqi m;let O:Reads _ _ (pD p) _:=.tuple C F G<|.cons (.int _ t)<|.cons (.int _ u) .nil;let R2:Reads _ (.ref _) (pD _) _:=.tuple H I J<|.cons (.int _ _)<|.cons (.int _ _) .nil;let Y:∀z:3×3,(pD z).depth=1:=λz=>by rfl
rw[W.kat_cons<|PySem.SeqAt.eqAt_reads _ _ A s _ _ _ _ O R2 9 9 () _ w _ _ ?_];rw[W3]at h;cases c:p=g
.subst c;rw[Td (EC p),];rw[Zd 9]at h;rw[W.kat_yes<|Lm L (E:=E) _ (by let:=q.1;simp_all,λi z y=>q.2 (i+1) z y) (by let:=f.1;simp_all,λi z y=>f.2 (i+1) z y) () h]
.rw[Ze c]at h;let ne:pD p≠pD g:=λz=>c<|by grind[pD]
 rw[Tc (EC p) (EC _) ne,];let P:IntsAre (#[Value.int _ t,Value.int _ u]:Array _).toList [p.1,p.2]:=.cons _ _<|.cons _ _ .nil;let R:IntsAre (#[Value.int g.1 M,Value.int g.2 N]:Array _).toList _:=.cons _ _<|.cons _ _ .nil;rw[W.kat_one _ _<|HT.lt_tupInts (o,C,F,n,G) (_,H,I,_,J) P R () ?_];let z:HT.lexLt [p.1,p.2] [g.1,g.2]=qu p g:=by grind[qu,HT.lexLt_cons,HT.lexLt_nil_nil]
 rwa[z,]
def Ln{c:J1} (hu:A.units+04<cLine)(ok:xc P w H s.heap)(O:qD H (c.map rD) xs)(S:j6 xs e)(f:∀r∈c,r ≠[])(h2:2<=⇑e):vj U w A s e λi j=>jL (c.getD i [])<|c.getD j []:=by
 let l1:=⇑O;let l2:=⇑S;rw[Zql]at l1;let m:∀(i:5)r,c[i]?=!r->∃v a o q n,e[i]?=!v/\RowAt _ v r a o q n:=λi r l=>by let(-x,hx,X):=O.get (i:=i) (d:=rD r) (by rw[Zv,l];rfl);let(-v,B,ru):=S.get hx;let(a o q n,R):=ES ok X ru;rw[j8 v a o _ n (B,R)]
 let g:∀e(c:List (List _)),⇑e=⇑c->(∀r∈c,r ≠[])->(∀(i:5)r,c[i]?=!r->∃v a o q n,e[i]?=!v/\RowAt s.heap v r a o q n)->∃fs,W.KatTups s.heap e fs/\⇑fs=⇑e/\∀v∈fs,∃b C,v=Value.ref b/\↥s b=!C/\C.cls=.type "tuple":=by intro e;cases(e)with|nil=>rw[λb b b b=>([],.nil,9,λv B=>nomatch B)]|cons v e ih=>intro c Y f F;cases c with|nil=>simp at Y|cons r c=>let(v' a o q n,G,R):=F 0 r 9;let G:some v=!_:=G;obtain rfl:=Zqi G;let(-fs,J,Z,L):=ih _ (by simpa using Y) (λr l=>f r<|Zqm _ l) λi r l=>F (i+1) r l;cases r with|nil=>rw[Zn 9<|f [] Zqs]|cons p r=>
  let(b C nb t u,M,N,g3,g4):=R.prs.2 0 p 9;obtain rfl:v=Value.ref a:=R.isv;rw[(.ref b::fs,.cons R.get R.cls R.dat (by simpa using M) J,by simp[Z],λz hz=>?_)];obtain y|y:=UN.mp hz;.rw[(b,C,y,N,g3)]
  .rw[L z y]
 let(-fs,J,Z,L):=g e c () f m;rw[(tuples' _,λE Q h=>W.kat_kind (T:=Value.type "tuple") J () (λv B=>?_) 9 h,λi j X hj E Q h=>?_)];.let(b C,rfl,M,N):=L v B;rw[<-N];rw[(W.Looks.ld M).andThen .now]
 .let(r,l):∃r,c[i]?=!r:=018;let(r',hr'):∃r,c[j]?=!r:=(_,Zqg ());let(v a o q n,G,R):=m i r l;let(v' a' o' us' n',f1,I):=m j r' hr';dsimp only at h;rw[Qv l,Qv hr']at h;show wpAny (model _ w) A (keyLt' _ (jM e i)<|jM e j) Q E s;ext jM;rw[Qv G,Qv f1,R.isv,I.isv];rw[W.kat_lt R.get R.dat I.get I.dat ?_];rw[Lm hu (E:=E) 0 R.prs I.prs (by rw[Zm,Zm,R.prs.1,I.prs.1]) h]
section
variable {wi:TI}
def Lo(N)(cap)(w:X.calm=6)(m:Kk a X.env N X.N cap=6)(y:PI X t f wi)(A:∀i C s H j,PG (JP X a N i C s H j) t g)(B:∀i C s H j,PT (JP X a N i C s H j) c E)(F:∀i C s H j,PE (JP X a N i C s H j) o G)(J:∀x,foldedSetIterable f X.env x=pure x) {Z:St} (I:003)(h:BT cap wi g E G Z H Q)(p:A0 X Y Z Q r R):YE X (comprehension (.ListComp o [(t,f,[c],0)] a L) a X.env u (newList []) 7 (eval f X.env) r) R X.xe s:=Iu (test:=λM R Q s=>wpAny _ _ _ Q _ s) N (λI l n h=>W.kct_loop I l n h) (λi C s H j d d d d d d d d v I q k=>Zc (B _ C s H _ _ _ _ _ _ I q) (λb U z=>by let(-H8,O,P):=z;rw[k b _ _ O P]) λe s' S=>Zc S (λb T z=>v _ _ z) λb b z=>v _ _ z) _ w m y A (λi C s H j b=>F _ C s H _) J I h p
end
theorem TQ{L:List (Addr×HO)} (h:L.lookup b=!u):%[b|u]∈L:=by cases(L)with|nil=>rw[J6 h]|cons p r a=>grind
noncomputable def xa(H:Hp)(L:List (Addr×HO)):Hp:=λb=>match L.lookup b with|some o=>!o|none=>H b
def Ci(h:∀p∈L,p.1≠b):xa H L b=H b:=by grind[xa,List.lookup_cons]
def Lp(b:(L.map (·.1)).Nodup) (h:%[a|o]∈L):xa H L a=!o:=by
 ext xa;let e:L.lookup a=!o:=by cases(L)with|nil=>cases h|cons p r c=>grind
 rw[e,]
def Lq(h:xa H L b=!u):%[b|u]∈L\/(∀p∈L,p.1≠b)/\H b=!u:=by grind[xa,Zqi,TQ]
def Inv.laidMany{Z:St} (I:003)(k:∀b u,↥s b=!u->i.get? b=!u)(j:∀p∈L,s⁻¹<=p.1)(ok:∀p∈L,y0 X.prog X.w (xa H L) i p.1 p.2):Inv X Y Z (xa H L) {s with heap:=i,toks:=t'}:=by
 let c:∀b u,↥s b=!u->∀p∈L,p.1≠b:=λb u e p f z=>Zn (Zg (Zk e)<|by rw[<-z];rw[j p f])<|Zy _;let l:∀b u,H b=!u->xa H L b=!u:=λb u e=>by rwa[Ci λp f z=>Zn (Zg (I.hok.lt e)<|by rw[<-z];rw[j p f])<|Zy _,]
 rw[I.un ((),λb u q d d d=>(u.slots,k b u q),λb u q n d=>by rwa[Ci (c b u q),],(),(),(),λb o q=>(#[],())) λb u e=>?_];obtain z|⟨z,e'⟩:=Lq e;.rw[ok %[b|u] z]
 .rw[(I.hok b u e').stay () () ()]
theorem Lr:∀{L:Yh},(∀i∈L,Is H (f i) (g i))->qD H (L.map f) (L.map g)|[],_=>by rfl|i::L,h=>(_,_,9,(),Lr ())
theorem YS:∀{L:Yh},(∀i∈L,jz (g i) (u i))->j6 (L.map g) (L.map u)|[],_=>.nil|i::L,h=>.cons () (YS ())
def Pl.mem(p:Pl n c n) (h:i∈c.toList):i<n:=by let q:=(Jr.mp p.perm).mem_iff.mp h;ext
def Pl.len(p:Pl n c k):⇑c.toList=n:=by rw[Ue,p.size]
def TR(hu:X.A.units+64<cLine):qc X (.builtin "sorted") λA H Q=>∃a g c,A=[022]/\Rd H a (.lst g)/\qD H (c.map rD) g/\(∀r∈c,r ≠[])/\⇑c<1000/\∀l(m:Yh),H l=8->(∀i∈m,i<⇑c)->m.map (λi=>c.getD i [])=Ql jL c->Q (.ref l) (upd H l<|.lst<|m.map λi=>g.getD i .non):=by
 intro Y s Z H A us Q I E h;let(a,g,c,rfl,F,n,t,G,q):=h;let(-u,rfl,J):=Qu E;obtain rfl:u=Value.ref a:=J;let(-f,w,L,hz):=I.list (.inl F);let M:=⇑n;let l2:=⇑w;rw[Zql]at M;let N:⇑f=⇑c:=();let O:∀b o,019->((s.heap.push<|seqObj "list" #[] 0).update _<|Obj.mapSeq (·++f.toArray)).get? b=!o:=λb o e=>by rw[Heap.get?_update_ne _ _ _ _ (Zi<|Zk e),Heap.get?_push_ne _ _ _ (Zi<|Zk e)];rw[e]
 rw[Lg (y9.wk λi=>c.getD i _)<|collect_list L.isList ((),λP B R=>Ln () (I.hok.kept λb o e=>B b o<|O b o e) n w t R,λy P l p u B hl z=>?_) ()];let(e,z):=z;rw[N]at p u;let j:s⁻¹<=l:=by grind[Heap.size_update,size_push']
 let S:∀i∈y.toList,∃x v,g[i]?=!x/\f[i]?=!v/\jz x v/\Is H (rD<|c.getD i _) x:=λi T=>by let hn:=p.mem T;let(-x,C,U):=n.get (i:=i) (d:=rD<|c.getD i []) (by grind[List.getElem?_map,Zqg,Qv]);let(-v,hv,rr):=w.get C;rw[(x,v,C,hv,rr,U)]
 rw[(.ref l,upd H l<|.lst<|y.toList.map λi=>g.getD i _,I.laid () j (?_,y.toList.map<|jM f,e,?_,?_),9,q l _ (I.hok.fresh j) ()<|ER y9 p u)];.rw[Zql,p.len];lia
 .grind[jM,YS,Qv]
 .rw[z,];congr 03;apply Vp;simp
def W4(a d:Addr):HO:=.ext λh=>h.IsItemsView a d
def Ls:kN X "dict.items" λx c H Q=>∃d a,x=.ref d/\c=[]/\H d=! .dK a/\∀p,H p=8->Q (.ref p) (upd H p<|W4 p d):=by intro Y s Z H x c v n Q I g i h;let(d a,rfl,rfl,j,q):=h;obtain rfl:=g;obtain rfl:=ww i;let(!z,lo,(t,l,f)):=Ax I.hok j;rw[call_meetsIn PySem.F.slot_dict_items f.typeIs PySem.F.entry_dict_items (PySem.F.args_dict_items_1 _) (meets_dict_items _ d lo) ((_,f),(.ref _,upd H _<|W4 _ d,I.laid (λb o e=>Zq _ e) (Zf _)<|((_,Zr _ 9,9,9),(_,Zr _ 9),λu w z m=>qk z λo=>j4 λe r=>(o,m o e,r)),9,q _<|I.hok.fresh<|Zf _))]
def TU(hc:X.calm=6):qc X (.builtin "sorted") λxs H Q=>∃n d r,xs=[.ref n]/\H n=! W4 n d/\H d=!(.dK<|xU r)/\r ≠[]/\⇑r<1000/\∀l L,(∀p∈L,H p.1=8)->(L.map (·.1)).Nodup->(∀G,Is (xa G L) (.list<|(Ql qu r).map pD) (.ref l))->Q (.ref l) (xa H L):=by
 intro Y s Z H xs us Q I rv h;let(n d r,rfl,hv,hd,T,h64,q):=h;let(-u,rfl,ru):=Qu rv;obtain rfl:u=Value.ref n:=ru;let(!w,_,_):=show y0 X.prog X.w H s.heap n (W4 n d)from I.hok n _ hv;let(!z,lo,(ws,M,od,es,ep,d1,d2,d3,d4,d5,d6)):=Ax I.hok hd;let lk:=⇑M;let lr:⇑(xU r)=⇑r:=Zql _;let U:s.heap.DictAt (QC X.prog X.w) d ws ep:=(od,es,d1,d2,d3,d4,d5,d6);rw[Lg (wG.wk λi=>r.getD i %[0|0])<|W.kdx_collect (knd:=QC X.prog X.w) (I.ok.hd hc) w U (by rw[<-lk,lr];rw[Q8 ()]) λh1 tk c kp1 la G=>?_];let lv:⇑(c.map Value.ref)=⇑r:=by rw[Zql,];lia
 let pa:∀A,(∀b o,h1.get? b=!o->A.get? b=!o)->X4 A (c.map Value.ref) r:=λA B=>by
  rw[(lv,λi p j=>?_)];let f:i<⇑c:=by let:=(Jd.mp j).1;lia
  let(C k x,g1,g2,g3):=G.pairs i c[i] ();let kv:KV (xU r) ws:=M;let hk:(xU r)[i]?=!%[Ut p.1|V.int p.2]:=by ext xU;rw[Zv,j];rfl
  let N:∀{l1:List (jI×V)}{l2:List (jI×Value)}{i:5}{a:jI×V}{b:jI×Value},KV l1 l2->l1[i]?=!a->l2[i]?=!b->a.1=b.1/\jz a.2 b.2:=by intro l1 l2 i a b O;unfold KV at O;induction O generalizing i with|nil=>intro e;simp at e|cons hh tt ih=>cases(i)with|zero=>intro v E;simp at v E;subst v E;rw[hh]|succ i=>intro v E;rw[ih (by simpa using v)<|by simpa using E]
  let(b1,b2):=N kv hk g1;let b1:(Ut p.1:jI)=k:=b1;subst b1;let(t1,rfl):=show ∃t,x=Value.int p.2 t from b2;let(t0,rfl):∃t,C=Value.int p.1 t:=by
   rcases KG (show KW (Ut p.1) C=6 from g2)with ⟨i0,t,v,E⟩|⟨x0,t,v,E⟩;.cases v;rw[(t,E)]
   .cases v
  rw[j8 c[i] _ _ t0 t1 (by rw[Zv,Zqg f];rfl,B _ _ g3,9,9)]
 rw[((),λA B h2=>TN (pa A B) h2,λjx A l p u B hl gl=>?_)];let(e,gl):=gl;rw[lv]at p u;let kk:∀b o,019->A.get? b=!o:=λb o e=>B b o<|kp1 b o e;let P:∀a∈c,s⁻¹<a:=G.above;let R:∀a∈c,a<l:=λa ha=>Zg (G.there ha) hl;let szl:s⁻¹<=l:=by cases(c)with|nil=>rw[Zn (Jo.mp<|by rw[<-lv];rfl) T]|cons a as'=>rw[Zz<|Uh (P a Zqs)<|R a Zqs]
 let(L,hL):∃L:List (Addr×HO),L=%[l|.lst (jx.toList.map λi=>V.ref<|c.getD i 0)]::(c.zip r).map λz=>%[z.1|HO.tup [.int z.2.1,.int z.2.2]]:=(_,9);let g:L.map (·.1)=l::c:=by rw[hL,Zl,Zw];show l::(c.zip r).map (λz=>z.1)=_;rw[List.map_fst_zip (),]
 let nd:(L.map (·.1)).Nodup:=by rw[g,];rw[Jm.mpr (λm=>Zy _<|R l m,?_)];rw[G.rise.imp λhlt=>Zi hlt]
 let S:∀p∈L,s⁻¹<=p.1:=λp j=>by
  let:p.1∈L.map _:=Ja.mpr (p,j,9);rw[g]at this;obtain z|z:=UN.mp this;.rw[z,];rw[szl]
  .rw[Zz<|P _ z]
 let F:∀G(i:5)p,r[i]?=!p->xa G L (c.getD i 0)=! .tup [.int _,.int _]:=λG i p j=>by
  let f:i<⇑c:=by let:=(Jd.mp j).1;lia
  rw[Lp nd ?_];rw[hL,];rw[Zqm _<|Ja.mpr (%[c[i]|p],?_,by rw[Qv (Zqg f),])];rw[Ug (i:=i) ?_];rw[VQ,];rw[(Zqg f,j)]
 rw[(.ref l,_,I.laidMany (t':=tk) kk S λy hy=>?_,9,q l L (λp j=>I.hok.fresh<|S p j) nd λG'=>?_)]
 .rw[hL]at hy;obtain z'|z':=UN.mp hy
  .rw[z',];rw[(?_,jx.toList.map<|jM<|c.map Value.ref,e,?_,?_)];.rw[Zql,p.len];rw[Q8 ()]
   .rw[YS λi f=>?_];let hn:=p.mem f;let hi':i<⇑c:=();ext jM;rw[Qv (Zqg hi'),Qv (x:=Value.ref c[i]) (by rw[Zv,Zqg];rfl)];rfl
   .rw[gl,];congr 03;apply Vp;simp
  .let((a,p'),hm,rfl):=Ja.mp z';let(i,f):=Jk.mp hm;rw[VQ]at f;let(i1,i2):=f;let(a' o' n' t' u',f1,f2,f3,f4):=(pa _ B).2 i p' i2;rw[Zv,i1]at f1;cases f1;let(C k x,g1,g2,g3):=G.pairs i a i1;let J:=B _ _ g3;rw[J]at f2;obtain rfl:=Zqi f2;rw[((by show 2<=00;decide,_,J,9),[.int _ _,.int _ _],.cons (_,9)<|.cons (_,9) .nil,_,J,9,_,f4)]
 .rw[xY,];rw[(l,_,9,Lp nd<|by rw[hL,];rw[Zqs],?_)];rw[<-ER wG p u,Zw];rw[Lr λi f=>?_];let hn:=p.mem f;rw[rC.mpr (_,9,?_)];let:=F G' i (r.getD i %[0|0]) (by rw[Qv (Zqg hn),];rw[Zqg hn]);rw[this]
noncomputable def qP(r:J0)(t w:3):J0:=if r.any λp=>decide<|p.1=t=6 then r.map λp=>if p.1=t then%[p.1|w]else p else r++[%[t|w]]
def TV(r)(t w):qJ (xU r) (Ut t) (V.int w)=xU (qP r t w):=by
 let e:(xU r).any λa=>decide<|a.1=Ut t=r.any λp=>decide<|p.1=t:=by ext xU;rw[List.any_map,];congr 1;funext p;simp
 ext qJ qP;rw[e,];split
 .ext xU;rw[Zw,Zw];apply UJ;intro p _;cases c:p.1=t;.simp[c]
  .simp[c]
 .ext xU;rw[Ud,];rfl
theorem Cj(p)(r)(t):JE (p::r) t=match JE r t with|some w=>!w|none=>if p.1=t then !p.2 else 8:=rfl
def TW(r)(t w j):JE (r.map λp=>if p.1=t then%[p.1|w]else p) j=(JE r j).map λx=>if j=t then w else x:=by cases(r)with|nil=>rfl|cons p r a=>grind[List.map_cons,Cj,Option.map]
def TX(r)(t):r.any λp=>decide<|p.1=t=(JE r t).isSome:=by induction q:JE r t with|none=>grind[Option.isSome_none,List.any_eq_false,IF]|some w=>rw[Option.isSome_some,VW];rw[(_,Q0 q,())]
def TY(r)(t w j):JE (qP r t w) j=if j=t then !w else JE r j:=by
 ext qP;rw[TX,];cases a:(JE r t).isSome=6
 .rw[Zd a,TW];cases e:j=t;.rw[Zd e,e];let(-x,b):=Ju.mp a;rw[b,];simp
  ext
 .rw[Ze a,Tq];show(match if t=j then !w else 8 with|some w=>!w|none=>JE r j)=_;grind
def TZ(r)(t w):(qP r t w).map (·.1)=if r.any λp=>decide<|p.1=t=6 then r.map (·.1)else r.map (·.1)++[t]:=by
 unfold qP;split
 .rw[List.map_map,];apply List.map_congr_left;intro p _;by_cases c:p.1=t<;>simp[c]
 .rw[List.map_append,];rfl
def im(h:jF r):jF (qP r t w):=by
 ext jF;rw[TZ,];split;.rw[h]
 .rename_i c;unfold jF at h;rw[List.nodup_append,];rw[(h,(),λa g b f=>?_)];simp at f;subst f;rintro rfl;let(-p,i,e):=Ja.mp g;rw[c<|VW.mpr (p,i,by simp[e])]
def aJ(r)(t w):⇑(qP r t w)<=⇑r+1:=by grind[qP,Zql,List.length_append]
theorem Lu:∀r b,Xz (xU b) (xU r)=xU (r.foldl (λa p=>qP a p.1 p.2) b)|[],b=>9|p::r,b=>by let e:Xz (xU b) (xU<|p::r)=Xz (qJ _ (Ut _)<|V.int _) (xU r):=9;rw[e,TV,Lu];rfl
theorem Lv:∀r b,jF (b++r)->r.foldl (λa p=>qP a p.1 p.2) b=b++r
|[],b,_=>by simp|p::r,b,h=>by
 let c:b.any λq=>decide<|q.1=p.1=7:=by grind[jF,List.any_eq_false,List.map_append,List.nodup_append]
 let e:qP b p.1 p.2=b++[p]:=by ext qP;rw[c,];simp
 rw[Ve,e,Lv r _ (),Uf];rfl
noncomputable def jw:02 3->02 3->02 3|none,b=>b|some x,none=>!x|some x,some y=>! if x>y then x else y
def X5(a:J0)(p:3×3):J0:=qP a p.1<|if(JE a p.1).getD p.2>p.2 then(JE a p.1).getD p.2 else p.2
def Kl(r o:J0):J0:=o.foldl X5 r
def zhJ(a)(p)(t):JE (X5 a p) t=if t=p.1 then jw (JE a t) !p.2 else JE a t:=by
 ext X5;rw[TY,];cases e:t=p.1;.rw[Zd e,Zd e,e];cases(JE _ _)with|none=>simp[jw]|some x=>simp[jw]
 ext
theorem Ck(t):∀o r,jF o->JE (Kl r o) t=jw (JE r t) (JE o t)
|[],r,_=>by show JE r t=jw _ 8;cases(JE r t)<;>rfl|p::o,r,h=>by
 let(!a,b):=Jm.mp h;let e:Kl r (p::o)=Kl _ o:=9;rw[e,Ck t o _ b,zhJ,Cj];cases c:t=p.1
 .let n:JE o t=8:=by induction q:JE o t with|none=>rfl|some w=>rw[Zn (Ja.mpr (_,Q0 q,c)) a]
  rw[Zd c,n,Zd c.symm];cases(jw _ !_)<;>rfl
 grind
theorem Cm:∀o r,jF r->jF (Kl r o)|[],r,h=>h|p::o,r,h=>Cm o _ (im h)
theorem ET:∀o r,⇑(Kl r o)<=⇑r+⇑o|[],r=>Zf _|p::o,r=>by let a:=ET o<|X5 r p;let b:⇑(X5 r p)<=⇑r+1:=aJ _ _ _;show(Kl _ o).length<=_;grind
def Lw(h:r ≠[])(a:jF o):Kl r o ≠[]:=by intro z;cases(r)with|nil=>rw[h 9]|cons p r=>
let q:=Ck p.1 o (p::r) a;rw[z]at q;let:∃x,JE (p::r) p.1=!x:=by grind[Cj]
let(x,b):=this;rw[b]at q
induction hq:JE o _ with|none=>rw[hq]at q;rw[J6 q]|some y=>rw[hq]at q;rw[J6 q]
def Lx(h:jF r) :%[t|w]∈r↔JE r t=!w:=(λm=>h.look m,Q0)
theorem WR{c:α->α->Bool}(T:Tot c):∀{a b:List α},a.Pairwise (λx y=>c x y=6)->b.Pairwise (λx y=>c x y=6)->(∀x,x∈a↔x∈b)->a=b
|[],[],_,_,_=>9|[],y::b,_,_,h=>by cases(h y).mpr Zqs|x::a,[],_,_,h=>by cases(h x).mp Zqs|x::a,y::b,ha,hb,h=>by
 let(i,j):=Jj.mp ha;let(g,l):=Jj.mp hb;let e:x=y:=by
  rcases UN.mp ((h x).mp Zqs)with z|z;.rw[z]
  .rcases UN.mp ((h y).mpr Zqs)with u|u;.rw[u.symm]
   .let:=T.asy _ _<|g x z;ext
 subst e;congr 1;rw[WR T j l λz=>(λf=>?_,λf=>?_)]
 .rcases UN.mp ((h z).mp<|Zqm _ f)with u|u;.rw[u]at f;let:=i x f;rw[T.irr]at this;rw[JF this]
  lia
 .rcases UN.mp ((h z).mpr<|Zqm _ f)with u|u;.rw[u]at f;let:=g x f;rw[T.irr]at this;rw[JF this]
  lia
theorem Ly{α β:Type}(f:α->β):∀{l:List α},(l.map f).Nodup->l.Nodup|[],_=>VI|x::r,h=>by rw[Zl,List.nodup_cons]at h;rw[Jm.mpr ((),Ly f h.2)]
def ziI(h:jF r):(Ql qu r).Pairwise λx y=>qu x y=6:=by rw[(List.Pairwise.and (WQ wG r)<|(QL r).nodup_iff.mpr<|Ly _ h).imp λ{x y}z=>?_];induction q:qu x y with|true=>rfl|false=>rw[Zn (wG.tot _ _ q z.1) z.2]
end L2
namespace L2.DL
def eA{_:Decidable c}{α:Type}{a z:α}(h:(if c then !a else 8)=!z):c/\a=z:=()
set_option genInjectivity true in
inductive D where|non|bl(b:Bool)|int(i:Int)|str(x:Str)|ty(n:String)|scr(ns:Yf)|tup(ds:List D)|lst(ds:List D)|dct(ks:List jI)(ds:List D)|ins(c:Str)(fs:Yi)(ds:List D)|exc(c:Str)|ucl(c:Str)|exr(c:Str)(n:Int)|adr(a:Addr)|dcf(ks:List jI)(ds:List D)|pin(a:Addr)(d:D)
abbrev _root_.YC:=List D
abbrev _root_.YD:=02 D
set_option genInjectivity true in
inductive Res(α:Type)where|ok(a:α)|ex(c:Str)(fs:YC)|no
noncomputable def Res.bind{α β:Type}(r:Res α)(g:α->Res β):Res β:=match r with|.ok a=>g a|.ex c fs=>.ex c fs|.no=>.no
def Res.need{α:Type}(r:Res α)(p:α->4)(q:Str->YC->4):4:=match r with|.ok a=>p a|.ex c fs=>q c fs|.no=>False
@[simp]theorem Res.bind_ok(a)(g:α->Res β):(Res.ok a).bind g=g a:=rfl
@[simp]def uF(c)(fs)(g:α->Res β):(Res.ex c fs:Res α).bind g=.ex c fs:=rfl
@[simp]def uE(g:α->Res β):(Res.no:Res α).bind g=.no:=rfl
def Res.need_bind{r:Res α} {p:β->4} (h:(r.bind g).need p q):r.need (λa=>(g a).need p q) q:=by cases(r)<;>rw[h]
def Res.need.mono{r:Res α} (h:r.need p q)(e:∀a,p a->f a)(i:∀c fs,q c fs->j c fs):r.need f j:=by cases r with|ok a=>rw[e a h]|ex c fs=>rw[i c _ h]|no=>rw[h]
def Res.need.monoE{r:Res α} (h:r.need p q)(e:∀a,r=.ok a->p a->f a)(i:∀c fs,q c fs->j c fs):r.need f j:=by cases(r)with|ok a=>rw[e a 9 h]|ex c fs=>rw[i c _ h]|no=>rw[h]
def mS(C x:Addr):HO:=.ext λh=>∃o,h.get? x=!o/\o.cls=.ref C
def mR(C p x:Addr):HO:=.ext λh=>∃o,h.get? x=!o/\o.cls=.ref C/\o.dict=!p/\W.notCls o=6
def kj(p:Addr)(n:3):HO:=.ext λh=>∃mA u,h.Ns1 p mA/\mA "row"=!u/\jz (.int n) u
def yK(_:f')(H:Hp)(a:Addr)(b:YB):4:=H a=! .tup b
def yK.same{K:f'} (e:jk H c)(h:yK K H a f):yK K c a f:=e _ _ h
def yK.of{K:f'} (h:H a=! .tup c):yK K H a c:=h
def yK.sq{K:f'} (h:yK K H a c):yu K H a c:=yu.of h
def xA(_:f')(H:Hp)(a:Addr)(b:YB):4:=Rd H a<|.lst b
def xA.same{K:f'} (e:jk H c)(h:xA K H a f):xA K c a f:=h.imp (λq=>e _ _ q)<|yo λo q=>(o,e _ _ q)
def xA.of{K:f'} (h:H a=! .lst c):xA K H a c:=.inl h
def xA.sq{K:f'} (h:xA K H a c):qR K H a c:=.inl h
section
variable (K:f')
mutual
def IsD(H:Hp):D->V->Prop| .non,v=>v=.non| .bl b,v=>v=.bl b| .int i,v=>v=.int i| .str x,v=>v=.str x| .ty n,v=>v=.ty n| .scr g,v=>∃a,v=.ref a/\qR K H a (g.map V.int)| .tup ds,v=>∃a e,v=.ref a/\yK K H a e/\IsDs H ds e| .lst ds,v=>∃a e,v=.ref a/\xA K H a e/\IsDs H ds e| .dct f ds,v=>∃a e,v=.ref a/\H a=some (.dK (f.zip e))/\⇑f=⇑e/\IsDs H ds e| .ins c fs ds,v=>∃a C h e,v=.ref a/\W.nsIn K 000 c=some (some (.ref C))/\H a=some (.ins C h (fs.zip e))/\⇑fs=⇑e/\IsDs H ds e| .exc c,v=>∃a C,v=.ref a/\W.nsIn K 000 c=some (some (.ref C))/\H a=some (mS C a)| .exr c n,v=>∃a C p,v=.ref a/\W.nsIn K 000 c=some (some (.ref C))/\H a=some (mR C p a)/\H p=some (kj p n)| .ucl c,v=>∃C,v=.ref C/\W.nsIn K 000 c=some (some (.ref C))| .adr a,v=>v=.ref a| .dcf f ds,v=>∃a o e,v=.ref a/\H a=some (.frz o (.dK (f.zip e)))/\⇑f=⇑e/\IsDs H ds e| .pin a d,v=>v=.ref a/\IsD H d v
def IsDs(H:Hp):YC->YB->Prop| [],a=>a=[]|d::ds,a=>∃x r,a=x::r/\IsD H d x/\IsDs H ds r
end
end
section
variable {K:f'}
def jB:IsD K H .non v↔v=.non:=.rfl
def jo:IsD K H (.bl b) v↔v=.bl b:=.rfl
def jc:IsD K H (.int i) v↔v=.int i:=.rfl
def jf:IsD K H 036 v↔v=036:=.rfl
def zQ:IsD K H (.ty n) v↔v=.ty n:=.rfl
def qG:IsD K H (.scr c) v↔∃a,v=022/\qR K H a (c.map V.int):=.rfl
theorem js:IsD K H (.tup ds) v↔∃a c,v=022/\yK K H a c/\IsDs K H ds c:=.rfl
theorem jq:IsD K H (.lst ds) v↔∃a c,v=022/\xA K H a c/\IsDs K H ds c:=.rfl
def jX:IsD K H (.dct e ds) v↔∃a c,v=022/\H a=!(.dK<|e.zip c)/\⇑e=⇑c/\IsDs K H ds c:=.rfl
def jW:IsD K H (.ins c fs ds) v↔∃a C f e,v=022/\W.nsIn K 000 c=! ! .ref C/\H a=!(.ins C f<|fs.zip e)/\⇑fs=⇑e/\IsDs K H ds e:=.rfl
def xk:IsD K H (.exc c) v↔∃a C,v=022/\W.nsIn K 000 c=! ! .ref C/\H a=! mS C a:=.rfl
def xj:IsD K H (.exr c n) v↔∃a C p,v=022/\W.nsIn K 000 c=! ! .ref C/\H a=! mR C p a/\H p=! kj p n:=.rfl
def z9:IsD K H (.ucl c) v↔∃C,v=.ref C/\W.nsIn K 000 c=! ! .ref C:=.rfl
def j9:IsD K H (.adr a) v↔v=022:=.rfl
def qI:IsD K H (.dcf e ds) v↔∃a o c,v=022/\H a=!(.frz o<|.dK<|e.zip c)/\⇑e=⇑c/\IsDs K H ds c:=.rfl
def qH:IsD K H (.pin a d) v↔v=022/\IsD K H d v:=.rfl
def IsDs.nil_iff:IsDs K H [] c↔c=[]:=.rfl
theorem jj:IsDs K H (d::ds) c↔∃x r,c=x::r/\IsD K H d x/\IsDs K H ds r:=.rfl
mutual
theorem IsD.same(e:jk H q):∀(d:D) (v:V),IsD K H d v->IsD K q d v| .non,_,h=>h| .bl _,_,h=>h| .int _,_,h=>h| .str _,_,h=>h| .ty _,_,h=>h| .scr _,_,h=>by obtain⟨a,f,i⟩:=qG.mp h;exact qG.mpr ⟨a,f,jk.seq e i⟩| .tup _,_,h=>by obtain⟨a,n,f,i,j⟩:=js.mp h;exact js.mpr ⟨a,_,f,i.same e,IsDs.same e _ _ j⟩| .lst _,_,h=>by obtain⟨a,n,f,i,j⟩:=jq.mp h;exact jq.mpr ⟨a,_,f,i.same e,IsDs.same e _ _ j⟩| .dct _ _,_,h=>by obtain⟨a,n,f,i,l,j⟩:=jX.mp h;exact jX.mpr ⟨a,_,f,e _ _ i,l,IsDs.same e _ _ j⟩| .ins c _ _,_,h=>by obtain⟨a,C,s,n,f,r,i,l,j⟩:=jW.mp h;exact jW.mpr ⟨a,C,_,_,f,r,e _ _ i,l,IsDs.same e _ _ j⟩| .exc _,_,h=>by obtain⟨a,C,f,i,j⟩:=xk.mp h;exact xk.mpr ⟨a,C,f,i,e _ _ j⟩| .exr _ _,_,h=>by obtain⟨a,C,p,f,i,j,l⟩:=xj.mp h;exact xj.mpr ⟨a,C,p,f,i,e _ _ j,e _ _ l⟩| .ucl _,_,h=>h| .adr _,_,h=>h| .dcf _ _,_,h=>by obtain⟨a,o,n,f,i,l,j⟩:=qI.mp h;exact qI.mpr ⟨a,o,_,f,e _ _ i,l,IsDs.same e _ _ j⟩| .pin a d,v,h=>qH.mpr ⟨(qH.mp h).1,IsD.same e d v (qH.mp h).2⟩
theorem IsDs.same(e:jk H f):∀ds c,IsDs K H ds c->IsDs K f ds c| [],_,h=>h|d::ds,_,h=>have ⟨x,r,i,j,l⟩:=jj.mp h;jj.mpr ⟨x,r,i,IsD.same e d x j,IsDs.same e _ r l⟩
end
def IsDs.mk(h:IsD K H d x)(r:IsDs K H ds c):IsDs K H (d::ds) (x::c):=jj.mpr (x,_,9,h,r)
def IsDs.nil:IsDs K H [] []:=IsDs.nil_iff.mpr 9
theorem IsDs.length:∀{ds:YC}{c:YB},IsDs K H ds c->⇑c=⇑ds|[],c,h=>by simp_all[IsDs.nil_iff]|d::ds,c,h=>by let(x r,rfl,_,e):=h;rw[Zu,Zu,IsDs.length e]
theorem IsDs.get:∀{ds:YC}{c:YB}{i:5}{d:D},IsDs K H ds c->ds[i]?=!d->∃x,c[i]?=!x/\IsD K H d x|[],_,_,_,_,e=>J6 e|d::ds,c,i,e,h,q=>by let(x r,rfl,j,f):=h;cases(i)with|zero=>ext|succ i=>rw[IsDs.get (i:=i) f q]
def IsDs.getV{i:5} (h:IsDs K H ds c)(q:c[i]?=!x):∃d,ds[i]?=!d/\IsD K H d x:=by let f:=⇑h;let e:i<⇑ds:=();let(-y,j,l):=h.get (Zqg e);ext
theorem IsDs.append:∀{ds e:YC}{c f:YB},IsDs K H ds c->IsDs K H e f->IsDs K H (ds++e) (c++f)|[],_,c,_,h,i=>by simp_all[IsDs.nil_iff]|d::ds,_,c,_,h,i=>by let(x r,rfl,j,l):=h;rw[IsDs.mk j<|IsDs.append l i]
def IsDs.snoc(h:IsDs K H ds c)(e:IsD K H d x):IsDs K H (ds++[d]) (c++[x]):=h.append<|.mk e .nil
theorem qA:∀(c:Yf),IsDs K H (c.map D.int) (c.map V.int)|[]=>.nil|n::c=>.mk (jc.mpr 9) (qA _)
theorem qN:∀{c:Yf}{e:YB},IsDs K H (c.map D.int) e->e=c.map V.int|[],_,h=>IsDs.nil_iff.mp h|n::c,e,h=>by let(x r,rfl,f,i):=h;rw[f,qN i];rfl
end
structure Ext(F H F' H':Hp):4 where
ff:jk F F'
fh:jk F' H'
hh:jk H H'
new:∀a,F a=8->H a≠8->F' a=8
theorem Ext.refl(h:jk F H):Ext F H F H:=(038,h,038,λb e b=>e)
theorem Ext.trans(a:Ext F H c f)(b:Ext c f i j):Ext F H i j:=(a.ff.trans b.ff,b.fh,a.hh.trans b.hh,λx e n=>b.new x (a.new x e n)<|by induction q:H x with|none=>rw[Zn q n]|some o=>rw[a.hh _ _ q,];simp)
def Qe(h:jk F H)(a:H p=8):F p=8:=h.free a
def qB(h:jk F H)(c:H p=8)(o):Ext F H (upd F p o) (upd H p o):=(Kt (h.free c) o,λb u e=>by
cases q:b=p
.simp_all[JI]
.rw[JC q]at e ⊢;rw[h _ _ e],Kt c o,λa e n=>by
let q:a≠p:=018
rwa[JC q,])
def Ext.keep(h:jk F H)(c:H p=8)(o):Ext F H F (upd H p o):=(038,h.trans<|Kt c o,Kt c o,λb e b=>e)
def Ext.grow(h:jk F H)(c:jk H f):Ext F H F f:=(038,h.trans c,c,λb e b=>e)
set_option genInjectivity true in
inductive SV where|val(d:D)|own(p:Bool)(d:D)
structure Bs where
F0:Hp
H0:Hp
pa:5->02 (Addr×YB)
abbrev SD:=List<|02 SV
def yU(K:f')(F H:Hp)(l:Addr):D->4|.lst ds=>∃a,H l=! .lst a/\IsDs K F ds a|.dct b ds=>∃a,H l=!(.dK<|b.zip a)/\⇑b=⇑a/\IsDs K F ds a|.ins c fs ds=>∃C e a,W.nsIn K 000 c=! ! .ref C/\H l=!(.ins C e<|fs.zip a)/\⇑fs=⇑a/\IsDs K F ds a|_=>False
def yU.has{K:f'} (h:yU K F H l d):∃o,H l=!o:=by cases d with|lst ds=>let(f,e,_):=h;rw[(_,e)]|dct i ds=>let(f,e,_):=h;rw[(_,e)]|ins c fs ds=>let(C,j,f,_,e,_):=h;rw[(_,e)]|_=>rw[False.elim h]
def yU.ext{K:f'} (h:yU K F H l d)(f:jk F n)(i:∀o,H l=!o->p l=!o):yU K n p l d:=by cases d with|lst ds=>let(j,e,q):=h;rw[(_,i _ e,IsDs.same f _ _ q)]|dct r ds=>let(-j,e,z,q):=h;rw[(_,i _ e,z,IsDs.same f _ _ q)]|ins c fs ds=>let(C s j,k,e,z,q):=h;rw[je C _ _ (k,i _ e,z,IsDs.same f _ _ q)]|_=>rw[False.elim h]
def yU.frz{K:f'} (h:yU K F H l d)(e:H l=Option.some o)(n:F l=8):IsD K (upd F l o) d (.ref l):=by cases d with|lst ds=>let(i,f,q):=h;rw[e]at f;obtain rfl:=Zqi f;rw[jq.mpr (l,_,9,.of JI,IsDs.same (Kt n _) _ _ q)]|dct j ds=>let(-i,f,z,q):=h;rw[e]at f;obtain rfl:=Zqi f;rw[jX.mpr (l,_,9,JI,z,IsDs.same (Kt n _) _ _ q)]|ins c fs ds=>let(C p i,k,f,z,q):=h;rw[e]at f;obtain rfl:=Zqi f;rw[jW.mpr<|jS l C _ _ (9,k,JI,z,IsDs.same (Kt n _) _ _ q)]|_=>rw[False.elim h]
def mX(H:Hp)(l:Addr)(o:02 (Addr×YB)):4:=∃a,o=!%[l|a]/\H l=! .lst a
structure RS(K:f')(B:Bs)(F H:Hp)(sd:SD)(Z:St):4 where
ext:Ext B.F0 B.H0 F H
len:⇑Z=⇑sd
val:∀{i:5}{d:D},sd[i]?=!~~~d->∃v,Z[i]?=! !v/\IsD K F d v
own:∀{i:5}{p:Bool}{d:D},sd[i]?=! ! .own p d->∃l,Z[i]?=! ! .ref l/\B.H0 l=8/\F l=8/\yU K F H l d/\(p=6->mX H l (B.pa i))apart:∀{i j:5}{p q:Bool}{d e:D}{l:Addr},i≠j->sd[i]?=! ! .own p d->sd[j]?=! ! .own q e->Z[i]?=! ! .ref l->Z[j]? ≠ ! ! .ref l
section
variable {K:f'}
def mX.mono(h:mX H l o)(k:∀u,H l=!u->c l=!u):mX c l o:=qk h λi=>j4 λe f=>(_,e,k _ f)
def RS.step(r:023)(e:Ext F H j n):RS K B j n sd Z where
 ext:=r.ext.trans e
 len:=r.len
 val:=λh=>qk (r.val h) λv=>j4 λc f=>(v,c,IsD.same e.ff _ _ f)
 own:=λh=>by let(-l,c,f,s,i,x):=r.own h;let(o,y):=i.has;rw[(l,c,f,e.new l s (),i.ext e.ff λo q=>e.hh _ _ q,λp=>(x p).mono λu q=>e.hh _ _ q)]
 apart:=r.apart
def QM{α:Type}{l:List α} {a:α}(h:i≠j):(l.set i a)[j]?=l[j]?:=Zx h
def KI{α:Type}{l:List α} {a b:α}(h:(l.set i a)[i]?=!b):b=a/\i<⇑l:=()
def RS.setVal(r:023)(h:IsD K F d v):RS K B F H (sd.set i<|~~~d) (Z.set i<|!v)where
 ext:=r.ext
 len:=by rw[U7,U7,r.len]
 val:=λ{j e}q=>by
  cases z:i=j;.subst z;let(c,y):=KI q;cases c;rw[(v,U0<|by rwa[r.len,],h)]
  .rw[QM z]at q ⊢;rw[r.val q]
 own:=λ{j p e}q=>by
  cases z:i=j;.subst z;let(c,_):=KI q;cases c
  .rw[QM z]at q ⊢;rw[r.own q]
 apart:=λ{j k E G I J l}n f o s=>by
  let u:i≠j:=λz=>by subst z;let(c,_):=KI f;cases c
  let x:i≠k:=λz=>by subst z;let(c,_):=KI o;cases c
  rw[QM u]at f s;rw[QM x]at o ⊢;rw[r.apart n f o s]
def RS.setOwn(r:023)(E:B.H0 l=8)(G:F l=8)(h:yU K F H l d)(u:∀(j:5)p e,sd[j]?=! ! SV.own p e->Z[j]? ≠ ! ! .ref l):RS K B F H (sd.set i<|! .own 7 d) (Z.set i<|! .ref l)where
 ext:=r.ext
 len:=by rw[U7,U7,r.len]
 val:=λ{j e}q=>by
  cases z:i=j;.subst z;let(s,_):=KI q;cases s
  .rw[QM z]at q ⊢;rw[r.val q]
 own:=λ{j p e}q=>by
  cases z:i=j;.subst z;let(s,v):=KI q;cases s;rw[(l,U0<|by rwa[r.len,],E,G,h,λz=>by cases z)]
  .rw[QM z]at q ⊢;rw[r.own q]
 apart:=λ{j k I J L O m}n o c f=>by
  cases x:i=j;.subst x;let(_,v):=KI o;rw[QM n]at c ⊢;rw[U0 (by rwa[r.len,])]at f;cases f;rw[u k _ _ c]
  .rw[QM x]at o f;cases y:i=k;.subst y;let(_,v):=KI c;rw[U0 (by rwa[r.len,]),];intro e;cases e;rw[u j _ _ o f]
   .rw[QM y]at c ⊢;rw[r.apart n o c f]
def RS.chg(r:023)(c:sd[i]?=! ! .own p d)(f:Z[i]?=! ! .ref l)(h:yU K F (upd H l o) l s):RS K B F (upd H l o) (sd.set i<|! .own 7 s) Z:=by
 let(-l',v,E,G,_,_):=r.own c;rw[f]at v;cases v;let I:i<⇑sd:=018;rw[((r.ext.ff,BV o r.ext.fh G,BV o r.ext.hh E,r.ext.new),by rw[U7,r.len],λ{j e}q=>?_,λ{j p e}q=>?_,λ{j k x y d1 d2 m}n J L O=>?_)]
 .cases z:i=j;.ext
  .rw[QM z]at q;rw[r.val q]
 .cases z:i=j;.ext
  .rw[QM z]at q;let(-m,Q,m2,R,S,T):=r.own q;let ne:m≠l:=λe=>r.apart z c q f (by rwa[<-e]);rw[(m,Q,m2,R,S.ext 038 λu U=>by rwa[JC ne,],λp=>(T p).mono λu U=>by rwa[JC ne,])]
 .let g:∀{j:5}{p:Bool}{e:D},(sd.set i<|! .own 7 s)[j]?=! ! .own p e->∃X Y,sd[j]?=! ! .own X Y:=018;have(_,_,x):=g J;have(_,_,y):=g L;rw[r.apart n x y O]
def RS.frz1(r:023)(y:sd[i]?=! ! .own p d):∃E,jk F E/\RS K B E H (sd.set i<|~~~d) Z:=by
 let(-l,G,h0,I,J,_):=r.own y;let(o,e):=J.has;let L:i<⇑sd:=();let c:=Kt I o;rw[(_,c,(r.ext.ff.trans c,λb u q=>?_,r.ext.hh,λa f s=>?_),by rw[U7,r.len],λ{j x}q=>?_,λ{j p x}q=>?_,λ{j k p1 p2 d1 d2 m}n f s O=>?_)]
 .cases z:b=l;.simp_all[JI]
  .rw[JC z]at q;rw[r.ext.fh _ _ q]
 .let z:a≠l:=018;rw[JC z,];rw[r.ext.new a f s]
 .cases z:i=j;.subst z;let(Q,_):=KI q;cases Q;rw[(_,G,J.frz e I)]
  .rw[QM z]at q;let(-v,R,S):=r.val q;rw[(v,R,IsD.same c _ _ S)]
 .cases z:i=j;.ext
  .rw[QM z]at q;let(-m,T,m2,m3,U,X):=r.own q;let ne:m≠l:=λe=>r.apart z y q G (by rwa[<-e]);rw[(m,T,m2,by rwa[JC ne,],U.ext c λu Y=>Y,X)]
 .let z1:i≠j:=λz=>by ext
  let z2:i≠k:=λz=>by ext
  rw[QM z1]at f;rw[QM z2]at s;rw[r.apart n f s O]
noncomputable def qF:Yh->SD->SD|[],sd=>sd|i::a,sd=>qF a (match sd[i]? with|some (some<|.own _ d)=>sd.set i (~~~d)|_=>sd)
set_option tactic.hygienic true in
theorem RS.frz:∀c{F:Hp}{sd:SD},023->∃e,jk F e/\RS K B e H (qF c sd) Z
|[],F,sd,r=>(F,038,r)|i::c,F,sd,r=>by
 ext qF;split;.rename_i p d h;let(-o,f,j):=r.frz1 h;let(q,l,n):=RS.frz _ j;rw[(_,f.trans l,n)]
 .rw[RS.frz _ r]
end
def mU(K:f')(F H:Hp)(c:Str)(fs:YC)(b:Value)(a:02 Addr):4:=∃C,b=.ref C/\W.nsIn K 000 c=! ! .ref C/\(fs=[]\/∃p n,fs=[.int n]/\a=!p/\F p=! kj p n)
def XW(K:f')(E:XK)(F H:Hp)(c:Str)(fs:YC):4:=∀e a f b,Ext F H f b->mU K f b c fs e a->E e a b
def XW.ext{K:f'} (h:XW K E F H c fs)(e:Ext F H f i):XW K E f i c fs:=λl a n o j q=>h _ a _ _ (e.trans j) q
abbrev FE:=SD->Res D
abbrev FT:=SD->Res Bool
abbrev FA:=SD->Res YC
def yR(K:f')(F H:Hp)(Q:VK)(d:D):4:=∀v a b,Ext F H a b->IsD K a d v->Q v b
def kq(F H:Hp)(Q:Bool->Hp->4)(b:Bool):4:=∀c a,Ext F H c a->Q b a
def OkA(K:f')(F H:Hp)(Q:YB->Hp->4)(ds:YC):4:=∀a b c,Ext F H b c->IsDs K b ds a->Q a c
def yO(K:f')(F H:Hp)(Q:VK)(d:D):4:=∀l a b,Ext F H a b->H l=8->a l=8->yU K a b l d->Q (.ref l) b
def tD(K:f')(E:XK)(f:FE):TE:=λZ H Q=>∃B F sd,023/\(f sd).need (yR K F H Q) (XW K E F H)
def ny(K:f')(E:XK)(f:FT):TT:=λZ H Q=>∃B F sd,023/\(f sd).need (kq F H Q) (XW K E F H)
def dz(K:f')(E:XK)(f:FA):TA:=λZ H Q=>∃B F sd,023/\(f sd).need (OkA K F H Q) (XW K E F H)
def kE(K:f')(E:XK)(f:FE):TE:=λZ H Q=>∃B F sd,023/\(f sd).need (yO K F H Q) (XW K E F H)
abbrev QE(X:Cx)(E:XK)(e:Expr)(f:FE):4:=PE X e<|tD X.K E f
abbrev QT(X:Cx)(E:XK)(e:Expr)(f:FT):4:=PT X e<|ny X.K E f
abbrev QW(X:Cx)(E:XK)(e:Expr)(f:FT):4:=PW X e<|ny X.K E f
abbrev QA(X:Cx)(E:XK)(es:List Expr)(f:FA):4:=PA X es<|dz X.K E f
abbrev QN(X:Cx)(E:XK)(e:Expr)(f:FE):4:=PE X e<|kE X.K E f
def PE.weak(h:PE X e t)(w:∀Z H Q,c Z H Q->t Z H Q):PE X e c:=λY s Z H Q I q=>h _ s _ H Q I<|w _ _ _ q
def PT.weak(h:PT X e t)(w:∀Z H Q,c Z H Q->t Z H Q):PT X e c:=λY s Z H Q I q=>h _ s _ H Q I<|w _ _ _ q
def PW.weak(h:PW X e t)(w:∀Z H Q,f Z H Q->t Z H Q):PW X e f:=λc Y s Z H Q I q=>h _ _ s _ H Q I<|w _ _ _ q
def PA.weak(h:PA X e t)(w:∀Z H Q,c Z H Q->t Z H Q):PA X e c:=λf Y s Z H Q I q=>h _ _ s _ H Q I<|w _ _ _ q
def PS.weak(h:PS X e t)(w:∀D Z H,c D Z H->t D Z H):PS X e c:=λY s Z H D I q=>h _ s _ H D I<|w _ _ _ q
def qY.weak(h:qY X e t)(w:∀D Z H,c D Z H->t D Z H):qY X e c:=λY s Z H D I q=>h _ s _ H D I<|w _ _ _ q
def PI.weak(h:PI X c e t)(w:∀Z H R,f Z H R->t Z H R):PI X c e f:=λY s Z H R I q=>h _ s _ H R I<|w _ _ _ q
section
variable {K:f'}
def yR.ext(h:yR K F H Q d)(e:Ext F H c f):yR K c f Q d:=λv j l i q=>h v _ _ (e.trans i) q
def kq.ext(h:kq F H Q b)(e:Ext F H c f):kq c f Q b:=λj l i=>h _ _<|e.trans i
def yO.ext(h:yO K F H Q d)(e:Ext F H c f):yO K c f Q d:=λl j n i q=>h l _ _ (e.trans i)<|Qe e.hh q
def X6{r:Res D}(h:r.need (yR K F H Q) (XW K E F H))(e:Ext F H a b):r.need (yR K a b Q) (XW K E a b):=h.mono (λb q=>q.ext e) λb b q=>q.ext e
def Lz{r:Res Bool}(h:r.need (kq F H Q) (XW K E F H))(e:Ext F H a b):r.need (kq a b Q) (XW K E a b):=h.mono (λb q=>q.ext e) λb b q=>q.ext e
def EU{r:Res D}(h:r.need (yO K F H Q) (XW K E F H))(e:Ext F H a b):r.need (yO K a b Q) (XW K E a b):=h.mono (λb q=>q.ext e) λb b q=>q.ext e
theorem yR.new(h:yR K F H Q d):yO K F H Q d:=λl p r e n c o=>by
 let(u,f):=o.has;rw[h _ _ _ (e.ff.trans<|Kt c u,λb v q=>?_,e.hh,λa i j=>?_)<|o.frz f c]
 .cases z:b=l;.simp_all[JI]
  .rw[JC z]at q;rw[e.fh _ _ q]
 .let z:a≠l:=018;rw[JC z,];rw[e.new a i j]
end
section
def jm(h:QN X E e f):QE X E e f:=PE.weak h λZ H Q=>qx λB F sd=>j4 λr n=>je B F _ (r,n.mono (λb q=>q.new) 005)
noncomputable def ja(i:5):FE:=λsd=>match sd[i]? with|some (~~~d)=>.ok d|_=>.no
@[simp]def dC(d:D):FE:=λb=>.ok d
def AC(h:PE X e (tC v))(i:∀F,IsD X.K F d v):QE X E e (dC d):=PE.weak h λZ H Q=>qx λB F sd=>j4 λr n=>n v F H (.refl r.ext.fh)<|i F
def J9:QE X E (.Constant (.int i) j a) (dC<|.int i):=AC (λb b b H b I h=>wpAny_Constant_int (.int i,H,I.tok _,(_,9),h)) λb=>jc.mpr 9
def Ku:QE X E (.Constant (.bool b) j a) (dC<|.bl b):=AC (λd d d H d I h=>Constant_bool (.bl b,H,I,9,h)) λb=>jo.mpr 9
def WS:QE X E (.Constant .none j a) (dC .non):=AC (λb b b H b I h=>Constant_none (.non,H,I,9,h)) λb=>jB.mpr 9
def Qf:QE X E (.Constant 036 j a) (dC<|036):=AC Ep λb=>jf.mpr 9
noncomputable def Res.ofO{α:Type}:02 α->Res α|some a=>.ok a|none=>.no
@[simp]def ub(a:α):Res.ofO (!a)=.ok a:=rfl
@[simp]def uf:Res.ofO (8:02 α)=.no:=rfl
def jd(h:(Res.ofO o).need p q):∃a,o=!a/\p a:=by cases(o)with|none=>rw[h.elim]|some a=>rw[(a,9,h)]
@[simp]def ji(g:D->D->YD)(a b:FE):FE:=λsd=>(a sd).bind λx=>(b sd).bind λy=>.ofO<|g x y
@[simp]def jO(g:D->YD)(a:FE):FE:=λsd=>(a sd).bind λx=>.ofO<|g x
def wb(K:f')(g:D->D->YD):R2:=λv w H Q=>∃F d e z,jk F H/\IsD K F d v/\IsD K F e w/\g d e=!z/\yR K F H Q z
def sJ(K:f')(g:D->D->YD):R2:=λv w H Q=>∃F d e z,jk F H/\IsD K F d v/\IsD K F e w/\g d e=!z/\yO K F H Q z
def dB(K:f')(g:D->YD):V->Hp->VK->4:=λv H Q=>∃F d z,jk F H/\IsD K F d v/\g d=!z/\yR K F H Q z
def wa(K:f')(g:YC->YD):YB->Hp->VK->4:=λa H Q=>∃F ds z,jk F H/\IsDs K F ds a/\g ds=!z/\yR K F H Q z
def wZ(K:f')(g:YC->YD):YB->Hp->VK->4:=λa H Q=>∃F ds z,jk F H/\IsDs K F ds a/\g ds=!z/\yO K F H Q z
def AD{K:f'} (h:tD K E (ji g c e) Z H Q):uN (wb K g) (tD K E c) (tD K E e) Z H Q:=by let(B F sd,r,n):=h;rw[je B F _ (r,(Res.need_bind n).mono (λx f v o p a i=>je B _ _ (r.step a,(Res.need_bind f).mono (λy j w s t b l=>?_) λb b q=>q.ext a)) 005)];let(-z,m,q):=jd j;rw[jS _ x y z (b.fh,IsD.same b.ff _ _ i,l,m,q.ext<|a.trans b)]
abbrev yN(X:Cx)(f:Value->Value->Sem Value)(g:D->D->YD):4:=xu X f<|wb X.K g
abbrev mO(X:Cx)(f:Value->Value->Sem Value)(g:D->D->YD):4:=xu X f<|sJ X.K g
def xu.weak(h:xu X f r)(w:∀x y H Q,c x y H Q->r x y H Q):xu X f c:=λY s Z H x y v u Q I e i q=>h _ s _ H x y v u Q I e i<|w _ _ _ _ q
def ki.weak(h:ki X f r)(w:∀x H Q,c x H Q->r x H Q):ki X f c:=λY s Z H x v Q I e q=>h _ s _ H x v Q I e<|w _ _ _ q
def qc.weak(h:qc X f r)(w:∀x H Q,c x H Q->r x H Q):qc X f c:=λY s Z H x v Q I e q=>h _ s _ H x v Q I e<|w _ _ _ q
def zP.weak(h:zP X r)(w:∀x y H Q,i x y H Q->r x y H Q):zP X i:=λc f Y s Z H x y v u Q I j l q e=>h _ _ _ s _ H x y v u Q I j l (w _ _ _ _ q) e
variable {fa fb:FE}
def ju(c:yN X (binaryOp e) g)(f:QE X E a fa)(i:QE X E b fb):QE X E (.BinOp a e b j) (ji g fa fb):=PE.weak (HC c f i) λb b b h=>AD h
def L0(f:mO X (binaryOp i) g)(j:QE X E a fa)(l:QE X E b fb):QN X E (.BinOp a i b m) (ji g fa fb):=PE.weak (HC f j l) λ_ _ _ h=>by let(B F sd,r,n):=h;rw[je B F _ (r,(Res.need_bind n).mono (λx o v A C c p=>je B _ _ (r.step c,(Res.need_bind o).mono (λy s w G H e t=>?_) λb b q=>q.ext c)) 005)];let(-z,u,q):=jd s;rw[jS _ x y z (e.fh,IsD.same e.ff _ _ p,t,u,q.ext<|c.trans e)]
def zr(c:ki X (unaryOp e) (dB X.K g))(f:QE X E a fa):QE X E (.UnaryOp e a i) (jO g fa):=PE.weak (λY s Z H Q I h=>UnaryOp_<|jG (f _ s _ H _ I h) λv w=>j3 λx j=>j7 λl m o=>c _ _ _ _ x v Q l m o) λ_ _ _ h=>by let(B F sd,r,n):=h;rw[je B F _ (r,(Res.need_bind n).mono (λx p v y j b t=>?_) 005)];let(-z,u,q):=jd p;rw[je _ x z (b.fh,t,u,q.ext b)]
def YT(e:yN X (compareOp c) g)(f:QE X E a fa)(i:QE X E b fb)(j:behindInMarks c b=7):QE X E (.Compare a [c] [b] l) (ji g fa fb):=PE.weak (HH e f i j) λb b b h=>AD h
def JB(fa:FE):FT:=λsd=>(fa sd).bind λx=>match x with|.bl b=>.ok b|_=>.no
def W5{K:f'} (h:ny K E (JB fa) Z H Q):tD K E fa Z H λx b=>∃k,x=.bl k/\Q k b:=by let(B F sd,r,n):=h;rw[je B F _ (r,(Res.need_bind n).mono (λx a v f g c e=>?_) 005)];cases x with|bl k=>rw[(k,jo.mp e,a _ _ c)]|_=>rw[a.elim]
def Qn(e:yN X (compareOp c) g)(f:QE X E a fa)(i:QE X E b fb)(j:behindInMarks c b=7):QT X E (.Compare a [c] [b] l) (JB<|ji g fa fb):=PT.weak (BN e f i j) λZ H Q h=>have h:=W5 h;AD h
def Kd(c:QE X E a fa)(e:∀b,isTrue a X.env b=(do let v<-b;standAt a.pos;holding [v] (truthy v)):=by intro _;rfl):QT X E a (JB fa):=PT.weak (Hx c e) λZ H Q q=>W5 q
@[simp]def QP(f:FT):FT:=λsd=>(f sd).bind λb=>.ok<|not b
@[simp]def KJ(f g:FT):FT:=λsd=>(f sd).bind λb=>if b then g sd else .ok 7
@[simp]def z7(f g:FT):FT:=λsd=>(f sd).bind λb=>if b then .ok 6 else g sd
variable {f g:FT}
def K4(b:QT X E a f):QT X E (.UnaryOp .Not a c) (QP f):=PT.weak (Hy b) λZ H Q=>qx λB F sd=>j4 λr n=>je B F _ (r,(Res.need_bind n).mono (λb q=>q) 005)
def X7(b:QT X E a f):QW X E (.BoolOp .And [a] i) f:=by intro j Y s Z H Q I h;rw[isTrue_and<|jG (b _ s _ H Q I h) λc l e=>?_];grind[isTrue_and_nil]
def Co(b:QT X E a f):QW X E (.BoolOp .Or [a] i) f:=by intro j Y s Z H Q I h;rw[isTrue_or<|jG (b _ s _ H Q I h) λc l e=>?_];grind[isTrue_or_nil]
def WT(i:QT X E a f)(j:QW X E (.BoolOp .And (b::rest) c) g):QW X E (.BoolOp .And (a::b::rest) c) (KJ f g):=PW.weak (RB i j) λZ H Q l=>by let(B F sd,r,n):=l;rw[je B F _ (r,(Res.need_bind n).mono (λk h m o e=>?_) 005)];cases(k)with|true=>rw[je B _ _ (r.step e,Lz h e)]|false=>rw[h _ _ e]
def YU(i:QT X E a f)(j:QW X E (.BoolOp .Or (b::rest) c) g):QW X E (.BoolOp .Or (a::b::rest) c) (z7 f g):=PW.weak (gS i j) λZ H Q l=>by let(B F sd,r,n):=l;rw[je B F _ (r,(Res.need_bind n).mono (λk h m o e=>?_) 005)];cases(k)with|true=>rw[h _ _ e]|false=>rw[je B _ _ (r.step e,Lz h e)]
def xi(h:QW X E e f):QT X E e f:=h _
@[simp]def Cp(fa fb:FE):FE:=λsd=>(JB fa sd).bind λb=>if b then fb sd else .ok (.bl 7)
@[simp]def kc(fa fb:FE):FE:=λsd=>(JB fa sd).bind λb=>if b then .ok (.bl 6)else fb sd
def EV(h:QE X E a fa):QE X E (.BoolOp c [a] b) fa:=Hz h
def EW(i:QE X E a fa)(j:QE X E (.BoolOp .And (b::rest) c) fb):QE X E (.BoolOp .And (a::b::rest) c) (Cp fa fb):=PE.weak (HA i j) λZ H Q l=>by let(B F sd,r,n):=l;rw[W5<|je B F _ (r,(Res.need_bind n).mono (λk h m o e=>?_) 005)];cases(k)with|true=>rw[je B _ _ (r.step e,X6 h e)]|false=>rw[h _ _ _ e<|jo.mpr 9]
def sK(i:QE X E a fa)(j:QE X E (.BoolOp .Or (b::rest) c) fb):QE X E (.BoolOp .Or (a::b::rest) c) (kc fa fb):=PE.weak (gW i j) λZ H Q l=>by let(B F sd,r,n):=l;rw[W5<|je B F _ (r,(Res.need_bind n).mono (λk h m o e=>?_) 005)];cases(k)with|true=>rw[h _ _ _ e<|jo.mpr 9]|false=>rw[je B _ _ (r.step e,X6 h e)]
@[simp]def kI(c:FT)(fa fb:FE):FE:=λsd=>(c sd).bind λk=>if k then fa sd else fb sd
def Cq(i:QT X E c f)(j:QE X E a fa)(l:QE X E b fb):QE X E (.IfExp c a b m) (kI f fa fb):=PE.weak (RC i j l) λZ H Q o=>by let(B F sd,r,n):=o;rw[je B F _ (r,(Res.need_bind n).mono (λk h p s e=>?_) 005)];cases(k)with|true=>rw[(B,_,_,r.step e,X6 h e)]|false=>rw[je B _ _ (r.step e,X6 h e)]
@[simp]def jb:FA:=λb=>.ok []
@[simp]def J2(fa:FE)(a:FA):FA:=λsd=>(fa sd).bind λx=>(a sd).bind λb=>.ok<|x::b
def J5:QA X E [] jb:=PA.weak K3 λZ H Q=>qx λB F sd=>j4 λr n=>n _ F H (.refl r.ext.fh) .nil
def J3(h:QE X E e i)(j:QA X E a l)(m:01 (e::a) X.env=%[7|007]::01 a X.env:=by rfl):QA X E (e::a) (J2 i l):=PA.weak (Kz h j m) λZ H Q=>qx λB F sd=>j4 λr n=>je B F _ (r,(Res.need_bind n).mono (λx o v u w b p=>je B _ _ (r.step b,(Res.need_bind o).mono (λy s z A C c t=>s _ _ _ (b.trans c)<|.mk (IsD.same c.ff _ _ p) t) λd d q=>q.ext b)) 005)
@[simp]def qy(b:FA):FE:=λsd=>(b sd).bind λa=>if ⇑a<=1000 then .ok (.lst a)else .no
@[simp]def qg(b:FA):FE:=λsd=>(b sd).bind λa=>if ⇑a<=1000 then .ok (.tup a)else .no
def Km(h:QA X E i j):QN X E (.List i l) (qy j):=PE.weak (HR h) λZ H Q m=>by
 let(B F sd,r,n):=m;rw[je B F _ (r,(Res.need_bind n).mono (λo b s t u a e=>?_) 005)];split at b;.let v:=⇑e;rw[(Q8 (),λp c=>b p _ _ (a.trans<|.keep a.fh c _) (Qe a.hh c) (Qe a.fh c) (_,JI,e))]
 .rw[b.elim]
def Ka(h:QA X E i j):QE X E (.Tuple i t l) (qg j):=PE.weak (Sj h) λZ H Q m=>by
 let(B F sd,r,n):=m;rw[je B F _ (r,(Res.need_bind n).mono (λu a o v w b c=>?_) 005)];split at a;.let x:=⇑c;rw[(Q8 (),λp s=>?_)];let e:=qB b.fh s<|.tup o;rw[a _ _ _ (b.trans e)<|js.mpr (p,_,9,.of JI,IsDs.same e.ff _ _ c)]
 .rw[a.elim]
def q0(K:f')(a:YC->Res D):Sp:=λb H Q d=>∃F ds,jk F H/\IsDs K F ds b/\(a ds).need (yR K F H Q) (XW K E0 F H)
def yQ(K:f')(a:YC->Res D):Sp:=λb H Q d=>∃F ds,jk F H/\IsDs K F ds b/\(a ds).need (yO K F H Q) (XW K E0 F H)
@[simp]def J7(a:YC->Res D)(b:FA):FE:=λsd=>(b sd).bind a
def jC(c:wO X.prog X.w X.K X.mg X.base a k z (q0 X.K m))(o:Room k X.A)(s:Gl X a)(t:QA X E0 (e::b) u)(h:(a==011)=7:=by decide)(v:01 (e::b) X.env=%[7|007]::01 b X.env:=by rfl)(i:(backTo j<|01 b X.env).any (·.1)=7:=by rfl):QE X E0 (.Call (.Name a p) (e::b) [] j) (J7 m u):=PE.weak (A1 c o s t h v i) λZ H Q w=>by let(B F sd,r,n):=w;rw[je B F _ (r,(Res.need_bind n).mono (λA x C E G l y=>?_) 005)];show q0 _ _ _ _ Q _;rw[ZA,];rw[(_,_,l.fh,y,X6 x l)]
def KL(c:wO X.prog X.w X.K X.mg X.base a k z (yQ X.K m))(o:Room k X.A)(s:Gl X a)(t:QA X E0 (e::b) u)(h:(a==011)=7:=by decide)(v:01 (e::b) X.env=%[7|007]::01 b X.env:=by rfl)(i:(backTo j<|01 b X.env).any (·.1)=7:=by rfl):QN X E0 (.Call (.Name a p) (e::b) [] j) (J7 m u):=PE.weak (A1 c o s t h v i) λZ H Q w=>by let(B F sd,r,n):=w;rw[je B F _ (r,(Res.need_bind n).mono (λA x C E G l y=>?_) 005)];show yQ _ _ _ _ Q _;rw[ZA,];rw[(_,_,l.fh,y,EU x l)]
@[simp]def jp(g:YC->YD)(a:FA):FE:=λsd=>(a sd).bind λb=>.ofO<|g b
def JZ{id:String} {g:YC->YD} (j:qc X (.builtin id) (wa X.K g))(l:Gl X x)(m:X.mg x=8)(o:bootBuiltins x=! .builtin id)(s:QA X E (e::a) t)(u:x ≠"__name__":=by decide)(b:(x==011)=7:=by decide)(v:01 (e::a) X.env=%[7|007]::01 a X.env:=by rfl)(c:(backTo h<|01 a X.env).any (·.1)=7:=by rfl):QE X E (.Call (.Name x p) (e::a) [] h) (jp g t):=PE.weak (Av j l m o s u b v c) λZ H Q w=>by let(B F sd,r,n):=w;rw[je B F _ (r,(Res.need_bind n).mono (λG y I J L i A=>?_) 005)];let(-z,C,q):=jd y;rw[je _ _ z (i.fh,A,C,q.ext i)]
def aS{id:String} {g:YC->YD} (j:qc X (.builtin id) (wZ X.K g))(l:Gl X x)(m:X.mg x=8)(o:bootBuiltins x=! .builtin id)(s:QA X E (e::a) t)(u:x ≠"__name__":=by decide)(b:(x==011)=7:=by decide)(v:01 (e::a) X.env=%[7|007]::01 a X.env:=by rfl)(c:(backTo h<|01 a X.env).any (·.1)=7:=by rfl):QN X E (.Call (.Name x p) (e::a) [] h) (jp g t):=PE.weak (Av j l m o s u b v c) λZ H Q w=>by let(B F sd,r,n):=w;rw[je B F _ (r,(Res.need_bind n).mono (λG y I J L i A=>?_) 005)];let(-z,C,q):=jd y;rw[je _ _ z (i.fh,A,C,q.ext i)]
def Wi{g:YC->YD} (j:qc X (.type T) (wa X.K g))(l:Gl X x)(m:X.mg x=8)(o:bootBuiltins x=! .type T)(s:QA X E (e::a) t)(u:x ≠"__name__":=by decide)(b:(x==011)=7:=by decide)(v:01 (e::a) X.env=%[7|007]::01 a X.env:=by rfl)(c:(backTo h<|01 a X.env).any (·.1)=7:=by rfl):QE X E (.Call (.Name x p) (e::a) [] h) (jp g t):=PE.weak (YL j l m o s u b v c) λZ H Q w=>by let(B F sd,r,n):=w;rw[je B F _ (r,(Res.need_bind n).mono (λG y I J L i A=>?_) 005)];let(-z,C,q):=jd y;rw[je _ _ z (i.fh,A,C,q.ext i)]
def Wj{g:YC->YD} (j:qc X (.type T) (wZ X.K g))(l:Gl X x)(m:X.mg x=8)(o:bootBuiltins x=! .type T)(s:QA X E (e::a) t)(u:x ≠"__name__":=by decide)(b:(x==011)=7:=by decide)(v:01 (e::a) X.env=%[7|007]::01 a X.env:=by rfl)(c:(backTo h<|01 a X.env).any (·.1)=7:=by rfl):QN X E (.Call (.Name x p) (e::a) [] h) (jp g t):=PE.weak (YL j l m o s u b v c) λZ H Q w=>by let(B F sd,r,n):=w;rw[je B F _ (r,(Res.need_bind n).mono (λG y I J L i A=>?_) 005)];let(-z,C,q):=jd y;rw[je _ _ z (i.fh,A,C,q.ext i)]
noncomputable def W6:D->Bool|.tup _=>7|.lst _=>7|.dct _ _=>7|.ins _ _ _=>7|.exc _=>7|.exr _ _=>7|.dcf _ _=>7|.pin _ _=>7|.scr _=>7|_=>6
def IsD.scal{K:f'} (s:W6 d=6)(h:IsD K F d v):IsD K c d v:=by cases d with|tup _=>rw[JF s]|lst _=>rw[JF s]|dct _ _=>rw[JF s]|ins _ _ _=>rw[JF s]|exc _=>rw[JF s]|exr _ _=>rw[JF s]|dcf _ _=>rw[JF s]|pin _ _=>rw[JF s]|scr _=>rw[JF s]|_=>rw[h]
noncomputable def Res.bare{α:Type}(r:Res α):Res α:=match r with|.ok a=>.ok a|.ex c []=>.ex c []|_=>.no
def xt{K:f'} {r:Res α} (e:jk F H)(h:r.bare.need p (XW K E0 F H)):r.need p (XW K E0 n H):=by cases(r)with|ok a=>rw[h]|no=>rw[h]|ex c fs=>cases(fs)with|nil=>rw[λo a q s i=>yo λC=>j7 λj l b=>h _ _ F _ (.grow e i.hh) (C,j,l,006)]|cons d r=>rw[h.elim]
@[simp]def zl(a:Yh)(f:FE):FE:=λsd=>(f<|qF a sd).bare.bind λd=>if W6 d then .ok d else .no
def YV(b)(h:QE X E0 e i):QE X E0 e (zl b i):=PE.weak h λZ H Q j=>by
 let(B F sd,r,n):=j;let(s,t,l):=r.frz _;rw[je B _ _ (l,(xt r.ext.fh<|001).mono (λd a v u w m o=>?_) λc fs q=>q)];split at a;.rename_i p;rw[a v F _ (.grow r.ext.fh m.hh)<|o.scal p]
 .rw[a.elim]
end
set_option genInjectivity true in
inductive Out where|next(sd:SD)|ret(d:D)|brk(sd:SD)|cont(sd:SD)
def rz(K:f')(F H:Hp)(Q:VK)(d:D):4:=if W6 d=6 then yR K F H Q d else yO K F H Q d
def Cr(K:f')(m:02 Bool)(B:Bs)(Q:VK)(d:D):4:=match m with|some true=>yO K B.F0 B.H0 Q d|some false=>yR K B.F0 B.H0 Q d|none=>rz K B.F0 B.H0 Q d
def uz(K:f')(m:02 Bool)(B:Bs)(F:Hp)(T:Ends):Out->4|.next sd=>∀Z a b,jk F a->RS K B a b sd Z->T.nx Z b|.brk sd=>∀Z a b,jk F a->RS K B a b sd Z->T.bk Z b|.cont sd=>∀Z a b,jk F a->RS K B a b sd Z->T.ct Z b|.ret d=>Cr K m B T.rt d
abbrev FS:=SD->Res Out
def kC(K:f')(E:XK)(m:02 Bool)(g:FS):TS:=λT Z H=>∃B F sd,023/\(g sd).need (uz K m B F T) (XW K E B.F0 B.H0)
abbrev QS(X:Cx)(E:XK)(m:02 Bool)(st:Stmt)(g:FS):4:=PS X st<|kC X.K E m g
abbrev wK(X:Cx)(E:XK)(m:02 Bool)(st:List Stmt)(g:FS):4:=qY X st<|kC X.K E m g
section
variable {K:f'}
def uz.mono(h:uz K m B F T o)(e:jk F i):uz K m B i T o:=by cases o with|next sd=>rw[λZ c f s r=>h _ _ _ (e.trans s) r]|brk sd=>rw[λZ c f s r=>h _ _ _ (e.trans s) r]|cont sd=>rw[λZ c f s r=>h _ _ _ (e.trans s) r]|ret d=>rw[h]
end
section
variable {E:XK} {st:Stmt} {g g1 g2:FS}
@[simp]def JM:FS:=λsd=>.ok<|.next sd
def jg(g1 g2:FS):FS:=λsd=>(g1 sd).bind λo=>match o with|.next a=>g2 a|o=>.ok o
def Qa:wK X E m [] JM:=qY.weak An λT Z H=>qx λB F sd=>j4 λr n=>n _ F H 038 r
def J8(h:QS X E m st g):wK X E m [st] g:=BJ h
def JA(e:QS X E m st g1)(f:wK X E m c g2):wK X E m (st::c) (jg g1 g2):=qY.weak (YJ e f) λT Z H h=>by let(B F sd,r,n):=h;rw[je B F _ (r,(Res.need_bind n).mono (λo b=>?_) 005)];cases(o)with|next a=>rw[λj l p s i=>je B _ _ (i,b.mono (λo q=>q.mono s) 005)]|ret d=>rw[b]|brk a=>rw[b]|cont a=>rw[b]
def WU(a)(h:QS X E m st g):QS X E m st λsd=>g<|qF a sd:=PS.weak h λT Z H b=>by let(B F sd,r,n):=b;let(f,c,e):=r.frz _;rw[je B _ _ (e,n.mono (λb q=>q.mono c) 005)]
@[simp]def gE:FS:=λsd=>.ok<|.brk sd
def eU:QS X E m (.Break a) gE:=PS.weak (λb b Z H b I h=>wpAny_Break (_,H,I,h)) λT Z H=>qx λB F sd=>j4 λr n=>n _ F H 038 r
@[simp]def jv(i:5)(f:FE):FS:=λsd=>(f sd).bind λd=>.ok<|.next<|sd.set i<|~~~d
@[simp]def qr(i:5)(f:FE):FS:=λsd=>(f sd).bind λd=>.ok<|.next<|sd.set i<|! .own 7 d
def JU(f:X.N.Nodup)(h:X.N[i]?=!x)(j:yS X.env.scope x)(l:QE X E e o)(p:swapsWith e (! .Name x a) b.line X.env=pure 7:=by rfl)(s:X.fn x=6\/027:=by trivial):QS X E m (.Assign [.Name x a] e b) (jv i o):=PS.weak (Es f h j l p s) λT Z H=>qx λB F sd=>j4 λr n=>je B F _ (r,(Res.need_bind n).mono (λd t v w y c u=>t _ _ _ c.ff<|(r.step c).setVal u) λb b q=>q.ext r.ext)
def Kq(f:X.N.Nodup)(h:X.N[i]?=!x)(s:yS X.env.scope x)(t:QN X E e u)(v:swapsWith e (! .Name x a) b.line X.env=pure 7:=by rfl)(w:X.fn x=6\/027:=by trivial):QS X E m (.Assign [.Name x a] e b) (qr i u):=PS.weak (Es f h s t v w) λT Z H y=>by let(B F sd,r,n):=y;rw[je B F _ (r,(Res.need_bind n).mono (λd z l L M c A C G=>z _ _ _ c.ff<|(r.step c).setOwn (Qe r.ext.hh A) C G λj p N I O=>?_) λb b q=>q.ext r.ext)];let(-P,Q,_,_,J,_):=r.own I;let(o,R):=J.has;ext
@[simp]def jy(f:FE):FS:=λsd=>(f sd).bind λd=>.ok<|.ret d
def JO(a:QE X E e b):QS X E 7 (.Return (!e) c) (jy b):=PS.weak (Ao a) λT Z H=>qx λB F sd=>j4 λr n=>je B F _ (r,(Res.need_bind n).mono (λd f v j l h i=>f v _ _ (r.ext.trans h) i) λb b q=>q.ext r.ext)
def KZ(a:QN X E e b):QS X E 6 (.Return (!e) c) (jy b):=PS.weak (Ao a) λT Z H=>qx λB F sd=>j4 λr n=>je B F _ (r,(Res.need_bind n).mono (λd f l o p h i j m=>f l _ _ (r.ext.trans h) (Qe r.ext.hh i) j m) λb b q=>q.ext r.ext)
noncomputable def Kr(i:5):FS:=λsd=>match sd[i]? with|some (some<|.own _ d)=>.ok (.ret d)|_=>.no
set_option tactic.hygienic true in
def X8(a:PE X e (yX i)):QS X E 6 (.Return (!e) b) (Kr i):=PS.weak (Ao a) λT Z H c=>by
 let(B F sd,r,n):=c;unfold Kr at n;split at n;.rename_i d q;let(-l,f,h,j,m,_):=r.own q;rw[(_,f,n l F H r.ext h j m)]
 .rw[n.elim]
@[simp]def X9(f:FE):FS:=λsd=>(f sd).bind λb=>.ok<|.next sd
def YW(c:QE X E e f)(h:swapsWith e 8 a.line X.env=pure 7:=by rfl):QS X E m (.Expr e a) (X9 f):=PS.weak (YK c h) λT Z H=>qx λB F sd=>j4 λr n=>je B F _ (r,(Res.need_bind n).mono (λd i v j l b o=>i _ _ _ b.ff<|r.step b) λb b q=>q.ext r.ext)
@[simp]def qj(c:FT)(g1 g2:FS):FS:=λsd=>(c sd).bind λb=>if b then g1 sd else g2 sd
def Qb(h:QT X E c i)(j:wK X E m a g1)(l:wK X E m b g2):QS X E m (.If c a b o) (qj i g1 g2):=PS.weak (BK h j l) λT Z H p=>by let(B F sd,r,n):=p;rw[je B F _ (r,(Res.need_bind n).mono (λb f s t e=>?_) λb b q=>q.ext r.ext)];cases(b)with|true=>rw[(B,_,_,r.step e,f.mono (λb q=>q.mono e.ff) 005)]|false=>rw[je B _ _ (r.step e,f.mono (λb q=>q.mono e.ff) 005)]
def Ke(i:5)(f:FE):FS:=λsd=>match sd[i]? with|some (some<|.own false<|.lst ds)=>(f sd).bind λd=>if ⇑ds<00 then .ok (.next<|sd.set i<|!(.own 7<|.lst<|ds++[d]))else .no|_=>.no
set_option tactic.hygienic true in
def WV(G:PE X o (yX i))(I:QE X E e u)(J:∀{x:TE}{t:TA},PE X o x->PA X [e] t->PE X (.Call (.Attribute o "append" a) [e] [] b) (u2 X.K "list" BQ x t))(L:swapsWith (.Call (.Attribute o "append" a) [e] [] b) 8 j.line X.env=pure 7:=by rfl)(p:01 [e] X.env=%[7|007]::01 [] X.env:=by rfl):QS X E m (.Expr (.Call (.Attribute o "append" a) [e] [] b) j) (Ke i u):=PS.weak (YK (J G<|J3 I J5 p) L) λT Z H M=>by
 let(B F sd,r,n):=M;unfold Ke at n;split at n;.rename_i ds y;let(-l,z,Q,R,(S,A,C),_):=r.own y;rw[(_,z,.inl (9,_,qR.of A),B,F,_,r,?_)];ext J2 jb;let f:=001;induction q:u _ with|no=>rwa[q]at f|ex c fs=>rw[q]at f;rw[f.ext r.ext]|ok d=>
  rw[q]at f;intro U Y H1 h N;let(v w,rfl,O,P):=N;subst P;let s:=f;split at s;.let hl:=⇑C;rw[je l _ v (9,9,h.hh _ _ A,(),s _ _ _ h.ff<|(r.step h).chg y z (_,JI,(IsDs.same h.ff _ _ C).snoc O))]
  .rw[s.elim]
 .rw[n.elim]
def XA(i:5)(f:FE):FS:=λsd=>match sd[i]? with
|some (some<|.own false<|.lst ds)=>(f sd).bind λd=>match d with|.lst a=>if ⇑ds+⇑a<=00 then .ok (.next<|sd.set i<|!(.own 7<|.lst<|ds++a))else .no|_=>.no
|_=>.no
/-!-/
set_option tactic.hygienic true in
def L4(z:PE X o (yX i))(A:QN X E e C)(G:∀{s:TE}{t:TA},PE X o s->PA X [e] t->PE X (.Call (.Attribute o "extend" a) [e] [] c) (u2 X.K "list" Ie s t))(I:swapsWith (.Call (.Attribute o "extend" a) [e] [] c) 8 h.line X.env=pure 7:=by rfl)(j:01 [e] X.env=%[7|007]::01 [] X.env:=by rfl):QS X E m (.Expr (.Call (.Attribute o "extend" a) [e] [] c) h) (XA i C):=PS.weak (YK (G z<|Kz A K3 j) I) λT Z H J=>by
 let(B F sd,r,n):=J;unfold XA at n;split at n;.rename_i ds u;let(-l,v,O,P,(Q,w,x),_):=r.own u;rw[(_,v,.inl (9,_,qR.of w),B,F,_,r,(Res.need_bind n).mono (λd y b R S f U Y L=>?_) λ_ _ q=>q.ext r.ext)];cases d with
|lst M=>
let(-ys,g1,g2):=L;let p:(if ⇑ds+⇑M<=00 then Res.ok (Out.next<|sd.set i<|!_)else .no).need _ _:=y
split at p
.let hl:=⇑x;let N:=⇑g2;rw[jS l b _ _ (9,9,f.hh _ _ w,g1,(),p _ _ _ f.ff<|(r.step f).chg u v (_,JI,(IsDs.same f.ff _ _ x).append g2))]
.rw[p.elim]|_=>rw[y.elim]
 .rw[n.elim]
inductive Tg where|one(i:Nat)|tup(is:Yh)
noncomputable def setAll:Yh->YC->SD->SD|i::is,d::ds,sd=>setAll is ds (sd.set i<|~~~d)|_,_,sd=>sd
def JX:Tg->D->SD->Res SD|.one i,d,sd=>.ok (sd.set i<|~~~d)|.tup a,.tup ds,sd=>if ⇑ds=⇑a then .ok (setAll a ds sd)else .no|_,_,_=>.no
noncomputable def Cs:Yh->YB->St->St|i::a,v::b,Z=>Cs a b (Z.set i<|!v)|_,_,Z=>Z
theorem RS.setAll{K:f'}{B:Bs}{F H:Hp}:∀{is:Yh}{ds:YC}{c:YB}{sd:SD}{Z:St},023->IsDs K F ds c->RS K B F H (setAll is ds sd) (Cs is c Z)|[],ds,c,sd,Z,r,_=>r|i::is,[],c,sd,Z,r,h=>by subst h;rw[r]|i::is,d::ds,c,sd,Z,r,h=>by let(v w,rfl,e,f):=h;rw[RS.setAll (is:=is) (r.setVal e) f]
def RS.forget{K:f'} (r:023)(e:⇑c=⇑sd)(h:∀(i:5)x,c[i]?=! !x->sd[i]?=! !x):RS K B F H c Z:=(r.ext,by rw[r.len,e],λq=>r.val<|h _ _ q,λq=>r.own<|h _ _ q,λn f j l=>r.apart n (h _ _ f) (h _ _ j) l)
def gT:Tg->f'->TG|.one i,_=>Wh i|.tup c,K=>λv Z H Q=>∃a b,v=022/\yu K H a b/\⇑b=⇑c/\Q (Cs c b Z) H
def AE{K:f'} (r:023)(j:IsD K F d v)(n:(JX e d sd).need p q)(h:∀b l,p b->JX e d sd=.ok b->RS K B F H b l->Q l H):gT e K v Z H Q:=by cases(e)with|one i=>rw[h _ _ n 9<|r.setVal j]|tup m=>cases d with
|tup ds=>
let(a t,rfl,s,o):=j;let c:JX (.tup _) (.tup _) sd=if ⇑ds=⇑m then .ok _ else .no:=9
cases f:⇑ds=⇑m
.rw[Zd f]at c;rw[c]at n;rw[(a,_,9,(s.same r.ext.fh).sq,by rw[⇑o,f],h _ _ n c<|r.setAll o)]
.rw[Ze f]at c;rw[c]at n;rw[n.elim]|_=>rw[n.elim]
abbrev QG(X:Cx)(e:Expr)(tg:Tg):4:=PG X e<|gT tg X.K
def vX(K:f')(f:Hp)(J:It)(ds:YC):4:=∀(i:5)(b a:Hp),jk f b->jk b a->(i<⇑ds->J.go i a/\∀x c,J.yld i a x c->∃d e,ds[i]?=!d/\Ext b a e c/\IsD K e d x)/\(⇑ds<=i->J.stop i a)
def n7(K:f')(E:XK)(f:FA):TI:=λZ H R=>∃B F sd,023/\(f sd).need (λds=>∀J a b,Ext F H a b->vX K a J ds->R J b) (XW K E F H)
abbrev QI(X:Cx)(E:XK)(tg iter:Expr)(f:FA):4:=PI X tg iter<|n7 X.K E f
def zg(b:D->FS):YC->FS|[],sd=>.ok (.next sd)|x::c,sd=>(b x sd).bind λo=>match o with|.next a=>zg b c a|.cont a=>zg b c a|.brk a=>.ok (.next a)|.ret d=>.ok (.ret d)
def jP(a:FA)(c:Tg)(b:FS):FS:=λsd=>(a sd).bind λds=>zg (λx sd=>(JX c x sd).bind b) ds sd
def Qo(Q:PassesOwn 015 X.A X.env X.xe)(R:X.calm=6)(G:QI X E I a S)(U:QG X I t)(Y:wK X E m f g)(v:∀x,foldedSetIterable a X.env x=pure x:=by intro _;rfl):QS X E m (.For I a f [] pos) (jP S t g):=PS.weak (Et Q R G U Y v) λT Z H zh=>by
 let(B F sd,r,n):=zh;rw[je B F _ (r,(Res.need_bind n).mono (λds n1 J F1 H1 L wk=>(λi k Z H=>k=⇑ds-i/\i<=⇑ds/\∃s sd,jk _ s/\RS _ B s H sd Z/\(zg _ (ds.drop i) sd).need (uz _ m B s T) (XW _ E _ _),(_,9,Ub _,_,_,038,r.step L,n1.mono (λb q=>q.mono L.ff) 005),?_)) λb b q=>q.ext r.ext)];rintro i k Z2 H2 ⟨rfl,G,s,sd2,w,z,h⟩;let(!w1,w2):=wk i _ _ w z.ext.fh;cases b:i<⇑ds
 .let(go,yl):=w1 b;rw[.inr (go,λM H'=>∃A j,jk _ A/\RS _ B _ _ j _/\(zg (λx sd=>(JX t x _).bind g) (ds.drop _) _).need (uz _ m B _ T) (XW _ E _ _),λM H'=>j3 λA j=>j7 λq1 q2 q3=>(_,(),9,b,_,_,q1,q2,q3),λx H3 y=>?_)];let(d A,hd,e,i3):=yl x _ y;rw[Uq b]at h;let C:ds[i]=d:=by ext
  rw[C]at h;rw[AE (z.step e) i3 (Res.need_bind<|Res.need_bind h) λsd' M n4 _ r4=>je B _ _ (r4,n4.mono (λo u=>?_) 005)];cases(o)with|next l=>rw[λN O P c p=>(_,_,(w.trans e.ff).trans c,p,u.mono (λb q=>q.mono<|e.ff.trans c) 005)]|cont l=>rw[λN O P c p=>(_,_,(w.trans e.ff).trans c,p,u.mono (λb q=>q.mono<|e.ff.trans c) 005)]|brk l=>rw[λN O P c p=>u _ _ _ (e.ff.trans c) p]|ret d=>rw[u]
 .let he:i=⇑ds:=();rw[.inl (w2 (),?_)];subst he;rw[Vi]at h;rw[h _ _ _ 038 z]
def yF{α β:Type}(f:α->Res β):List α->Res (List β)|[]=>.ok []|x::a=>(f x).bind λy=>(yF f a).bind λb=>.ok<|y::b
def q9(cap:List (02 5))(sd:SD):SD:=cap.map λo=>o.bind λj=>match sd[j]? with|some (~~~d)=>~~~d|_=>8
noncomputable def W7(sd:SD)(i:5):Bool:=match sd[i]? with|some none=>6|_=>7
def Wl(sd:SD):Tg->Bool|.one i=>W7 sd i|.tup a=>a.all (W7 sd)
def Qc(cap:List (02 5))(b:FA)(a:Tg)(f:FE):FE:=λsd=>(b sd).bind λds=>if Wl (q9 cap sd) a=6/\⇑ds<00 then(yF (λx=>(JX a x<|q9 cap sd).bind f) ds).bind λc=>.ok<|.lst c else .no
theorem RS.cap{K:f'} (cap)(r:023):RS K B F H (q9 cap sd) (KY cap Z):=by
 let c:∀{i:5}{x:SV},(q9 _ _)[i]?=! !x->∃j d,cap[i]?=! !j/\sd[j]?=!~~~d/\x=.val d:=λ{i x}q=>by unfold q9 at q;rw[Zv]at q;induction hc:cap[i]? with|none=>rw[hc]at q;rw[J6 q]|some o=>rw[hc]at q;cases(o)with|none=>cases q|some j=>
  let q:(match sd[j]? with|some (~~~d)=>!_|_=>8)=!x:=Zqi q;split at q;.rw[()]
  .rw[J6 q]
 rw[(r.ext,by ext q9 KY;rw[Zql,Zql],λ{i d}q=>?_,λ{i p d}q=>?_,λ{i j p z d e l}_ q=>?_)];.let(j,_,n,s,f):=c q;cases f;let(-v,u,y):=r.val s;rw[(v,?_,y)];ext KY;rw[Zv,n];show some (Option.bind _ _)=_;rw[Option.bind_some,u];rfl
 .let(j,_,n,s,f):=c q;cases f
 grind
theorem EX:∀b ds a sd,b.all (W7 a)=6->⇑sd=⇑a->(∀(i:5)x,a[i]?=! !x->sd[i]?=! !x)->⇑(setAll b ds sd)=⇑a/\∀(i:5)x,a[i]?=! !x->(setAll b ds sd)[i]?=! !x
|[],ds,a,sd,_,hl,h=>(hl,h)|i::b,[],a,sd,_,hl,h=>(hl,h)|i::b,d::ds,a,sd,hn,hl,h=>by
 rw[Us,Uc]at hn;rw[EX _ _ _ (sd.set i _) hn.2 (by rw[U7,hl]) λj x q=>?_];let ne:i≠j:=λz=>by subst z;let:=hn.1;unfold W7 at this;rw[q]at this;rw[JF this]
 rw[QM ne,];rw[h j x q]
def L5(c:Wl a b=6)(h:JX b d a=.ok sd):⇑a=⇑sd/\∀(i:5)x,a[i]?=! !x->sd[i]?=! !x:=by cases(b)with|one i=>cases h;let:=EX _ [d] _ _ (by rwa[Us,List.all_nil,Bool.and_true]) 9 005;rw[(this.1.symm,this.2)]|tup e=>cases d with
|tup ds=>
let f:JX (.tup _) (.tup _) a=if ⇑ds=⇑e then .ok _ else .no:=9
rw[f]at h
split at h
.cases h;let:=EX _ ds _ _ c 9 005;rw[(this.1.symm,this.2)]
.cases h|_=>cases h
def io{a:List α} {p:List β->4} (m:a[i]?=!x)(h:(yF f<|a.drop i).need p q):(f x).need (λy=>(yF f<|a.drop<|i+1).need (λc=>p<|y::c) q) q:=by
 let b:i<⇑a:=();rw[Uq b]at h;let e:a[i]=x:=by ext
 rw[e]at h;rw[(Res.need_bind h).mono (λy j=>(Res.need_bind j).mono (λc l=>l) λb b z=>z) λb b z=>z]
def L6{K:f'} {j:SD->SD}(L:∀{B F H sd Z},023->RS K B F H (j sd) (KY cap Z))(p:kE K E (λsd=>(fi sd).bind λds=>if Wl (j sd) t=6/\⇑ds<00 then(yF (λx=>(JX t x<|j sd).bind f) ds).bind λl=>.ok<|.lst l else .no) Z H Q):YN cap (n7 K E fi) (gT t K) (tD K E f) Z H Q:=by
 let(B F sd,r,n):=p;rw[je B F _ (r,(Res.need_bind n).mono (λds s J F1 H1 m wk=>?_) 005)];split at s
 .rename_i p;let(M,hz):=p;rw[(λi k l Z c=>k=⇑ds-i/\i<=⇑ds/\∃a o,Ext _ _ a c/\RS K B a c _ Z/\IsDs K a o l/\⇑o=i/\(yF (λx=>(JX t x<|j sd).bind f)<|ds.drop i).need (λu=>yO K a c Q<|.lst<|o++u) (XW K E a c),(_,9,Ub _,_,_,.refl m.fh,L<|r.step m,.nil,9,?_),?_)];.rw[(Res.need_bind s).mono (λu q=>(q).ext m) λ_ _ q=>q.ext m]
  rintro i k l Z2 c ⟨rfl,hi,a,o,w,z,A,hl,C⟩;let ly:=⇑A;rw[((),?_)];let(!N,O):=wk i _ _ w.ff w.fh;cases e:i<⇑ds;.let(!go,P):=N e;rw[.inr (go,λx H3 y=>?_)];let(d F3,R,b,S):=P x _ y;let T:=io R C;let U:=z.step b;rw[AE U S (Res.need_bind T) λX Z' Y hb I=>?_];let(b1,b2):=L5 M hb;rw[je B _ _ (I,Y.mono (λy n5 v F4 H4 h i4=>(_,(),9,e,_,_,(w.trans b).trans h,(I.step h).forget b1 b2,(IsDs.same (b.ff.trans h.ff) _ _ A).snoc i4,(),n5.mono (λu q=>?_) λ_ _ q=>q.ext<|b.trans h)) λ_ _ q=>q.ext b)];rw[Uf,];rw[q.ext<|b.trans h]
  .let he:i=⇑ds:=();subst he;rw[.inl (O<|Zf _,λD G=>?_)];rw[Vi]at C;let q:yO K _ _ Q _:=C;rw[ZA]at q;rw[q D _ _ (.keep z.ext.fh G _) G (Qe z.ext.fh G) (_,JI,A)]
 .rw[s.elim]
def Ct{K:f'} :kE K E (Qc cap a t f) Z H Q->YN cap (n7 K E a) (gT t K) (tD K E f) Z H Q:=L6<|RS.cap cap
def Q5(N)(cap)(m:X.calm=6)(c:Kk a X.env N X.N cap=6)(n:QI X E l b o)(p:∀e C s H i,QG (JP X a N e C s H i) l t)(q:∀e C s H i,QE (JP X a N e C s H i) E j f)(r:∀x,foldedSetIterable b X.env x=pure x:=by intro _;rfl):QN X E (.ListComp j [(l,b,[],0)] a u) (Qc cap o t f):=PE.weak (Ta N _ m c n p q r) λb b b h=>Ct h
noncomputable def Qr(n:5)(ds:YC):SD:=ds.map (λd=>~~~d)++List.replicate (n-⇑ds) 8
def jD(n ar:5)(g:FS)(ds:YC):Res D:=if ⇑ds=ar then(g<|Qr n ds).bind λo=>match o with|.ret d=>.ok d|.next _=>.ok .non|_=>.no else .no
def qd(n ar:5)(g:FS)(ds:YC):Res D:=if ⇑ds=ar then(g<|Qr n ds).bind λo=>match o with|.ret d=>.ok d|_=>.no else .no
theorem RS.start{K:f'}{F H:Hp}{N:Yi}{ds:YC}{n:YB}(s:jk F H)(h:IsDs K F ds n):RS K (F,H,λb=>8) F H (Qr ⇑N ds) (start N n):=by
 let c:∀{i:5}{x:SV},(Qr ⇑N _)[i]?=!_->∃d,ds[i]?=!d/\x=.val d:=λ{i x}q=>by
  unfold Qr at q;cases o:i<⇑ds;.rw[UV (by rwa[Zql,]),Zv,Zqg o]at q;rw[(_,Zqg o,(Zqi<|Zqi q).symm)]
  .rw[UI (by rw[Zql,];lia),List.getElem?_replicate]at q;split at q<;>(first|rw[J6 q]|cases q)
 rw[(.refl s,by ext Qr L2.start;simp[⇑h],λ{i d}q=>?_,λ{i p d}q=>?_,λ{i j p z d e l}_ q=>?_)];.let(B,u,f):=c q;cases f;let(-v,r,y):=h.get u;rw[(v,?_,y)];ext L2.start;rw[UV (by rw[Zql,];rw[(Jd.mp r).1]),Zv,r];rfl
 .let(-_,_,f):=c q;cases f
 .let(-_,_,f):=c q;cases f
section
variable {K:f'}
def jV(F:Fun K x b st f l)(S:FnScope N j (Qd st))(m:∀c A a s H E,Room k (A.deeper<|envOfC b (Qd st) s⁻¹ f c)->wK (qm yz P w K p e N b (Qd st) f c A a s H E).nox E0 7 (Kj st) g):FnOk P w K p e yz (k+1) f l j (q0 K<|jD ⇑N ⇑j g):=by
 rw[F.ok S (λt H Q E=>j3 λF ds=>j7 λ_ h n=>?_) λc A a s H t Q E u=>j3 λF ds=>j7 λv h n=>(_,m _ A _ s H E u,?_)]
 .unfold jD at n;split at n;.rw[⇑h,];lia
  .rw[n.elim]
 .unfold jD at n;split at n;.rw[je _ F _ (RS.start v h,(Res.need_bind n).mono (λo i=>?_) 005)];cases(o)with|next sd=>rw[λZ y z b r=>i _ _ _ r.ext<|jB.mpr 9]|ret d=>rw[i]|brk sd=>rw[i.elim]|cont sd=>rw[i.elim]
  .rw[n.elim]
def x8(F:Fun K x b st f l)(S:FnScope N j (Qd st))(m:∀c A a s H E,Room k (A.deeper<|envOfC b (Qd st) s⁻¹ f c)->wK (qm yz P w K p e N b (Qd st) f c A a s H E).nox E0 6 (Kj st) g):FnOk P w K p e yz (k+1) f l j (yQ K<|qd ⇑N ⇑j g):=by
 rw[F.ok S (λr H Q E=>j3 λF ds=>j7 λ_ h n=>?_) λc A a s H r Q E t=>j3 λF ds=>j7 λu h n=>(_,m _ A _ s H E t,?_)]
 .unfold qd at n;split at n;.rw[⇑h,];lia
  .rw[n.elim]
 .unfold qd at n;split at n;.rw[je _ F _ (RS.start u h,(Res.need_bind n).mono (λo i=>?_) 005)];cases(o)with|next sd=>rw[i.elim]|ret d=>rw[i]|brk sd=>rw[i.elim]|cont sd=>rw[i.elim]
  .rw[n.elim]
end
end
noncomputable def xB(p:3×3):D:=.tup [.int p.1,.int p.2]
def jA(r:J0):D:=.tup<|r.map xB
noncomputable def EY:D->02 (3×3)|.tup [.int i,.int j]=>!%[i|j]|_=>8
def Q6{α:Type}(f:D->02 α):YC->02 (List α)|[]=>![]|d::ds=>(f d).bind λx=>(Q6 f ds).map λa=>x::a
def W8:D->02 J0|.tup ds=>Q6 EY ds|_=>8
def AF:D->02 3|.int i=>!i|_=>8
theorem YX{α β:Type}{f:D->02 α}{g:β->D}{k:β->α}(h:∀x,f (g x)=! k x):∀l:List β,Q6 f (l.map g)=! l.map k|[]=>9|x::r=>by rw[Zl,];ext Q6;rw[h,YX h];rfl
theorem AG{g:α->D}(h:∀d x,f d=!x->d=g x):∀{ds:YC}{l:List α},Q6 f ds=!l->ds=l.map g|[],l,e=>by cases e;rfl|d::ds,l,e=>by unfold Q6 at e;induction a:f d with|none=>ext|some x=>induction h2:Q6 f ds with|none=>ext|some b=>rw[a,h2]at e;obtain rfl:=Zqi e;rw[Zl,<-h d x a,<-AG h h2]
def iM(p):EY (xB p)=!p:=rfl
def o4(h:EY d=!p):d=xB p:=by cases d with
|tup ds=>cases ds with|nil=>rw[J6 h]|cons x ds=>cases x with
 |int i=>cases ds with|nil=>rw[J6 h]|cons y ds=>cases y with
  |int j=>cases ds with|nil=>obtain rfl:=Zqi h;rfl|cons _ _=>rw[J6 h]
  |_=>rw[J6 h]
 |_=>rw[J6 h]
|_=>rw[J6 h]
def L8(r):W8 (jA r)=!r:=by show Q6 _ _=!r;rw[YX (k:=id) iM,List.map_id]
def L9(h:W8 d=!r):d=jA r:=by cases d with|tup ds=>ext jA;rw[<-AG (λb b=>o4) h]|_=>rw[J6 h]
def ow(h:AF d=!i):d=.int i:=by cases d with|int j=>cases h;rfl|_=>rw[J6 h]
def oP(h:Q6 AF ds=!l):ds=l.map D.int:=AG (λb b=>ow) h
def znG(l):Q6 AF (l.map D.int)=!l:=by rw[YX (f:=AF) (λb=>9) l,List.map_id']
theorem Cu(l):Q6 W8 (l.map jA)=!l:=by rw[YX (k:=id) L8,List.map_id]
def EZ(h:Q6 W8 ds=!l):ds=l.map jA:=AG (λb b=>L9) h
section
variable {K:f'}
def di:IsD K H (xB p) v↔Is H (pD p) v:=by rfl
theorem kQ:∀{r:J0}{a:YB},IsDs K H (r.map xB) a↔qD H (r.map pD) a
|[],a=>by rfl|p::r,a=>by
 constructor;.rintro⟨x,w,rfl,b,c⟩;rw[(x,w,9,di.mp b,kQ.mp c)]
 .intro h;let(x w,e,b,c):=h;rw[(x,w,e,di.mpr b,kQ.mpr c)]
def rA:IsD K H (jA r) v↔Is H (rD r) v:=by
 constructor;.rintro⟨a,f,e,b,c⟩;rw[(a,_,e,b,kQ.mp c)]
 .rintro⟨a,f,e,b,c⟩;rw[(a,_,e,b,kQ.mpr c)]
theorem vr:∀{r:J1}{a:YB},IsDs K H (r.map jA) a↔qD H (r.map rD) a
|[],a=>by rfl|p::r,a=>by
 constructor;.rintro⟨x,w,rfl,b,c⟩;rw[(x,w,9,rA.mp b,vr.mp c)]
 .intro h;let(x w,e,b,c):=h;rw[(x,w,e,rA.mpr b,vr.mpr c)]
end
section
variable {X:Cx}
noncomputable def gI(f:3->3->D):D->D->YD|.int i,.int j=>! f i j|_,_=>8
noncomputable def bf(c:3->3->Bool)(f:3->3->D):D->D->YD|.int i,.int j=>if c i j then ! f i j else 8|_,_=>8
def AH(o:xu X h (sI g))(b:∀i j F,IsD X.K F (f i j) (g i j)):yN X h (gI f):=xu.weak o λx y H Q c=>by let(F d e z,l,id,m,a,q):=c;cases d with
|int i=>cases e with|int j=>cases a;rw[(i,j,jc.mp id,jc.mp m,q _ F H (.refl l)<|b i j F)]|_=>rw[J6 a]
|_=>rw[J6 a]
def Cv(o:xu X h (rI C g))(l:∀i j,c i j=6->C i j)(m:∀i j F,IsD X.K F (f i j) (g i j)):yN X h (bf c f):=xu.weak o λx y H Q n=>by let(F d e z,p,id,r,a,q):=n;cases d with
|int i=>cases e with
 |int j=>
let a:(if c i j then !_ else 8)=!z:=a
split at a
.rename_i b;cases a;rw[(i,j,jc.mp id,jc.mp r,l i j b,q _ F H (.refl p)<|m i j F)]
ext|_=>rw[J6 a]
|_=>rw[J6 a]
def zd(i)(F):IsD X.K F (.int i) (.int i):=jc.mpr 9
def zH(b)(F):IsD X.K F (.bl b) (.bl b):=jo.mpr 9
def zJ:=gI λi j=>.int<|i-j
def vV:5:=10715086071862673209484250490600018105614048117055336074437503883703510511249361224931983788156958581275946729175531468251871452856923140435984577574698574803934567774824230985421074605062371141877954182153046474983581941267398767559165543946077062914571196477686542167660429831652624386837205668069376
def Uk(i j:3):Bool:=UK i.natAbs 18446744073709551616||UK j.natAbs 18446744073709551616||UK i.natAbs vV&&UK j.natAbs vV
def LA(h:k.natAbs<vV):Builtin.Int.intBits k<=2^20:=by
 let e:vV<=2^1000:=Nat.le_of_ble_eq_true 9;let a:k.natAbs<2^1000:=();ext Builtin.Int.intBits;split;.rw[Ub _]
 .let l:k.natAbs.log2<1000:=by
   obtain h0|hp:=Vr k.natAbs;.ext
   .rw[(Nat.log2_lt<|UP hp).mpr a]
  lia
def yd:=bf Uk λi j=>.int<|i*j
def QQ:=bf (λb j=>UK 0 j.toNat&&UK j.toNat 1073741824) λi j=>.int<|i/j
def qa:=bf (λb j=>UK 0 j.toNat) λi j=>.int<|i%j
def ze:=bf (λi j=>Nat.ble (-j).toNat 0&&(Nat.ble j.toNat 1000000&&UK i.natAbs 18446744073709551616)) λi j=>.int<|i^j.toNat
def uX:=gI λi j=>.bl<|decide<|i<j
def zf:=gI λi j=>.bl<|decide<|i<=j
def u5:=gI λi j=>.bl<|decide<|j<i
def bg:=gI λi j=>.bl<|decide<|j<=i
def Cw:yN X (binaryOp .Sub) zJ:=AH (fu λb b b b b b b q=>sub_int q) λb b F=>zd _ F
def YY:yN X (binaryOp .Mult) yd:=Cv (nB λb b b b b b b hc q=>mul_int q<|by
unfold Uk at hc;rw[U4,U4,Uc,UL,UL,UL,UL]at hc;rcases hc with(hc|hc)|⟨a,h2⟩
.rw[.of_left<|intBits_le_64 () ()]
.rw[.of_right<|intBits_le_64 () ()]
.rw[.of_bits (LA a)<|LA h2]) (λi j h=>h) λb b F=>zd _ F
def KM:yN X (binaryOp .FloorDiv) QQ:=Cv RO λi j h=>by simp_all[mW] λb b F=>zd _ F
def QR:yN X (binaryOp .Mod) qa:=Cv RP () λb b F=>zd _ F
def Fa:yN X (binaryOp .Pow) ze:=Cv RQ λi j h=>by simp_all[mV] λb b F=>zd _ F
def uT:yN X (compareOp .Lt) uX:=AH (vK λb b b b b b b q=>lt_int q) λb b F=>zH _ F
def xN:yN X (compareOp .LtE) zf:=AH (vK λb b b b b b b q=>le_int q) λb b F=>zH _ F
def we:yN X (compareOp .Gt) u5:=AH (vK λb b b b b b b q=>gt_int q) λb b F=>zH _ F
def sT:yN X (compareOp .GtE) bg:=AH (vK λb b b b b b b q=>ge_int q) λb b F=>zH _ F
def xP:D->YD|.int i=>!(.int<|-i)|_=>8
def WW:ki X (unaryOp .USub) (dB X.K xP):=ki.weak (unI λb b b b b q=>neg_int q) λx H Q b=>by let(F d z,c,id,a,q):=b;cases d with|int i=>cases a;rw[(i,jc.mp id,q _ F H (.refl c)<|zd _ F)]|_=>rw[J6 a]
noncomputable def j5:D->D->YD|.int i,.int j=>!(.int<|i+j)|.str x,.str y=>if ⇑x+⇑y<=00 then !(.str<|x++y)else 8|.tup a,.tup b=>if a ≠[]/\b ≠[]/\⇑a+⇑b<=00 then !(.tup<|a++b)else 8|.lst a,.lst b=>if ⇑a+⇑b<=00 then !(.lst<|a++b)else 8|_,_=>8
def gM(K:f'):R2:=λx y H Q=>∃l b a c,x=.ref l/\y=.ref b/\xA K H l a/\xA K H b c/\⇑a+⇑c<=00/\∀p,H p=8->Q (.ref p) (upd H p<|.lst<|a++c)
def LB:xu X (binaryOp .Add) (gM X.K):=by
 intro Y s Z H x y v u Q I g i h;let(l b z A,rfl,rfl,j,m,B,q):=h;obtain rfl:=g;obtain rfl:=i;let(_,c,n,e,o):=j.ok I.hok;let(_,a,C,f,p):=m.ok I.hok;let r:=⇑e;let t:=⇑f;rw[PySem.P.add_list o p ?_ ()];let w:c.toArray++a.toArray=(c++a).toArray:=by simp
 rw[w,];rw[(.ref _,_,I.lnew (e.append f) (),9,q _ I.fresh)]
def Qg:yN X (binaryOp .Add) j5:=by intro Y s Z H x y v u Q I m n w;let(F d e z,f,id,o,c,q):=w;cases d with
|int i=>cases e with|int j=>cases c;rw[(fu λ_ _ _ _ _ _ _ q=>add_int q) Y s _ H x y v u Q I m n (i,j,jc.mp id,jc.mp o,q _ F H (.refl f)<|zd _ F)]|_=>rw[J6 c]
|str a=>cases e with
 |str b=>
let c:(if ⇑a+⇑b<=00 then ! D.str _ else 8)=!z:=c
split at c
.rename_i E;cases c;rw[RW _ s _ H x y v u Q I m n (a,b,jf.mp id,jf.mp o,E,q _ F H (.refl f)<|jf.mpr 9)]
ext|_=>rw[J6 c]
|tup a=>cases e with
 |tup b=>
let c:(if a ≠[]/\b ≠[]/\⇑a+⇑b<=00 then !_ else 8)=!z:=c
split at c
.obtain rfl:=Zqi c;let(G,r,rfl,A,g):=id;let(J t,rfl,B,h):=o;let L:=⇑g;let M:=⇑h;let N:r ≠[]:=018;let O:t ≠[]:=018;rw[Su _ s _ H _ _ v u Q I m n<|jS _ _ _ _ (9,9,(A.same f).sq,(B.same f).sq,N,(),λz=>Zn z O,λ_ p C=>?_)];let l:=qB f C<|.tup<|r++t;rw[q _ _ _ l<|js.mpr (p,_,9,.of JI,IsDs.same l.ff _ _<|g.append h)]
ext|_=>rw[J6 c]
|lst a=>cases e with
 |lst b=>
let c:(if ⇑a+⇑b<=00 then !_ else 8)=!z:=c
split at c
.obtain rfl:=Zqi c;let(G,r,rfl,A,g):=id;let(J t,rfl,B,h):=o;let L:=⇑g;let M:=⇑h;rw[LB _ s _ H _ _ v u Q I m n<|jS _ _ _ _ (9,9,A.same f,B.same f,(),λp C=>?_)];let l:=qB f C<|.lst<|r++t;rw[q _ _ _ l<|jq.mpr (p,_,9,.of JI,IsDs.same l.ff _ _<|g.append h)]
ext|_=>rw[J6 c]
|_=>rw[J6 c]
mutual
def zX:D->PyData| .non=>.none| .bl b=>.bool b| .int i=>.int i| .str x=>.str x| .tup ds=>.tuple (WX ds)| .lst ds=>.list (WX ds)| .ty _=>.none| .scr _=>.none| .dct _ _=>.none| .ins _ _ _=>.none| .exc _=>.none| .exr _ _=>.none| .ucl _=>.none| .adr _=>.none| .dcf _ _=>.none| .pin _ _=>.none
def WX:YC->List PyData| []=>[]|d::ds=>zX d::WX ds
end
noncomputable def plN:5->D->Bool|0,_=>7|_+1,.int _=>6|_+1,.str x=>PyData.strOk x|_+1,.non=>6|n+1,.tup ds=>ds.all (plN n)|n+1,.lst ds=>ds.all (plN n)|_+1,_=>7
def YZ:∀n d,plN n d=6->(zX d).canLay0=6/\(zX d).depth<=n:=λn=>by cases(n)with|zero=>intro _ h;rw[JF h]|succ n a=>
intro d h;let all:∀ds:YC,ds.all (plN n)=6->PyData.canLayAll0 (WX ds)=6/\PyData.depthAll (WX ds)<=n:=by intro ds;cases(ds)with|nil=>intro _;rw[(9,Ub _)]|cons d ds b=>intro h;rw[Us,Uc]at h;let(c,e):=a d h.1;let(f,g):=b h.2;rw[(Jq.mpr (c,f),Nat.max_le.mpr (e,g))]
cases d with|int i=>rw[(9,Ub _)]|str i=>rw[(h,Ub _)]|non=>rw[(9,Ub _)]|tup ds=>rw[((all _ h).1,VC (all _ h).2)]|lst ds=>rw[((all _ h).1,VC (all _ h).2)]|_=>rw[JF h]
def D.ne{d e:D}(h:(d.ctorIdx==e.ctorIdx)=7):¬d=e:=λq=>by ext
def Fb:∀n d e,plN n d=6->plN n e=6->(PyData.eqv (zX d) (zX e)=6↔d=e):=λn=>by cases(n)with|zero=>intro _ _ h;rw[JF h]|succ n c=>
intro d e h b;let all:∀ds a:YC,ds.all (plN n)=6->a.all (plN n)=6->(PyData.eqvAll (WX ds) (WX a)=6↔ds=a):=by intro ds;cases(ds)with
|nil=>intro a _ _;cases a with|nil=>rw[iff_of_true 9 9]|cons e a=>rw[Zs Zj ()]
|cons d ds f=>intro a g l;cases(a)with|nil=>rw[Zs Zj ()]|cons e a=>show(PyData.eqv _ _&&PyData.eqvAll _ _)=6↔_;ext
cases d with
|int i=>cases e with|int j=>rw[(λq=>Zt _<|Yp.mp q,λq=>Yp.mpr<|D.int.inj q)]|str _=>rw[Zs Zj<|D.ne 9]|non=>rw[Zs Zj<|D.ne 9]|tup _=>rw[Zs Zj<|D.ne 9]|lst _=>rw[Zs Zj<|D.ne 9]|_=>rw[JF b]
|str i=>cases e with|str j=>rw[(λq=>Zt _<|of_decide_eq_true q,λq=>Zp<|D.str.inj q)]|int _=>rw[Zs Zj<|D.ne 9]|non=>rw[Zs Zj<|D.ne 9]|tup _=>rw[Zs Zj<|D.ne 9]|lst _=>rw[Zs Zj<|D.ne 9]|_=>rw[JF b]
|non=>cases e with|non=>rw[iff_of_true 9 9]|int _=>rw[Zs Zj<|D.ne 9]|str _=>rw[Zs Zj<|D.ne 9]|tup _=>rw[Zs Zj<|D.ne 9]|lst _=>rw[Zs Zj<|D.ne 9]|_=>rw[JF b]
|tup ds=>cases e with|tup a=>rw[(all _ _ h b).trans ()]|int _=>rw[Zs Zj<|D.ne 9]|str _=>rw[Zs Zj<|D.ne 9]|non=>rw[Zs Zj<|D.ne 9]|lst _=>rw[Zs Zj<|D.ne 9]|_=>rw[JF b]
|lst ds=>cases e with|lst a=>rw[(all _ _ h b).trans ()]|int _=>rw[Zs Zj<|D.ne 9]|str _=>rw[Zs Zj<|D.ne 9]|non=>rw[Zs Zj<|D.ne 9]|tup _=>rw[Zs Zj<|D.ne 9]|_=>rw[JF b]
|_=>rw[JF h]
theorem XB{K:f'} (ok:xc P w H h):∀n d v u,plN n d=6->IsD K H d v->jz v u->∃f,Reads h u (zX d) f
|0,_,_,_,p,_,_=>JF p|n+1,d,v,u,p,q,r=>by
 let all:∀ds g l,ds.all (plN n)=6->IsDs K H ds g->j6 g l->∃f,ReadsAll h l (WX ds) f:=by intro ds;cases(ds)with|nil=>intro g l _ m b;subst m;cases b;rw[(_,.nil)]|cons d ds B=>intro g l s m b;rw[Us,Uc]at s;let(x L,rfl,j,C):=m;cases b with|cons E F=>let(f,y):=XB ok n d x _ s.1 j E;let(bs,G):=B _ _ s.2 C F;rw[(_,.cons y G)]
 cases d with|int i=>subst q;let(t,rfl):=r;rw[(_,.int i t)]|str x=>subst q;let(t,rfl):=r;rw[(_,.str x t)]|non=>subst q;obtain rfl:=r;rw[(_,.none)]|tup ds=>let(a g,rfl,b,j):=q;obtain rfl:=r;let(_,z,A,o,e,c,I,J):=ok a _ b;let(f,y):=all _ _ _ p j A;rw[(_,.tuple e c J ())]|lst ds=>let(a g,rfl,b,j):=q;obtain rfl:=r;let(_,z,I,A,e):=b.ok ok;let(f,y):=all _ _ _ p j A;rw[(_,.list e 9 9 ())]|_=>rw[JF p]
section
open Classical
def sameD(d e:D):Bool:=decide<|d=e
def Wm(d):sameD d d=6:=Zp 9
theorem nh:sameD d e=6↔d=e:=decide_eq_true_iff
def v3:sameD d e=7↔d≠e:=decide_eq_false_iff_not
def x6:D->D->YD|.bl a,.bl b=>!(.bl<|a==b)|d,e=>if plN 12 d&&plN 12 e then !(.bl<|sameD d e)else 8
def xV:D->D->YD|.bl a,.bl b=>!(.bl<|a !=b)|d,e=>if plN 12 d&&plN 12 e then !(.bl<|not<|sameD d e)else 8
end
def Cy(a:plN 12 d=6)(b:plN 12 e=6):x6 d e=!(.bl<|sameD d e):=by
 ext x6;split;.rw[JF a]
 ext
def AI(a:plN 12 d=6)(b:plN 12 e=6):xV d e=!(.bl<|not<|sameD d e):=by
 ext xV;split;.rw[JF a]
 ext
def lV(i j):x6 (.int i) (.int j)=!(.bl<|decide<|i=j):=by
 rw[Cy 9 9,];cases h:i=j;.simp_all[Wm]
 .rw[Zo h,v3.mpr ()]
def lL(i j):xV (.int i) (.int j)=!(.bl<|not<|decide<|i=j):=by
 rw[AI 9 9,];cases h:i=j;.simp_all[Wm]
 .rw[Zo h,v3.mpr ()]
set_option tactic.hygienic true in
def xp(r:X.A.units+64<cLine):yN X (compareOp .Eq) x6:=by
 intro Y s Z H x y v u Q I j l h;let(F d e z,g,id,i,f,q):=h;unfold x6 at f;split at f
 .rename_i a b;obtain rfl:=Zqi f;rw[ft _ s _ H x y v u Q I j l (?_,?_)];.rw[jo.mp id,jo.mp i];rfl
  .rw[jo.mp id,jo.mp i];rw[q _ F H (.refl g) ?_];cases(a)<;>cases(b)<;>rfl
 .split at f;.rename_i c;rw[Uc]at c;obtain rfl:=Zqi f;let(t,m):=XB I.hok _ d x v c.1 (IsD.same g _ _ id) j;let(bs,n):=XB I.hok _ e y u c.2 (IsD.same g _ _ i) l;have(o,w):=YZ _ d c.1;have(p,A):=YZ _ e c.2;rw[PySem.SeqAt.compareEq_reads m n o p () ?_];rw[Vb.mpr<|(Fb _ d e c.1 c.2).trans nh.symm,];rw[(.bl _,H,I,9,q _ F H (.refl g)<|zH _ F)]
  ext
set_option tactic.hygienic true in
def zE(r:X.A.units+64<cLine):yN X (compareOp .NotEq) xV:=by
 intro Y s Z H x y v u Q I j l h;let(F,d,e,z,g,id,i,f,q):=h;unfold xV at f;split at f
 .rename_i a b;obtain rfl:=Zqi f;rw[fq _ s _ H x y v u Q I j l (?_,?_)];.rw[jo.mp id,jo.mp i];rfl
  .rw[jo.mp id,jo.mp i];rw[q _ F H (.refl g) ?_];cases(a)<;>cases(b)<;>rfl
 .split at f;.rename_i c;rw[Uc]at c;obtain rfl:=Zqi f;let(t,m):=XB I.hok _ d x v c.1 (IsD.same g _ _ id) j;let(bs,n):=XB I.hok _ e y u c.2 (IsD.same g _ _ i) l;have(o,w):=YZ _ d c.1;have(p,A):=YZ _ e c.2;rw[PySem.SeqAt.compareNe_reads m n o p () ?_];rw[Vb.mpr<|(Fb _ d e c.1 c.2).trans nh.symm,];rw[(.bl _,H,I,9,q _ F H (.refl g)<|zH _ F)]
  ext
end
def PE.or(h:PE X e t)(c:PE X e f):PE X e λZ H Q=>t Z H Q\/f Z H Q:=λY s Z H Q I q=>q.elim (h _ s _ H Q I)<|c _ s _ H Q I
def PT.or(h:PT X e t)(c:PT X e f):PT X e λZ H Q=>t Z H Q\/f Z H Q:=λY s Z H Q I q=>q.elim (h _ s _ H Q I)<|c _ s _ H Q I
noncomputable def Qw:D->02 jI|.int i=>! .inl i|.str x=>! .inr x|_=>8
def Wn{K:f'} (h:Qw d=!k)(i:IsD K H d v):v=kV k:=by cases d with|int j=>cases h;rw[jc.mp i]|str x=>cases h;rw[jf.mp i]|_=>rw[J6 h]
noncomputable def jH:List jI->YC->jI->YD|k::a,d::ds,q=>if k=q then !d else jH a ds q|_,_,_=>8
theorem iG(k q:jI)(v)(r):qq (%[k|v]::r) q=if k=q then !v else qq r q:=by grind[qq,List.find?_cons]
theorem Fc:jH (k::a) (d::ds) q=if k=q then !d else jH a ds q:=rfl
theorem WY{K:f'} (q):∀{a:List jI}{ds:YC}{b:YB},⇑a=⇑b->IsDs K H ds b->(∀d,jH a ds q=!d->∃x,qq (a.zip b) q=!x/\IsD K H d x)/\(jH a ds q=8->qq (a.zip b) q=8)|[],ds,b,hl,h=>by rw[(λd e=>?_,λb=>9)];cases(ds)<;>rw[J6 e]|k::a,[],b,hl,h=>by simp_all[IsDs.nil_iff]|k::a,d::ds,b,hl,h=>by let(x r,rfl,f,c):=h;let g:=WY q (UU hl) c;grind[List.zip_cons_cons,iG,Fc]
noncomputable def wv:List jI->YC->jI->D->YC|k::a,d::ds,q,v=>(if k=q then v else d)::wv a ds q v|_,_,_,_=>[]
noncomputable def wu:List jI->YB->jI->V->YB|k::a,d::ds,q,v=>(if k=q then v else d)::wu a ds q v|_,_,_,_=>[]
def LC:wv (k::a) (d::ds) q v=(if k=q then v else d)::wv a ds q v:=rfl
def i9:wu (k::a) (d::ds) q v=(if k=q then v else d)::wu a ds q v:=rfl
theorem LD{K:f'} (f:IsD K H d v):∀{a:List jI}{ds:YC}{b:YB},⇑a=⇑b->IsDs K H ds b->IsDs K H (wv a ds q d) (wu a b q v)/\⇑(wu a b q v)=⇑a/\(a.zip b).map (λe=>if e.1=q then%[e.1|v]else e)=a.zip (wu a b q v)
|[],ds,b,hl,h=>by rw[(?_,9,9)];rfl|k::a,[],b,hl,h=>by simp_all[IsDs.nil_iff]|k::a,l::ds,b,hl,h=>by
 let(x r,rfl,m,g):=h;let(i,j,n):=LD f (UU hl) g;rw[LC,i9];rw[(IsDs.mk ?_ i,by rw[Zu,j];rfl,?_)]
 .cases c:k=q;.rwa[Zd c,Zd c]
  .rwa[Ze c,Ze c]
 grind[List.zip_cons_cons,List.map_cons]
noncomputable def yH(q:jI)(a:List jI):Bool:=a.any λk=>decide<|k=q
theorem LF(q):∀{a:List jI}{b:YB},⇑a=⇑b->(a.zip b).any λc=>decide<|c.1=q=yH q a|[],b,_=>9|k::a,[],h=>by cases h|k::a,x::b,h=>by rw[Vy,List.any_cons,LF q (UU h)];rfl
def KN(a:List jI)(q:jI):List jI:=if yH q a=6 then a else a++[q]
def Um(a:List jI)(ds:YC)(q:jI)(v:D):YC:=if yH q a=6 then wv a ds q v else ds++[v]
def Fd{K:f'} (c:⇑b=⇑f)(h:IsDs K H ds f)(g:IsD K H d v):∃e,qJ (b.zip f) q v=(KN b q).zip e/\⇑(KN b q)=⇑e/\IsDs K H (Um b ds q d) e:=by
 ext qJ KN Um;rw[LF q c,];cases a:yH q b=6;.rw[Zd a,Zd a,Zd a];let(i,j,l):=LD g c h;rw[(_,l,j.symm,i)]
 .rw[Ze a,Ze a,Ze a];rw[(_,by rw[List.zip_append c,];rfl,by simp[c],h.snoc g)]
def Cz{K:f'} (h:IsDs K H ds a)(e:qO ds k=!d):∃x,qO a k=!x/\IsD K H d x:=by unfold qO at e ⊢;rw[⇑h,];induction hj:wH _ k with|none=>ext|some j=>rw[hj]at e;rw[h.get e]
def jY:D->D->YD|.lst ds,.int k=>qO ds k|.tup ds,.int k=>qO ds k|.scr b,.int k=>(qO b k).map .int|.str x,.int k=>if ⇑x<=00 then(qO x.cps.toList k).map λc=>.str ⟨#[c]⟩ else 8|.dct a ds,k=>(Qw k).bind λq=>jH a ds q|.dcf a ds,k=>(Qw k).bind λq=>jH a ds q|_,_=>8
def LG{K:f'} (i:d=.dct c ds\/d=.dcf c ds)(h:IsD K H d v):∃a b,v=022/\Rd H a (.dK<|c.zip b)/\⇑c=⇑b/\IsDs K H ds b:=by
 obtain rfl|rfl:=i;.let(a b,e,f,g):=jX.mp h;rw[(a,_,e,.inl f,g)]
 .let(a o b,e,f,g):=qI.mp h;rw[(a,_,e,.inr (o,f),g)]
def Fe(e:jk H b)(h:Rd H a u):Rd b a u:=h.imp (λq=>e _ _ q)<|yo λo q=>(o,e _ _ q)
def Ff(e:Rd H a (.dK b)):xl H a (kV k) (qq b k):=.inl (_,k,e,9,9)
def LH:zP X (wb X.K λd e=>match d with|.dct _ _=>8|.dcf _ _=>8|d=>jY d e):=zP.weak Sw λx y H Q=>uR λF d e z=>uS λb id g a q=>by cases d with
|lst ds=>cases e with|int k=>let(p,n,rfl,f,l):=id;let(x,h,m):=Cz l a;rw[.inl<|jS p _ k x (9,jc.mp g,(f.same b).sq,h,q _ F H (.refl b) m)]|_=>rw[J6 a]
|tup ds=>cases e with|int k=>let(p,n,rfl,f,l):=id;let(x,h,m):=Cz l a;rw[.inr<|.inl<|jS p _ k x (9,jc.mp g,(f.same b).sq,h,q _ F H (.refl b) m)]|_=>rw[J6 a]
|scr o=>cases e with
 |int k=>let(p,rfl,f):=id;let(-j,r,a):=Jh.mp a;subst a;rw[.inl<|jS p _ k _ (9,jc.mp g,jk.seq b f,?_,q _ F H (.refl b)<|zd _ F)];unfold qO at r ⊢;induction h:wH ⇑o k with|none=>ext|some i=>ext
 |_=>rw[J6 a]
|str t=>cases e with
 |int k=>
let a:(if ⇑t<=00 then(qO _ k).map _ else 8)=!z:=a
split at a
.rename_i s;induction hc:qO _ k with|none=>rw[hc]at a;rw[J6 a]|some c=>rw[hc]at a;obtain rfl:=Zqi a;rw[.inr<|.inr<|je t k c (jf.mp id,jc.mp g,s,hc,q _ F H (.refl b)<|jf.mpr 9)]
ext|_=>rw[J6 a]
|_=>rw[J6 a]
def Qh(A:X.A.units+1<cLine)(s:QE X E a i)(t:QE X E b C)(G:Aw b)(j:vh b):QE X E (.Subscript a b I) (ji jY i C):=PE.weak (PE.or (E4 A s t j)<|BP LH s t G) λZ H Q h=>by
 let(B F sd,r,n):=h;cases l:∃d f ds,i sd=.ok d/\(d=.dct f ds\/d=.dcf f ds);.let(d f ds,l,u):=l;rw[.inl<|je B F _ (r,(Res.need_bind n).monoE (λx e J v U Y g L=>?_) 005)];rw[l]at e;cases e;rw[je B _ _ (r.step g,(Res.need_bind J).mono (λy M w F2 H2 m N=>?_) λb b q=>q.ext g)];let(-z,o,q):=jd M;let(-k,O,o):=Je.mp (show(Qw y).bind (λq=>jH f ds q)=!z by obtain rfl|rfl:=u<;>rw[o]);let(p xs,rfl,P,R,S):=LG u L;let(-x,e,T):=(WY k R S).1 z o;rw[(p,x,9,?_,q x _ _ (g.trans m)<|IsD.same m.ff _ _ T)];rw[Wn O N,<-e];rw[Ff<|Fe m.hh<|Fe g.fh P]
 .rw[.inr<|AD<|je B F _ (r,?_)];unfold ji at n ⊢;induction e:i _ with|ok d=>ext|no=>ext|ex c fs=>ext
def xQ(a:Bool):D->D->YD|k,.dct b ds=>(Qw k).map λq=>.bl<|if a then not<|(jH b ds q).isSome else(jH b ds q).isSome|k,.dcf b ds=>(Qw k).map λq=>.bl<|if a then not<|(jH b ds q).isSome else(jH b ds q).isSome|d,.lst ds=>if plN 12 d&&ds.all (plN 12)then !(.bl<|if a then not<|ds.any<|λe=>sameD e d else ds.any λe=>sameD e d)else 8|d,.tup ds=>if plN 12 d&&ds.all (plN 12)then !(.bl<|if a then not<|ds.any<|λe=>sameD e d else ds.any λe=>sameD e d)else 8|_,_=>8
theorem LJ{K:f'} :∀n d e v,plN n d=6->plN n e=6->IsD K H d v->IsD K H e v->d=e
|0,_,_,_,h,_,_,_=>by rw[JF h]|n+1,d,e,v,hd,he,f,b=>by
 let all:∀ds c l,ds.all (plN n)=6->c.all (plN n)=6->IsDs K H ds l->IsDs K H c l->ds=c:=by intro ds;cases(ds)with
|nil=>
intro c l _ _ f b;rw[IsDs.nil_iff]at f;subst f;let:=⇑b
grind|cons d ds A=>intro c l u w f b;rw[Us,Uc]at u;rw[jj]at f;let(x r,rfl,B,C):=f;cases(c)with|nil=>rw[IsDs.nil_iff]at b;cases b|cons e c=>rw[Us,Uc]at w;rw[jj]at b;let(I J,q,E,F):=b;cases q;rw[LJ n d e x u.1 w.1 B E,A c r u.2 w.2 C F]
 let ne:∀{a:Addr}{l z:YB},yK K H a l->xA K H a z->False:=λ{a l z}m g=>by
  obtain g|⟨o,g⟩:=g;.rw[m]at g;cases g
  .rw[m]at g;cases g
 cases d with
|int i=>rw[jc]at f;subst f;cases e with|int j=>rw[jc]at b;cases b;rfl|str j=>rw[jf]at b;cases b|non=>rw[jB]at b;cases b|tup c=>grind[js]|lst c=>grind[jq]|_=>rw[JF he]
|str i=>rw[jf]at f;subst f;cases e with|int j=>rw[jc]at b;cases b|str j=>rw[jf]at b;cases b;rfl|non=>rw[jB]at b;cases b|tup c=>simp_all[js]|lst c=>simp_all[jq]|_=>rw[JF he]
|non=>rw[jB]at f;subst f;cases e with|int j=>rw[jc]at b;cases b|str j=>rw[jf]at b;cases b|non=>rfl|tup c=>grind[js]|lst c=>grind[jq]|_=>rw[JF he]
|tup ds=>rw[js]at f;let(a,l,rfl,m,g):=f;cases e with|int j=>rw[jc]at b;cases b|str j=>simp_all[jf]|non=>simp_all[jB]|tup c=>rw[js]at b;let(G,s,q,p,y):=b;cases q;let t:H a=!_:=m;rw[show H a=! .tup _ from p]at t;cases t;rw[all _ c _ hd he g y,]|lst c=>grind[jq]|_=>rw[JF he]
|lst ds=>let(a,l,rfl,m,g):=f;cases e with
 |int j=>rw[jc]at b;cases b|str j=>cases b|non=>cases b|tup c=>grind[js]|lst c=>
let(G,s,q,p,y):=b;cases q;let:l=s:=by obtain m|⟨_,m⟩:=m<;>obtain p|⟨_,p⟩:=p<;>rw[m]at p<;>cases p<;>rfl
subst this;rw[all _ _ _ hd he g y,]|_=>rw[JF he]
|_=>rw[JF hd]
def mJ(K:f')(H:Hp)(d:D)(u:Value):4:=∃v,jz v u/\IsD K H d v
def eqTo(K:f')(H:Hp)(d:D)(u:Value):Bool:=@decide (mJ K H d u)<|Classical.propDecidable _
def iR{K:f'} (b:plN 12 d=6)(c:plN 12 e=6)(h:IsD K H e v)(r:jz v u):eqTo K H d u=sameD e d:=by
 cases q:e=d;.rw[q,Wm];rw[@decide_eq_true _ (Classical.propDecidable _) (v,r,q ▸ h)]
 .rw[v3.mpr q,];rw[@decide_eq_false _ (Classical.propDecidable _)<|yo λg=>j4 λf a=>q ?_];rw[f.inj r]at a;rw[LJ _ e d v c b h a]
def any_eq{K:f'} (r:A.units+60<cLine)(ok:xc P w H s.heap) (c:plN 12 d=6)(l:IsD K H d x)(m:jz x v):∀{ds:YC}{f:YB}{b:Ye},ds.all (plN 12)=6->IsDs K H ds f->j6 f b->b.map (eqTo K H d)=ds.map (λe=>sameD e d)/\∀u∈b,SeqAt.EqAt A s u v (eqTo K H d u):=by intro ds;cases(ds)with|nil=>intro f b _ g h;subst g;cases h;simp|cons e ds n=>intro f b a g h;rw[Us,Uc]at a;let(y t,rfl,i,o):=g;cases h with|cons j p=>
let(z,B):=n a.2 o p;let(_,C):=XB ok _ e y _ a.1 i j;let(_,E):=XB ok _ d x v c l m;have(F,G):=YZ _ e a.1;have(I,J):=YZ _ d c;let q:=iR c a.1 i j;rw[((),λu hm=>?_)];obtain hm|hm:=UN.mp hm
.subst hm;rw[q,<-Vb.mpr<|(Fb _ e d a.1 c).trans nh.symm];grind[SeqAt.eqAt_reads]
ext
def any_map'{α:Type}{f:α->Bool}{l:List α}:l.any f=(l.map f).any id:=()
def Fg(J:X.A.units+64<cLine)(b:Bool):xu X (compareOp<|if b then .NotIn else .In) (wb X.K λd e=>match e with|.dct _ _=>8|.dcf _ _=>8|e=>xQ b d e):=by intro Y s Z H x y v u Q I w B h;let(F,d,e,z,c,id,m,f,q):=h;let i:=IsD.same c _ _ id;cases e with
|lst ds=>
let f:(if plN _ d&&ds.all (plN _)then !(D.bl<|if b then not<|ds.any _ else ds.any _)else 8)=!z:=f
split at f
.rename_i g;rw[Uc]at g;obtain rfl:=Zqi f;rw[jq]at m;let(p,C,rfl,n,o):=m;obtain rfl:u=Value.ref p:=B;let(a,r,j,E):=I.list (n.same c).sq;let(t,G):=any_eq (A:=X.A.in1) (by show X.A.units+1+60<cLine;lia) I.hok g.1 i w g.2 (IsDs.same c _ _ o) r;let l:a.toArray.any (eqTo X.K H d)=ds.any λe=>sameD e d:=by rw[show a.toArray.any (eqTo X.K H d)=a.any (eqTo X.K H d)by simp,any_map',t,<-any_map']
 cases b with|true=>rw[SeqAt.notIn_listAt (eqTo X.K H d) j.isList () (.bl _,H,I,9,?_)];rw[l,];rw[q _ F H (.refl c)<|zH _ F]|false=>rw[SeqAt.in_listAt (eqTo X.K H d) j.isList () (.bl _,H,I,9,?_)];rw[l,];rw[q _ F H (.refl c)<|zH _ F]
ext|tup ds=>
let f:(if plN _ d&&ds.all _ then !(D.bl<|if b then not<|ds.any _ else ds.any _)else 8)=!z:=f
split at f
.rename_i g;rw[Uc]at g;obtain rfl:=Zqi f;let(p,C,rfl,n,o):=m;obtain rfl:=B;let(a,r,j,E):=I.tuple (n.same c).sq;let(t,G):=any_eq (A:=X.A.in1) (by show X.A.units+1+60<cLine;lia) I.hok g.1 i w g.2 (IsDs.same c _ _ o) r;let l:a.toArray.any (eqTo X.K H d)=ds.any λe=>sameD e d:=by rw[show a.toArray.any (eqTo _ H d)=a.any (eqTo X.K H d)by simp,any_map',t,<-any_map']
 cases b with|true=>rw[SeqAt.notIn_tupleAt (eqTo X.K H d) j () (.bl _,H,I,9,?_)];rw[l,];rw[q _ F H (.refl c)<|zH _ F]|false=>rw[SeqAt.in_tupleAt (eqTo X.K H d) j () (.bl _,H,I,9,?_)];rw[l,];rw[q _ F H (.refl c)<|zH _ F]
ext|_=>rw[J6 f]
def Fh{K:f'} (h:tD K E (ji (xQ f) l i) Z H Q):(λZ H Q=>tD K E l Z H λy A=>tD K E i Z A λx j=>∃a o,x=022/\xl j a y o/\Q (.bl<|if f then not o.isSome else o.isSome) j) Z H Q\/uN (wb K λd e=>match e with|.dct _ _=>8|.dcf _ _=>8|e=>xQ f d e) (tD K E l) (tD K E i) Z H Q:=by
 let(B F sd,r,n):=h;cases m:∃d b ds,i sd=.ok d/\(d=.dct b ds\/d=.dcf b ds)
 .let(d b ds,m,C):=m;rw[.inl<|je B F _ (r,(Res.need_bind n).mono (λx J v Y A s L=>je B _ _ (r.step s,(Res.need_bind J).monoE (λy g M w F2 j G N=>?_) λb b q=>q.ext s)) 005)];rw[m]at g;cases g;let(-z,t,q):=jd M;let(-k,O,t):=Jh.mp (show(Qw x).map (λq=>D.bl<|if f then not<|(jH b ds q).isSome else(jH b ds q).isSome)=!z by obtain rfl|rfl:=C<;>rw[t]);subst t;let(p I,rfl,P,R,S):=LG C N;let(T,U):=WY k R S;rw[(p,qq (b.zip I) k,9,?_,?_)];.rw[Wn O L,];rw[Ff<|Fe G.fh P]
  .let X:(qq (b.zip I) k).isSome=(jH b ds k).isSome:=by induction hv:jH _ _ k with|none=>rw[U hv,];rfl|some d=>let(-x,u,_):=T d hv;rw[u,];rfl
   rw[X,];rw[q _ _ j (s.trans G)<|jo.mpr 9]
 .rw[.inr<|AD<|je B F _ (r,?_)];unfold ji at n ⊢;induction u:l _ with
|ok d=>rw[u]at n;induction g:i _ with|ok e=>ext|no=>rwa[g]at n|ex c fs=>rwa[g]at n
|no=>ext|ex c fs=>ext
def ao(g:X.A.units+64<cLine)(c:QE X E a i)(e:QE X E b j)(f:behindInMarks .NotIn b=7:=by rfl):QE X E (.Compare a [.NotIn] [b] l) (ji (xQ 6) i j):=PE.weak (PE.or (λY s Z H Q I m=>wpAny_Compare1 ((Ik () c e) _ s _ H Q I m) f)<|HH (Fg g 6) c e f) λZ H Q h=>Fh h
def Fi(g:X.A.units+64<cLine)(c:QE X E a i)(e:QE X E b j)(f:behindInMarks .In b=7:=by rfl):QT X E (.Compare a [.In] [b] l) (JB<|ji (xQ 7) i j):=PT.weak (PT.or (Er (S9 () c e) f)<|BN (Fg g 7) c e f) λZ H Q h=>Fh<|W5 h
def Fj(g:X.A.units+64<cLine)(c:QE X E a i)(e:QE X E b j)(f:behindInMarks .NotIn b=7:=by rfl):QT X E (.Compare a [.NotIn] [b] l) (JB<|ji (xQ 6) i j):=PT.weak (PT.or (Er (Ik () c e) f)<|BN (Fg g 6) c e f) λZ H Q h=>Fh<|W5 h
section
variable {a b o i e f tg:Expr}{fa fb fo fi fv:FE}{fr:FA}
theorem Q1{K:f'} (h:IsDs K H [d] c):∃v,c=[v]/\IsD K H d v:=by simp_all[jj,IsDs.nil_iff]
def Fk{K:f'}{H:Hp}{d e:D}{c:YB}(h:IsDs K H [d,e] c):∃v w,c=[v,w]/\IsD K H d v/\IsD K H e w:=by grind[jj,Q1]
noncomputable def jE:YC->YD|[.lst ds]=>! .int ⇑ds|[.tup ds]=>! .int ⇑ds|[.dct c _]=>! .int ⇑c|[.scr g]=>! .int ⇑g|[.str x]=>if ⇑x<=00 then ! .int ⇑x else 8|_=>8
def de(ds:YC)(z:D):4:=(∃c,ds=[.lst c]/\z=.int ⇑c)\/(∃c,ds=[.tup c]/\z=.int ⇑c)\/(∃g c,ds=[.dct g c]/\z=.int ⇑g)\/(∃h,ds=[.scr h]/\z=.int ⇑h)\/∃x,⇑x<=00/\ds=[036]/\z=.int ⇑x
def a5(c:jE ds=!z):de ds z:=by cases ds with|nil=>rw[J6 c]|cons d ds=>cases ds with
|nil=>cases d with|lst ds=>rw[.inl (_,9,(Zqi c).symm)]|tup ds=>rw[.inr<|.inl (_,9,(Zqi c).symm)]|dct g ds=>rw[.inr<|.inr<|.inl (_,_,9,(Zqi c).symm)]|scr h=>rw[.inr<|.inr<|.inr<|.inl (_,9,(Zqi c).symm)]|str x=>rw[let q:=eA c;.inr (.inr<|.inr<|.inr (_,q.1,9,q.2.symm))]|_=>rw[J6 c]
|cons e ds=>cases d<;>rw[J6 c]
def Qs:qc X (.builtin "len") (wa X.K jE):=qc.weak (qc.or Sx<|qc.or SQ Sy) λs H Q n=>by
 let(F ds z,c,id,p,q):=n;obtain⟨l,rfl,rfl⟩|⟨l,rfl,rfl⟩|⟨t,l,rfl,rfl⟩|⟨u,rfl,rfl⟩|⟨x,r,rfl,rfl⟩:=a5 p;.let(-v,rfl,h):=Q1 id;let(a m,rfl,g,j):=h;rw[<-⇑j]at q;rw[.inl (a,_,9,.inl (g.same c).sq,q _ F H (.refl c)<|zd _ F)]
 .let(v,rfl,h):=Q1 id;let(a m,rfl,g,j):=h;rw[<-⇑j]at q;rw[.inl (a,_,9,.inr (g.same c).sq,q _ F H (.refl c)<|zd _ F)]
 .let(-v,rfl,h):=Q1 id;let(a m,rfl,g,j,w):=h;rw[.inr<|.inl (a,_,9,c _ _ g,?_)];rw[List.length_zip,<-j,Nat.min_self];rw[q _ F H (.refl c)<|zd _ F]
 .let(v,rfl,h):=Q1 id;let(-a,rfl,g):=h;rw[.inl (a,_,9,.inl<|jk.seq c g,?_)];rw[Zql,];rw[q _ F H (.refl c)<|zd _ F]
 .let(-v,rfl,h):=Q1 id;subst h;rw[.inr<|.inr (_,9,r,q _ F H (.refl c)<|zd _ F)]
noncomputable def XC:YC->YD|[.int i,.int j]=>!(.int<|if j>i then j else i)|_=>8
noncomputable def C0:YC->YD|[.int i,.int j]=>!(.int<|if j<i then j else i)|_=>8
def LK(ds:YC):4:=∃i j,ds=[.int i,.int j]
def aF(c:XC ds=!z):LK ds:=by cases ds with|nil=>rw[J6 c]|cons d ds=>cases ds with|nil=>cases d<;>rw[J6 c]|cons e ds=>cases d with
|int i=>cases e with
 |int j=>cases(ds)with|nil=>rw[qE _ _ 9]|cons _ _=>rw[J6 c]
 |_=>rw[J6 c]
|_=>rw[J6 c]
def lJ(c:C0 ds=!z):LK ds:=by cases ds with|nil=>rw[J6 c]|cons d ds=>cases ds with|nil=>cases d<;>rw[J6 c]|cons e ds=>cases d with
|int i=>cases e with
 |int j=>cases(ds)with|nil=>rw[(_,_,9)]|cons _ _=>rw[J6 c]
 |_=>rw[J6 c]
|_=>rw[J6 c]
def Fl(g:X.calm=6):qc X (.builtin "max") (wa X.K XC):=qc.weak (RY g) λp H Q h=>by let(F ds z,l,id,c,q):=h;let(i j,rfl):=aF c;obtain rfl:=Zqi c;let(v w,rfl,m,n):=Fk id;rw[(_,_,by rw[jc.mp m,jc.mp n],q _ F H (.refl l)<|zd _ F)]
def pH(g:X.calm=6):qc X (.builtin "min") (wa X.K C0):=qc.weak (RZ g) λp H Q h=>by let(F ds z,l,id,c,q):=h;let(i j,rfl):=lJ c;obtain rfl:=Zqi c;let(v w,rfl,m,n):=Fk id;rw[(_,_,by rw[jc.mp m,jc.mp n],q _ F H (.refl l)<|zd _ F)]
def Z1:D->02 Yf|.lst ds=>Q6 AF ds|_=>8
def Fm{K:f'} (h:Z1 d=!g)(i:IsD K H d v):∃a,v=022/\xA K H a (g.map V.int):=by cases d with
|lst ds=>
let(a l,rfl,j,c):=i;rw[oP h]at c;rw[qN c]at j
ext|_=>rw[J6 h]
def Fn(c):Z1 (.lst<|c.map D.int)=!c:=znG _
def AJ:YC->YD|[d]=>(Z1 d).bind λc=>if c=[]then 8 else !(.int<|xx c)|_=>8
def AK:YC->YD|[d]=>(Z1 d).bind λc=>if c=[]then 8 else !(.int<|yp c)|_=>8
def z0H(j:X.calm=6):qc X (.builtin "max") (wa X.K AJ):=qc.weak (Te j) λr H Q l=>by
 let(F ds z,g,id,c,q):=l;unfold AJ at c;split at c
 .let(-s,m,c):=Je.mp c;split at c;.rw[J6 c]
  .rename_i n;obtain rfl:=Zqi c;let(-v,rfl,h):=Q1 id;let(-a,rfl,p):=Fm m h;rw[(a,_,9,(p.same g).sq,n,q _ F H (.refl g)<|zd _ F)]
 ext
def cU(j:X.calm=6):qc X (.builtin "min") (wa X.K AK):=qc.weak (Th j) λr H Q l=>by
 let(F ds z,g,id,c,q):=l;unfold AK at c;split at c
 .let(-s,m,c):=Je.mp c;split at c;.rw[J6 c]
  .rename_i n;obtain rfl:=Zqi c;let(-v,rfl,h):=Q1 id;let(-a,rfl,p):=Fm m h;rw[(a,_,9,(p.same g).sq,n,q _ F H (.refl g)<|zd _ F)]
 ext
noncomputable def Kf:YC->YD|[.lst ds]=>! .lst ds|[.tup ds]=>! .lst ds|[.scr c]=>!(.lst<|c.map .int)|_=>8
def mQ(ds:YC)(z:D):4:=(∃c,ds=[.lst c]/\z=.lst c)\/(∃c,ds=[.tup c]/\z=.lst c)\/∃g,ds=[.scr g]/\z=.lst (g.map .int)
def iA(c:Kf ds=!z):mQ ds z:=by cases ds with|nil=>rw[J6 c]|cons d ds=>cases ds with
|nil=>cases d with|lst ds=>rw[.inl (_,9,(Zqi c).symm)]|tup ds=>rw[.inr<|.inl (_,9,(Zqi c).symm)]|scr g=>rw[.inr<|.inr (_,9,(Zqi c).symm)]|_=>rw[J6 c]
|cons e ds=>cases d<;>rw[J6 c]
def XD:qc X 017 (wZ X.K Kf):=qc.weak Sz λu H Q s=>by
 let(F ds z,g,id,t,q):=s;let c:∀{m:YC}{n:YB},IsDs X.K F m n->yO _ F H Q (.lst _)->∀l,H l=8->Q _ _:=λ{m n}h q l p=>q l F _ (.keep g p _) p (Qe g p) (_,JI,h);obtain⟨m,rfl,rfl⟩|⟨m,rfl,rfl⟩|⟨w,rfl,rfl⟩:=iA t;.let(-v,rfl,h):=Q1 id;let(a,n,rfl,j,r):=h;rw[(a,_,9,.inl (j.same g).sq,c r q)]
 .let(v,rfl,h):=Q1 id;let(a n,rfl,j,r):=h;rw[(a,_,9,.inr (j.same g).sq,c r q)]
 .let(v,rfl,h):=Q1 id;let(a,rfl,j):=h;rw[(a,_,9,.inl<|jk.seq g j,c (qA _) q)]
noncomputable def W9:YC->YD|[.lst ds]=>! .tup ds|[.tup ds]=>! .tup ds|_=>8
def tX(ds:YC)(z:D):4:=(∃c,ds=[.lst c]/\z=.tup c)\/∃c,ds=[.tup c]/\z=.tup c
def oK(c:W9 ds=!z):tX ds z:=by cases ds with|nil=>rw[J6 c]|cons d ds=>cases ds with
|nil=>cases d with|lst ds=>rw[.inl (_,9,(Zqi c).symm)]|tup ds=>rw[.inr (_,9,(Zqi c).symm)]|_=>rw[J6 c]
|cons e ds=>cases d<;>rw[J6 c]
def AL:qc X (.type "tuple") (wa X.K W9):=qc.weak S0 λw H Q p=>by
 let(F ds z,c,id,r,q):=p;obtain⟨s,rfl,rfl⟩|⟨s,rfl,rfl⟩:=oK r;.let(v,rfl,h):=Q1 id;let(a j,rfl,g,m):=h;rw[(a,_,9,.inl ((g.same c).sq,λl t=>?_))];let n:=qB c t<|.tup j;rw[q _ _ _ n<|js.mpr (l,_,9,.of JI,IsDs.same n.ff _ _ m)]
 .let(v,rfl,h):=Q1 id;let u:=h;let(a j,rfl,g,m):=h;rw[(a,_,9,.inr ((g.same c).sq,q _ F H (.refl c) u))]
noncomputable def zz(r:J0):D:=.dct (r.map λp=>.inl p.1)<|r.map λp=>.int p.2
def C1(r:J0):J0:=r.foldl (λa p=>qP a p.1 p.2) []
def pQ(r):BZ r=xU (C1 r):=Lu r []
def oV(h:jF r):C1 r=r:=by grind[C1,Lv]
def LL(r):xU r=(r.map λp=>(Ut p.1:jI)).zip (r.map λp=>V.int p.2):=by grind[xU,List.map_cons]
def aN(K)(F)(r:J0):IsDs K F (r.map λp=>D.int p.2) (r.map λp=>V.int p.2):=by let:=qA (K:=K) (H:=F)<|r.map (·.2);rwa[Zw,Zw]at this
def WZ:YC->YD|[d]=>(W8 d).bind λr=>if ⇑r<=100 then !(zz<|C1 r)else 8|_=>8
def Fo(l:X.calm=6):qc X (.type "dict") (wZ X.K WZ):=qc.weak (Tp l) λm H Q n=>by
 let(F ds z,g,id,c,q):=n;unfold WZ at c;split at c
 .let(-r,s,c):=Je.mp c;split at c;.rename_i t;obtain rfl:=Zqi c;let(-v,rfl,h):=Q1 id;rw[L9 s,rA]at h;let(a u,e,_):=(show ∃a m,v=022/\_ by unfold rD at h;rwa[zn]at h);subst e;rw[(a,r,9,Is.same g _ _ h,t,λp j=>q p F _ (.keep g j _) j (Qe g j) (_,?_,(),aN _ _ _))];rw[JI,pQ,LL]
  .rw[J6 c]
 ext
@[simp]def C4:FE:=λb=>.ok<|.dct [] []
def C5:QN X E (.Dict [] [] g) C4:=PE.weak (λY s Z H Q I h=>wpAny_Dict_empty (.ref _,_,I.laid (λb b q=>Zq _ q) (Zf _)<|SA _ I.big,9,h _<|I.hok.fresh<|Zf _)) λZ H Q=>qx λB F sd=>j4 λr n=>λp c=>n p F _ (.keep r.ext.fh c _) c (Qe r.ext.fh c) (_,JI,9,.nil)
def Z5(fo c g:FE):FE:=λsd=>(fo sd).bind λd=>match d with|.dct h ds=>(c sd).bind λk=>(g sd).bind λx=>.ofO<|(Qw k).map λq=>(jH h ds q).getD x|_=>.no
def LM(A:X.A.units+1<cLine)(C:QE X E o fo)(G:QE X E e fa)(I:QE X E f fb)(J:M2 X o "get" h e f j):QE X E (.Call (.Attribute o "get" h) [e,f] [] j) (Z5 fo fa fb):=PE.weak (SJ A C G I J) λZ H Q L=>by let(B F sd,r,n):=L;rw[je B F _ (r,(Res.need_bind n).mono (λd s v F1 H1 c M=>?_) 005)];cases d with
|dct N ds=>
let(p O,rfl,P,R,S):=M;let t:=c.fh _ _ P;rw[(p,9,.inl (_,.inl t),B,_,_,r.step c,(Res.need_bind s).mono (λk T w F2 H2 g U=>je B _ _ ((r.step c).step g,(Res.need_bind T).mono (λx Y u F3 H3 l i3=>?_) λb b q=>q.ext<|c.trans g)) λb b q=>q.ext c)];let(-z,m,q):=jd Y;let(k',hk,m):=Jh.mp m;subst m;let(g1,g2):=WY _ R S;rw[(qq (N.zip O) k',?_,?_)]
.rw[Wn hk U,];rw[xl.k<|l.hh _ _<|g.hh _ _ t]
.induction hv:jH _ _ _ with|none=>rw[hv]at q;rw[g2 hv,];rw[q _ _ _ ((c.trans g).trans l) i3]|some d=>rw[hv]at q;let(-y,hy,iy):=g1 d hv;rw[hy,];rw[q _ _ _ ((c.trans g).trans l)<|IsD.same (g.ff.trans l.ff) _ _ iy]
|_=>rw[s.elim]
def XE(i:5)(g fv:FE):FS:=λsd=>(fv sd).bind λv=>match sd[i]? with
|some (some<|.own false<|.dct c ds)=>(g sd).bind λk=>match Qw k with|some q=>if ⇑c<00 then .ok (.next<|sd.set i<|!(.own 7<|.dct (KN c q)<|Um c ds q v))else .no|none=>.no
|_=>.no
/-!-/
set_option tactic.hygienic true in
def Fp(y:X.A.units+1<cLine)(z:PE X o (yX j))(A:QE X E i fi)(C:QE X E e fv)(G:swapsWith e (! .Subscript o i c) s.line X.env=pure 7:=by rfl):QS X E m (.Assign [.Subscript o i c] e s) (XE j fi fv):=PS.weak (Il y z A C G) λT Z H I=>by
 let(B F sd,r,n):=I;rw[je B F _ (r,(Res.need_bind n).mono (λd t v U Y g J=>?_) λ_ _ q=>q.ext r.ext)];split at t
 .rename_i ks ds u;let(-l,x,h2,h3,(xs,L,M,N),_):=(r.step g).own u;rw[(_,x,B,_,_,r.step g,(Res.need_bind t).mono (λk h w F2 H2 p O=>?_) λ_ _ q=>q.ext (r.step g).ext)];split at h
  .rename_i q P;split at h;.let(ys,Q,R,S):=Fd M (IsDs.same p.ff _ _ N) (IsD.same p.ff _ _ J);rw[(l,_,9,by rw[Wn P O,];rw[wD.k (p.hh _ _ L) ()],h _ _ _ (g.ff.trans p.ff)<|((r.step g).step p).chg u x (_,by rw[JI,Q],R,S))]
   .rw[h.elim]
  .rw[h.elim]
 .rw[t.elim]
def Fq:D->02 YC|.lst ds=>!ds|.scr c=>! c.map .int|_=>8
def kS:D->02 YC|.tup ds=>!ds|_=>8
def iL(f:FE):FA:=λsd=>(f sd).bind λd=>.ofO<|Fq d
def iT(f:FE):FA:=λsd=>(f sd).bind λd=>.ofO<|kS d
def C6{K:f'} {S:Hp->4}(h:IsDs K m ds c)(s:∀F H,jk m F->jk F H->S H)(g:∀i H x,S H->c[i]?=!x->J.go i H)(t:∀i H,S H->⇑c<=i->J.stop i H)(u:∀i H x n,S H->J.yld i H x n->n=H/\c[i]?=!x):vX K m J ds:=λi A B p q=>by let j:=s _ _ p q;rw[(λr=>?_,λr=>t i _ j<|by rwa[⇑h,])];let(-x,v,_):=h.get (Zqg r);rw[(g i _ x j v,λy C w=>?_)];let(!rfl,l):=u i _ y _ j w;let(-d,z,id):=h.getV l;rw[(d,_,z,.refl q,IsD.same p _ _ id)]
def ag(h:QE X E e fa):QI X E tg e (iL fa):=PI.weak (RJ h) λZ H R y=>by let(B F sd,r,n):=y;rw[je B F _ (r,(Res.need_bind n).mono (λd z v G I l w=>?_) 005)];let(-ds,m,q):=jd z;cases d with|lst J=>obtain rfl:=Zqi m;let(a L,rfl,g,A):=w;rw[(a,9,(_,(g.same l.fh).sq),q _ _ _ l<|C6 A (λF H p s=>((g.same p).same s).sq) (λi H x c t=>(_,x,c,t)) (λi H c u=>(_,c,u)) λi H x C c j=>(j.1,j.2 _ c))]|scr M=>obtain rfl:=Zqi m;let(-a,rfl,g):=w;rw[(a,9,(_,jk.seq l.fh g),q _ _ _ l<|C6 (qA _) (λF H p s=>jk.seq s<|jk.seq p g) (λi H x c t=>(_,x,c,t)) (λi H c u=>(_,c,u)) λi H x C c j=>(j.1,j.2 _ c))]|_=>rw[J6 m]
def cZ(h:QE X E e fa):QI X E tg e (iT fa):=PI.weak (RK h) λZ H R p=>by let(B F sd,r,n):=p;rw[je B F _ (r,(Res.need_bind n).mono (λd s v C G g t=>?_) 005)];let(-ds,j,q):=jd s;cases d with|tup I=>obtain rfl:=Zqi j;let(a J,rfl,l,u):=t;rw[(a,9,(_,(l.same g.fh).sq),q _ _ _ g<|C6 u (λF H w y=>((l.same w).same y).sq) (λi H x c z=>(_,x,c,z)) (λi H c A=>(_,c,A)) λi H x L c m=>(m.1,m.2 _ c))]|_=>rw[J6 j]
def tZ(h:PI X tg e t)(c:PI X tg e g):PI X tg e λZ H R=>t Z H R\/g Z H R:=λY s Z H R I q=>q.elim (h Y s Z H R I)<|c Y s Z H R I
noncomputable def XF:D->02 YC|.lst ds=>!ds|.scr c=>! c.map .int|.tup ds=>!ds|_=>8
@[simp]def iS(f:FE):FA:=λsd=>(f sd).bind λd=>.ofO<|XF d
def JS(h:QE X E e fa):QI X E tg e (iS fa):=PI.weak (tZ (ag h)<|cZ h) λZ H R j=>by
 let(B F sd,r,n):=j;cases g:∃ds,fa sd=.ok (.tup ds);.let(-ds,g):=g;rw[.inr<|je B F _ (r,?_)];unfold iS at n;ext iT;rwa[g]at n ⊢
 .rw[.inl<|je B F _ (r,?_)];unfold iS at n;ext iL;induction hx:fa _ with
|ok d=>rw[hx]at n;cases d with|tup ds=>ext|_=>rw[n]
|no=>rwa[hx]at n|ex c fs=>rwa[hx]at n
noncomputable def Qm(lo:3)(n:5):YC:=(List.range n).map λk:5=>.int<|lo+k
def AM(j:3):Bool:=Nat.ble j.toNat 1000000000&&Nat.ble (-j).toNat 1000000000
def LN(h:AM j=6):-2^62<=j/\j<2^62:=by unfold AM at h;rw[Uc,Nat.ble_eq,Nat.ble_eq]at h;lia
def zx(fr:FA):FA:=λsd=>(fr sd).bind λds=>match ds with|[.int j]=>if AM j then .ok (Qm 0 j.toNat)else .no|_=>.no
def o5{K:f'} (lo)(n):vX K l (r0 lo n) (Qm lo n):=λi m p q g=>by
 let h:⇑(Qm lo n)=n:=by ext Qm;simp
 rw[h,];rw[(λc=>(c,λx r j=>?_),λc=>c)];let(rfl,rfl):=j;rw[(_,_,?_,.refl g,jc.mpr 9)];simp_all[Qm]
set_option tactic.hygienic true in
def Ux(l:Gl X "range")(m:X.mg "range"=8)(s:QA X E [a] fr)(t:01 [a] X.env=[%[7|eval a X.env]]:=by rfl):QI X E tg (.Call (.Name "range" p) [a] [] u) (zx fr):=PI.weak (RM l m s t) λZ H R w=>by
 let(B F sd,r,n):=w;rw[je B F _ (r,(Res.need_bind n).mono (λds c z A C x y=>?_) 005)];split at c
 .split at c;.rename_i j g;let(-v,rfl,h):=Q1 y;rw[jc.mp h,];rw[(j,9,(LN g).1,(LN g).2,c _ _ _ x<|o5 0 _)]
  .rw[c.elim]
 .rw[c.elim]
end
section
variable {a b o i e f tg:Expr}{fa fb fo fi fv:FE}
def PG.weak(h:PG X e t)(w:∀v Z H Q,c v Z H Q->t v Z H Q):PG X e c:=λY s Z H v u Q I r q=>h _ s _ H v u Q I r<|w _ _ _ _ q
def Fs:Yh->kJ|[]=>hV|i::c=>HB (Wh i) (Fs c)
theorem LO:∀{c:Yh}{g:YB}{Z:St}{H:Hp}{Q:St->Hp->4},⇑g=⇑c->Q (Cs c g Z) H->Fs c g Z H Q|[],g,Z,H,Q,hl,q=>((),q)|i::c,[],Z,H,Q,hl,q=>by cases hl|i::c,x::g,Z,H,Q,hl,q=>(x,_,9,LO (UU hl) q)
def JY{i:5} (h:PG X e (Wh i)):QG X e (.one i):=h
def Q2(c) (h:PG X e (hJ X.K ⇑c<|Fs c)):QG X e (.tup c):=PG.weak h λv Z H Q=>j3 λa l=>qT λe j g q=>(a,_,e,j,g,LO g q)
def V8(tg:Tg)(c:FT)(f:FE)(sd:SD):YC->Res YC|[]=>.ok []|x::g=>(JX tg x sd).bind λs=>(c s).bind λb=>if b then(f s).bind λy=>(V8 tg c f sd g).bind λh=>.ok<|y::h else V8 tg c f sd g
def WA(cap:List (02 5))(g:FA)(tg:Tg)(c:FT)(f:FE):FE:=λsd=>(g sd).bind λds=>if Wl (q9 cap sd) tg=6/\⇑ds<00 then(V8 tg c f (q9 cap sd) ds).bind λh=>.ok<|.lst h else .no
def Ft{K:f'} {fi:FA} {f:FE} (G:kE K E (WA cap fi t O f) Z H Q):BT cap (n7 K E fi) (gT t K) (ny K E O) (tD K E f) Z H Q:=by
 let(B F sd,r,n):=G;rw[je B F _ (r,(Res.need_bind n).mono (λds I J F1 H1 s wk=>?_) 005)];split at I
 .rename_i G;let(X,hz):=G;rw[(λi k P Z l=>k=⇑ds-i/\i<=⇑ds/\∃j u,Ext _ _ j l/\RS K B j l (q9 _ _) Z/\IsDs K j u P/\⇑u<=i/\(V8 t O f (q9 cap sd)<|ds.drop i).need (λw=>yO K j l Q<|.lst<|u++w) (XW K E j l),(_,9,Ub _,_,_,.refl s.fh,(r.step s).cap _,.nil,Zf _,?_),?_)];.rw[(Res.need_bind I).mono (λw q=>(q).ext s) λ_ _ q=>q.ext s]
  rintro i k P Z2 l ⟨rfl,hi,j,u,z,L,A,R,m⟩;let ly:=⇑A;rw[((),?_)];let(!Y,w2):=wk i _ _ z.ff z.fh;cases h:i<⇑ds
  .let(!go,yl):=Y h;rw[.inr (go,λx H3 y=>?_)];let(d F3,hd,g,i3):=yl x _ y;rw[Uq h]at m;let M:ds[i]=d:=by grind[Zqg,Zqi]
   rw[M]at m;rw[AE (L.step g) i3 (Res.need_bind m) λsd' Z' n4 hb C=>?_];let(!S,T):=L5 X hb;rw[je B _ _ (C,(Res.need_bind n4).mono (λb U F4 H4 c=>?_) λ_ _ q=>q.ext g)];cases(b)with|true=>rw[je B _ _ (C.step c,(Res.need_bind U).mono (λy n6 v F5 H5 p i5=>(_,(),9,h,_,_,((z.trans g).trans c).trans p,((C.step c).step p).forget S T,(IsDs.same ((g.ff.trans c.ff).trans p.ff) _ _ A).snoc i5,by rw[Ua,];rw[VC R],(Res.need_bind n6).mono (λw q=>?_) λ_ _ q=>q.ext<|(g.trans c).trans p)) λ_ _ q=>q.ext<|g.trans c)];rw[Uf,];rw[(q).ext<|(g.trans c).trans p]|false=>rw[(_,(),9,h,_,_,(z.trans g).trans c,(C.step c).forget S T,IsDs.same (g.ff.trans c.ff) _ _ A,Vq R,(U).mono (λw q=>q.ext<|g.trans c) λ_ _ q=>q.ext<|g.trans c)]
  .let he:i=⇑ds:=();subst he;rw[.inl (w2<|Zf _,λD N=>?_)];rw[Vi]at m;let q:yO K _ _ Q _:=m;rw[ZA]at q;rw[q D _ _ (.keep L.ext.fh N _) N (Qe L.ext.fh N) (_,JI,A)]
 .rw[I.elim]
def LQ{fi:FA} {f:FE}(N)(cap)(q:X.calm=6)(n:Kk g X.env N X.N cap=6)(r:QI X E tg j fi)(u:∀l C s H m,QG (JP X g N l C s H m) tg t)(v:∀l C s H m,QT (JP X g N l C s H m) E c w)(y:∀l C s H m,QE (JP X g N l C s H m) E p f)(z:∀x,foldedSetIterable j X.env x=pure x:=by intro _;rfl):QN X E (.ListComp p [(tg,j,[c],0)] g A) (WA cap fi t w f):=PE.weak (λY s Z H Q I h=>Lo N _ q n r u v y z I h Ir) λb b b h=>Ft h
noncomputable def AN:List jI->YC->02 J0|.inl k::c,.int v::ds=>(AN c ds).map λr=>%[k|v]::r|[],[]=>![]|_,_=>8
def pF(c:List jI)(ds:YC)(r:J0):4:=c=r.map (λp=>.inl p.1)/\ds=r.map λp=>.int p.2
def zlg(h:AN c ds=!r):pF c ds r:=by induction c generalizing ds r with
|nil=>cases(ds)with|nil=>obtain rfl:=Zqi h;rw[(9,9)]|cons _ _=>rw[J6 h]
|cons k c g=>cases(k)with|inr _=>rw[J6 h]|inl k=>cases ds with|nil=>rw[J6 h]|cons d ds=>cases d with|int v=>let(-m,j,l):=Jh.mp h;subst l;rw[(Zt _ (g j).1,Zt _ (g j).2)]|_=>rw[J6 h]
def zk0(r):AN (r.map λp=>.inl p.1) (r.map λp=>.int p.2)=!r:=by cases(r)with|nil=>rfl|cons p r c=>rw[Zt _ c]
def vq(s:jk F H)(l:∀p∈L,H p.1=8):Ext F H (xa F L) (xa H L):=by
 let c:∀{G:Hp}{b:Addr},H b≠8->xa G L b=G b:=λ{G b}n=>Ci ();let ne:∀{b:Addr}{o:HO},H b=!o->H b≠8:=018;rw[(λb o e=>by rwa[c (ne<|s _ _ e),],λb o e=>?_,λb o e=>by rwa[c (ne e),],())];obtain h|⟨j,h2⟩:=Lq e;.grind[xa]
 .rw[Ci j,];rw[s _ _ h2]
def LR:D->YD|.dct c ds=>(AN c ds).bind λr=>if r ≠[]/\⇑r<1000 then !(.lst<|(Ql qu r).map xB)else 8|_=>8
@[simp]def LS(fo:FE):FE:=λsd=>(fo sd).bind λd=>.ofO<|LR d
def zlc(h:∀{w:TE},PE X o w->PE X e (wW (λm H Q=>∃g d r,m=[.ref g]/\H g=! W4 g d/\H d=!(.dK<|xU r)/\r ≠[]/\⇑r<1000/\∀l L,(∀p∈L,H p.1=8)->(L.map (·.1)).Nodup->(∀G,Is (xa G L) (.list<|(Ql qu r).map pD) (.ref l))->Q (.ref l) (xa H L))<|Ar (uO X.K "dict" (λx J H Q=>∃d s,x=.ref d/\J=[]/\H d=! .dK s/\∀p,H p=8->Q (.ref p) (upd H p<|W4 p d)) w) wV))(M:QE X E o fo):QE X E e (LS fo):=PE.weak (h M) λZ H Q N=>by let(B F sd,r,n):=N;rw[je B F _ (r,(Res.need_bind n).mono (λd O v P H1 t R=>?_) 005)];let(-z,y,q):=jd O;cases d with
|dct ks ds=>
let(-A,S,u):=Je.mp y
split at u
.rename_i C;obtain rfl:=Zqi u;let(T,U):=zlg S;let(d m,rfl,Y,g2,g3):=R;let ex:m=A.map λp=>V.int p.2:=by rw[U]at g3;let:=qN (by rwa[Zw,]);rw[this,Zw];rfl
 let hd:P d=!(.dK<|xU A):=by rw[Y,T,ex,<-LL]
 let c:=t.fh _ _ hd;rw[(.inr<|.inr<|.inl (9,.inl (_,c)),d,_,9,9,c,λg j=>je _ d _ (9,JI,(Kt j _) _ _ c,C.1,C.2,λl L fr nd hl=>?_))];let I:Ext _ _ _ (upd _ _<|W4 g d):=.keep t.fh j _;rw[q _ _ _ (t.trans<|I.trans<|vq I.fh fr) ?_];let(l',ys,e',g4,g5):=xY.mp (hl _);rw[jq.mpr (_,_,e',.of g4,kQ.mpr g5)]
.rw[J6 u]|_=>rw[J6 y]
end
section
variable {K:f'}
def bt:FnOk P w K b a yz k f c e (q0 K λb=>.no):=(λb b b b=>j3 λb b=>j7 λb b n=>n.elim,λb b b b b b b b b b b b b=>j3 λb b=>j7 λb b n=>n.elim)
end
section
variable {a b o i e f tg:Expr}{fa fb fo fi fv:FE}
def qW(c:Bool):D->YD|.non=>!(.bl<|not c)|_=>! .bl c
def LU:D->Bool|.non=>6|_=>7
def eF{K:f'} (h:IsD K H d v):decide (v=.non)=LU d:=by cases d with|non=>rw[jB.mp h,];rfl|bl b=>rw[jo.mp h,];rfl|int b=>rw[jc.mp h,];rfl|str b=>rw[jf.mp h,];rfl|ty b=>rw[zQ.mp h,];rfl|scr b=>let(a,rfl,_):=qG.mp h;rfl|tup b=>let(a _,rfl,_):=js.mp h;rfl|lst b=>let(a _,rfl,_):=jq.mp h;rfl|dct b c=>let(a _,rfl,_):=jX.mp h;rfl|ins b c d=>let(a _ _ _,rfl,_):=jW.mp h;rfl|exc b=>let(a _,rfl,_):=xk.mp h;rfl|exr b c=>let(a _ _,rfl,_):=xj.mp h;rfl|ucl b=>let(a,rfl,_):=z9.mp h;rfl|adr b=>rw[j9.mp h,];rfl|dcf b c=>let(a _ _,rfl,_):=qI.mp h;rfl|pin b c=>rw[(qH.mp h).1,];rfl
def iE{K:f'} (h:tD K E (jO (qW 6) fa) Z H Q):Hw (tD K E fa) Z H Q:=by let(B F sd,r,n):=h;rw[je B F _ (r,(Res.need_bind n).mono (λx c v l m g j=>?_) 005)];show Q _ _;rw[eF j,];cases x<;>rw[c _ _ _ g<|jo.mpr 9]
def AO(g:QE X E a fa):QT X E (.Compare a [.IsNot] [.Constant .none j c] l) (JB<|jO (qW 6) fa):=PT.weak (Er<|RA g) λb b b h=>iE<|W5 h
def XG(i:5)(fb:FE):FE:=λsd=>match sd[i]? with|some (some<|.own _ d)=>(fb sd).bind λy=>.ofO<|jY d y|_=>.no
set_option tactic.hygienic true in
def pS{i:5}(N:X.A.units+1<cLine)(I:PE X a (yX i))(J:QE X E b fb)(O:Aw b)(s:vh b):QE X E (.Subscript a b P) (XG i fb):=PE.weak (PE.or (E4 N I J s)<|BP rE I J O) λZ H Q R=>by
 let(B F sd,r,n):=R;unfold XG at n;split at n;.rename_i p d S;let(-l,t,h2,h3,u,_):=r.own S;cases d with
|lst ds=>let(-T,v,A):=u;rw[.inr (_,t,B,F,_,r,(Res.need_bind n).mono (λy j w L M g m=>?_) 005)];let(-z,h,q):=jd j;cases y with|int k=>let(-x,C,G):=Cz A h;rw[jS l _ k x (9,jc.mp m,qR.of<|g.hh _ _ v,C,q _ _ _ g<|IsD.same g.ff _ _ G)]|_=>rw[J6 h]
|dct ks ds=>let(-T,v,A,U):=u;rw[.inl (_,t,B,F,_,r,(Res.need_bind n).mono (λy j w L M g m=>?_) 005)];let(-z,h,q):=jd j;let(-k,Y,h):=Je.mp h;let(-x,C,G):=(WY k A U).1 z h;rw[(l,x,9,?_,q x _ _ g<|IsD.same g.ff _ _ G)];rw[Wn Y m,<-C];rw[xl.k<|g.hh _ _ v]|ins c fs ds=>rw[.inr (_,t,B,F,_,r,(Res.need_bind n).mono (λy j w L M g m=>?_) 005)];let(-z,h,q):=jd j;cases y<;>rw[J6 h]|_=>rw[u.elim]
 .rw[n.elim]
end
end L2.DL
namespace L2
section
variable {wi:TI}
def LV(a:X.N.Nodup)(c:X.N[t]?=!y)(f:yS X.env.scope y)(g:X.fn y=6\/028):A0 X Y Z (λv u=>w.nx (Z.set t<|!v) u) (! assign (.Name y N) X.env) λd x=>SP X Y w .next x:=λC D m O r z A P sz B E k=>by
 let(Q R,q,h,F,G):=k _ (9,009);let(s H I,J,i,j):=id z;let L:Inv X (Y++[%[C|s]]) _ _ _:=q.pins_of λp hp=>by
  obtain hp|hp:=Jc.mp hp;.rw[q.pin p ()]
  ext
 rw[wpAny_assign_Name<|Am L a c f h (λS l=>(m,je _ _ _ ((l.pin %[C|s] ()).1,i,j),λT n=>(_,_,(l.pins_of λp hp=>l.pin p ()).turned (λb o M e=>(n.2 b M).trans e) F A (.inr sz) B E,G))) g]
def Fu(i:swapsWith (.ListComp c [(j,b,[],0)] a l) (! .Name y u) f.line X.env=pure 6)(m:X.N.Nodup)(n:X.N[v]?=!y)(o:yS X.env.scope y)(p:X.fn y=6\/028)(N)(cap)(w:X.calm=6)(q:Kk a X.env N X.N cap=6)(z:PI X j b wi)(A:∀r C s H t,PG (JP X a N r C s H t) j g)(G:∀r C s H t,PE (JP X a N r C s H t) c B)(E:∀x,foldedSetIterable b X.env x=pure x:=by intro _;rfl):PS X (.Assign [.Name y u] (.ListComp c [(j,b,[],0)] a l) f) (wX (YN cap wi g B)<|Wh v):=by intro Y s Z H J I h;rw[exec_Assign_Name_used _ _ _ _ i,];rw[Za<|wpAny_standAt<|Za<|Za<|Zc (Iv N _ w q z A () E I h<|LV m n o p) (λb L F=>Zb<|Zb F) λb b e=>e]
def LW(m:swapsWith (.ListComp f [(n,b,[c],0)] a o) (! .Name y v) i.line X.env=pure 6)(p:X.N.Nodup)(q:X.N[w]?=!y)(r:yS X.env.scope y)(t:X.fn y=6\/028)(N)(cap)(z:X.calm=6)(u:Kk a X.env N X.N cap=6)(A:PI X n b wi)(B:∀j C s H l,PG (JP X a N j C s H l) n g)(E:∀j C s H l,PT (JP X a N j C s H l) c F)(G:∀j C s H l,PE (JP X a N j C s H l) f J)(L:∀x,foldedSetIterable b X.env x=pure x:=by intro _;rfl):PS X (.Assign [.Name y v] (.ListComp f [(n,b,[c],0)] a o) i) (wX (BT cap wi g F J)<|Wh w):=by intro Y s Z H O I h;rw[exec_Assign_Name_used _ _ _ _ m,];rw[Za<|wpAny_standAt<|Za<|Za<|Zc (Lo N _ z u A B E G L I h<|LV p q r t) (λb P M=>Zb<|Zb M) λb b e=>e]
end
end L2
namespace L2.DL
def Fv{K:f'} (w:∀Z H Q,kE K E b Z H Q->c Z H Q) (h:kC K E m (jv i b) T Z H):wX c (Wh i) T Z H:=w _ _ _<|by let(B F sd,r,n):=h;rw[je B F _ (r,(Res.need_bind n).mono (λd e=>yR.new λv g j a f=>e _ _ _ a.ff<|(r.step a).setVal f) λb b q=>q.ext r.ext)]
def LX{K:f'} (w:∀Z H Q,kE K E b Z H Q->c Z H Q) (h:kC K E m (qr i b) T Z H):wX c (Wh i) T Z H:=w _ _ _<|by let(B F sd,r,n):=h;rw[je B F _ (r,(Res.need_bind n).mono (λd e l v x a f g s=>e _ _ _ a.ff<|(r.step a).setOwn (Qe r.ext.hh f) g s λj p y t z=>?_) λb b q=>q.ext r.ext)];let(-A,C,_,_,u,_):=r.own t;let(o,G):=u.has;ext
def Fw(N)(cap)(g:X.N.Nodup)(i:X.N[w]?=!y)(j:yS X.env.scope y)(z:X.calm=6)(l:Kk a X.env N X.N cap=6)(A:QI X E n b B)(F:∀o C s H p,QG (JP X a N o C s H p) n t)(G:∀o C s H p,QE (JP X a N o C s H p) E c f)(r:swapsWith (.ListComp c [(n,b,[],0)] a u) (! .Name y I) e.line X.env=pure 6:=by rfl)(v:X.fn y=6\/028:=by trivial)(J:∀x,foldedSetIterable b X.env x=pure x:=by intro _;rfl):QS X E m (.Assign [.Name y I] (.ListComp c [(n,b,[],0)] a u) e) (jv w<|Qc cap B t f):=PS.weak (Fu r g i j v N _ z l A F G J) λT Z H h=>Fv (λb b b q=>Ct q) h
def oR(N:Yi)(cap:List (02 5))(g:X.N.Nodup)(i:X.N[w]?=!y)(j:yS X.env.scope y)(z:X.calm=6)(l:Kk a X.env N X.N cap=6)(A:QI X E n b B)(F:∀o C s H p,QG (JP X a N o C s H p) n t)(G:∀o C s H p,QE (JP X a N o C s H p) E c f)(r:swapsWith (.ListComp c [(n,b,[],0)] a u) (! .Name y I) e.line X.env=pure 6:=by rfl)(v:X.fn y=6\/028:=by trivial)(J:∀x,foldedSetIterable b X.env x=pure x:=by intro _;rfl):QS X E m (.Assign [.Name y I] (.ListComp c [(n,b,[],0)] a u) e) (qr w<|Qc cap B t f):=PS.weak (Fu r g i j v N _ z l A F G J) λT Z H h=>LX (λb b b q=>Ct q) h
def zjC(N)(cap)(l:X.N.Nodup)(n:X.N[z]?=!y)(o:yS X.env.scope y)(A:X.calm=6)(p:Kk a X.env N X.N cap=6)(B:QI X E r b F)(G:∀e C s H g,QG (JP X a N e C s H g) r t)(I:∀e C s H g,QT (JP X a N e C s H g) E c J)(L:∀e C s H g,QE (JP X a N e C s H g) E i f)(u:swapsWith (.ListComp i [(r,b,[c],0)] a v) (! .Name y M) j.line X.env=pure 6:=by rfl)(w:X.fn y=6\/028:=by trivial)(O:∀x,foldedSetIterable b X.env x=pure x:=by intro _;rfl):QS X E m (.Assign [.Name y M] (.ListComp i [(r,b,[c],0)] a v) j) (jv z<|WA cap F t J f):=PS.weak (LW u l n o w N _ A p B G I L O) λT Z H h=>Fv (λb b b q=>Ft q) h
noncomputable def LY:02 (02 SV)->Res D|some (~~~d)=>.ok d|_=>.no
@[simp]def zyM(d):LY (!~~~d)=.ok d:=rfl
@[simp]def tJ(i)(sd):ja i sd=LY sd[i]?:=rfl
def ca:D->Res Bool|.bl b=>.ok b|_=>.no
@[simp]def tU(b):ca (.bl b)=.ok b:=rfl
@[simp]def rh(a)(sd):JB a sd=(a sd).bind ca:=by rfl
@[simp]def rn(a:α):(Res.ok a).bare=.ok a:=rfl
@[simp]def gC(i):W6 (.int i)=6:=rfl
@[simp]def nA(i):W6 (.bl i)=6:=rfl
@[simp]def bo(sd):qF [] sd=sd:=rfl
noncomputable def frz1(i:5)(sd:SD):02 (02 SV)->SD|some (some<|.own _ d)=>sd.set i (~~~d)|_=>sd
@[simp]def bp(i)(sd)(p)(d):frz1 i sd (! ! .own p d)=sd.set i (~~~d):=rfl
@[simp]def zyG(i)(a)(sd):qF (i::a) sd=qF a (frz1 i sd sd[i]?):=by rfl
def yk(g:FS):Out->Res Out|.next sd=>g sd|o=>.ok o
@[simp]def zy9(g)(sd):yk g (.next sd)=g sd:=rfl
@[simp]def gz(g)(d):yk g (.ret d)=.ok (.ret d):=rfl
@[simp]def gA(g)(d):yk g (.brk d)=.ok (.brk d):=rfl
@[simp]def tK(a b)(sd):jg a b sd=(a sd).bind (yk b):=by rfl
noncomputable def uP:02 (02 SV)->Res D|some (some<|.own _ d)=>.ok d|_=>.no
@[simp]def gX(p)(d):uP (! ! .own p d)=.ok d:=rfl
@[simp]def z0g(i)(sd):Kr i sd=(uP sd[i]?).bind λd=>.ok<|.ret d:=by ext Kr;cases(sd[i]?)with|none=>rfl|some o=>cases(o)with|none=>rfl|some v=>cases(v)<;>rfl
noncomputable def uQ:02 (02 SV)->Res YC|some (some<|.own false<|.lst ds)=>.ok ds|_=>.no
@[simp]def gY(ds):uQ (! !(.own 7<|.lst ds))=.ok ds:=rfl
@[simp]def zzQ(i)(f)(sd):Ke i f sd=(uQ sd[i]?).bind λds=>(f sd).bind λd=>if ⇑ds<00 then .ok (.next<|sd.set i<|!(.own 7<|.lst<|ds++[d]))else .no:=by ext Ke;cases(sd[i]?)with|none=>rfl|some o=>cases(o)with|none=>rfl|some v=>cases(v)with|val d=>rfl|own p d=>cases(p)<;>cases d<;>rfl
def LZ:D->Res YC|.lst a=>.ok a|_=>.no
@[simp]def z0A(a):LZ (.lst a)=.ok a:=rfl
@[simp]def zyR(i)(f)(sd):XA i f sd=(uQ sd[i]?).bind λds=>(f sd).bind λd=>(LZ d).bind λa=>if ⇑ds+⇑a<=00 then .ok (.next<|sd.set i<|!(.own 7<|.lst<|ds++a))else .no:=by ext XA;cases(sd[i]?)with|none=>rfl|some o=>cases(o)with|none=>rfl|some v=>cases(v)with|val d=>rfl|own p d=>cases p with|true=>cases d<;>rfl|false=>cases d with
|lst ds=>cases(f _)with|ok x=>cases x<;>rfl|ex c fs=>rfl|no=>rfl
|_=>rfl
noncomputable def fg:02 (02 SV)->Res (List jI×YC)|some (some<|.own false<|.dct a ds)=>.ok %[a|ds]|_=>.no
@[simp]def gZ(a)(ds):fg (! !(.own 7<|.dct a ds))=.ok %[a|ds]:=rfl
@[simp]def re(i)(a b)(sd):XE i a b sd=(b sd).bind λv=>(fg sd[i]?).bind λo=>(a sd).bind λk=>(Res.ofO<|Qw k).bind λq=>if ⇑o.1<00 then .ok (.next<|sd.set i<|!(.own 7<|.dct (KN o.1 q)<|Um o.1 o.2 q v))else .no:=by ext XE;cases(b _)with
|ok v=>cases(sd[i]?)with|none=>rfl|some o=>cases(o)with|none=>rfl|some w=>cases(w)with|val d=>rfl|own p d=>cases(p)with|true=>cases d<;>rfl|false=>cases d with
 |dct e ds=>cases(a _)with|ok k=>show(match Qw k with|some q=>_|none=>_)=(Res.ofO _).bind _;cases(Qw k)<;>rfl|ex c fs=>rfl|no=>rfl
 |_=>rfl
|ex c fs=>rfl|no=>rfl
noncomputable def yC:Out->Res D|.ret d=>.ok d|.next _=>.ok .non|_=>.no
@[simp]def fk(d):yC (.ret d)=.ok d:=rfl
@[simp]def zyJ(sd:SD):yC (.next sd)=.ok .non:=rfl
def Ma(n ar)(g)(ds)(h:⇑ds=ar):jD n ar g ds=(g<|Qr n ds).bind yC:=by ext jD;rw[Zd h,];rfl
def za:Out->Res D|.ret d=>.ok d|_=>.no
@[simp]def fm(d):za (.ret d)=.ok d:=rfl
def Mb(n ar)(g)(ds)(h:⇑ds=ar):qd n ar g ds=(g<|Qr n ds).bind za:=by ext qd;rw[Zd h,];rfl
@[simp]def sE(n)(g)(a):jD n 1 g [a]=(g<|~~~a::List.replicate (n-1) 8).bind yC:=Ma n 1 g _ 9
@[simp]def sD(n)(g)(a b):jD n 2 g [a,b]=(g<|~~~a::~~~b::List.replicate (n-2) 8).bind yC:=rfl
@[simp]def sC(n)(g)(a b c):jD n 03 g [a,b,c]=(g<|~~~a::~~~b::~~~c::List.replicate (n-03) 8).bind yC:=rfl
@[simp]def sB(n:5)(g:FS)(a b c d:D):jD n 04 g [a,b,c,d]=(g<|~~~a::~~~b::~~~c::~~~d::List.replicate (n-04) 8).bind yC:=Ma n 04 g _ 9
@[simp]def sA(n)(g)(a):qd n 1 g [a]=(g<|~~~a::List.replicate (n-1) 8).bind za:=Mb n 1 g _ 9
@[simp]def s0(n)(g)(a b):qd n 2 g [a,b]=(g<|~~~a::~~~b::List.replicate (n-2) 8).bind za:=rfl
@[simp]def sx(n)(g)(a b c):qd n 03 g [a,b,c]=(g<|~~~a::~~~b::~~~c::List.replicate (n-03) 8).bind za:=rfl
@[simp]def sw(n:5)(g:FS)(a b c d:D):qd n 04 g [a,b,c,d]=(g<|~~~a::~~~b::~~~c::~~~d::List.replicate (n-04) 8).bind za:=Mb n 04 g _ 9
@[simp]def bi(i j):j5 (.int i) (.int j)=!(.int<|i+j):=rfl
@[simp]def hO(i j):zJ (.int i) (.int j)=!(.int<|i-j):=rfl
@[simp]def hW(i):xP (.int i)=!(.int<|-i):=rfl
@[simp]def nM(i j):uX (.int i) (.int j)=!(.bl<|decide<|i<j):=rfl
@[simp]def nN(i j:3):zf (.int i) (.int j)=!(.bl<|decide<|i<=j):=rfl
@[simp]def nS(i j):u5 (.int i) (.int j)=!(.bl<|decide<|j<i):=rfl
@[simp]def nT(i j):bg (.int i) (.int j)=!(.bl<|decide<|j<=i):=rfl
@[simp]def bh(i j):x6 (.int i) (.int j)=!(.bl<|decide<|i=j):=lV i j
@[simp]def hX(i j):xV (.int i) (.int j)=!(.bl<|not<|decide<|i=j):=lL i j
def AQ(h:Uk i j=6):yd (.int i) (.int j)=!(.int<|i*j):=by show(if Uk i j then _ else _)=_;ext
def C7(a:-18446744073709551616<j)(b:j<18446744073709551616):Uk i j=6:=by ext Uk;rw[U4,U4,UL,UL];lia
def nE(a:-18446744073709551616<i)(b:i<18446744073709551616):Uk i j=6:=by ext Uk;rw[U4,U4,UL,UL];lia
@[simp]def Fx(h:0<j):qa (.int i) (.int j)=!(.int<|i%j):=by show(if UK 0 _ then _ else _)=_;rw[Zd (by rw[UL,];lia),]
@[simp]def Mc(h:0<j)(a:j<1073741824):QQ (.int i) (.int j)=!(.int<|i/j):=by show(if UK 0 _&&UK _ _ then _ else _)=_;rw[Zd (by rw[Uc,UL,UL];lia),]
@[simp]def Fy(ds):jE [.lst ds]=! .int ⇑ds:=rfl
@[simp]def hY(a):jE [.scr a]=! .int ⇑a:=rfl
@[simp]def zy4(i j):XC [.int i,.int j]=!(.int<|if j>i then j else i):=rfl
@[simp]def z0c(i j):C0 [.int i,.int j]=!(.int<|if j<i then j else i):=rfl
@[simp]def zzs(ds):Kf [.lst ds]=! .lst ds:=rfl
@[simp]def zxP(ds):W9 [.lst ds]=! .tup ds:=rfl
@[simp]def nP(ds)(k):jY (.lst ds) (.int k)=qO ds k:=rfl
@[simp]def nO(a)(k):jY (.scr a) (.int k)=(qO a k).map .int:=rfl
@[simp]def nQ(a)(ds)(k):jY (.dct a ds) (.int k)=jH a ds (.inl k):=rfl
@[simp]def nR(a)(b)(ds)(k):xQ a (.int k) (.dct b ds)=!(.bl<|if a then not<|(jH b ds<|.inl k).isSome else(jH b ds<|.inl k).isSome):=rfl
@[simp]def zyD(k):Qw (.int k)=! .inl k:=rfl
@[simp]def Fz(h:⇑r<=100)(o:jF r):WZ [jA r]=! zz r:=by show(W8 _).bind _=_;rw[L8,];show(if ⇑r<=100 then !_ else 8)=_;rw[Zd h,oV o]
def zmS(h:a ≠[]):AJ [.lst (a.map .int)]=!(.int<|xx a):=by simp_all[AJ,Fn]
def zmQ(h:a ≠[]):AK [.lst (a.map .int)]=!(.int<|yp a):=by simp_all[AK,Fn]
theorem C8:∀{r:J0},jF r->∀t:3,jH (r.map λp=>.inl p.1) (r.map λp=>.int p.2) (.inl t)=(JE r t).map .int
|[],_,t=>9|p::r,o,t=>by
 let a:jF r:=by simp_all[jF]
 let n:p.1∉r.map (·.1):=by simp_all[jF]
 rw[Zl,Zl,Fc,Cj];cases h:p.1=t;.induction q:JE r t with|none=>ext|some w=>rw[Zn (Ja.mpr (_,Q0 q,h.symm)) n]
 .rw[Ze λz=>h<|by injection z,C8 a];grind
def F6:D->Res (List jI×YC)|.dct a ds=>.ok %[a|ds]|_=>.no
@[simp]def zzO(a)(ds):F6 (.dct a ds)=.ok %[a|ds]:=rfl
@[simp]def nZ(a b fx)(sd):Z5 a b fx sd=(a sd).bind λd=>(F6 d).bind λo=>(b sd).bind λk=>(fx sd).bind λx=>.ofO<|(Qw k).map λq=>(jH o.1 o.2 q).getD x:=by ext Z5;cases(a _)with|ok d=>cases d<;>rfl|ex c fs=>rfl|no=>rfl
def eM(r:J0)(t):yH (.inl t) (r.map λp=>.inl p.1)=r.any λp=>decide<|p.1=t:=by grind[yH,List.any_map]
def pR(r)(t w):D.dct (KN (r.map λp=>.inl p.1)<|.inl t) (Um (r.map λp=>.inl p.1) (r.map λp=>.int p.2) (.inl t)<|.int w)=zz (qP r t w):=by
 ext KN Um zz qP;rw[eM,];let a:∀r:List _,wv (r.map λp=>.inl p.1) (r.map λp=>.int p.2) (.inl t) (.int w)=(r.map λp=>if p.1=t then%[p.1|w]else p).map λp=>D.int p.2:=by intro r;cases(r)with|nil=>rfl|cons p r b=>
  rw[Zl,Zl,Zl,Zl,LC,b];cases h:p.1=t;.rw[Zd (by rw[h,]),Zd h]
  .rw[Ze λz=>h<|by injection z,Ze h]
 let c:∀r:List _,(r.map λp=>if p.1=t then%[p.1|w]else p).map (λp=>(Ut p.1:jI))=r.map λp=>.inl p.1:=by
  intro r;rw[Zw,];congr 1;funext p;show Ut (if p.1=t then%[p.1|w]else p).1=_;cases h:p.1=t;.rw[Zd h,]
  .rw[Ze h,]
 cases q:r.any λp=>decide<|p.1=t=6;.rw[Zd q,Zd q,Zd q,a,c]
 .rw[Ze q,Ze q,Ze q,Ud,Ud];rfl
def zgI(h:r ≠[])(a:⇑r<1000):LR (zz r)=!(.lst<|(Ql qu r).map xB):=by show(AN _ _).bind _=_;simp_all[zk0]
@[simp]def z0G(ds):XF (.lst ds)=!ds:=rfl
@[simp]def zz5(ds):XF (.tup ds)=!ds:=rfl
def KO:YC->Res YC|[.int j]=>if AM j then .ok (Qm 0 j.toNat)else .no|_=>.no
@[simp]def tL(a)(sd):zx a sd=(a sd).bind KO:=by rfl
def WB(a:-1000000000<=j)(b:j<=1000000000):KO [.int j]=.ok (Qm 0 j.toNat):=Zd<|by ext AM;rw[Uc,Nat.ble_eq,Nat.ble_eq];lia
def C9{lo:3}{n i:5} (h:(Qm lo n)[i]?=!x):x=.int (lo+i)/\i<n:=by grind[Qm,List.getElem?_map,List.length_range]
def Wo(lo)(n):⇑(Qm lo n)=n:=by ext Qm;simp
def xb(a:Tg)(b:FS)(ds:YC)(sd:SD):Res Out:=zg (λx sd=>(JX a x sd).bind b) ds sd
@[simp]def tM(a)(c)(b)(sd):jP a c b sd=(a sd).bind λds=>xb c b ds sd:=rfl
@[simp]def bq(a:Tg)(b:FS)(sd:SD):xb a b [] sd=.ok (.next sd):=rfl
@[simp]def iJ(i)(d)(sd):JX (.one i) d sd=.ok (sd.set i<|~~~d):=rfl
@[simp]def z0Z(i j)(a b)(sd):JX (.tup [i,j]) (.tup [a,b]) sd=.ok ((sd.set i<|~~~a).set j<|~~~b):=rfl
@[simp]def zxR(i j)(p)(sd):JX (.tup [i,j]) (xB p) sd=.ok ((sd.set i<|~~~.int p.1).set j<|~~~.int p.2):=rfl
def Ko{b:FS} (P:5->SD->4)(m:P 0 sd)(f:∀i(x:D)sd,ds[i]?=!x->P i sd->∃a,(JX tg x sd).bind b=.ok (.next a)/\P (i+1) a):∃a,xb tg b ds sd=.ok (.next a)/\P ⇑ds a:=by
 let g:∀k i sd,⇑ds-i=k->i<=⇑ds->P i sd->∃a,xb tg b (ds.drop i) sd=.ok (.next a)/\P ⇑ds a:=by intro k;cases(k)with
|zero=>
intro i sd e h p;let:i=⇑ds:=()
ext|succ k j=>
intro i sd e h p;let c:i<⇑ds:=()
rw[Uq c,];let(_,n,l):=f i ds[i] _ () p;let(_,o,q):=j _ _ () c l
simp_all[xb,zg]
 grind
def CA{b:FS} (R:Res Out->4)(P:5->SD->4)(n:P 0 sd)(o:∀sd,P ⇑ds sd->R (.ok<|.next sd))(j:∀i x sd,ds[i]?=!x->P i sd->(∃a,((JX f x sd).bind b=.ok (.next a)\/(JX f x sd).bind b=.ok (.cont a))/\P (i+1) a)\/(∃a,(JX f x sd).bind b=.ok (.brk a)/\R (.ok<|.next a))\/∃d,(JX f x sd).bind b=.ok (.ret d)/\R (.ok<|.ret d)):R (xb f b ds sd):=by
 let l:∀k i sd,⇑ds-i=k->i<=⇑ds->P i sd->R (xb f b (ds.drop i) sd):=by intro k;cases(k)with
|zero=>
intro i sd e m p;let:i=⇑ds:=()
ext|succ k h=>
  intro i sd e m p;let c:i<⇑ds:=();rw[Uq c,];ext xb zg;obtain⟨a,h1|h1,g⟩|⟨a,h1,g⟩|⟨d,h1,g⟩:=j i ds[i] _ () p;.rw[h1,];rw[h _ _ () c g]
  .rw[h1,];rw[h _ _ () c g]
  .rwa[h1,]
  .rwa[h1,]
 grind
def Md{α β γ:Type}{f:α->Res β}{k:γ->α}{g:γ->β}{a:List γ}(h:∀x∈a,f (k x)=.ok (g x)):yF f (a.map k)=.ok (a.map g):=by cases(a)with|nil=>rfl|cons x a b=>simp_all[yF]
def jQ(a:Tg)(f:FE)(c:SD)(ds:YC):Res YC:=yF (λx=>(JX a x c).bind f) ds
@[simp]def rf(cap)(b)(a)(f)(sd):Qc cap b a f sd=(b sd).bind λds=>if Wl (q9 cap sd) a=6/\⇑ds<00 then(jQ a f (q9 cap sd) ds).bind λc=>.ok<|.lst c else .no:=rfl
noncomputable def m8:02 (02 SV)->02 SV|some (~~~d)=>~~~d|_=>8
@[simp]def m7(d):m8 (!~~~d)= ~~~d:=rfl
@[simp]def m9(sd):q9 [] sd=[]:=rfl
@[simp]def tT(cap)(sd):q9 (8::cap) sd=8::q9 cap sd:=rfl
@[simp]def tS(j)(cap)(sd):q9 (some j::cap) sd=m8 sd[j]?::q9 cap sd:=rfl
@[simp]def zxS(sd)(i):Wl sd (.one i)=W7 sd i:=rfl
@[simp]def zxV(sd)(a):Wl sd (.tup a)=a.all (W7 sd):=rfl
@[simp]def fD(sd:SD):W7 (8::sd) 0=6:=rfl
@[simp]def fB(o)(sd:SD)(i):W7 (o::sd) (i+1)=W7 sd i:=rfl
def Q9{α:Type} {f:FE} {k:α->D}{g:α->D}{xs:List α}(h:∀x∈xs,(JX a (k x) c).bind f=.ok (g x)):jQ a f c (xs.map k)=.ok (xs.map g):=Md h
def Z8{f:FE} {lo:3}{n:5} (h:∀i,i<n->(JX a (.int<|lo+i) c).bind f=.ok (g i)):jQ a f c (Qm lo n)=.ok ((List.range n).map g):=Md ()
@[simp]def zyv(cap)(b)(a)(c)(f)(sd):WA cap b a c f sd=(b sd).bind λds=>if Wl (q9 cap sd) a=6/\⇑ds<00 then(V8 a c f (q9 cap sd) ds).bind λe=>.ok<|.lst e else .no:=rfl
def CB{α:Type} {k:α->D}{s:α->SD}{p:α->Bool}{g:α->D}{a:List α}(e:∀x∈a,JX b (k x) sd=.ok (s x))(h:∀x∈a,c (s x)=.ok (p x))(i:∀x∈a,p x=6->f (s x)=.ok (g x)):V8 b c f sd (a.map k)=.ok ((a.filter p).map g):=by cases(a)with|nil=>rfl|cons x a j=>grind[V8,List.map_cons,List.filter_cons,Res.bind_ok]
def JT(h:n<=1000):n<00:=Ip h
noncomputable def QU{α:Type}(a:List α)(lo b c:02 3):List α:=(sliceRange (sliceBounds lo b c ⇑a).1 (sliceBounds lo b c ⇑a).2.1 (sliceBounds lo b c ⇑a).2.2).filterMap (a[·]?)
def Me(a)(lo b c):slicePick a.toArray lo b c=(QU a lo b c).toArray:=by simp_all[slicePick,QU]
def Mf(f:α->β)(a)(lo b c):QU (a.map f) lo b c=(QU a lo b c).map f:=by grind[QU,Zql,List.filterMap_cons,List.getElem?_map]
def aI(a:List α)(lo b c):⇑(QU a lo b c)<=⇑a:=by let h:=slicePick_size_le (a.map λb=>Value.none).toArray lo b c;simp_all[Me,Mf]
section
variable {E:XK} {a b o i e f tg:Expr}{fa fb fo fi fv fe:FE} {lo hi st:02 Expr}
abbrev FO:=SD->Res (02 3)
def tDO(K:f')(E:XK)(f:FO):TO:=λZ H Q=>∃B F sd,023/\(f sd).need (λo=>∀g c,Ext F H g c->Q o c) (XW K E F H)
@[simp]def KP:FO:=λb=>.ok 8
def V9(f:FE):FO:=λsd=>(f sd).bind λd=>match d with|.int i=>.ok !i|_=>.no
abbrev QO(X:Cx)(E:XK)(e:02 Expr)(f:FO):4:=PO X e<|tDO X.K E f
def PO.weak{e:02 Expr} (h:PO X e t)(w:∀Z H Q,c Z H Q->t Z H Q):PO X e c:=λY s Z H Q I q=>h _ s _ H Q I<|w _ _ _ q
def Wp:QO X E 8 KP:=PO.weak (λY s Z H Q I h=>Zb (_,H,I,.none,h)) λZ H Q=>qx λB F sd=>j4 λr n=>n F H<|.refl r.ext.fh
def XH(h:QE X E e fe):QO X E (!e) (V9 fe):=PO.weak (Ss h) λZ H Q g=>by let(B F sd,r,n):=g;rw[je B F _ (r,(Res.need_bind n).mono (λd c v m p j l=>?_) 005)];cases d with|int i=>rw[(i,jc.mp l,c _ _ j)]|_=>rw[c.elim]
def sG(K:f'):V->02 3->02 3->02 3->Hp->VK->4:=λx lo hi st H Q=>∃a c,x=022/\qR K H a c/\st≠!0/\∀p,H p=8->Q (.ref p) (upd H p<|.lst<|QU c lo hi st)
def rO(r:V->02 3->02 3->02 3->Hp->VK->4)(g:TE)(h th j:TO):TE:=λZ H Q=>g Z H λx m=>h Z m λl n=>th Z n λu p=>j Z p λc q=>r x l u c q Q
def o9(C:PE X e F)(G:PO X lo J)(n:PO X hi th)(L:PO X st M):PE X (.Subscript e (.Slice lo hi st p2) N) (rO (sG X.K) F J th M):=by
 intro Y s Z H Q I h;rw[Subscript_<|jG (C _ s _ H _ I h) λv s1=>j3 λx H1=>j7 λO P R=>wpAny_Slice<|jG (G _ _ _ _ _ O R) λw s2=>j3 λl H2=>j7 λS T U=>jG (n _ _ _ _ _ S U) λy s3=>j3 λu H3=>j7 λI3 pu q3=>jG (L _ _ _ _ _ I3 q3) λz g=>j3 λc H4=>j7 λI4 ps q4=>?_];let(a xs,rfl,m,h0,q):=q4;obtain rfl:=P;let p:Inv X _ _ _ {g with heap:=g.heap.push {cls:=.type "slice",data:=.fields #[w,y,z]}}:=I4.kept λb ob q=>Zq _ q;let(-its,r,t,hz):=p.list m;let A:=⇑r;suffices j:YE X (getItem 022<|.ref g⁻¹) (EP X Y Z Q) X.xe {g with heap:=g.heap.push {cls:=.type "slice",data:=.fields #[w,y,z]}}by cases(st)with|none=>rw[tail_any t.isList.typeIs slot_list_getitem.lookup j<|by rfl]|some c=>rw[tail_any t.isList.typeIs slot_list_getitem.lookup j<|by rfl]
 rw[wpAny_getItem_list_slice t.isList (Heap.IsSliceOf.new ..) T pu ps h0 ?_ ()];rw[Me,];rw[(.ref _,_,p.laid (o:=.lst _) (λb ob q=>Zq _ q) (Zf _) (Zh (aI _ l u c) hz,_,0,by
ext QU;rw[⇑r,];generalize sliceRange _ _ _=B
cases(B)with|nil=>rw[.nil]|cons i B ih=>
rw[Vs,Vs]
induction m:xs[i]? with|none=>rwa[r.none_of m,]|some x=>let(-u,n,ru):=r.get m;rw[n,];rw[.cons ru ih],Zr _ 9),9,q _<|p.hok.fresh<|Zf _)]
def nL:D->02 3->02 3->02 3->YD|.lst ds,lo,hi,st=>if st=!0 then 8 else !(.lst<|QU ds lo hi st)|.scr c,lo,hi,st=>if st=!0 then 8 else !(.lst<|(QU c lo hi st).map .int)|_,_,_,_=>8
@[simp]def kb(fe:FE)(g j fs:FO):FE:=λsd=>(fe sd).bind λd=>(g sd).bind λl=>(j sd).bind λh=>(fs sd).bind λc=>.ofO<|nL d l h c
def AR(M:QE X E e fe)(N:QO X E lo O)(A:QO X E hi P)(R:QO X E st fs):QN X E (.Subscript e (.Slice lo hi st p2) S) (kb fe O P fs):=PE.weak (o9 M N A R) λZ H Q T=>by let(B F sd,r,n):=T;rw[je B F _ (r,(Res.need_bind n).mono (λd U v F1 H1 m J=>je B _ _ (r.step m,(Res.need_bind U).mono (λl Y F2 H2 t=>je B _ _ ((r.step m).step t,(Res.need_bind Y).mono (λh n3 F3 H3 C=>je B _ _ (((r.step m).step t).step C,(Res.need_bind n3).mono (λc n4 F4 H4 w=>?_) λ_ _ q=>q.ext<|(m.trans t).trans C)) λ_ _ q=>q.ext<|m.trans t)) λ_ _ q=>q.ext m)) 005)];let(z,j,q):=jd n4;let g:=(t.trans C).trans w;let y:=m.trans g;cases d with
|lst ds=>
let j:(if c=!0 then 8 else !_)=!z:=j
split at j
.rw[J6 j]
.rename_i G;obtain rfl:=Zqi j;let(a xs,rfl,I,h2):=J;rw[(a,_,9,((I.same g.ff).same g.fh).sq,G,λp s=>q p _ _ (y.trans<|.keep w.fh s _) (Qe y.hh s) (Qe w.fh s) (_,JI,by
let r:=IsDs.same g.ff _ _ h2;ext QU;rw[⇑r,];generalize sliceRange _ _ _=L
cases(L)with|nil=>rfl|cons i L ih=>
rw[Vs,Vs]
induction hx:ds[i]? with
|none=>
let hn:xs[i]?=8:=List.getElem?_eq_none_iff.mpr<|by rw[⇑r,];ext
rwa[hn,]|some x=>let(-u,A,ru):=r.get hx;rw[A,];rw[.mk ru ih]))]|scr ns=>
let j:(if c=!0 then 8 else !_)=!z:=j
split at j
.rw[J6 j]
.rename_i G;obtain rfl:=Zqi j;let(a,rfl,I):=J;rw[(a,_,9,jk.seq g.fh<|jk.seq g.ff I,G,λp s=>q p _ _ (y.trans<|.keep w.fh s _) (Qe y.hh s) (Qe w.fh s) (_,JI,?_))];rw[Mf,];rw[qA _]|_=>rw[J6 j]
noncomputable def Mg:D->Res (02 3)|.int i=>.ok !i|_=>.no
@[simp]def zxQ(i):Mg (.int i)=.ok !i:=rfl
@[simp]def nW(f)(sd):V9 f sd=(f sd).bind Mg:=by rfl
@[simp]def hQ(ds)(lo hi):nL (.lst ds) lo hi 8=!(.lst<|QU ds lo hi 8):=rfl
def pP{lo hi:02 3} (h:c≠0):nL (.scr ds) lo hi (!c)=!(.lst<|(QU ds lo hi<|!c).map .int):=Ze λz=>h<|Zqi z
@[simp]def ml(i)(fb)(sd):XG i fb sd=(uP sd[i]?).bind λd=>(fb sd).bind λy=>.ofO<|jY d y:=by ext XG;cases(sd[i]?)with|none=>rfl|some o=>cases(o)with|none=>rfl|some v=>cases(v)<;>rfl
@[simp]def ba(c:Bool):qW c .non=!(.bl<|not c):=rfl
@[simp]def bd(c:Bool)(i:3):qW c (.int i)=! .bl c:=rfl
@[simp]def bb(c:Bool)(i:YC):qW c (.lst i)=! .bl c:=rfl
@[simp]def hZ(c:Bool)(i:YC):qW c (.tup i)=! .bl c:=rfl
def ZD:YC->YD|[.lst ds]=>(Q6 W8 ds).bind λc=>if(∀r∈c,r ≠[])/\⇑c<1000 then !(.lst<|(Ql jL c).map jA)else 8|_=>8
def o3(u:X.A.units+64<cLine):qc X (.builtin "sorted") (wZ X.K ZD):=qc.weak (TR u) λG H Q w=>by
 let(F ds z,g,id,c,q):=w;unfold ZD at c;split at c
 .let(-y,A,c):=Je.mp c;split at c;.rename_i p;obtain rfl:=Zqi c;let(-v,rfl,h):=Q1 id;rw[EZ A,jq]at h;let(a,I,rfl,B,r):=h;rw[je a _ _ (9,B.same g,vr.mp<|IsDs.same g _ _ r,p.1,p.2,λl s j m t=>q l F _ (.keep g j _) j (Qe g j) (_,JI,?_))];rw[<-t,Zw];clear t;cases(s)with|nil=>rw[.nil]|cons i s J=>rw[Zl,Zl];let hi:=m i Zqs;let(-x,C,n):=r.get (d:=jA<|y.getD i []) (by rw[Zv,Zqg,Qv (Zqg hi)];rfl);rw[Qv C,];rw[.mk n ()]
  .rw[J6 c]
 ext
end
end L2.DL
namespace L2
def iX(j:X.calm=6):qc X (.builtin "sum") λg H Q=>∃(a:Addr)(c:Yf),g=[022]/\qR X.K H a (c.map V.int)/\Q (.int c.sum) H:=by
 intro Y s Z H g x Q I r h;let(a c,rfl,l,q):=h;let(-u,rfl,m):=Qu r;obtain rfl:=m;let(-n,o,p,y):=I.list l;let i:=Ex o;let(t,e):=i.allInts.items;let f:c=t.toList.map (·.1):=by rw[<-i.numsOf,<-nums_intItems,<-e]
 let b:=p.isList;rw[e]at b;rw[sum_intListG (I.ok.hd j) b λz A v w=>(.int _,H,I.kept w,(v,?_),q)];rw[preSum_eq,UG (),<-f]
def aP{bs:List Bool} (r:j6 (bs.map V.bl) a)(i:5)(v:Value)(h:a.toArray[i]?=!v):v=.bool (bs.getD i 7):=by
 let b:a[i]?=!v:=by ext
 let j:=(Jd.mp b).1;let e:=⇑r;rw[Zql]at e;let f:bs[i]?=!bs[i]:=by simp
 let(-u,c,g):=r.get (i:=i) (x:=.bl bs[i]) ();rw[b]at c;obtain rfl:=Zqi c;rw[g,Ui,f];rfl
def o2(bs:List Bool):(List.range ⇑bs).all (λi=>bs.getD i 7)=bs.all id:=by
 apply Vb.mpr;rw[Uw,Uw];constructor;.intro h b c;let(i,a,rfl):=UM c;let:=h i<|Ji.mpr a;rwa[Ui,Zqg]at this
 .intro h i a;let a:=Ji.mp a;rw[Ui,Zqg a];rw[h _<|Uv a]
def iZ(l:X.calm=6):qc X (.builtin "all") λg H Q=>∃(a:Addr)(bs:List Bool),g=[022]/\qR X.K H a (bs.map V.bl)/\Q (.bl<|bs.all id) H:=by
 intro Y s Z H g C Q I r h;let(a bs,rfl,m,q):=h;let(-u,rfl,n):=Qu r;obtain rfl:=n;let(-t,j,p,E):=I.list m;let f:a<s⁻¹:=by let(-_,e,_):=p.isList;rw[Zk e]
 let c:=⇑j;rw[Zql]at c;rw[call_all_walk<|wpAny_pyIter_list p.isList<|wc _ _ _ _ _ _ (λi=>bs.getD i 7) (9,Walks.list (A:=X.A.in1) (I.ok.hd l) _ a (Zi f) _,((_,Zr _ 9,9,9),p.isList.push _),?_,λF G w=>?_)];.intro i v J L M x y;let z:=aP j i v x;subst z;rw[wpAny_of_eq 9 y]
 .rw[Zm,<-c,o2];rw[(.bl _,H,I.kept λb o e=>w b o ?_<|Zq _ e,9,q)];intro B;rw[Jb.mp B]at e;rw[Zy _<|Zk e]
end L2
namespace L2.DL
def ke:D->02 Bool|.bl i=>!i|_=>8
def aR(h:ke d=!i):d=.bl i:=by cases d with|bl j=>cases h;rfl|_=>rw[J6 h]
theorem xF{K:f'} :∀{bs:List Bool}{c:YB},IsDs K H (bs.map D.bl) c->c=bs.map V.bl|[],_,h=>IsDs.nil_iff.mp h|b::bs,_,h=>by let(x r,rfl,e,f):=h;rw[jo.mp e,xF f];rfl
def CC:D->02 (List Bool)|.lst ds=>Q6 ke ds|_=>8
def eC{K:f'} (h:CC d=!c)(i:IsD K H d v):∃a,v=022/\xA K H a (c.map V.bl):=by cases d with
|lst ds=>
let(a f,rfl,e,b):=i;rw[AG (λb b=>aR) h]at b;rw[xF b]at e
ext|_=>rw[J6 h]
def i7(a:List Bool):CC (.lst<|a.map D.bl)=!a:=by let h:=YX (f:=ke) (g:=D.bl) (λb=>9) a;rwa[List.map_id']at h
def zI:YC->YD|[d]=>(Z1 d).bind λa=>! .int a.sum|_=>8
def wn:YC->YD|[d]=>(CC d).bind λa=>!(.bl<|a.all id)|_=>8
def Mh(e:X.calm=6):qc X (.builtin "sum") (wa X.K zI):=qc.weak (iX e) λj H Q f=>by
 let(F ds z,c,id,b,q):=f;unfold zI at b;split at b;.let(-l,g,b):=Je.mp b;obtain rfl:=Zqi b;let(-v,rfl,h):=Q1 id;let(-a,rfl,i):=Fm g h;rw[(a,_,9,(i.same c).sq,q _ F H (.refl c)<|zd _ F)]
 ext
def F7(e:X.calm=6):qc X (.builtin "all") (wa X.K wn):=qc.weak (iZ e) λj H Q f=>by
 let(F ds z,c,id,b,q):=f;unfold wn at b;split at b;.let(-l,g,b):=Je.mp b;obtain rfl:=Zqi b;let(-v,rfl,h):=Q1 id;let(-a,rfl,i):=eC g h;rw[(a,_,9,(i.same c).sq,q _ F H (.refl c)<|zH _ F)]
 ext
@[simp]def z0z(a:Yf):zI [.lst (a.map .int)]=! .int a.sum:=by show(Z1 _).bind _=_;rw[Fn,];rfl
def F8(a:List Bool):wn [.lst (a.map .bl)]=!(.bl<|a.all id):=by show(CC _).bind _=_;rw[i7,];rfl
end L2.DL
namespace L2
def F9:bootBuiltins "all"=! .builtin "all":=boot_all
end L2
namespace L2.DL
end L2.DL
namespace L2
section
variable {X:Cx}{Y:Yb}{Z: St}{H:Hp}
def Inv.turnedL{ch:Yj}(I:003)(k:∀b o,b∉ch->019->j.get? b=!o)(i:∀b∈ch,xr X Y H b):Inv X Y Z H {s with heap:=j,toks:=t'}:=by
 let l:∀b u,H b=!u->b∉ch:=λb u e z=>by rw[(i b z).1]at e;rw[J6 e]
 rw[I.step (λb p=>?_) (λb o d d f e d=>k b o f e) (λb o d d f e d=>(_,k b o f e)) (λb b b b n=>n) (λb o f e=>(o,k b o f e)) (λb b e=>e) (λb b b e=>e) (λb J e=>(#[],by rw[e,];simp)) (λm x=>?_) (λb u e=>?_) I.bare];.let(!_,y,_,B,E,F):=i b p;rw[(B,y,E,F)]
 .let(o,L,O,G,r):=x;rw[je o _ _ (k _ o (λz=>(i _ z).2.1 9) G,r)]
 .rw[(I.hok b u e).stay (λc v f q=>k c v ?_ q) (λb q=>q) 005];grind
theorem xr.upd{b T:Addr}{o:HO}(h:xr X Y H b)(n:b≠T):xr X Y (upd H T o) b:=((JC n).trans h.1,h.2)
def Inv.paired{ch:Yj} (I:003)(f:jz x u)(i:jz y v)(j:∀b∈ch,xr X Y H b)(l:∀b∈ch,b≠s⁻¹)(p:h'.get? s⁻¹=!{cls:=.type "tuple",data:=.seq #[u,v]})(k:∀b o,b∉ch->019->h'.get? b=!o):Inv X Y Z (upd H s⁻¹<|.tup [x,y]) {s with heap:=h',toks:=t'}:=by let n:Inv X _ _ (upd H _<|.tup _) {s with heap:=s.heap.push {cls:=.type _,data:=.seq _},toks:=s.toks}:=I.laid (λb o e=>Zq _ e) (Zf _) ((by simp only[sizeLine_eq,Zu,ZC];lia,_,Zr _ 9,9),_,.cons f<|.cons i .nil,_,Zr _ 9,9,_,9);rw[Inv.turnedL (s:={s with heap:=s.heap.push _,toks:=s.toks}) n (λb o c e=>?_) λb c=>(j b c).upd<|l b c];grind[Heap.get?_push_cases]
end
def FB{h:Heap} (p:h.IsList a f)(e:h.get? c=!o)(n:o.cls ≠ 017):a≠c:=λq=>by subst q;let(-i,b,g,_):=p;rw[e]at b;obtain rfl:=Zqi b;rw[n g]
def cr(K:f')(n:5)(a:Addr):It:=(λi H=>∃b x,qR K H a b/\b[i]?=!x,λi H v c=>∃T x,v=.ref T/\H T=8/\c=upd H T (.tup [.int ((i+n:5):3),x])/\∀b,qR K H a b->b[i]?=!x,λi H=>∃b,qR K H a b/\⇑b<=i)
def cv(n:5)(e c a:Addr)(i:5)(h:Heap):4:=(∃b,IsEnum h e c ((i+n:5):3) b)/\h.IsListIter c a i
def cz(t:A.handled=8)(l a:Addr)(c:Yk)(n:5):Draws prog w A l [l,a] (c.size+n) (λj x=>c[j-n]?=!x) λj h=>∃i,j=i+n/\h.IsListIter l a i/\h.IsList a c/\l≠a where
 live:=λj h z9=>by let(-i,_,(o,e,_),_):=z9;rw[(o,e)]
 frame:=λj h u=>yo λi=>qT λe f b g=>λm=> (i,e,f.at λo q=>m _ () o q,qk b λo=>j4 λe r=>(o,m a () o e,r),g)
 item:=λj s Q E B=>yo λi=>qT λe f b g=>λv=> by subst e;rw[wpAny_nextOf_list_item f b (x:=c[i]) () λu y p=>v _ _ _ () (_,(),y,qk b λo=>j4 λe r=>(o,(p.2 a g.symm).trans e,r),g) p]
 done:=λs Q E z9 hE=>by let(-i,e,f,b,g):=z9;let z:i=c.size:=();rw[wpAny_nextOf_list_end t f b (by simp[z]) hE]
def z0B(p:A.handled=8)(b a:Addr)(l:Yk)(n:5) (c:l.size<=i):Draws prog w A b [b,a] (i+n) (λb b=>True) λj h=>j=i+n/\h.IsListIter b a i/\h.IsList a l where
 live:=λj h z9=>by let(!_,(o,e,_),_):=z9;rw[(o,e)]
 frame:=λj h t=>j7 λe f g=>λm=> (e,f.at λo q=>m _ () o q,qk g λo=>j4 λe r=>(o,m a () o e,r))
 item:=λj s Q E u=>j4 λe b=>λv=> by lia
 done:=λs Q E z9 hE=>by let(!_,f,g):=z9;rw[wpAny_nextOf_list_end p f g (by simp[c]) hE]
def Mi{K:f'} (a e m:Addr)(r:e≠m):Turn P w K (.Tuple elts kx pos) (cr K n a) [e,m] e (cv n e m a)where
 mem:=by simp
 obj:=λi h f c b=>by let((g,j),(o1,L,c1,d1)):=f;grind
 keep:=λi h C f F=>(qk f.1 λg j=>(g,F e () _ j),f.2.at λo q=>F m () o q)
 item:=by
  intro X M N O b i Y s Z H E I G f Q;subst M N O;let(xs x,J,R):=Q;let(-t,S,p,hz):=I.list J;let(-u,hu,ru):=S.get R;let((g,j),l):=id f;let(-o1,L,c1,_):=id l;let T:m≠a:=(FB p.isList L λz=>Zn (c1.symm.trans z)<|004).symm;let U:e≠a:=(FB p.isList j λz=>Zn (show Value.type "enumerate"=Value.type "list"from z)<|004).symm;let hi:i<⇑t:=(Jd.mp hu).1;rw[wpAny_pyNext_enum_itemD (cz (prog:=X.prog) (w:=X.w) (A:=X.A.in1) (show X.A.in1.handled=8 from I.ok.hd b) m a t.toArray n) j (i,9,l,p.isList,T) (by simp;lia) r (by simp[r,U]) λy C tk hy a1 a2 a3 a4 F=>?_];obtain rfl:u=y:=Zqi (hu.symm.trans<|by simpa using hy);let(-i',ei,b2,_,_):=a2;obtain rfl:i'=i+1:=();rw[(_,9,wpAny_letOwnedTupleGo_enum (s:={s with heap:=C,toks:=tk+1}) a1 λh2 b1 v=>?_)];let v:Heap.SameBut e C h2:=v;let lt:∀{c o},↥s c=!o->c≠s⁻¹:=λq=>Zi<|Zk q;let B:∀c ∈[e,m],c≠s⁻¹:=λc b=>by
   simp only[UN,UY,or_false]at b;obtain rfl|rfl:=b;.rw[lt j]
   .rw[lt L]
  let hTe:s⁻¹≠e:=λq=>lt j q.symm;let I2:=I.paired (t':=tk+1) (x:=.int ((i+n:5):3)) (_,9) ru G B (v.extBut _ _ hTe a3)<|λc o b q=>by simp only[UN,UY,or_false,not_or]at b;rw[v.extBut c o b.1<|F c o b.1 b.2 q]
  rw[(.ref s⁻¹,_,I2,9,(_,x,9,I.hok.fresh<|Zf _,9,λzs hq=>by rw[I.list_inj hq J,];rw[R]),((u,?_),b2.extBut v.extBut<|Ne.symm r),λc b=>(JC<|B c b).trans (G c b).1)];rw[show((i+1+n:5):3)=((i+n:5):3)+1 by lia,];rw[b1]
 done:=by
  intro X M N O b i Y s Z H E I G f Q;subst M N O;let(xs,J,R):=Q;let(-t,S,p,hz):=I.list J;let l1:=⇑S;let(!(g,j),l):=id f;rw[wpAny_pyNext_enum_endD (z0B (prog:=X.prog) (w:=X.w) (A:=X.A.in1) (show X.A.in1.handled=8 from I.ok.hd b) _ a _ n (i:=i)<|by simp;lia) j (9,l,p.isList) λC eb=>(9,I.turnedL (t':=s.toks) (ch:=[m]) (λc o b q=>?_) λc b=>G c ?_)];.rw[eb c o λz=>b<|by simp[z] q]
  ext
 self:=λb b b b b f h=>wpAny_pyIter_enum f.1.choose_spec h
def FC(K:f')(n:5)(c:TA):TI:=λZ H R=>c Z H λe b=>∃a,e=[022]/\(∃f,qR K b a f)/\R (cr K n a) b
def l5(l:Gl X "enumerate")(m:X.mg "enumerate"=8)(n:PA X [a] o)(t:01 [a] X.env=[%[7|eval a X.env]]:=by rfl):PI X (.Tuple g E F) (.Call (.Name "enumerate" p) [a] [] u) (FC X.K 0 o):=by intro Y s Z H R I h;rw[Call_<|Xx I l m (show bootBuiltins _=! .type "enumerate"by kernel_rfl)<|PyProof.Rows.callWith_type1 (jG (n _ _ s _ H _ I h) λG v=>j3 λJ L=>j7 λf w x=>?_) t 9];let(-a,e,(M,y),q):=x;subst e;cases w with|cons r z=>
cases z;cases r;let(-A,N,p,O):=f.list y;rw[call_enumerate_list p.isList λP i B Q C=>wpAny_pyIter_enum i<|j8 _ _ _ _ _ (9,f.kept C,Mi a _ _<|Nat.succ_ne_self _,((_,i),B),λc j=>?_,q)];let b:v⁻¹<=c:=by simp at j;obtain rfl|rfl:=j<;>first|rw[Zf _]|rw[Ul _ _]
rw[f.fpOk b<|f.hok.fresh b]
end L2
namespace L2.DL
def eR{K:f'} (h:Fq d=!ds)(i:IsD K F d v):∃a b,v=022/\qR K F a b/\IsDs K F ds b:=by cases d with|lst f=>obtain rfl:=Zqi h;let(a b,rfl,c,e):=i;rw[(a,_,9,c.sq,e)]|scr g=>obtain rfl:=Zqi h;let(a,rfl,c):=i;rw[(a,_,9,c,qA _)]|_=>rw[J6 h]
noncomputable def KQ(n:5)(a:YC):YC:=List.zipWith (λ(k:5)x=>D.tup [.int ((k+n:5):3),x]) (List.range ⇑a) a
def FF(n:5):YC->Res YC|[d]=>(Res.ofO<|Fq d).bind λa=>.ok<|KQ n a|_=>.no
@[simp]def uW(n:5)(a:FA):FA:=λsd=>(a sd).bind<|FF n
@[simp]def z03(n:5)(a:YC):FF n [.lst a]=.ok (KQ n a):=rfl
def CD(n:5)(ds:YC)(i:5):(KQ n ds)[i]?=ds[i]?.map λx=>D.tup [.int ((i+n:5):3),x]:=by
 unfold KQ;rw[List.getElem?_zipWith,];by_cases h:i<⇑ds
 .rw[List.getElem?_range h,List.getElem?_eq_getElem h];rfl
 .rw[List.getElem?_eq_none (show ⇑ds≤i by lia),];cases (List.range ⇑ds)[i]?<;>rfl
def ox(n:5)(ds:YC):⇑(KQ n ds)=⇑ds:=by grind[KQ,List.length_zipWith,List.length_range,Nat.min_self]
def Mj(h:∀g,PA X [a] g->PI X w e (FC X.K n g))(y:QA X E [a] A):QI X E w e (uW n A):=PI.weak (h _ y) λZ H R C=>by
 let(B F sd,r,z):=C;rw[je B F _ (r,(Res.need_bind z).mono (λds b O P Q j G=>?_) 005)];unfold FF at b;split at b;.let(-S,c,I):=jd (Res.need_bind b);let(-v,rfl,h):=Q1 G;let(U Y,rfl,l,m):=eR c h;rw[(_,9,(_,jk.seq j.fh l),I _ _ _ j<|λi F2 H2 o p=>by
let f:=jk.seq p<|jk.seq o l;let l1:=⇑m;rw[ox,];rw[(λs=>?_,λs=>(_,f,()))];let(-x,c,J):=m.get (Zqg s);rw[((_,x,f,c),λv H3 L=>?_)];let(T x',rfl,M,rfl,N):=L;let t:=N _ f;rw[c]at t;obtain rfl:=Zqi t;let u:=qB p M<|.tup [.int ((i+n:5):3),x];rw[(_,_,?_,u,js.mpr (T,_,9,.of JI,.mk (jc.mpr 9)<|.mk (IsD.same (o.trans u.ff) _ _ J) .nil))]
simp_all[CD])]
 .rw[b.elim]
def Ml(c:Gl X "enumerate")(e:X.mg "enumerate"=8)(f:QA X E [a] g)(i:01 [a] X.env=[%[7|eval a X.env]]:=by rfl):QI X E (.Tuple b l m) (.Call (.Name "enumerate" p) [a] [] j) (uW 0 g):=Mj (λb h=>l5 c e h i) f
noncomputable def wo:YC->YD|[.int i]=>!(.int<|if i<0 then-i else i)|_=>8
@[simp]def bj(i:3):wo [.int i]=!(.int<|if i<0 then-i else i):=rfl
def mE:qc X (.builtin "abs") (wa X.K wo):=qc.weak RX λe H Q b=>by
 let(F ds z,c,id,a,q):=b;unfold wo at a;split at a;.obtain rfl:=Zqi a;let(-v,rfl,h):=Q1 id;rw[(_,by rw[jc.mp h,],q _ F H (.refl c)<|zd _ F)]
 .rw[J6 a]
def z0L:bootBuiltins "abs"=! .builtin "abs":=by kernel_rfl
end L2.DL
namespace L2.ST
open PySem
noncomputable def zo:5->5->5|0,z=>z|n+1,z=>zo n (05*z+1)
def Mm(a b z):zo (a+b) z=zo b (zo a z):=by induction a generalizing z with|zero=>rw[Vj,];rfl|succ a c=>rw[Nat.succ_add,];rw[c _]
def Mn(n z d):zo n (z+d)=zo n z+05^n*d:=by induction n generalizing z d with|zero=>simp[zo]|succ n a=>
show zo n _=zo n _+05^(n+1)*d
grind
def sL(n):05^n%04=1:=by cases(n)with|zero=>rfl|succ n a=>lia
def og(k z):∃u,zo (2^k) z=z+2^k*(2*u+1):=by induction k generalizing z with|zero=>rw[(_,by show 05*z+1=z+1*(2*(2*z)+1);lia)]|succ k b=>
let(u,a):=b z;let e:2^(k+1)=2^k+2^k:=()
rw[e,Mm,a,Mn,a];let c:=sL<|2^k;let(v,hv):∃v,05^2^k=04*v+1:=(05^2^k/04,());rw[(2*u*(2*v+1)/2+v,?_)];let:2*u*(2*v+1)/2=u*(2*v+1):=018
grind
def lg(m n z):zo n z%m=zo n (z%m)%m:=by let h:=Mn n (z%m)<|m*(z/m);rw[Nat.mod_add_div]at h;rw[h,<-Nat.mul_assoc,Nat.mul_comm _ m,Nat.mul_assoc,Nat.add_mul_mod_self_left]
theorem FH:∀k x y,y<2^k->∃q,q<2^k/\zo q x%2^k=y
|0,x,y,h=>018|k+1,x,y,h=>by
 let e:2^(k+1)=2*2^k:=();let g:0<2^k:=Nat.two_pow_pos k;let(-q,p,i):=FH k x (y%2^k) (UE _ g);rw[e]at h ⊢;cases c:zo q x%(2*2^k)=y;.grind
 .rw[(q+2^k,(),?_)];rw[Mm,];let(-u,j):=og k (zo q x);rw[j,];generalize zo q x=w at*;generalize 2^k=m at*;let l:w+m*(2*u+1)=w+m+2*m*u:=018;rw[l,Nat.add_mul_mod_self_left];let n:=Nat.div_add_mod w m;let f:=UE w<|show 0<2*m from();rw[i]at n;let a:w%(2*m)%m=y%m:=by rwa[Nat.mod_mul_left_mod,]
  let a1:w%(2*m)<m\/m<=w%(2*m):=();let a2:y<m\/m<=y:=();let b:∀t,t<2*m->m<=t->t%m=t-m:=λt r o=>by rw[Nat.mod_eq_sub_mod o,UZ ()]
  rw[Nat.add_mod,UZ (show m<2*m from())];generalize w%(2*m)=t at*;obtain a1|a1:=a1<;>obtain a2|a2:=a2;.rw[UZ a1,UZ a2]at a;rw[Zn a c]
  .rw[UZ a1,b y h a2]at a;rw[UZ (),];lia
  .rw[UZ a2,b t f a1]at a;rw[Nat.mod_eq_sub_mod (),UZ ()];lia
  .rw[b t f a1,b y h a2]at a;rw[Zn () c]
def JL(t:YA):5->SetTable.Probe->SetTable.Probe|0,p=>p|n+1,p=>JL t n (t.advance p)
def AS(t)(a b)(p):JL t (a+b) p=JL t b (JL t a p):=by induction a generalizing p with|zero=>rw[Vj,];rfl|succ a c=>rw[Nat.succ_add,];rw[c _]
def zn3(t)(n)(p):JL t (n+1) p=t.advance (JL t n p):=AS t n 1 p
def Wa(a i b:5):SetTable.Probe:={j:=i,more:=SetTable.runEnd a i-i,i:=i,perturb:=b,dummy:=8}
noncomputable def qZ(a:5):5->5×5->5×5|0,s=>s|n+1,s=>qZ a n (SetTable.leap a s.1 s.2)
def lq(a i):SetTable.runEnd a i-i<=09:=by grind[SetTable.runEnd]
def Mo(t)(m):∀p,p.more=m->p.dummy=8->JL t (m+1) p=Wa t.mask (SetTable.leap t.mask p.i p.perturb).1 (SetTable.leap t.mask p.i p.perturb).2:=by cases(m)with
|zero=>
intro p a b;show t.advance p=_
simp_all[SetTable.advance,Wa]|succ m c=>
intro p a b;show JL t (m+1) _=_
simp_all[SetTable.advance]
theorem Mp(t):∀r i a,∃n,n<=10*r/\JL t n (Wa t.mask i a)=Wa t.mask (qZ t.mask r %[i|a]).1 (qZ t.mask r %[i|a]).2|0,i,a=>(0,Zf _,9)|r+1,i,a=>by let(-n,b,c):=Mp t r (SetTable.leap t.mask i a).1 (SetTable.leap t.mask i a).2;let e:=lq t.mask i;rw[(SetTable.runEnd t.mask i-i+1+n,(),?_)];rwa[AS,Mo t (SetTable.runEnd _ i-i) _ 9 9]
def Mq(c a b)(s):qZ c (a+b) s=qZ c b (qZ c a s):=by induction a generalizing s with|zero=>rw[Vj,];rfl|succ a e=>rw[Nat.succ_add,];rw[e _]
theorem FI(a):∀r s,(qZ a r s).2=s.2/32^r|0,s=>by show s.2=_;rw[Nat.pow_zero,Nat.div_one]|r+1,s=>by show(qZ _ r _).2=_;rw[FI,];show s.2/32/32^r=_;rw[Nat.div_div_eq_div_mul,Nat.pow_succ,Nat.mul_comm]
theorem FK(a):∀r i,i<a+1->qZ a r %[i|0]=%[zo r i%(a+1)|0]|0,i,h=>by show%[i|0]=%[i%(a+1)|0];rw[UZ h,]|r+1,i,h=>by show qZ _ r %[(i*05+1+0/32)%(a+1)|0/32]=%[zo r _%(a+1)|0];rw[Nat.zero_div,Nat.add_zero,FK _ r _ (UE _ ()),<-lg,Nat.mul_comm]
def Mr(a r)(s)(h:s.1<a+1):(qZ a r s).1<a+1:=by induction r generalizing s with|zero=>rw[h]|succ r b=>rw[b _<|UE _ ()]
def mx(f:t.mask+1=2^k)(h) (g:y<=t.mask):∃n,n<10*SetTable.turns t.mask/\(JL t n<|021).j=y:=by
 let a:021=Wa _ _ _:=9;let i:020<2^64:=by grind[SetTable.bits]
 let j:=Mr _ 13 %[020%(t.mask+1)|020]<|UE _ ();let l:(qZ t.mask 13 %[020%(t.mask+1)|020]).2=0:=by grind[FI]
 let(-q,m,e):=FH k (qZ t.mask 13 %[020%(t.mask+1)|020]).1 y ();let b:qZ t.mask (13+q) %[020%(t.mask+1)|020]=%[y|0]:=by rw[Mq,];grind[FK]
 let(-n,o,c):=Mp t (13+q) (020%(t.mask+1)) 020;rw[(n,by ext SetTable.turns;lia,?_)];rw[a,c,b];rfl
def Ms{t:YA} (h:p.dummy=8):(t.advance p).dummy=8:=by grind[SetTable.advance]
def zn5(h:p.dummy=8)(n):(JL t n p).dummy=8:=by induction n generalizing p with|zero=>rw[h]|succ n a=>rw[a<|Ms h]
theorem Mt:∀k fuel p,k<fuel->p.dummy=8->(∀m,m<k->∃i,t.slot (JL t m p).j=.live i)->t.slot (JL t k p).j=.empty->(∃m i,m<k/\t.slot (JL t m p).j=.live i/\hashAt i=h/\SetTable.probe.go t hashAt h fuel p=!(.candidate (JL t m p).j i<|JL t (m+1) p)/\∀a b,a<m->t.slot (JL t a p).j=.live b->hashAt b≠h)\/SetTable.probe.go t hashAt h fuel p=! .empty (JL t k p).j 8/\∀a b,a<k->t.slot (JL t a p).j=.live b->hashAt b≠h
|0,0,p,hf,_,_,_=>()|0,fuel+1,p,_,hd,_,e=>by let e:t.slot p.j=.empty:=e;rw[.inr (?_,())];ext SetTable.probe.go;rw[e,hd];rfl|k+1,0,p,hf,_,_,_=>()|k+1,fuel+1,p,hf,hd,hl,e=>by
 let(-i,f):=hl 0 (Vk _);let f:t.slot p.j=.live i:=f;cases c:hashAt i=h;.rw[.inl (0,i,Vk _,f,c,?_,())];ext SetTable.probe.go;rw[f,];show(if(hashAt i==h)=6 then _ else _)=_;rw[Zd (),];rfl
 .let l:SetTable.probe.go t hashAt h (fuel+1) p=SetTable.probe.go t hashAt h fuel (t.advance p):=by simp_all[SetTable.probe.go]
  obtain⟨m,s,o,g,q,u,r⟩|⟨o,g⟩:=Mt k fuel _ () (Ms hd) (λm n=>hl (m+1) ()) e;.rw[.inl (m+1,_,(),g,q,by rwa[l,],λa b n j=>?_)];cases(a)with|zero=>ext|succ a=>rw[r _ _ () j]
  .rw[.inr (by rwa[l,],λa b n j=>?_)];cases(a)with|zero=>ext|succ a=>rw[g _ _ () j]
open PySem
def vZ(a:Yg):4:=∀i j,i<j->j<a.size->a.getD i 0<a.getD j 0
def K5{α:Type}{a:Array α} (h)(d):a.getD i d=a[i]:=()
theorem FL(u:vZ a):∀fuel lo b,b-lo<=fuel->lo<=b->b<=a.size->(∀i,i<lo->a.getD i 0<j)->(∀i,b<=i->i<a.size->j<=a.getD i 0)->SetTable.below.go a j fuel lo b<=a.size/\(∀i,i<SetTable.below.go a j fuel lo b->a.getD i 0<j)/\∀i,SetTable.below.go a j fuel lo b<=i->i<a.size->j<=a.getD i 0
|0,lo,b,hf,hl,g,h,h2=>by let e:lo=b:=();subst e;rw[(g,h,h2)]|fuel+1,lo,b,hf,hl,g,h,h2=>by
 ext SetTable.below.go;cases c:lo<b
 .rw[Zd c,];let(-m,e,p,m2,r,s):=II (x:=0) c hf;let l:=Zg m2 g;let o:a.getD m j=a.getD m 0:=by rw[K5 l,K5]
  rw[e,];cases d:a.getD m j<j
  .rw[Zd d,];rw[o]at d;rw[FL u _ _ _ s m2 g (λi f=>?_) h2];cases q:i=m;.rwa[q,]
   .rw[Uh (u i m (UF (Uu f) q) l) d]
  .rw[Ze d,];rw[o]at d;rw[FL u _ _ m r p (Zz l) h λi f n=>?_];cases q:i=m;.rw[q,];rw[Nat.le_of_not_lt d]
   .rw[Zz<|UR (Nat.le_of_not_lt d)<|u m i (UF f<|Ne.symm q) n]
 .rw[Ze c,];let e:lo=b:=();subst e;rw[(g,h,h2)]
def CF(u:vZ a)(j):SetTable.below a j<=a.size/\(∀i,i<SetTable.below a j->a.getD i 0<j)/\∀i,SetTable.below a j<=i->i<a.size->j<=a.getD i 0:=FL u _ 0 _ () () (Zf _) () ()
def zc(t:YA)(j:5):4:=∃i,i<t.place.size/\t.place.getD i 0=j
def Mu(j):SetTable.has #[] j=7:=rfl
def Mv{t:YA}(u:vZ t.place) (c:i<t.place.size)(e:t.place.getD i 0=j):t.slot j=.live i:=by
 ext SetTable.slot;let h:SetTable.below t.place j=i:=by rw[<-e];(
let(l,f,g):=CF u _;generalize SetTable.below _ _=p at*;obtain q|q|q:=U8 p i
.let a:=u p i q c;let b:=g p (Zf _) ();lia
.rw[q]
.let:=f i q;lia)
 ext
def zmP(b:t.dummies=#[]) (h:¬zc t j):t.slot j=.empty:=by
 ext SetTable.slot;let c:¬(t.place[SetTable.below t.place j]?==!j)=6:=by
  intro z;let z:t.place[SetTable.below t.place j]?=!j:=by simpa using z
  let(a,e):=Jw.mp z;rw[h (_,a,by rwa[K5,])]
 simp_all[Mu]
def e6(u:vZ t.place) (h:zc t j):∃i,t.slot j=.live i/\i<t.place.size/\t.place.getD i 0=j:=by let(i,a,e):=h;rw[(i,Mv u a e,a,e)]
def i6{t a:YA}(h:t.mask=a.mask)(p):t.advance p=a.advance p:=by ext SetTable.advance;rw[h,]
def Mw(h:t.mask=a.mask)(n)(p):JL t n p=JL a n p:=by induction n generalizing p with|zero=>rfl|succ n b=>show JL t n _=JL _ n _;rw[i6 h,b]
def Mx{t a:YA}(h:t.mask=a.mask)(x):t.probeStart x=a.probeStart x:=by ext SetTable.probeStart;rw[h,]
def uD(t:YA)(o:5->4)(x:3)(y:5):4:=∃n,(JL t n<|t.probeStart x).j=y/\∀m,m<n->o (JL t m<|t.probeStart x).j
def uD.mono(h:uD t o x y)(c:t.mask=f.mask)(i:∀j,o j->l j):uD f l x y:=by
 let(-n,q,p):=h;rw[(n,?_,λm e=>?_)];.rwa[<-Mw c,<-Mx c]
 .rw[<-Mw c,<-Mx c];rw[i _<|p m e]
structure TabOk(t:YA)(hs:Array 3):4 where
size:t.place.size=hs.size
up:vZ t.place
le:∀i,i<t.place.size->t.place.getD i 0<=t.mask
nod:t.dummies=#[]pow:∃k,t.mask+1=2^k
room:t.place.size<=t.mask
ways:∀i,i<t.place.size->uD t (zc t) (hs.getD i 0) (t.place.getD i 0)
def li(u:vZ f) (p:f.size<=m):∃y,y<=m/\∀i,i<f.size->f.getD i 0≠y:=by
 cases h:∀i,i<f.size->f.getD i 0=i;.rw[(m,Zf _,λi l e=>())]
 .let(-i,l,hne,hmin):∃i,i<f.size/\f.getD i 0≠i/\∀k,k<i->f.getD k 0=k:=by
   let j:∀n,n<=f.size->(∀k,k<n->f.getD k 0=k)\/∃i,i<f.size/\f.getD i 0≠i/\∀k,k<i->f.getD k 0=k:=by intro n;cases(n)with|zero=>intro _;rw[.inl λk g=>Zn g<|US _]|succ n o=>
intro r;rcases o ()with q|q
.cases c:f.getD n 0=n
 .rw[.inl λk g=>?_];cases e:k=n;.rwa[e,]
  .rw[q k ()]
 .rw[.inr (n,(),c,q)]
.rw[.inr q]
   rcases j _ (Zf _)with q|q;.rw[Zn q h]
   .rw[q]
  rw[(i,(),λk g e=>?_)];obtain q|q|q:=U8 k i;.grind
  .subst q;rw[hne e]
  .let a:=u i k q g;let b:i<=f.getD i 0:=by cases(i)with|zero=>rw[Ub _]|succ i=>let:=u i _ () l;let:=hmin i ();lia
   lia
def oW(T:TabOk t s)(x):∃n,n<10*SetTable.turns t.mask/\(∀m,m<n->zc t (JL t m<|t.probeStart x).j)/\¬zc t (JL t n<|t.probeStart x).j:=by
 let(k,g):=T.pow;let(-y,h,j):=li T.up T.room;let(-n,b,e):=mx g x h;let a:¬zc t (JL t n<|t.probeStart x).j:=by rw[e,];rintro⟨i,l,q⟩;rw[j i l q]
 let f:∀d n,n<=d->n<10*SetTable.turns t.mask->¬zc t (JL t n<|t.probeStart x).j->∃n,n<10*SetTable.turns t.mask/\(∀m,m<n->zc t (JL t m<|t.probeStart x).j)/\¬zc t (JL t n<|t.probeStart x).j:=by intro d;cases(d)with|zero=>grind|succ d o=>
  intro n u b a;cases c:∀m,m<n->zc t (JL t m<|t.probeStart x).j;.rw[(n,b,c,a)]
  .let(-m,p):=Classical.not_forall.mp c;let(!v,r):=Classical.not_imp.mp p;rw[o m () () r]
 rw[f n n (Zf _) b a]
def FM(a:Array α) (b:p<=a.size)(x):(SetTable.insertAt a p x).size=a.size+1:=by grind[SetTable.insertAt]
def Mz(a:Array α) (b:p<=a.size)(x d)(i):(SetTable.insertAt a p x).getD i d=if i<p then a.getD i d else if i=p then x else a.getD (i-1) d:=by
 unfold SetTable.insertAt;simp only[V5];rw[Array.getElem?_append,Array.getElem?_push,Array.getElem?_extract,Array.getElem?_extract];simp only[Array.size_push,Array.size_extract];rw[show min p a.size-0=p by lia,]
 rcases Nat.lt_trichotomy i p with c|c|c
 .simp only[(show i<p+1 by lia),(show ¬i=p by lia),c,if_true,if_false];simp
 .subst c;simp only[Nat.lt_succ_self,Nat.lt_irrefl,if_true,if_false];rfl
 .simp only[(show ¬i<p+1 by lia),(show ¬i<p by lia),(show ¬i=p by lia),if_false];rw[show p+(i-(p+1))=i-1 by lia,];by_cases q:i-1<a.size
  .rw[if_pos (by simp only[Nat.min_self];lia),]
  .rw[if_neg (by simp only[Nat.min_self];lia),Array.getElem?_eq_none (by lia)]
def z00(T:TabOk t q) (A:y<=t.mask)(B:¬zc t y)(C:uD t (zc t) x y)(L:t.place.size+1<=t.mask):TabOk (t.put y).1 (SetTable.insertAt q (t.put y).2 x)/\(t.put y).2<=q.size/\(t.put y).1.mask=t.mask:=by
 let(!r,E,F):=CF T.up y;let G:(t.put y).2=SetTable.below t.place y:=9;let a:(t.put y).1.place=SetTable.insertAt t.place (SetTable.below t.place y) y:=9;let b:(t.put y).1.mask=t.mask:=9;let m:(t.put y).1.dummies=#[]:=by show(if SetTable.has t.dummies y then SetTable.eraseAt t.dummies (SetTable.below t.dummies y)else t.dummies)=_;rw[T.nod,Mu];rfl
 rw[G,];let H:∀i,SetTable.below t.place y<=i->i<t.place.size->y<t.place.getD i 0:=λi I s=>by let:=F i I s;let:t.place.getD i 0≠y:=λz=>B (i,s,z);lia
 generalize SetTable.below t.place y=p at*;let sz:(SetTable.insertAt t.place p y).size=t.place.size+1:=FM _ r _;let h:=Mz t.place r y 0;let n:∀j,zc t j->zc (t.put y).1 j:=by
  rintro j ⟨i,l,e⟩;cases c:i<p;.rw[(i,by rw[a,sz];lia,by rw[a,h,Zd c];rw[e])]
  .rw[(i+1,by rw[a,sz];lia,by rw[a,h,Ze (),Ze (),Nat.add_sub_cancel];rw[e])]
 let J:=T.size;rw[((?_,?_,?_,m,by rw[b,];rw[T.pow],(),?_),(),b)];.rw[a,sz,FM _ ()];lia
 .intro i j o u;rw[a]at u ⊢;rw[sz]at u;rw[h,h];cases f:j<p;.rw[Zd f,Zd ()];rw[T.up i j o ()]
  .rw[Ze f,];cases g:j=p;.rw[Zd g,Zd ()];rw[E i ()]
   .rw[Ze g,];cases v:i<p;.rw[Zd v,];rw[T.up i _ () ()]
    .rw[Ze v,];cases w:i=p;.rw[Zd w,];rw[H _ () ()]
     .rw[Ze w,];rw[T.up _ (j-1) (Nat.sub_lt_sub_right ()<|by assumption) ()]
 .intro i l;rw[a]at l ⊢;rw[sz]at l;rw[h,b];split;.rw[T.le i ()]
  .split;.rw[A]
   .rw[T.le _ ()]
 .intro i l;rw[a]at l ⊢;rw[sz]at l;rw[h,Mz _ () x];cases f:i<p;.rw[Zd f,Zd f];rw[(T.ways i ()).mono b.symm n]
  .rw[Ze f,Ze f];cases g:i=p;.rw[Zd g,Zd g];rw[C.mono b.symm n]
   .rw[Ze g,Ze g];rw[(T.ways _ ()).mono b.symm n]
open PySem
theorem CG(t)(i a):∀k,k<=SetTable.runEnd t.mask i-i->JL t k (Wa t.mask i a)={j:=i+k,more:=SetTable.runEnd t.mask i-i-k,i:=i,perturb:=a,dummy:=8}|0,_=>9|k+1,h=>by rw[zn3,CG t i _ k ()];grind[SetTable.advance]
def FN(h:i<=a):i<=SetTable.runEnd a i/\SetTable.runEnd a i<=a:=by grind[SetTable.runEnd]
def yD(a:Array (02 5))(j:5):4:=∃i,a.getD j 8=!i
set_option tactic.hygienic true in
theorem M0(o:a.size=t.mask+1):∀fuel i b y,i<=t.mask->SetTable.layClean.free t.mask a fuel i b=!y->y<=t.mask/\a.getD y 8=8/\∃n,(JL t n<|Wa t.mask i b).j=y/\∀m,m<n->yD a (JL t m<|Wa t.mask i b).j
|0,i,b,y,_,h=>by unfold SetTable.layClean.free at h;rw[J6 h]|fuel+1,i,b,y,A,h=>by
 let p:=FN A;unfold SetTable.layClean.free at h;let r:∀{k},k<SetTable.runEnd _ i+1-i->k<=SetTable.runEnd _ i-i:=λe=>by rw[Nat.succ_sub p.1]at e;rw[Uu e]
 let x:∀{k},k<SetTable.runEnd _ i+1-i->i+k<a.size:=λe=>by rw[o,];rw[Nat.lt_succ_of_le<|Zh (Nat.add_le_of_le_sub' p.1<|r e) p.2]
 let g:∀k,k<SetTable.runEnd _ i+1-i->a.getD _ (!0)=a.getD _ 8:=λk e=>by rw[K5 (x e),K5]
 let bz:∀k,k<SetTable.runEnd _ i+1-i->(not<|(a.getD _ _).isNone)=6->yD _ _:=λk e s=>by rw[g k e]at s;ext yD;induction q:a.getD _ _ with|none=>rw[q]at s;rw[JF s]|some v=>rw[(v,9)]
 split at h
 .rename_i k e;let(!u,f,w):=List.find?_range_eq_some.mp e;let f:=Ji.mp f;obtain rfl:=Zqi h;rw[(Uu<|by let:=x f;rwa[o]at this,?_,k,?_,λm j=>?_)];.rw[g k f]at u;induction q:a.getD _ _ with|none=>rfl|some v=>rw[q]at u;rw[JF u]
  .rw[CG t i _ k (r f),]
  .rw[CG t i _ m (r<|Uh j f),];rw[bz m (Uh j f)<|w m j]
 .rename_i e;let w:=Jy.mp e;let B:(SetTable.leap _ i b).1<=t.mask:=Jn.mp<|UE _<|Vk _;let(!C,E,(n,G,F)):=M0 o _ _ _ y B h;let l:=Mo t (SetTable.runEnd t.mask i-i) (Wa _ i b) 9 9;let l:JL t _ _=Wa _ _ _:=l;rw[(C,E,_,by rwa[AS,l],λm j=>?_)];cases c:m<=SetTable.runEnd t.mask i-i;.rw[CG t i _ m c,];rw[bz m ()<|w m ()]
  .let(z,rfl):∃z,m=SetTable.runEnd t.mask i-i+1+z:=(m-(SetTable.runEnd t.mask i-i+1),());rw[AS,l];rw[F _ ()]
theorem M3(f:a.size=c+1):∀fuel i b,i<=c->SetTable.layClean.free c a fuel i b=8->∀r,r<fuel->yD a (qZ c r %[i|b]).1
|0,i,b,_,_,r,hr=>Zn hr (US _)|fuel+1,i,b,g,h,r,hr=>by
 let j:=FN g;unfold SetTable.layClean.free at h;split at h;.cases h
 .rename_i l;let m:(SetTable.leap _ i b).1<=c:=Jn.mp<|UE _<|Vk _;cases(r)with
|zero=>let n:=(Jy.mp l) 0 ();let e:a.getD (i+0) (!0)=a.getD i 8:=018;rw[e]at n;show yD a i;ext yD;induction q:a.getD i _ with|none=>ext|some v=>simp
|succ r=>rw[M3 f fuel _ _ m h r ()]
def iF(b:a+1=2^k)(h) (c:y<=a):∃r,r<SetTable.turns a/\(qZ a r %[020%(a+1)|020]).1=y:=by
 let f:020<2^64:=by grind[SetTable.bits]
 let g:=Mr _ 13 %[020%(a+1)|020]<|UE _ ();let i:(qZ a 13 %[020%(a+1)|020]).2=0:=by grind[FI]
 let(-q,j,e):=FH k (qZ a 13 %[020%(a+1)|020]).1 y ();rw[(13+q,by ext SetTable.turns;lia,?_)];rw[Mq,];grind[FK]
structure LayOk(t:YA)(owner:Array (02 5))(hs:Yf):4 where
size:owner.size=t.mask+1
lt:∀j i,owner.getD j 8=!i->i<⇑hs
one:∀j j' i,owner.getD j 8=!i->owner.getD j' 8=!i->j=j'
all:∀i,i<⇑hs->∃j,j<=t.mask/\owner.getD j 8=!i/\uD t (yD owner) (hs.getD i 0) j
def zgt{f:5->5} (h:∀a b,a<n->b<n->f a=f b->a=b):((List.range n).map f).Nodup:=by grind[List.pairwise_map,List.Pairwise.imp_of_mem,List.nodup_range]
def eZ(L:LayOk t c l)(u:⇑l<=t.mask):∃y,y<=t.mask/\c.getD y 8=8:=by
 apply Classical.byContradiction;intro m;let h:∀y,y<t.mask+1->∃i,c.getD y 8=!i:=λy j=>by induction q:c.getD y _ with|none=>grind|some i=>simp
 let n:((List.range _).map λy=>(c.getD y _).getD 0).Nodup:=zgt λa b o p e=>by let(i,f):=h a o;let(r,g):=h b p;rw[f,g]at e;let e:i=r:=e;subst e;rw[L.one a b i f g]
 let sub:((List.range _).map λy=>(c.getD y _).getD 0)⊆ List.range _:=λz s=>by let(-y,j,rfl):=Ja.mp s;let(i,f):=h y (Ji.mp j);rw[f,];rw[Ji.mpr<|L.lt y i f]
 let:=V6 n sub;grind
def e8{owner:Array (02 5)} (a:y<owner.size)(v)(j):(owner.setIfInBounds y v).getD j 8=if j=y then v else owner.getD j 8:=by simp;grind
def aL(L:LayOk t owner l)(A:⇑l<=t.mask)(B:∃k,t.mask+1=2^k)(h):∃y,SetTable.layClean.free t.mask owner (SetTable.turns t.mask) (020%(t.mask+1)) 020=!y/\LayOk t (owner.setIfInBounds y<|!⇑l) (l++[h]):=by let s:020%(t.mask+1)<=t.mask:=Jn.mp<|UE _<|Vk _;induction q:SetTable.layClean.free _ _ (SetTable.turns _) _ _ with|none=>let(k,C):=B;let(-y,E,F):=eZ L A;let(-r,G,e):=iF C h E;let(i,u):=M3 L.size _ _ _ s q r G;rw[e,F]at u;rw[J6 u]|some y=>
let(!H,v,(n,I,J)):=M0 L.size _ _ _ y s q;let o:=e8 (owner:=owner) (y:=y) (by rw[L.size,];lia)<|!⇑l;let w:∀j,yD owner j->yD (owner.setIfInBounds y<|!⇑l) j:=by rintro j ⟨i,f⟩;rw[(i,?_)];rw[o,Ze λz=>by rw[z,v]at f;cases f];rw[f]
rw[(y,9,(by rw[Array.size_setIfInBounds,];rw[L.size],λj i f=>?_,λj P i f g=>?_,λi p=>?_))]
.rw[Ua,Uj];rw[o]at f;split at f;.ext
 .let:=L.lt j i f;lia
.rw[o]at f g;split at f
 .rename_i a;obtain rfl:=Zqi f;split at g;.rename_i b;rw[a,b]
  .let:=L.lt _ _ g;lia
 .split at g;.obtain rfl:=Zqi g;let:=L.lt j _ f;lia
  .rw[L.one j _ i f g]
.rw[Ua,Uj]at p;cases c:i<⇑l
 .let(-j,M,x,N):=L.all i c;rw[(j,M,?_,?_)];.rwa[o,Ze λz=>by rw[z,v]at x;cases x]
  .let e:(l++[h]).getD i 0=l.getD i 0:=by rw[Ui,Ui,UV c]
   rw[e,];rw[N.mono 9 w]
 .let e:i=⇑l:=();subst e;rw[(y,H,by rw[o,Zd 9],?_)];let e:(l++[h]).getD ⇑l 0=h:=by rw[Ui,UI (Zf _),Nat.sub_self];rfl
  rw[e,];rw[(n,I,λm O=>w _<|J m O)]
theorem M4(g:∃k,t.mask+1=2^k):∀rest c a,LayOk t a c->⇑c+⇑rest<=t.mask+1->∃b,rest.foldl (init:=!%[a|⇑c]) (λf h=>do
let%[a|k]<-f
let j<-SetTable.layClean.free t.mask a (SetTable.turns t.mask) (020%(t.mask+1)) 020
pure %[a.setIfInBounds j !k|k+1])=!%[b|⇑c+⇑rest]/\LayOk t b (c++rest)|[],c,a,L,_=>018|h::rest,c,a,L,hl=>by rw[Zu]at hl;let(-y,e,i):=aL L () g h;let(-l,m,n):=M4 g rest _ _ i ();grind
def iK(c:∃k,t.mask+1=2^k)(b)(g:b.size<=t.mask+1):∃a,SetTable.layClean t.mask b=!a/\LayOk t a b.toList:=by
 let f:LayOk t (Array.replicate (t.mask+1) 8) []:=by
  let z:∀j i,(Array.replicate (t.mask+1) (8:02 5)).getD j _≠!i:=λj i h=>by simp[Array.getElem?_replicate]at h;split at h<;>rw[J6 h]
  rw[((),(),(),())]
 let(-o,e,L):=M4 c b.toList _ _ f ();simp_all[SetTable.layClean]
open PySem
def eY{a:Array (02 5)} (h:a.getD j 8=!i):j<a.size:=()
noncomputable def Wb(b:5)(a:Array (02 5)):List (5×5):=(List.range<|b+1).filterMap λj=>(a.getD j 8).map<|λz=>%[j|z]
def aG:p∈Wb mask owner↔p.1<=mask/\owner.getD p.1 8=!p.2:=by
 ext Wb;rw[List.mem_filterMap,];constructor;.rintro⟨j,a,e⟩;let(-i,b,e):=Jh.mp e;subst e;rw[(Jn.mp<|Ji.mp a,b)]
 grind
def l6(e)(c):(Wb e c).Pairwise λa b=>a.1<b.1:=by ext Wb;rw[List.pairwise_filterMap,];rw[List.pairwise_lt_range.imp λ{a b}f x g y h=>?_];let(-i,_,rfl):=Jh.mp g;let(-j,_,rfl):=Jh.mp h;rw[f]
def FP{α:Type}(l:List α)(i)(d):l.toArray.getD i d=l.getD i d:=()
def FQ{α β:Type}(l:List α)(f:α->β)(i)(a)(d):(l.map f).getD i d=f l[i]:=()
def lw(u:∃k,mask+1=2^k)(g)(hl:g.size<=mask)(finger moves)(led plain):∃r c,SetTable.laid mask finger moves led plain g=!%[r|c]/\r.mask=mask/\r.moves=moves/\r.led=led/\r.plain=plain/\r.finger=finger/\c.size=g.size/\(∀k,k<c.size->c.getD k 0<g.size)/\(∀k v,k<c.size->v<c.size->c.getD k 0=c.getD v 0->k=v)/\(∀i,i<g.size->∃k,k<c.size/\c.getD k 0=i)/\TabOk r (c.map λi=>g.getD i 0):=by
 rw[let G:YA:={mask:=mask,place:=#[],dummies:=#[],finger:=0,led:=7,moves:=0,plain:=6};?_];let(-owner,e,L):=iK (t:=G) u g ();let e:SetTable.layClean mask g=!owner:=e;let H:owner.size=mask+1:=L.size;let mem:=λp=>aG (mask:=mask) (owner:=owner) (p:=p);let F:=l6 mask owner;let B:((Wb mask owner).map (·.2)).Nodup:=by ext List.Nodup;rw[U9,];rw[List.Pairwise.imp_of_mem (λ{a b}I J M n=>?_) F];let m:=((mem a).mp I).2;let x:=((mem b).mp J).2;rw[n]at m;let:=L.one _ _ _ m x;lia
 let y:(Wb mask owner).map (·.2)⊆ List.range g.size:=λz N=>by let(-p,u,rfl):=Ja.mp N;let:=L.lt _ _ ((mem p).mp u).2;rw[Ji.mpr<|by simpa using this]
 let o:List.range g.size ⊆(Wb mask owner).map (·.2):=λi l=>by let(-j,m,x,_):=L.all i (by simpa using Ji.mp l);rw[Ja.mpr (%[j|i],(mem _).mpr (m,x),9)]
 let len:⇑(Wb mask owner)=g.size:=by let a:=V6 B y;let b:=V6 List.nodup_range o;rw[Zql,ZB]at a b;lia
 let O:SetTable.laid mask finger moves led plain g=!%[{mask:=mask,place:=((Wb mask owner).map (·.1)).toArray,dummies:=#[],finger:=finger,led:=led,moves:=moves,plain:=plain}|((Wb mask owner).map (·.2)).toArray]:=by ext SetTable.laid;rw[e,];rfl
 generalize P:Wb _ _=lv at*;let A:∀i l,((lv.map _).toArray).getD i 0=lv[i].1:=λi l=>by rw[FP,FQ _ _ _]
 let go:∀i l,((lv.map _).toArray).getD i 0=lv[i].2:=λi l=>by rw[FP,FQ _ _ _]
 let s:=Jl.mp F;rw[qE _ _ (O,9,9,9,9,9,by simpa using len,λk f=>?_,λk v f h n=>?_,λi l=>?_,?_)]
 .let f:k<⇑lv:=by simpa using f
  rw[go k,];let:=L.lt _ _ ((mem _).mp<|Uv f).2;simpa using this
 .let f:k<⇑lv:=by simpa using f
  let h:v<⇑lv:=by simpa using h
  rw[go k f,go v h]at n;let m:=((mem _).mp<|Uv f).2;let x:=((mem _).mp<|Uv h).2;rw[n]at m;let e3:=L.one _ _ _ m x;obtain q|q|q:=U8 k _;.let:=s k _ f h q;lia
  .rw[q]
  .let:=s _ k h f q;lia
 .let(-p,u,n):=Ja.mp (o<|Ji.mpr l);let(k,f,rfl):=UM u;rw[(k,by simpa using f,by rw[go k,];rw[n])]
 .let Q:∀j,yD owner j->zc {mask:=mask,place:=(lv.map (·.1)).toArray,dummies:=#[],finger:=finger,led:=led,moves:=moves,plain:=plain} j:=by rintro j ⟨i,w⟩;let R:=eY w;let S:%[j|i]∈lv:=(mem _).mpr (by show j<=mask;lia,w);let(k,f,n):=UM S;rw[(k,by simpa using f,by show((lv.map _).toArray).getD k 0=j;rw[A k f,n])]
  rw[((),λi j C w=>?_,λi l=>?_,9,u,by show((lv.map _).toArray).size<=mask;simp;lia,λk f=>?_)]
  .let w:j<⇑lv:=by simpa using w
   show((lv.map _).toArray).getD i 0<((lv.map _).toArray).getD j 0;rw[A i (),A j];rw[s i j _ w C]
  .let l:i<⇑lv:=by simpa using l
   show((lv.map _).toArray).getD i 0<=mask;rw[A i,];rw[((mem _).mp<|Uv l).1]
  .let f:k<⇑lv:=by simpa using f
   let m:=((mem _).mp<|Uv f).2;let E:=L.lt _ _ m;let(-j,g1,T,U):=L.all _ E;let X:=L.one _ _ _ T m;subst X;let Y:(((lv.map (·.2)).toArray).map λi=>g.getD i 0).getD k 0=g.toList.getD lv[k].2 0:=by
    let Z:((lv.map (·.2)).toArray).map (λi=>g.getD i 0)=((lv.map (·.2)).map λi=>g.getD i 0).toArray:=by simp
    rw[Z,FP,Zw,FQ _ _ _];show g.getD _ 0=_;rw[V5,Ui,Vh]
   rw[Y,];show uD _ _ _ (((lv.map _).toArray).getD k 0);rw[A k,];rw[U.mono 9 Q]
theorem M5:∀fuel a n,(∃k,a=2^k)->n<a*2^fuel->(∃k,SetTable.sizeAbove.go n fuel a=2^k)/\n<SetTable.sizeAbove.go n fuel a
|0,a,n,b,h=>by simp_all[SetTable.sizeAbove.go]|fuel+1,a,n,(k,hk),h=>by
 ext SetTable.sizeAbove.go;split;.rw[M5 _ _ n (k+1,()) ()]
 grind
def M6(h:n<1000000000):(∃k,SetTable.sizeAbove n=2^k)/\n<SetTable.sizeAbove n:=M5 _ 08 n (03,9)<|Zg h<|004
theorem M7:∀fuel a n,a<=2*n+08->SetTable.sizeAbove.go n fuel a<=2*n+08
|0,a,n,h=>h|fuel+1,a,n,h=>by
 ext SetTable.sizeAbove.go;split;.rw[M7 _ _ n ()]
 lia
def zhE(n):SetTable.sizeAbove n<=2*n+08:=M7 _ 08 n ()
def iQ{t:YA} (s:hs.size<=wanted)(g:wanted<1000000000):∃b a,t.relaid hs wanted=!%[b|a]/\b.led=t.led/\b.plain=t.plain/\b.mask+1=SetTable.sizeAbove wanted/\a.size=hs.size/\(∀k,k<a.size->a.getD k 0<hs.size)/\(∀k c,k<a.size->c<a.size->a.getD k 0=a.getD c 0->k=c)/\(∀i,i<hs.size->∃k,k<a.size/\a.getD k 0=i)/\TabOk b (a.map λi=>hs.getD i 0):=by let((k,u),h):=M6 g;let j:SetTable.sizeAbove wanted-1+1=SetTable.sizeAbove wanted:=();let(b,a,e,l,_,m,n,_,o,p,q,r,f):=lw (k,by rwa[j,]) hs () _ _ _ _;rw[(_,_,e,m,n,by rwa[l,],o,p,q,r,f)]
open PySem
theorem TabOk.fits{c:Array (3×Value)}(T:TabOk t (c.map (·.1))):t.fits c.size=6:=by let e:=T.size;rw[Ur]at e;ext SetTable.fits SetTable.fill;rw[T.nod,];simp[e,show c.size<=t.mask by let:=T.room;lia]
def M8{a:Array (3×Value)} (b):(a.map (·.1)).getD i 0=a[i].1:=()
def FR{a:Array (3×Value)}{i:5}(b):(a[i]?.map (·.1)).getD 0=a[i].1:=()
def ZE(t:YA)(p:SetTable.Probe):4:=p.j+p.more<=t.mask
def M9(t) (h:i<=t.mask):ZE t (Wa t.mask i pert):=by let:=FN h;show i+(SetTable.runEnd _ i-i)<=t.mask;lia
def oY(h:ZE t p)(n):ZE t (JL t n p):=by induction n generalizing p with|zero=>rw[h]|succ n a=>rw[a<|(by
unfold ZE at h;ext SetTable.advance
split
.show p.j+1+(p.more-1)<=t.mask;lia
.let b:(SetTable.leap _ p.i p.perturb).1<=t.mask:=Jn.mp<|UE _<|Vk _;rw[M9 t (pert:=(SetTable.leap t.mask p.i p.perturb).2) b])]
def ic(t)(h):ZE t 021:=M9 t<|Jn.mp<|UE _<|Vk _
theorem MA{same:Value->Bool}(U:↥s a=!o)(X:o.data=.set f ep t)(T:TabOk t (f.map (·.1)))(B:t.mask%2=1)(hq:∀i(u:i<f.size),f[i].1=h->∀Q:Bool->Yz,Q (same f[i].2) s->YF p w A (eqBool f[i].2 x) Q E s)(hr:∀i(u:i<f.size),∃b,f[i].2=.ref b)(hsn:t.led=6\/∀Q:Bool->Yz,Q 7 s->YF p w A (searchCouldBeSeen x<|(f.filter (·.1==h)).toList.map (·.2)) Q E s)(he:e<10*SetTable.turns t.mask)(M:∀m,m<e->zc t (JL t m<|021).j)(v:¬zc t (JL t e<|021).j)(N:∀i(u:i<f.size),f[i].1=h->same f[i].2=6->Q (.there 8) s)(C:(∀i(u:i<f.size),f[i].1=h->same f[i].2=7)->Q (.free (JL t e<|021).j 7) s):∀fuel c H,c<=e->e-c<fuel->H.getD 021=JL t c 021->(∀m i u,m<c->t.slot (JL t m<|021).j=.live i->f[i].1=h->same f[i].2=7)->YF p w A (setSearchFrom a x h 6 fuel H) Q E s
|0,c,H,hc,hf,_,_=>Zn hf (US _)|fuel+1,c,H,hc,hf,hst,hno=>by
 let hsz:t.place.size=f.size:=by let:=T.size;rwa[Ur]at this
 show wpAny _ _ (_>>=_) _ _ _;rw[Za<|wpAny_setState_of U X T.fits ?_];dsimp only;let hg:t.gaveWay=7:=by ext SetTable.gaveWay;rw[B,];rfl
 rw[hg,];simp -iota only[UD,if_false];let live:∀m,m<e->∃i,t.slot (JL t m<|021).j=.live i/\i<f.size/\t.place.getD i 0=(JL t m<|021).j:=λm hm=>by let(-i,h1,h2,h3):=e6 T.up (M m hm);rw[(i,h1,(),h3)]
 let step:∀m,JL t m (JL t c<|021)=JL t (c+m) 021:=λm=>(AS t c m _).symm;let I:∀g:5->3,(∀i,g i=(f[i]?.map (·.1)).getD 0)->(∃m i,c<=m/\m<e/\t.slot (JL t m<|021).j=.live i/\g i=h/\t.probe g h (H.getD<|021)=!(.candidate (JL t m<|021).j i<|JL t (m+1)<|021)/\∀j l,c<=j->j<m->t.slot (JL t j<|021).j=.live l->g l≠h)\/t.probe g h (H.getD<|021)=! .empty (JL t e<|021).j 8/\∀j l,c<=j->j<e->t.slot (JL t j<|021).j=.live l->g l≠h:=λg _=>by
  rw[hst,];let sd:(JL t c<|021).dummy=8:=zn5 9 c;let ek:c+(e-c)=e:=();rcases Mt (t:=t) (hashAt:=g) (h:=h) (e-c) (10*SetTable.turns t.mask) (JL t c<|021) () sd () (by rw[step,ek];rw[zmP T.nod v])with ⟨m,i,Y,R,g3,g4,g5⟩|⟨Y,R⟩;.rw[step]at R g4;rw[step]at g4;rw[.inl (c+m,i,(),(),R,g3,g4,λj l a1 a2 Z=>g5 (j-c) l ()<|by rw[step,show c+(j-c)=j by lia];rw[Z])]
  .rw[step,ek]at Y;rw[.inr (Y,λj l a1 a2 Z=>R (j-c) l ()<|by rw[step,show c+(j-c)=j by lia];rw[Z])]
 generalize F:t.probe _ h (H.getD<|021)=met;let O:∀i u,f[i].1=h->∃m,m<e/\t.slot (JL t m<|021).j=.live i:=λi u G=>by
  let(-n,n1,n2):=T.ways i ();rw[M8 u,G]at n1 n2;rw[(n,?_,by rw[n1,];rw[Mv T.up () 9])];obtain q|q|q:=U8 n e;.rw[q]
  .subst q;rw[Zn (i,(),n1.symm) v]
  .rw[Zn (n2 e q) v]
 obtain⟨m,i,c1,c2,c3,c4,c5,c6⟩|⟨c1,c2⟩:=I _ λi=>9
 .let em:=F.symm.trans c5;subst em;let(-i2,k1,L,k3):=live m c2;rw[c3]at k1;cases k1;let G:f[i].1=h:=by rw[<-FR L];rw[c4]
  dsimp only;let rest:YF p w A (do
let !%[_|y]:=f[i]?|unsupported "internal:set-entry"
let r<-holding [y] (eqBool y x)let%[es',_|t']<-setState a if 6&&r then return SetFound.there 8
let !same:=t'.sameMemory t.moves t.mask|unsupported "set.changed-during-lookup:is-the-new-block-at-the-old-address"
let J<-match if same then t'.slot (JL t m<|021).j else .empty with
|.live l=>match es'[l]? with|some %[_|y']=>do pure (if<-isSame y' y then !l else 8)|none=>pure 8
|_=>pure 8
   match J with|none=>rule "set.search.anew";setSearchFrom a x h 6 fuel 8|some l=>if r then return .there !l else setSearchFrom a x h 6 fuel !(JL t (m+1)<|021)) Q E s:=by rw[Uz L,];dsimp only;rw[Za<|wpAny_holding<|hq i L G _ ?_];rw[Za<|wpAny_setState_of U X T.fits ?_];dsimp only;induction hs:same f[i].2 with|true=>simp only[Bool.and_self,if_true];rw[Zb<|N i L G hs]|false=>
   simp only[Vl,UD,if_false];let hsm:t.sameMemory t.moves t.mask=!6:=by ext SetTable.sameMemory;rw[Zd (beq_self_eq_true _),]
   rw[hsm,];dsimp only;simp only[if_true];rw[c3,];dsimp only;rw[Uz L,];dsimp only;let(b,hb):=hr i L;let his:∀{Q':Bool->Yz},Q' 6 s->YF p w A (isSame f[i].2 f[i].2) Q' E s:=λ{Q'}hq'=>by rw[hb,];ext isSame;dsimp only;rw[Zd (beq_self_eq_true _),];rw[Zb hq']
   rw[Za<|his ?_];simp only[if_true];rw[Za<|Zb ?_];dsimp only;rw[MA U X T B hq hr hsn he M v N C fuel _ _ () () 9 λj l hi' hm' S P=>?_];cases d1:j<c;.rw[hno j _ hi' d1 S P]
   .cases d2:j=m;.subst d2;rw[c3]at S;cases S;rw[hs]
    .rw[Zn (by rw[FR,];rw[P])<|c6 _ _ () () S]
  induction hld:t.led with|true=>rw[Ze (),];rw[rest]|false=>
  rw[Zd (),];obtain z|hsn:=hsn;.rw[z]at hld;cases hld
  .rw[Za<|hsn _ ?_];rw[Ze (),];rw[rest]
 .let em:=F.symm.trans c1;subst em;dsimp only;rw[Zb<|C λi u G=>?_];let(-m,m1,m2):=O i u G;cases d1:m<c;.rw[hno m i u d1 m2 G]
  .rw[Zn (by rw[FR,];rw[G])<|c2 m i () m1 m2]
def iU{same:Value->Bool}(r:↥s a=!o)(u:o.data=.set c F t)(T:TabOk t (c.map (·.1)))(g:t.mask%2=1)(G:t.mask<=9000)(v:∀i(n:i<c.size),c[i].1=h->∀Q:Bool->Yz,Q (same c[i].2) s->YF f w A (eqBool c[i].2 x) Q E s)(B:∀i(n:i<c.size),∃b,c[i].2=.ref b)(p:t.led=6\/∀Q:Bool->Yz,Q 7 s->YF f w A (searchCouldBeSeen x<|(c.filter (·.1==h)).toList.map (·.2)) Q E s)(q:∀i(n:i<c.size),c[i].1=h->same c[i].2=6->Q (.there 8) s)(j:(∀i(n:i<c.size),c[i].1=h->same c[i].2=7)->∀y,y<=t.mask->¬zc t y->uD t (zc t) h y->Q (.free y 7) s):YF f w A (setSearch a x h 6) Q E s:=qk (oW T h) λe=>j7 λC l m=>MA r u T g v B p C l m q (λz=>j z _ (by
let:=oY (ic t h) e
grind[ZE]) m (e,9,l)) _ 0 _ (Ub _) (by grind[SetTable.turns]) 9 ()
open PySem
theorem MB:∀fuel a n,a<=SetTable.sizeAbove.go n fuel a
|0,a,n=>by simp_all[SetTable.sizeAbove.go]|fuel+1,a,n=>by
 ext SetTable.sizeAbove.go;split;.rw[Zh ()<|MB _ _ n]
 .rw[Zf _]
def zid(n):08<=SetTable.sizeAbove n:=MB _ 08 n
def cB(h:m+1=2^k)(a:07<=m):m%2=1:=by cases(k)with|zero=>lia|succ k=>lia
def znI{b:Yg} (o:∀k,k<b.size->b.getD k 0<n)(p:∀k f,k<b.size->f<b.size->b.getD k 0=b.getD f 0->k=f)(q:∀i,i<n->∃k,k<b.size/\b.getD k 0=i):b.toList.Perm (List.range n):=by
 let r:b.toList.Nodup:=by
  ext List.Nodup;rw[List.pairwise_iff_getElem,];intro i j s t u e;let g:i<b.size:=by simpa using s
  let l:j<b.size:=by simpa using t
  let:=p i j g l (by rw[K5,K5];simpa using e);lia
 rw[List.perm_iff_count.mpr λa=>?_];rw[r.count,List.nodup_range.count];let:a∈b.toList↔a∈List.range n:=by
  rw[List.mem_range,];constructor
  .intro h;let(k,m,e):=UM h;let c:k<b.size:=by simpa using m
   let:=o k c;rw[K5 c]at this;let e:b[k]=a:=by simpa using e
   lia
  .intro h;let(-k,m,e):=q a h;rw[K5]at e;rw[<-e,VX];rw[VY m]
 simp only[this]
def ig{α:Type}{es:Array α}{a:Yg}(d)(c:∀k,k<a.size->a.getD k 0<es.size):a.filterMap (es[·]?)=a.map λi=>es.getD i d:=by
 apply Array.toList_inj.mp;rw[Array.toList_filterMap,Array.toList_map];let:∀l:List _,(∀i∈l,i<es.size)->l.filterMap (es[·]?)=l.map λi=>es.getD i d:=by intro l;cases(l)with|nil=>intro _;rfl|cons i l g=>ext
 rw[this _ λi f=>?_];let(k,h,e):=UM f;let b:k<a.size:=();let:=c k b;ext
structure SetIs(hp:Heap)(a:Addr)(es:Array (3×Value))(t:YA):4 where
at_:∃ep,hp.get? a=!{cls:=.type "set",dict:=8,data:=.set es ep t,slots:=#[]}tab:TabOk t (es.map (·.1))seven:07<=t.mask
most:t.mask<=08*es.size+07
room:es.size*05<t.mask*03
refs:∀i(hi:i<es.size),∃b,es[i].2=.ref b
def SetIs.odd(S:SetIs e a f t):t.mask%2=1:=qk S.tab.pow λk c=>cB c S.seven
def MC{b:Heap} (c:b.get? a=!{cls:=.type "set",dict:=8,data:=.set f e t,slots:=#[]}):(b.update a<|Obj.putSet es' t').get? a=!{cls:=.type "set",dict:=8,data:=.set es' (e+1) t',slots:=#[]}:=by
 let:=Heap.get?_update_self (Obj.putSet es' t') c<|by rfl
 rwa[putSet_of _ _ 9]at this
def ziW(f:α->β)(a)(p)(x):(SetTable.insertAt a p x).map f=SetTable.insertAt (a.map f) p (f x):=by ext SetTable.insertAt;simp
def aU(p:↥s a=!{cls:=.type "set",dict:=8,data:=.set es ep t,slots:=#[]})(T:TabOk t (es.map (·.1)))(hn:1<=es.size)(hl:es.size<=1000)(H:∀i(l:i<es.size),∃b,es[i].2=.ref b)(h:∀f g,f.toList.Perm es.toList->g.led=t.led->g.plain=t.plain->SetIs (s.heap.update a<|Obj.putSet f g) a f g->Q Yq {s with heap:=s.heap.update a (Obj.putSet f g)}):YF v w A (setRelay a<|SetTable.grown es.size) Q E s:=by
 let I:SetTable.grown es.size=es.size*04:=by ext SetTable.grown;rw[Ze (),]
 let J:=zhE<|es.size*04;let(_,L):=M6 (n:=es.size*04) ();let M:=zid<|es.size*04;let(g,c,e,N,O,e3,x,o,P,y,R):=iQ (t:=t) (hs:=es.map (·.1)) (wanted:=es.size*04) (by rw[Ur,];lia) ();rw[Ur]at x o y;rw[I,];ext setRelay;rw[Za<|wpAny_setState_of p 9 T.fits ?_];dsimp only;rw[Ze (by rw[sizeLine_eq,];lia),];rw[e,];let z:=ig (es:=es) %[0|Value.none] o;let m:(c.filterMap (es[·]?)).size=es.size:=by rw[z,Ur];rw[x]
 let q:(c.filterMap (es[·]?)).toList.Perm es.toList:=by rw[Array.toList_filterMap,];rw[((znI o P y).filterMap _).trans<|by rw[filterMap_getElem?_range,]]
 let B:(c.filterMap (es[·]?)).map (·.1)=c.map λi=>(es.map (·.1)).getD i 0:=by rw[z,Array.map_map];apply Array.map_congr_left;intro i l;let(k,C,S):=Array.getElem_of_mem l;let:=o k C;rw[K5 C,S]at this;show(es.getD i _).1=_;rw[K5 this,M8]
 let F:TabOk g ((c.filterMap (es[·]?)).map (·.1)):=by rw[B,];rw[R]
 let G:∀i(l:i<(c.filterMap _).size),∃b,(c.filterMap (es[·]?))[i].2=.ref b:=λi l=>by
  let U:(c.filterMap _)[i]∈es.toList:=q.mem_iff.mp (by rw[VX,];rw[VY l]);let(j,X,Y):=UM U;let r:j<es.size:=by simpa using X
  let(b,Z):=H j r;rw[(b,?_)];rw[<-Y];simpa using Z
 let u:¬((c.filterMap (es[·]?)).size !=es.size)=6:=by rw[m,];simp
 rw[Za<|wpAny_of_eq (a:=%[c.filterMap (es[·]?)|g]) ?_ ?_];.show(if((c.filterMap _).size !=es.size)=6 then _ else _)=_;rw[Ze u,]
 .dsimp only;generalize c.filterMap _=f at m q F G B;rw[wpAny_storeSet_of p 9 (h _ _ q N O ((_,MC p),F,(),(),(),G))<|by rw[sizeLine_eq,];lia]
def iw{c a:Array (3×Value)}(g:∀i(e:i<c.size),∃b,c[i].2=.ref b) (l:x=.ref b)(m:a.toList.Perm (c.toList++[%[h|x]])):∀i(e:i<a.size),∃b,a[i].2=.ref b:=λi e=>by
 rcases Jc.mp (m.mem_iff.mp<|by rw[VX,];rw[VY e])with z|z
 .let(j,n,o):=UM z;let f:j<c.size:=by simpa using n
  let(b,p):=g j f;rw[(b,?_)];rw[<-o];simpa using p
 .rw[Jb.mp z,];rw[(b,l)]
def cQ{same:Value->Bool}(S:SetIs s.heap a e t)(T:x=.ref b)(hl:e.size+1<=1000)(Y:∀i(G:i<e.size),e[i].1=h->∀Q:Bool->Yz,Q (same e[i].2) s->YF f w A (eqBool e[i].2 x) Q E s)(J:t.led=6\/∀Q:Bool->Yz,Q 7 s->YF f w A (searchCouldBeSeen x<|(e.filter (·.1==h)).toList.map (·.2)) Q E s)(Z:∀Q:Bool->Yz,Q 6 s->YF f w A (hashByValue 08 x) Q E s)(L:∀i(G:i<e.size),e[i].1=h->same e[i].2=6->Q 7 s)(m:(∀i(G:i<e.size),e[i].1=h->same e[i].2=7)->∀M es' t',Heap.SameBut a s.heap M->SetIs M a es' t'->es'.toList.Perm (e.toList++[%[h|x]])->t'.led=t.led->t'.plain=t.plain->Q 6 {s with heap:=M}):YF f w A (setAddHashed a x h) Q E s:=by
 let(ep,r):=S.at_;let N:t.mask<=9000:=by let:=S.most;lia
 ext setAddHashed setAddHashedIn;rw[wpAny_holding<|Za<|wpAny_setState_of r 9 S.tab.fits ?_];dsimp only;let hb:byScan x e=7:=by subst T;rfl
 rw[hb,];simp -iota only[UD,if_false];rw[Za<|iU r 9 S.tab S.odd N Y S.refs J (λi G h1 h2=>Zb<|L i G h1 h2) λu y hy hf hw=>?_];dsimp only;rw[Za<|wpAny_setState_of r 9 S.tab.fits ?_];dsimp only;let hsz:t.place.size=e.size:=by let:=S.tab.size;rwa[Ur]at this
 let O:=S.room;let H:=S.seven;let(!n,g,v):=z00 S.tab hy hf hw ();rw[Ur]at g;let j:(t.put y).1.led=t.led:=9;let l:(t.put y).1.plain=t.plain:=9;generalize U:t.put y=tp at n g v j l;let(o,p):=tp;dsimp only at n g v j l ⊢;let em:(SetTable.insertAt _ p %[h|x]).map (·.1)=SetTable.insertAt (e.map _) p h:=ziW _ _ _ _;rw[<-em]at n;let I:(SetTable.insertAt e p %[h|x]).toList.Perm (e.toList++[%[h|x]]):=by let:=SetTable.insertAt_perm e p %[h|x];rwa[Array.toList_push]at this
 let B:(SetTable.insertAt e p %[h|x]).size=e.size+1:=FM _ g _;let q:=iw S.refs T I;generalize SetTable.insertAt e p %[h|x]=es1 at n I B q;let X:YF f w A (do
  storeSet a es1 o if not 7&&o.tooFull then setRelay a (SetTable.grown<|e.size+1)
  return 6) Q E s:=by
  rw[Za (wpAny_storeSet_of r 9 ?_<|by rw[sizeLine_eq,];lia)];let C:=MC (es':=es1) (t':=o) r;let F:=Heap.SameBut.update s.heap a<|Obj.putSet es1 o;cases c:o.tooFull=6;.rw[Zd (by rw[c,];rfl),];rw[<-B];rw[Za<|aU C n () () q λes2 t2 P l2 p2 S2=>Zb<|m u _ _ _ (F.trans<|Heap.SameBut.update _ a _) S2 (P.trans I) (l2.trans j)<|p2.trans l]
  .rw[Ze (by simpa using c),];let R:¬ o.fill*05 ≥ o.mask*03:=by intro z;rw[c<|Zp z]
   let hfl:o.fill=es1.size:=by ext SetTable.fill;let:=n.size;rw[Ur]at this;rw[this,n.nod];rfl
   let S1:SetIs (s.heap.update a<|Obj.putSet _ _) a _ _:=((_,C),n,(),by let:=S.most;lia,(),q);rw[Zb<|m u _ _ _ F S1 I j l]
 grind[wpAny_bind,wpAny_pure]
open PySem
inductive HashAll(prog:Program)(w:World)(A:Around)(E:Ya)(s:Shared):Ye->List Int->Prop|nil:HashAll prog w A E s [] []|cons{v:Value}{vs:Ye}{h:Int}{hs:Yf}:(∀(tk:Nat)(Q:Int->Yz),(∀tk',tk<=tk'->Q h {s with toks:=tk'})->YF prog w A (pyHash v) Q E {s with toks:=tk})->HashAll prog w A E s vs hs->HashAll prog w A E s (v::vs) (h::hs)
noncomputable def FU(a:Yf):3:=reduceHash<|Builtin.Tuple.tupleHashOf a
def ME(p:↥s a=!o)(r:o.cls=.type "tuple")(t:o.data=.seq c n)(u:A.units<cLine)(H:HashAll f w A.in1 E s c.toList q)(h:∀e,g<=e->Q (FU q) {s with toks:=e}):YF f w A (pyHash<|022) Q E {s with toks:=g}:=by
 let v:Shared.TypeIs _ 022 _:=(o,p,r);rw[W.pyHash_slot v F.slot_tuple_hash F.entry_tuple_hash (F.args_tuple_hash_1 _) (beq_builtin_none _) (.inr u) ?_];show wpAny _ _ (Builtin.Tuple.tupleItemsOf _>>=_) _ _ _;rw[Za<|wpAny_tupleItemsOf p t<|Za ?_];rw[<-Vt];rw[wpAny_forIn_list _ (λrest b j=>∃left e,HashAll _ w _ E s rest left/\b.toList++left=q/\j={s with toks:=e}/\g<=e) _ ?_ ?_ _ _ (_,_,H,9,9,Zf _)];.rintro x rest b j ⟨left,e,l,m,rfl,i⟩;cases l with|cons z y=>grind[wpAny_bind,wpAny_pure,Nat.le_trans]
 .rintro b j ⟨left,e,l,m,rfl,i⟩;cases l;rw[ZA]at m;show wpAny _ _ (retInt _) _ _ _;rw[m,];rw[Za<|wpAny_mkInt<|Zb (_,_,9,h _<|Vq i)]
theorem MF:∀{a:Ye}{b:Yf},PyProof.Rows.IntsAre a b->HashAll c w A E s a (b.map hashInt)|_,_,.nil=>.nil|_,_,.cons n t r=>.cons (λe Q h=>wpAny_pyHash_int<|h _<|Vc _) (MF r)
inductive PlainV(hp:Heap):Nat->Value->Prop|int(n:Nat)(i:Int)(t:Tok):PlainV hp n (.int i t)|tup{n:Nat}{a:Addr}{o:Obj}{items:Yk}{k:Nat}:hp.get? a=!o->o.cls=.type "tuple"->o.data=.seq items k->(∀v∈items.toList,PlainV hp n v)->PlainV hp (n+1) 022
def zic(p:PlainV s.heap n v):∀d Q,n<=d->Q 6 s->YF a w A (hashByValue d v) Q E s:=by cases(p)with
|int n i t=>
intro d Q _ h
cases(d)<;>rw[Zb h]|tup b c e _ l=>
intro d Q m h
cases(d)with|zero=>lia|succ d=>
let f:Shared.TypeIs s (.ref _) _:=(_,b,c);rw[Za<|wpAny_specialOf f F.slot_tuple_hash.lookup<|Za<|wpAny_seqItems b e<|Za ?_];rw[Option.getD_some,<-Vt];rw[wpAny_forIn_list _ (λrest r g=>r.1=8/\g=s/\∀v∈rest,v∈_) _ ?_ ?_ _ _ (9,9,λv j=>j)]
.grind[wpAny_bind,wpAny_pure]
grind[wpAny_pure]
def MG(p:PlainV s.heap n v):∀d Q,n<=d->Q 6 s->YF a w A (eqIsQuiet d v) Q E s:=by cases(p)with|int n i t=>intro d Q _ h;rw[wpAny_of_eq (eqIsQuiet_byValue d 9) h]|tup b e f _ l=>
intro d Q m h
cases(d)with|zero=>lia|succ d=>
let c:Shared.TypeIs s (.ref _) _:=(_,b,e);ext eqIsQuiet;rw[Za<|wpAny_specialOf c F.slot_tuple_eq.lookup<|Za<|wpAny_isInstance c isSubtype_tuple_tuple<|Za<|wpAny_seqItems b f<|Za ?_];rw[Option.getD_some,<-Vt];rw[wpAny_forIn_list _ (λrest r g=>r.1=8/\g=s/\∀v∈rest,v∈_) _ ?_ ?_ _ _ (9,9,λv j=>j)]
.grind[wpAny_bind,wpAny_pure]
grind[wpAny_pure]
def MI(p:PlainV s.heap n v):∀d Q,n<=d->Q 7 s->YF a w A (ofAClassStatement d v) Q E s:=by cases(p)with
|int n i t=>
intro d Q _ h
cases(d)<;>rw[Zb h]|tup b c e _ l=>
intro d Q m h
cases(d)with|zero=>lia|succ d=>
let f:Shared.TypeIs s (.ref _) _:=(_,b,c);ext ofAClassStatement;rw[Za<|wpAny_typeOf f ?_];simp;rw[Za<|wpAny_seqItems b e<|Za ?_];rw[<-Vt];rw[wpAny_forIn_list _ (λrest r g=>r.1=8/\g=s/\∀v∈rest,v∈_) _ ?_ ?_ _ _ (9,9,λv j=>j)]
.grind[wpAny_bind,wpAny_pure]
grind[wpAny_pure]
def zje(a:n<=08)(c:PlainV s.heap n x)(j:∀y∈b,PlainV s.heap n y)(h:Q 7 s):YF e w A (searchCouldBeSeen x b) Q E s:=by
 rw[Za<|wpAny_forIn_list _ (λrest r f=>r.1=8/\f=s/\∀v∈rest,v∈b) _ ?_ ?_ _ _ ()];.rintro y rest r f ⟨m,rfl,l⟩;let g:=j y<|l y Zqs;let i:∀v∈rest,v∈b:=018;dsimp only;split;all_goals
  split;.rw[Zb (9,9,i)]
  .rw[Za<|MG c 08 _ a<|Za<|MG g 08 _ a<|Za<|MI c 08 _ a<|Za<|MI g 08 _ a<|Zb (9,9,i)]
 grind[wpAny_pure]
structure KeyFam(prog:Program)(w:World)(hp:Heap)(PV:Value->4)(hsh:Value->3)(same:Value->Value->Bool):4 where
ref:∀v,PV v->∃b,v=.ref b
plain:∀v,PV v->PlainV hp 08 v
hash:∀v,PV v->∀(A:Around)(E:Ya)(s:Shared)(Q:3->Yz),(∀b o,hp.get? b=!o->019)->A.units+08<cLine->(∀tk,s.toks<=tk->Q (hsh v) {s with toks:=tk})->YF prog w A (pyHash v) Q E s
eq:∀v u,PV v->PV u->∀(A:Around)(E:Ya)(s:Shared)(Q:Bool->Yz),(∀b o,hp.get? b=!o->019)->A.units+08<cLine->Q (same v u) s->YF prog w A (eqBool v u) Q E s
coh:∀v u,PV v->PV u->same v u=6->hsh v=hsh u
def PlainV.keep(k:∀b o,c.get? b=!o->hp'.get? b=!o) (p:PlainV c n v):PlainV hp' n v:=by cases(p)with|int n i t=>rw[.int n i t]|tup e f j _ l=>rw[.tup (k _ _ e) f j l]
noncomputable def Xa(same:Value->Value->Bool)(D:Ye)(v:Value):Ye:=if D.any (same · v)then D else D++[v]
def zk(same:Value->Value->Bool)(val:5->Value)(i:5):Ye:=((List.range i).map val).foldl (Xa same) []
theorem CH(same)(val)(i):zk same val (i+1)=Xa same (zk same val i) (val i):=by grind[zk,List.range_succ,List.map_append,List.foldl_append]
theorem MJ(same)(val):∀i,⇑(zk same val i)<=i|0=>Zf _|i+1=>by let:=MJ same val i;grind[Xa,CH,List.length_append,List.length_singleton]
theorem FW(same)(val):∀i v,v∈zk same val i->∃j,j<i/\v=val j
|0,v,h=>by cases h|i+1,v,h=>by
 rw[CH]at h;unfold Xa at h;split at h;.have(j,a,e):=FW _ _ i v h;rw[(j,(),e)]
 .rcases Jc.mp h with z|z;.have(j,a,e):=FW _ _ i v z;rw[(j,(),e)]
  grind
def Holds(a:Value->3)(c:Heap)(S:Addr)(ld:Bool)(D:Ye):4:=∃b t,SetIs c S b t/\b.toList.Perm (D.map λv=>%[a v|v])/\t.led=ld/\t.plain=6
def oF{same:Value->Value->Bool}(K:KeyFam l w X L c same) {ld:Bool}(C:∀b o,X.get? b=!o->019)(Y:A.units+08<cLine)(H:Holds c s.heap S ld D)(F:∀v∈D,L v)(r:L x)(hl:⇑D<=999)(h:∀u b,Heap.SameBut S s.heap u->Holds c u S ld (Xa same D x)->Q b {s with heap:=u}):YF l w A (setAddHashed S x<|c x) Q E s:=by
 let(f t,M,B,m,n):=H;let(b,Z):=K.ref x r;let N:f.size=⇑D:=by let:=B.length_eq;ext
 let g:∀i(a:i<f.size),f[i].2∈D/\f[i].1=c f[i].2:=λi a=>by let G:=B.mem_iff.mp (by rw[VX,];rw[VY a]);let(-v,j,e):=Ja.mp G;rw[<-e];rw[(j,9)]
 let p:∀v∈D,∃i,∃a:i<f.size,f[i]=%[c v|v]:=λv j=>by let G:=B.mem_iff.mpr<|Ja.mpr (v,j,9);let(i,a,e):=UM G;rw[(i,by simpa using a,by simpa using e)]
 let O:=(K.plain x r).keep C;rw[cQ (same:=λy=>same y x) M Z () (λi a b P q=>K.eq _ _ (F _ (g i a).1) r A E s _ C Y q) (.inr λP q=>?_) (λP q=>zic O 08 _ (Zf _) q) (λi a h1 h2=>?_) λI u es' t' sb S' J l' p'=>?_]
 .rw[zje (Zf 08) O (λy hy=>?_) q];let(-e,R,rfl):=Ja.mp hy;let R:e∈f:=by ext
  let(i,a,rfl):=Array.getElem_of_mem R;rw[(K.plain _<|F _ (g i a).1).keep C]
 .let e:Xa _ D x=D:=Zd<|VW.mpr (_,(g i a).1,h2);let:=h _ 7 (Heap.SameBut.refl S _) (_,t,M,by rwa[e,],m,n);rw[this]
 .let e:Xa _ D x=D++[x]:=Ze λz=>by let(-v,j,T):=VW.mp z;let(i,a,U):=p v j;let:=I i a (by rw[U,];rw[K.coh v x (F v j) r T]);rw[U,T]at this;cases this
  rw[h _ _ sb (_,_,S',?_,l'.trans m,p'.trans n)];rw[e,Ud];rw[J.trans<|B.append_right _]
section
variable {St:Nat->Yz}
def Holds.keep{ld:Bool} (H:Holds e f S ld D)(k:∀o,f.get? S=!o->hp'.get? S=!o):Holds e hp' S ld D:=by let(j t,c,r):=H;let(l,i):=c.at_;rw[(_,t,((_,k _ i),c.tab,c.seven,c.most,c.room,c.refs),r)]
def eD(W:WalksS f w A.in1 I fp q G n P St)(S)(J:S∉fp) (r:∀b o,L.get? b=!o->b∉q/\b≠S){same:Value->Value->Bool}(K:KeyFam f w L T t same)(val)(x:∀i v,P i v->v=val i)(M:∀i,i<n->T (val i))(hn:n<=999)(U:A.in1.units+08<cLine)(ld):∀k i s,n-i=k->i<=n->St i s->(∀b o,L.get? b=!o->019)->Holds t s.heap S ld (zk same val i)->(∀a,Moved (S::q) G s a->Holds t a.heap S ld (zk same val n)->R (.ok<|.ret .none) a)->codeAny (model f w) A (.builtin "set.update.loop" ([.ref S,.ref I],[])) R s:=by let y:S∉q:=λh=>J<|W.sub _ h;let g:∀b∈q,b∈S::q:=018;intro k;cases(k)with
|zero=>
intro i s X hi j z H N;let O:i=n:=()
subst O;rw[codeAny_builtin F.entry_set_update_loop ?_];rw[Around.under_plainId F.plain_set_update_loop _,];show wpAny _ A.in1 (pyNext _>>=_) _ _ s;rw[Za<|W.done s _ _ j λa p=>?_];show wpAny _ _ _ _ _ a;rw[Zb<|N a (p.mono g)<|H.keep λo e=>p.heap S _ y e]|succ k ih=>
intro i s X hi j z H N;let l:i<n:=()
rw[codeAny_builtin F.entry_set_update_loop ?_];rw[Around.under_plainId F.plain_set_update_loop _,];show wpAny _ _ (pyNext (.ref I)>>=_) _ _ s;rw[Za<|W.item i s _ _ l j λv a hP B p=>?_];let Y:=x i v hP;let H':=H.keep (hp':=a.heap) λo e=>p.heap S _ y e;let c:∀b o,L.get? b=!o->↥a b=!o:=λb o e=>p.heap b o (r b o e).1<|z b o e;let Z:T v:=by rw[Y,];rw[M i l]
show wpAny _ A.in1 _ _ _ a;rw[Za<|wpAny_holding ?_];ext setAdd;rw[wpAny_holding ?_];rw[Za<|K.hash v Z _ _ _ _ c U λtk C=>?_];let hl:=MJ same val i;rw[oF K c U H' (λu hu'=>?_) Z () λh' b m H2=>?_]
.grind[FW]
.rw[Y,<-CH]at H2;rw[Zb (plainId_quiet F.plain_set_update_loop _,ih (i+1) _ (by rw[Nat.sub_succ,X];rfl) l (W.frame _ a _ _ B ?_ λb hb o e=>?_) (λb o e=>?_) H2 λs'' E Q=>?_)];.rw[C]
 .rw[m.2 b (),];rw[e]
 .rw[m.2 b (r b o e).2,];rw[c b o e]
 .rw[N _ (Moved.trans W.gtrans ((p.mono g).then_heap ?_ λb o hb e=>?_) E) Q];.rw[C]
  .rw[m.2 b (),];rw[e]
end
section
variable {w:World} {s:Shared}
noncomputable def zw(w:World):Bool:=not<|w.params.followText "set-order"
def zjE(a:Value)(h:Q₁ (.ref s⁻¹) {s with heap:=s.heap.push {cls:=.type "set",dict:=8,data:=.set #[] 0 (.fresh 0 0<|zw w)}}):codeAny (model prog w) A (.call (.builtin "set.__new__") ([.type "set",a],[])) (wants Q₁ E) s:=by rw[codeAny_of_tree ?_];show wpAny _ _ (do checkBuiltinCall _ ([.type _,a],_);again (.builtin "set.__new__" _)) _ _ s;rw[Za<|wpAny_of_eq (F.newCall_set_1 a)<|Zb (plainId_quiet F.plain_set_new _,codeAny_builtin F.entry_set_new ?_)];rw[Around.under_plainId F.plain_set_new _,];ext Builtin.«set.__new__» Builtin.Frozenset.newClass;let b:=sub_set_self;let(c,g,d,e,os):=s;dsimp only;wp_walk;rw[wpAny_askSetting<|Zb ?_];dsimp only;simp only[newObj];rw[Za<|wpAny_alloc<|Zb ?_];rw[Zb h]
set_option maxRecDepth 100000 in
set_option maxHeartbeats 3200000 in
def MK{l:Addr}{a:Yk}{P:Heap->4}{Q:Ya}(hh:A.handled=8)(hl:s.heap.IsList l a)(LP:∀{I:Addr}{fp S:Yj}{G:Array GenState->Array GenState->4}{St:5->Yz}(_:WalksS prog w A.in1.in1.in1 I fp S G a.size (λi v=>a[i]?=!v) St){q:Shared}{R:Result->Yz},s⁻¹∉fp->(∀b o,019->b∉S/\b≠s⁻¹)->St 0 q->(∀b o,019->↥q b=!o)->↥q s⁻¹=!{cls:=.type "set",dict:=8,data:=.set #[] 0 (.fresh 0 0<|zw w)}->(∀t,Moved (s⁻¹::S) G q t->P t.heap->R (.ok<|.ret .none) t)->codeAny (model prog w) A.in1.in1 (.builtin "set.update.loop" ([.ref s⁻¹,.ref I],[])) R q)(h:∀(f:Heap)(N:5),P f->(∀b o,b<s⁻¹->019->f.get? b=!o)->Q (.ref s⁻¹) {s with heap:=f,toks:=N}):YF prog w A (call (.type "set") [.ref l]) Q E s:=by
 let cn:=λA:Around=>zjE (prog:=prog) (w:=w) (A:=A) (E:=E) (s:=s) (.ref l) (Q₁:=λu s₁=>u=.ref s⁻¹/\s₁={s with heap:=s.heap.push {cls:=.type "set",dict:=8,data:=.set #[] 0 (.fresh 0 0<|zw w)}}) (9,9);generalize zw w=x at LP cn;let(c,tl,hmro):=F.called_set.mro;let T:=F.called_set.made;let hsub:=F.called_set.sub;rw[wpAny_call<|codeAny_of_tree ?_];show wpAny _ _ (callAny (.type "set") _) _ _ _;rw[Zb (Code.quiet_builtin _<|002,codeAny_builtin F.entry_type_call ?_)];rw[Around.under_plain (weight_type_call_type "set" [.ref l] []) 9,];let h1:=F.called_set.notType;let h2:=F.called_set.canCreate;let hct:=F.typeCall_set_1<|.ref l;repeat(any_goals(first|assumption|wp_step))
 rw[codeAny_mono (cn _) λr s₁ n=>?_];cases r with|error e=>rw[n]|ok U=>cases U with
|ret u=>
let(rfl,rfl):=n;generalize g:({cls:=.type "set",dict:=8,data:=.set #[] 0 (.fresh 0 0 x)}:Obj)=no at*;let hS:(s.heap.push no).get? s⁻¹=!no:=Zr _ (by rw[<-g];rfl);let hT:Shared.TypeIs {s with heap:=s.heap.push no} (.ref s⁻¹) "set":=(_,hS,by rw[<-g]);let hli:=F.called_set.init.lookup;let hbi:=F.called_set.init.bind<|.ref s⁻¹
repeat(any_goals(first|assumption|wp_step))
rw[codeAny_mono (codeAny_call_builtin (R:=wants (λr s₂=>r=.none/\∃f N,s₂={s with heap:=f,toks:=N}/\P f/\∀b o,b<s⁻¹->019->f.get? b=!o) E) F.called_set.init.plain F.entry_set_init<|check_set_init_1 hT ?_) λr₂ s₂ hr₂=>?_]
.let(ol,y,z,nl,B):=hl;let(ocls,p,X,j):=ol;simp only at z B;subst z;subst B;let C:(s.heap.push no).get? l=!{cls:=017,dict:=p,data:=.seq a nl,slots:=j}:=Zq _ y;let hsls:=F.sub_list_set;let hslf:=F.sub_list_frozenset;let hne:(Value.type "list"==Value.type "dict")=7:=004;let H:(s.heap.push no).IsList l a:=(_,C,9,nl,9);subst g;ext Builtin.«set.__init__» noKeywords Builtin.Frozenset.updateFrom;generalize Y:pyIter=PI;wp_walk;subst Y;rw[wpAny_pyIter_list H ?_];rw[Za<|wpAny_runValue ?_];let J:l<s⁻¹:=Zk y;let Z:A.in1.in1.in1.handled=8:=by simp[hh]
 generalize g:({cls:=.type "set",dict:=8,data:=.set #[] 0 (.fresh 0 0 x)}:Obj)=no at*;let m:(s.heap.push no).objs.size=s⁻¹+1:=Heap.size_push ..;let L:l≠(s.heap.push no).objs.size:=by rw[m,];rw[Zi<|UH J]
 let hSf:s⁻¹ ∉[(s.heap.push no).objs.size,l]:=by simp only[UN,UY,or_false,not_or];rw[(by rw[m,];rw[Zi<|UQ _],UP J)]
 rw[LP (Walks.list Z _ l L a).toS hSf (λb o e=>?_) ((_,Zr _ 9,9,9),H.push _) (λb o e=>Zq _<|Zq _ e) (Zq _ hS) λt O H'=>?_];.let M:=Zk e;rw[(?_,Zi M)];simp only[UN,UY,or_false];rw[m,];rw[Zi<|UH M]
 .let(f,g',d',tk',os'):=t;let eg:g'=s.gens:=O.gens;let ed:d'=s.drawn:=O.drawn;let eo:os'=s.os:=O.os;subst eg;subst ed;subst eo;show wpAny _ _ _ _ _ _;rw[Zb ?_];show wpAny _ _ (ret Value.none) _ _ _;rw[Zb (9,f,tk',9,H',λb o M e=>?_)];rw[O.heap b o (by simp only[UN,UY,or_false,not_or];rw[(Zi M,by rw[m,];rw[Zi<|UH M])])<|Zq _<|Zq _ e]
.cases r₂ with|error e=>rw[hr₂]|ok fl₂=>cases fl₂ with
 |ret r=>
let(rfl,f,N,rfl,hS',hk'):=hr₂
repeat(any_goals(first|assumption|wp_step))
rw[h _ _ hS' hk']|_=>rw[hr₂.elim]
|_=>rw[n.elim]
def zjs{same:Value->Value->Bool} (p:A.handled=8)(q:s.heap.IsList l a)(K:KeyFam c w s.heap r e same)(f:∀(i:5)(v:Value),a[i]?=!v->r v)(t:a.size<=999)(u:A.in1.in1.in1.units+08<cLine)(h:∀(g:Heap)(x:5),Holds e g s⁻¹ (zw w) (zk same (λi=>a.getD i .none) a.size)->(∀b o,b<s⁻¹->019->g.get? b=!o)->Q (.ref s⁻¹) {s with heap:=g,toks:=x}):YF c w A (call (.type "set") [.ref l]) Q E s:=MK p q (λW b b m n y z B R=>eD W _ m n K (λi=>a.getD i .none) λi v C=>by rw[V5,C];rfl λi F=>f i _<|by show a[i]?=! a.getD i _;rw[K5 F,Uz] t u _ _ 0 _ 9 (Ub _) y z (_,_,((0,B),by rw[(by rw[Ur,];rfl,λi j b h=>Zn h<|US _,λi h=>Zn h<|US _,9,(03,9),Ub _,λi h=>Zn h<|US _)],Zf _,Zf _,show 0*05<07*03 by decide,λi h=>Zn h<|US _),VD _,9,9) R) h
end
noncomputable def Wc(p:3×3):PyData:=.tuple [.int p.1,.int p.2]
def wY(r:J0):PyData:=.tuple<|r.map Wc
def ML(p:3×3):3:=FU<|[p.1,p.2].map hashInt
def ln(r:J0):3:=FU<|r.map ML
def vz(c:Heap)(v:Value)(p:3×3):4:=∃a o b n t u,v=022/\c.get? a=!o/\o.cls=.type "tuple"/\o.data=.seq b n/\b.toList=[.int p.1 t,.int p.2 u]
inductive IsPairs(hp:Heap):Ye->J0->Prop|nil:IsPairs hp [] []|cons{v vs p r}:vz hp v p->IsPairs hp vs r->IsPairs hp (v::vs) (p::r)
def wE(b:Heap)(v:Value)(r:J0):4:=∃a o c n,v=022/\b.get? a=!o/\o.cls=.type "tuple"/\o.data=.seq c n/\IsPairs b c.toList r
def oM(h:vz b v p):Reads b v (Wc p) []:=by let(a o i n t u,rfl,c,e,f,g):=h;rw[.tuple c e f ?_];rw[g,];rw[.cons (.int _ _)<|.cons (.int _ _) .nil]
def zku:∀{a:Ye}{r:J0},IsPairs b a r->ReadsAll b a (r.map Wc) []:=λh=>by cases(h)with|nil=>rw[.nil]|cons c _ e=>rw[.cons (oM c) e]
def MM(h:wE b v r):Reads b v (wY r) []:=by let(a o i n,rfl,c,e,f,g):=h;rw[.tuple c e f<|zku g]
def vz.keep(k:∀b o,c.get? b=!o->hp'.get? b=!o) (h:vz c v p):vz hp' v p:=by let(a o i n t u,e,f,r):=h;rw[wd a o _ n t u (e,k _ _ f,r)]
theorem IsPairs.keep(k:∀b o,c.get? b=!o->hp'.get? b=!o) (h:IsPairs c e r):IsPairs hp' e r:=by cases(h)with|nil=>rw[.nil]|cons f _ i=>rw[.cons (f.keep k) i]
theorem wE.keep(k:∀b o,c.get? b=!o->hp'.get? b=!o) (h:wE c v r):wE hp' v r:=by let(a o p n,e,f,i,j,l):=h;rw[jS a o _ n (e,k _ _ f,i,j,l.keep k)]
theorem zn6(h:vz c v p)(n):PlainV c (n+1) v:=by
 let(a o l k t u,rfl,f,g,i,j):=h;rw[.tup f g i λx b=>?_];rw[j]at b;obtain e|e:=UN.mp b;.rw[e,];rw[.int _ _ _]
 .rw[Jb.mp e,];rw[.int _ _ _]
def znJ(e:A.units<cLine):∀{b:Ye}{r:J0},IsPairs s.heap b r->HashAll c w A E s b (r.map ML):=λh=>by cases(h)with|nil=>rw[.nil]|cons f _ g=>rw[.cons (λp Q h=>?_) g];let(a o b n t u,rfl,i,j,l,m):=f;rw[ME i j l e ?_ h];rw[m,];rw[MF<|.cons _ _<|.cons _ _ .nil]
def aO(p q):PyData.eqv (Wc p) (Wc q)=decide (p=q):=by grind[Wc,PyData.eqv,PyData.eqvAll]
theorem MN:∀r q:J0,PyData.eqvAll (r.map Wc) (q.map Wc)=decide (r=q)|[],[]=>by rfl|[],_::_=>by rfl|_::_,[]=>by rfl|p::r,q::s=>by rw[Zl,Zl];ext PyData.eqvAll;rw[aO,MN,Vb];simp
def lC(r q):PyData.eqv (wY r) (wY q)=decide (r=q):=MN r q
theorem MO:∀r:J0,PyData.canLayAll0 (r.map Wc)=6|[]=>9|p::r=>by rw[Zl,];ext PyData.canLayAll0;rw[MO,];rfl
def MP(r):(wY r).canLay0=6:=MO r
theorem MQ:∀r:J0,PyData.depthAll (r.map Wc)<=1|[]=>Ub _|p::r=>by rw[Zl,];ext PyData.depthAll;let a:(Wc p).depth=1:=9;let b:=MQ r;rw[a,];lia
def iu(r):(wY r).depth<=2:=VC<|MQ r
def vz.inj(h:vz c v p)(f:vz c v q):p=q:=by let(a o j n t u,rfl,l,r,s,x):=h;let(y z i B E F,e,G,H,I,J):=f;grind
theorem IsPairs.inj:∀{c:Ye}{r q:J0},IsPairs e c r->IsPairs e c q->r=q:=λ{c r q}g h=>by induction g generalizing q with|nil=>cases h;rfl|cons f _ i=>cases h with|cons j l=>rw[f.inj j,i l]
theorem wE.inj(h:wE i v r)(j:wE i v q):r=q:=by let(a o y n,rfl,l,z,p,s):=h;let(B E u F,e,c,G,f,x):=j;cases e;rw[l]at c;obtain rfl:=Zqi c;rw[p]at f;cases f;rw[s.inj x]
open Classical in
def zD(a:Heap)(v:Value):J0:=if h:∃r,wE a v r then h.choose else[]
theorem CI(h:wE a v r):zD a v=r:=by ext zD;let e:∃r,wE _ v r:=(r,h);rw[dif_pos,];rw[e.choose_spec.inj h]
def a8(b)(w)(c):KeyFam b w c (λv=>∃r,wE c v r) (λv=>ln<|zD c v) λv u=>decide<|zD c v=zD c u where
 ref:=by rintro v ⟨r,a,o,f,n,e,_⟩;rw[(a,e)]
 plain:=by rintro v ⟨r,h⟩;let(a,o,f,k,rfl,m,p,t,g):=h;rw[.tup m p t ?_];generalize f.toList=l at g;cases(g)with|nil=>simp|cons i _ B=>grind[zn6]
 hash:=by rintro v ⟨r,h⟩ A E s Q hk hu hq;rw[CI h]at hq;let(a o f n,rfl,i,x,y,z):=h.keep hk;rw[ME i x y () (znJ (show A.units+1<cLine from()) z) hq]
 eq:=by rintro v u ⟨r,h⟩ ⟨q,j⟩ A E s Q hk hu hq;rw[CI h,CI j,<-lC]at hq;let C:=iu r;rw[SeqAt.eqBoolOverData _ w A E s v u _ _ _ _ Q (MM<|h.keep hk) (MM<|j.keep hk) (MP r) (MP q) () hq]
 coh:=()
def kA:Slot "set_iterator" "__next__" "set_iterator.__next__":=.of (owner:="set_iterator") (n:="__next__") (by kernel_rfl) (by rfl) (by rfl) (by rfl) (by first|rw[.inl<|002]|rw[.inr _])<|by kernel_rfl
def MS:entryFor table "set_iterator.__next__"=!Builtin.«set_iterator.__next__»:=entryFor_of_tree<|by rfl
def MT:Manifest.owners.lookup (String.ofList ['r','o','t','a','r','e','t','i','_','t','e','s'].reverse)=!Manifest.sig_set_iterator:=by kernel_rfl
def MU(a):argsOk "set_iterator.__next__" ([a],[]):=by ext argsOk;rw[signature?_of (n:=['_','_','t','x','e','n','_','_']) (by kernel_rfl) MT,];rfl
def zgM:entryFor table "set.__iter__"=!Builtin.«frozenset.__iter__»:=entryFor_alias (id':="frozenset.__iter__") (by kernel_rfl) 9 002<|by kernel_rfl
def MV:Slot "set_iterator" "__iter__" "set_iterator.__iter__":=.of (owner:="set_iterator") (n:="__iter__") (by rw[typeLookup_type,builtinLookup_eq_fast];kernel_rfl) 002 (by rfl) (by rfl) (by first|rw[.inl<|002]|rw[.inr _])<|by rw[isSubtype_type,];kernel_rfl
def zgK:entryFor table "set_iterator.__iter__"=!Builtin.«dict_keyiterator.__iter__»:=entryFor_alias (id':="dict_keyiterator.__iter__") (by kernel_rfl) (by rfl) 002<|by kernel_rfl
abbrev MW(h:Heap)(it S:Addr)(slot i n ep:5):4:=h.get? it=!{cls:=.type "set_iterator",dict:=8,data:=.fields #[.int slot 0,.int i 0,.ref S,.int n 0,.int ep 0],slots:=#[]}
noncomputable abbrev XI(es:Array (3×Value))(ep:5)(t:YA):Obj:={cls:=.type "set",dict:=8,data:=.set es ep t,slots:=#[]}
noncomputable def K6(w:World)(S b:5)(a:Array (3×Value)):Array (3×Value):=if w.params.followText "set-order"then pickOrder (w.params.setOrder S b) a else a
theorem MX(next):∀fuel k(left:List α)a,⇑left<=fuel->(pickOrder.go next fuel k left a).toList.Perm (a.toList++left)|0,k,left,a,h=>by simp_all[pickOrder.go]|fuel+1,k,left,a,h=>by ext pickOrder.go;induction q:left[next k%⇑left]? with
|none=>
let b:⇑left=0:=by grind[Nat.eq_zero_or_pos,Nat.mod_lt,Zqg]
ext|some x=>
let b:=List.length_eraseIdx_of_lt<|(Jd.mp q).1;rw[(MX _ _ _ _ _ ()).trans ?_];rw[Array.toList_push,Uf];rw[List.Perm.append_left _ ?_];let c:left=left.take (next k%⇑left)++x::left.drop (next k%⇑left+1):=by grind[List.take_append_drop,List.drop_eq_getElem_cons]
rw[List.eraseIdx_eq_take_drop_succ,];rw[VA (List.perm_middle (l₁:=left.take _)).symm<|List.Perm.of_eq c.symm]
theorem iC(next)(a:Array α):(pickOrder next a).toList.Perm a.toList:=by grind[pickOrder,MX]
def MY(w)(S b)(a):(K6 w S b a).toList.Perm a.toList:=by grind[K6,iC,List.Perm.refl]
def FX(w)(S b)(a):(K6 w S b a).size=a.size:=by let:=(MY w S b a).length_eq;omega
def zmV(u:vZ c) (f):SetTable.below c (c[i]+1)=i+1:=by
 let(!h,g,j):=CF u (c[i]+1);let e:=K5 f 0;rcases U8 (SetTable.below c<|c[i]+1) (i+1)with q|q|q;.grind
 .rw[q]
 .let a:=g _ q;let b:=u i (i+1) () ();lia
def eJ{S m:5} (f:↥s S=! XI n m t)(h:t.fits n.size=6)(r:t.plain=6)(u:Q (.ref s⁻¹) {s with heap:=s.heap.push {cls:=.type "set_iterator",data:=.fields #[.int 0 0,.int 0 0,.ref S,.int n.size 0,.int m 0]}}):YF a w A (pyIter<|.ref S) Q E s:=by
 let o:s.TypeIs (.ref S) "set":=(_,f,9);rw[wpAny_pyIter_slot o F.slot_set_iter<|wpAny_call_entry F.slot_set_iter o zgM ?_<|F.args_set_iter_1 _];ext Builtin.«frozenset.__iter__» Builtin.Frozenset.slot0 slotArgs;simp only[bind_assoc];rw[Za<|Zb<|Za<|Zb<|Za<|Za<|wpAny_setEntries_of f 9 h<|Zb ?_];let v:wpAny (model a w) A.in1 (setDrawn S) (λb p=>b=7/\p=s) E s:=by rw[Za<|wpAny_setState_of f 9 h<|Za<|Za<|wpAny_askSetting<|Zb<|Zb (?_,9)];let(q,i,c,g,x,j,l):=t;cases r;rw[Vl _]
 rw[Za<|Zc v (λb p z=>?_) λb b e=>e];let(rfl,rfl):=z;rw[Za<|Zb<|Za<|Za<|wpAny_setState_of f 9 h<|Zb<|Za<|wpAny_newObj_type (Zb (_,9,_,_,(_,Zr _ 9,9),kA.lookup,u))<|by simp_all[sizeOk,sizeLine_eq]]
def MZ(r:↥s S=! XI f l t)(u:t.fits f.size=6)(x:t.plain=6)(m:t.led=zw w)(y:vZ t.place)(B:t.place.size=f.size)(C:w.params.followText "set-order"=7->SetTable.below t.place c=i)(n:∀b,(w.params.followText "set-order"=7->i<f.size->SetTable.below t.place b=i+1)->Q (((K6 w S l f)[i]?).map λe=>%[e.2|b]) s):YF a w A (setNext S c i l) Q E s:=by rw[Za<|wpAny_setState_of r 9 u ?_];rw[Za<|Za<|wpAny_askSetting<|Zb ?_];induction q:w.params.followText _ with
|true=>
let e:({program:=(model a w).prog,params:=(model a w).w.params}:Setting).params.followText _=6:=q;rw[Zd e,];rw[Ze (),];rw[Za<|Za<|wpAny_setState_of r 9 u ?_];rw[Za<|Za<|wpAny_askSetting<|Zb ?_];rw[Zd e,];rw[Za<|wpAny_askSetting<|Zb<|Zb ?_];let:=n c λz=>by rw[q]at z;cases z
unfold K6 at this
rwa[Zd q]at this|false=>
let e:¬({program:=(model a w).prog,params:=(model a w).w.params}:Setting).params.followText "set-order"=6:=by show ¬w.params.followText _=6;rw[q,];simp
rw[Ze e,];let F:K6 w S l f=f:=by ext K6;rw[q,];rfl
rw[F]at n;rw[C q,];let m:t.led=6:=by rw[m,];ext zw;rw[q,];rfl
let(v,g,h,j,G,o,p):=t;cases x;cases m
split
.rename_i z;rw[Zn z Zj]
.rw[Za<|Zb<|Zb ?_];cases H:i<f.size
 .let I:i<g.size:=by rwa[B,]
  let:=n _ λ_ _=>zmV y I;rw[Uz H]at this;rwa[Uz,Uz]
 grind[Array.getElem?_eq_none]
abbrev CJ(w:World)(it S:Addr)(es:Array (3×Value))(ep:5)(t:YA)(i:5)(h:Heap):4:=(∃slot,MW h it S slot i es.size ep/\(w.params.followText "set-order"=7->i<=es.size->SetTable.below t.place slot=i))/\h.get? S=! XI es ep t
structure SetGood(w:World)(es:Array (3×Value))(t:YA):4 where
fits:t.fits es.size=6
plain:t.plain=6
led:t.led=zw w
up:vZ t.place
size:t.place.size=es.size
def ee(G:SetGood w e t)(v:CJ w f S e j t i s.heap)(y:i<e.size)(B:∀l x,(∃k,(K6 w S j e)[i]?=!%[k|x])->CJ w f S e j t (i+1) l->Heap.SameBut f s.heap l->Q (!x) {s with heap:=l}):YF q w A (pyNext<|.ref f) Q E s:=by
 let((r,c,m),n):=v;let u:s.TypeIs (.ref f) "set_iterator":=(_,c,9);let g:S≠f:=018;ext pyNext;rw[Za<|wpAny_attempt<|wpAny_callSpecial?_slot u kA<|wpAny_call_entry kA u MS ?_<|MU _];ext Builtin.«set_iterator.__next__» slotArgs;simp -iota only[UD,bind_assoc];rw[Za<|Zb ?_];rw[Za<|wpAny_fieldsOf c 9<|Za<|wpAny_setEntries_of n 9 G.fits ?_];simp;rw[Za<|MZ n G.fits G.plain G.led G.up G.size () λo a=>?_];let C:i<(K6 w S j e).size:=by rwa[FX,]
 rw[Uz C,];rw[Za<|wpAny_setField_rec c () λh₁ he₁ hs₁=>Za<|wpAny_setField_rec he₁ () λh₂ he₂ hs₂=>?_];rw[Zb (_,9,Zb<|B _ _ () ((_,?_,λz b=>a z y),hs₂.extBut _ _ g<|hs₁.extBut _ _ g n) (hs₂.1.trans hs₁.1,λb m=>(hs₂.2 b m).trans<|hs₁.2 b m))];ext MW;simpa[rawInt]using he₂
def lK(m:A.handled=8)(G:SetGood w e t)(n:CJ w b S e p t i s.heap)(q:i=e.size)(o:∀f,Heap.ExtBut b s.heap f->Q 8 {s with heap:=f}):YF g w A (pyNext<|.ref b) Q E s:=by let((h,a,r),j):=n;let l:s.TypeIs (.ref b) "set_iterator":=(_,a,9);ext pyNext;rw[Za<|wpAny_attempt<|wpAny_callSpecial?_slot (name:=Str.ofString "__next__") l kA<|wpAny_call_entry kA l MS ?_<|MU _];ext Builtin.«set_iterator.__next__» slotArgs;simp -iota only[List.isEmpty_nil,Bool.not_true,UD,↓reduceIte,ZC];rw[Za<|Zb ?_];rw[Za<|wpAny_fieldsOf a 9 ?_];dsimp only;rw[Za<|wpAny_setEntries_of j 9 G.fits ?_];simp -iota[Vu];rw[Za<|MZ j G.fits G.plain G.led G.up G.size () λc u=>?_];rw[V4 (by rw[FX,];lia),];rw[Za<|wpAny_setField a 9 ()<|Za ?_];rw[Za (wpAny_newObj_type (Za<|wpAny_of_eq (by first|rfl|(simp only)) ?_)<|by size_fits)];rw[wpAny_newObj_type (Za<|wpAny_handled ?_) (by size_fits)];rw[m,];rw[Za<|Zb<|wpAny_throw ?_];rw[Za<|wpAny_isInstance (_,Zr _ 9,9) isSubtype_stop<|Zb<|o _<|((Heap.SameBut.update ..).extBut.push _).push _]
def oi(p:A.handled=8){it S ep:5} (G:SetGood w f t):WalksS prog w A it [it,S] [it] (λg q=>q=g) f.size (λi v=>∃k,(K6 w S ep f)[i]?=!%[k|v]) λi s=>CJ w it S f ep t i s.heap:=(show Walks _ w A _ _ _ _ _ _ from{
sub:=by simp
frame:=018
item:=λi s Q E r a c=>ee G a r λu x y h z=>c x _ _ y h λb o m e=>z.extBut b o () e
done:=λs Q E a c=>lK p G a 9 λu B=>c _ _ λb o m e=>B b o () e
self:=λi s Q E a c=>by let(!(_,j,m),C):=a;rw[have l:=(_,j,9);wpAny_pyIter_slot l MV (wpAny_call_entry MV l zgK (Zb (_,9,_,_,l,kA.lookup,c))<|by ext argsOk;rw[signature?_of (n:=['_','_','r','e','t','i','_','_']) (by kernel_rfl) MT,];rfl)]}).toS
def lY:typeLookup (.type "set") "__len__"=pure ! .builtin "set.__len__":=by rw[typeLookup_type,builtinLookup_eq_fast];kernel_rfl
def eW(a:s.TypeIs (.ref r) "set") (h:Q 7 s):YF f w A (Builtin.List.listLengthHint<|.ref r) Q E s:=by rw[Za<|wpAny_specialOf a lY ?_];generalize c:"set.__len__"=id0;subst c;rw[Za<|wpAny_isInstance (b:=6) a (by rw[isSubtype_type,];kernel_rfl)<|wpAny_ite_split (λe=>Zn e<|004)<|λb=>Za<|wpAny_typeOf a<|Zb h]
def zkS{S ep:5} (hh:A.handled=8)(p:↥s S=! XI m ep t)(G:SetGood w m t)(hn:m.size<=1000)(h:∀(f:Heap)(g:5)(vs:Ye),(∀b o,019->f.get? b=!o)->vs.Perm (m.toList.map (·.2))->s⁻¹<f.objs.size->R vs {s with heap:=f,toks:=g}):YF prog w A (collect<|.ref S) R E s:=by
 let N:S<s⁻¹:=Zk p;let hT:s.TypeIs (.ref S) "set":=(_,p,9);ext collect;rw[Za<|wpAny_runValue<|codeAny_builtin F.entry_proto_collect ?_];rw[Around.under_plainId F.plain_proto_collect _,];show wpAny _ A.in1 (newList []>>=λl=>again<|.builtin "list.__iadd__" ([l,.ref S],[])) _ _ s;rw[Za<|wpAny_newObj_type ?_];rw[Zb (plainId_quiet F.plain_list_iadd _,codeAny_builtin F.entry_list_iadd ?_)];rw[Around.under_plainId F.plain_list_iadd _,];generalize u:({cls:=017,data:=.seq ([]:Ye).toArray}:Obj)=no;let hL₁:(s.heap.push no).get? s⁻¹=!no:=Zr _ (by rw[<-u];rfl);let ho₁:(s.heap.push no).get? S=! XI m ep t:=Zq _ p;let hT₁:Shared.TypeIs {s with heap:=s.heap.push no} (.ref S) "set":=(_,ho₁,9);let v:S≠s⁻¹:=Zi N;show wpAny _ A.in1 (Builtin.List.listExtendWith (.ref s⁻¹) (.ref S)<|.ref s⁻¹) _ _ _;ext Builtin.List.listExtendWith;rw[Za<|wpAny_typeOf hT₁ ?_];let h1:Builtin.List.listSameRef (.ref s⁻¹) (.ref S)=7:=by simp[Builtin.List.listSameRef,Ne.symm v]
 let P:(Value.type "set"==Value.type "list")=7:=004;let h3:(Value.type "set"==Value.type "tuple")=7:=004;simp -iota only[h1,P,h3,Bool.or_false,UD,if_false];rw[Za<|eJ (s:={s with heap:=s.heap.push no}) ho₁ G.fits G.plain ?_];let Q:(s.heap.push no).objs.size=s⁻¹+1:=Heap.size_push ..;generalize T:(s.heap.push no).objs.size=I at*;generalize x:({cls:=.type "set_iterator",data:=.fields #[.int 0 0,.int 0 0,.ref S,.int m.size 0,.int ep 0]}:Obj)=ni;let hS₂:=Zq ni ho₁;let hL₂:=Zq ni hL₁;let hI₂:((s.heap.push no).push ni).get? I=!ni:=by rw[<-T];rw[Zr _<|by rw[<-x];rfl]
 rw[Za<|wpAny_holding<|eW (_,hS₂,9) ?_];let U:I≠s⁻¹:=();let y:∀X,(∀f g c a,(∀b o,019->f.get? b=!o)->f.get? s⁻¹=!{cls:=017,dict:=8,data:=.seq a c,slots:=#[]}->a.toList.Perm (m.toList.map (·.2))->X (.ok<|.ret<|.ref s⁻¹) {s with heap:=f,toks:=g})->∀h c₁ g,(∀b o,b≠s⁻¹->((s.heap.push no).push ni).get? b=!o->h.get? b=!o)->h.get? s⁻¹=!{cls:=017,dict:=8,data:=.seq #[] c₁,slots:=#[]}->codeAny (model prog w) A (.builtin "list.extend.loop" ([.ref s⁻¹,.ref I,.ref s⁻¹],[])) X {s with heap:=h,toks:=g}:=by
  intro X hR h₀ c₁ g z i;let Y:s⁻¹ ∉[I,S]:=by simp only[UN,UY,or_false,not_or];rw[()]
  let B:h₀.get? I=!ni:=z I _ U hI₂;rw[<-x]at B;rw[codeAny_extend_loopS (oi (prog:=prog) (w:=w) (A:=A.in1) (it:=I) (S:=S) (ep:=ep) hh G) (Zh hn<|by rw[sizeLine_eq,];lia) s⁻¹ Y _ m.size 0 {s with heap:=h₀,toks:=g} #[] c₁ 9 (Ub _) ((0,B,λb b=>by
let(!h1,P,h3):=CF G.up 0;obtain q|q:=Vr _
.rw[q]
.let:=P 0 q;lia),z S _ v hS₂) i (ItemsOf.nil _) λs' a c O Z n=>?_];let(f,g',d',tk',os'):=s';let eg:g'=s.gens:=O.gens;let ed:d'=s.drawn:=O.drawn;let eo:os'=s.os:=O.os;subst eg;subst ed;subst eo;rw[hR f tk' c a (λb o e=>?_) Z ?_];.let C:=Zk e;let H:b≠s⁻¹:=Zi C;let hbI:b≠I:=Zi (Zg C<|by rw[Q,];rw[Vc _]);rw[O.heap b o (by simp only[UN,UY,or_false,not_or];rw[(H,hbI)])<|z b o H<|Zq _<|Zq _ e]
  .let el:a.toList=(K6 w S ep m).toList.map (·.2):=by
    apply Va;intro j;rw[Zv,];cases hj:j<a.size
    .let(k,z):=n.2 j a[j] (Uz hj);let:(K6 w S ep m).toList[j]?=!%[k|a[j]]:=by simpa using z
     rw[this,];simp[hj]
    .let hw:(K6 w S ep m).toList[j]?=8:=UA (by rw[Ue,FX,<-n.1];lia);rw[hw,];rw[UA<|by rw[Ue,];lia]
   rw[el,];rw[(MY w S ep m).map _]
 let J:∀f g c(a:Yk),(∀b o,019->f.get? b=!o)->f.get? s⁻¹=!{cls:=017,dict:=8,data:=.seq a c,slots:=#[]}->a.toList.Perm (m.toList.map (·.2))->YF prog w A (do
let o<-load s⁻¹
match o.data with|.seq xs _=>pure xs.toList|_=>unsupported "internal:collect") R E {s with heap:=f,toks:=g}:=λf g c a L r M=>by rw[Za<|wpAny_load r ?_];rw[Zb<|h f g a.toList L M<|Zk r]
 let hL₂':((s.heap.push no).push ni).get? s⁻¹=!{cls:=017,dict:=8,data:=.seq #[] 0,slots:=#[]}:=by rw[hL₂,<-u]
 rw[wpAny_ite_split (λ_=>?_)<|λb=>Zb (plainId_quiet F.plain_extend_loop _,y _ (λf g c a L r M=>J f g c a L r M) _ 0 _ (λb o b e=>e) hL₂')];rw[Za<|wpAny_rule ?_];rw[Za ?_];show wpAny _ _ (updateSeq s⁻¹ (·.push .none)>>=λb=>updateSeq _ (·.pop)) _ _ _;rw[Za<|wpAny_updateSeq hL₂' 9 ?_];let hL₃:=Heap.get?_update_self (Obj.mapSeq (·.push Value.none)) hL₂' 9;rw[wpAny_updateSeq (hz:=by seq_fits) hL₃ 9 ?_];let hL₄:=Heap.get?_update_self (Obj.mapSeq (·.pop)) hL₃ 9;rw[Zb (plainId_quiet F.plain_extend_loop _,y _ (λf g c a L r M=>J f g c a L r M) _ _ _ (λb o C e=>?_) hL₄)];rw[(Heap.get?_update_other _ _<|Ne.symm C).trans<|(Heap.get?_update_other _ _<|Ne.symm C).trans e]
theorem Na:∀{a:Ye}{r:J0},X4 h a r->IsPairs h a r|[],[],_=>.nil|[],_::_,p=>by let:=p.1;simp at this|_::_,[],p=>by let:=p.1;simp at this|u::a,q::r,p=>by let(b l nb t v,c,e,f,g):=p.2 0 q 9;obtain rfl:=Zqi c;rw[.cons (wd b _ _ _ t v (9,e,f,g,9))<|Na (by let:=p.1;simpa using this,λi x j=>p.2 (i+1) x j)]
noncomputable def qw(a:J1):5->List 5|0=>[]|n+1=>if(qw a n).any λi=>decide<|a.getD i []=a.getD n []then qw a n else qw a n++[n]
def o8(a)(n):qw a (n+1)=if(qw a n).any λi=>decide<|a.getD i []=a.getD n []then qw a n else qw a n++[n]:=rfl
def x9(a:J1):J1:=(qw a ⇑a).map λi=>a.getD i []
theorem ZF(a):∀n i,i∈qw a n->i<n
|0,i,h=>by cases h|n+1,i,h=>by
 unfold qw at h;split at h;.let:=ZF _ n i h;lia
 .rcases Jc.mp h with q|q;.let:=ZF _ n i q;lia
  ext
theorem FY(a):∀n,⇑(qw a n)<=n|0=>Zf _|n+1=>by let:=FY a n;grind[qw,List.length_append,List.length_singleton]
theorem Nb(a):∀n,((qw a n).map λi=>a.getD i []).Nodup|0=>VI|n+1=>by let b:=Nb a n;ext qw;grind
theorem Nc(a):∀n r,r∈((qw a n).map λi=>a.getD i [])↔∃i,i<n/\a.getD i []=r
|0,r=>by simp[qw]
|n+1,r=>by
 have g:=Nc a n;unfold qw;split
 .obtain⟨j,h,e⟩:=List.any_eq_true.mp (by assumption);have e:=of_decide_eq_true e;rw[g,]
  constructor
  .rintro⟨i,h,z⟩;exact⟨i,by lia,z⟩
  .rintro⟨i,h,z⟩;by_cases q:i=n
   .subst q;exact (g r).mp (List.mem_map.mpr ⟨j,by assumption,e.trans z⟩)
   .exact⟨i,by lia,z⟩
 .rw[List.map_append,List.mem_append,g]
  constructor
  .rintro(⟨i,h,z⟩|h)
   .exact⟨i,by lia,z⟩
   .exact⟨n,by lia,by simpa[eq_comm] using h⟩
  .rintro⟨i,h,z⟩;by_cases q:i=n
   .exact .inr (by subst q;rw[<-z,];simp)
   .exact .inl ⟨i,by lia,z⟩
def Nd(a):(x9 a).Nodup:=Nb _ _
def Nf(a):⇑(x9 a)<=⇑a:=by ext x9;rw[Zql,];rw[FY _ _]
theorem rG:r∈x9 a↔r∈a:=by
 ext x9;rw[Nc,];constructor;.grind
 .intro h;let(i,b,z):=UM h;rw[(i,b,())]
theorem Ng{same:Value->Value->Bool} (h:∀i j,i<n->j<n->same (val i) (val j)=decide (a.getD i []=a.getD j [])):∀k,k<=n->zk same val k=(qw a k).map val
|0,_=>9|k+1,hk=>by
 rw[CH,Ng h k (),o8];ext Xa;let e:((qw a k).map val).any (same ·<|val k)=(qw a k).any λi=>decide<|a.getD i []=a.getD k []:=by
  rw[List.any_map,Vb,VW,VW];constructor;.rintro⟨i,b,z⟩;rw[(i,b,by rwa[<-h i k (by let:=ZF _ k i b;lia) ()])]
  .rintro⟨i,b,z⟩;rw[(i,b,by show same _ _=6;rwa[h i k (by let:=ZF _ k i b;lia) (),])]
 grind
theorem CK{a:J1} (h:qD G (a.map rD) c):∀b:Yh,(∀i∈b,i<⇑a)->qD G ((b.map λi=>a.getD i []).map rD) (b.map λi=>c.getD i .non)|[],_=>by rfl|i::b,g=>by let(-x,e,f):=h.get (i:=i) (d:=rD<|a.getD i []) ();rw[Zl,Zl,Zl];rw[(x,_,?_,f,CK h _ ())];rw[Qv e,]
def wx(w:World)(S:Addr)(c:YB):HO:=.ext λh=>∃a e t b,h.get? S=! XI a e t/\SetGood w a t/\a.size<=1000/\(a.toList.map (·.2)).Perm b/\j6 c b
def Nh(w:World):YB->Hp->VK->4:=λe H Q=>∃a c b,e=[022]/\Rd H a (.lst c)/\qD H (b.map rD) c/\⇑b<=999/\∀S,H S=8->Q (.ref S) (upd H S<|wx w S<|(qw b ⇑b).map λi=>c.getD i .non)
def Ni(w:World):YB->Hp->VK->4:=λe H Q=>∃S b a,e=[.ref S]/\H S=! wx w S b/\qD H (a.map rD) b/\(∀r∈a,r ≠[])/\⇑a<1000/\∀l c,H l=8->(∀G,qD G (a.map rD) b->qD G ((Ql jL a).map rD) c)->Q (.ref l) (upd H l<|.lst c)
def om(p:z.Perm A):∀{g:YB}{a:J1},j6 g z->⇑g=⇑a->∃(b:YB)(c:J1),j6 b A/\c.Perm a/\⇑b=⇑c/\∀G,qD G (a.map rD) g->qD G (c.map rD) b:=by cases(p)with
|nil=>rw[λ{g a}h f=>(_,_,h,038,f,λb h=>h)]|cons x _ B=>intro g a h f;cases h with|cons r h=>cases a with|nil=>simp at f|cons q a=>let(b c,m,n,o,s):=B h (by simpa using f);rw[(_,_,.cons r m,n.cons q,by simp[o],λG i=>?_)];let(y w,e,j,t):=i;cases e;rw[(_,_,9,j,s G t)]
|swap x y l=>intro g a h f;cases h with|cons r h=>cases h with|cons C h=>cases a with|nil=>simp at f|cons q a=>cases(a)with|nil=>simp at f|cons N a=>rw[(_,_,.cons C<|.cons r h,.swap _ _ _,by simpa using f,λG i=>?_)];let(y w,e,j,t):=i;cases e;let(y w,e,E,F):=t;cases e;rw[(_,_,9,E,(_,_,9,j,F))]
|trans _ _ u v=>intro g a h f;let(b c,m,n,o,s):=u h f;let(H I,j,J,L,M):=v m o;rw[(_,_,j,J.trans n,L,λG i=>M G<|s G i)]
def call_setRows(P:X.calm=6)(hu:X.A.units+64<cLine):qc X (.type "set") (Nh X.w):=by
 intro Y s Z H xs S Q I T h;let(a B f,rfl,U,M,hl,q):=h;let(-u,rfl,ru):=Qu T;obtain rfl:u=Value.ref a:=ru;let(-c,C,pl,hz):=I.list (.inl U);let l1:=⇑M;let l2:=⇑C;rw[Zql]at l1;let sz:c.toArray.size=⇑c:=Zm;let gd:∀i,c.toArray.getD i .none=c.getD i .none:=λi=>by simp
 let isr:∀i,i<⇑c->wE s.heap (c.getD i .none) (f.getD i []):=λi m=>by let hr:i<⇑f:=();let(-x,p,hI):=M.get (i:=i) (d:=rD<|f.getD i []) ();let(-v,w,E):=C.get p;let(b o ws n,R):=ES I.hok hI E;rw[Qv w,];rw[jS b o _ n (R.isv,R.get,R.cls,R.dat,Na R.prs)]
 rw[zjs (I.ok.hd P) pl.isList (a8 X.prog X.w s.heap) (λi v w=>?_) () () λh' tk H' kk=>?_];.grind
 .let same:∀i j,i<c.toArray.size->j<c.toArray.size->(λv u=>decide<|zD s.heap v=zD s.heap u) ((λi=>c.toArray.getD i .none) i) ((λi=>c.toArray.getD i .none) j)=decide (f.getD i []=f.getD j []):=λi j m hj=>by grind[CI]
  let(y t,A,F,G,g):=H';rw[Ng same _ (Zf _)]at F;let(N,O):=A.at_;let en:c.toArray.size=⇑f:=();rw[en]at F;let l:(y.toList.map (·.2)).Perm ((qw f ⇑f).map λi=>c.getD i .none):=by let:=F.map (·.2);rw[Zw,Zw]at this;rw[this.trans<|List.Perm.of_eq<|UJ λi _=>?_];rw[gd i]
  let vl:j6 ((qw f ⇑f).map λi=>B.getD i .non) ((qw f _).map λi=>c.getD i .none):=YS λi m=>by let m:=ZF f _ i m;let(x,p):∃x,B[i]?=!x:=(B[i]'(),());let(-v,w,E):=C.get p;rw[Qv p,Qv w];rw[E]
  let J:y.size<=1000:=by let:=l.length_eq;rw[Zql,Zql,Ue]at this;let:=FY f ⇑f;lia
  let L:t.place.size=y.size:=by let:=A.tab.size;rw[Ur]at this;rw[this]
  rw[(.ref _,upd H _<|wx X.w _<|(qw f _).map _,I.laid (λb o e=>kk b o (Zk e) e) (Zf _) ?_,9,q _<|I.hok.fresh<|Zf _)];rw[(jS _ N t _ (O,(A.tab.fits,g,G,A.tab.up,L),J,l,vl),(_,O),λh1 h2 z kp=>?_)];let(y N t S,e,r):=z;rw[jS _ _ t _ (kp _ e,r)]
def lP{Z:St} (I:003) (h:H S=! wx X.w S c):∃a e t b,↥s S=! XI a e t/\SetGood X.w a t/\a.size<=1000/\(a.toList.map (·.2)).Perm b/\j6 c b:=(I.hok S _ h).1
def oS(m:wpAny (model f w) A.in1 (collect x) (λa c=>∃lt,Wk lt/\⇑a<1000/\(∀g,(∀b o,↥c b=!o->g.get? b=!o)->2<=⇑a->vj f w A.in1.in1 {c with heap:=g} a lt)/\∀h g l,Pl ⇑a h ⇑a->Up lt h ⇑a->(∀b o,↥c b=!o->g.get? b=!o)->c⁻¹<=l->(∃e,g.get? l=! seqObj "list" (h.map<|jM a) e)->Q (.ref l) {c with heap:=g}) E s):YF f w A (call (.builtin "sorted") [x]) Q E s:=by rw[Calls.call_function_entry kind_sorted plain_sorted entry_sorted (args_sorted1 _)<|Za<|Zb<|Za<|Zc m (λa c z=>?_) λb b e=>e];let(lt,W,i,n,q):=z;let j:(c.heap.push<|seqObj "list" a.toArray 0).get? _=!_:=Zr _ 9;let r:∀b o,↥c b=!o->b≠c⁻¹:=λb o e=>Zi<|Zk e;rw[Za<|wpAny_newList<|Za<|wpAny_holding<|wpAny_call_entry slot_list_sort (_,j,9) entry_list_sort (Lf W j i (λg t=>n _ λb o e=>t b o (r b o e)<|Zq _ e) λh p u=>(_,9,Zb (_,9,q _ _ _ p u (λb o e=>?_) (Zf _)<|sortedHeap_at j)))<|args_list_sort _];grind[size_push',sortedHeap_old,Nat.lt_succ_of_lt,Heap.lt_size,Heap.get?_push_of_some]
def call_sortedSet(hc:X.calm=6)(hu:X.A.units+64<cLine):qc X (.builtin "sorted") (Ni X.w):=by
 intro Y s Z H xs us Q I rv h;let(S ys rs,rfl,hS,hA,F,h64,q):=h;let(-u,rfl,ru):=Qu rv;obtain rfl:u=Value.ref S:=ru;let(es ep t ws,ho,G,J,pm,vl):=lP I hS;let l1:=⇑hA;rw[Zql]at l1;let L:∀m:List _,m.Perm (es.toList.map (·.2))->⇑m=⇑rs:=λm g=>by let a:=g.length_eq;let b:=pm.length_eq;let c:=⇑vl;lia
 rw[oS<|zkS (A:=X.A.in1) (E:=X.xe) (I.ok.hd hc) ho G J λh1 tk m kk g hsz1=>?_];let(n f,w,M,l2,g2):=om (pm.symm.trans g.symm) vl ();let lv:=L _ g;let lr:=M.length_eq;let A2:=g2 H hA;let N:∀r∈f,r ≠[]:=λr hr=>F r<|M.mem_iff.mp hr;rw[(λi j=>jL (f.getD i _)<|f.getD j _,y9.wk λi=>f.getD i _,(),λh' O h2=>Ln (by show X.A.units+1+1+04<cLine;lia) (I.hok.kept λb o e=>O b o<|kk b o e) A2 w N h2,λB h' l p u O hl P=>?_)];let(-e,P):=P;let R:⇑m=⇑f:=();rw[R]at p u;let y:s⁻¹<=l:=by let hl:h1.objs.size<=l:=hl;lia
 let T:∀i∈B.toList,∃x v,n[i]?=!x/\m[i]?=!v/\jz x v:=λi z=>have hn:=p.mem z;have(x,C):∃x,n[i]?=!x:=(n[i]'(),());have(v,g,rr):=w.get C;(x,v,C,g,rr);let sp:=ER y9 p u;let se:=AB y9 (((QL _).trans M).trans (QL _).symm) (WQ y9 _)<|WQ y9 _;let U:=q l (B.toList.map _) (I.hok.fresh y) λG hG=>by let:=CK (g2 G hG) _ λi z=>p.mem z;rwa[sp,se]at this
 rw[(.ref l,upd H l<|.lst<|B.toList.map _,I.laid (λb o e=>O b o<|kk b o e) y (?_,B.toList.map<|jM m,e,?_,?_),9,U)];.rw[Zql,p.len];rw[Q8 ()]
 .rw[YS λi z=>?_];let(x v,C,g,rr):=T i z;ext jM;rwa[Qv C,Qv g]
 .rw[P,];congr 03;apply Vp;simp
end L2.ST
namespace L2.DL
open PySem PySem.Spec PyProof.Rows L2.ST
def AT:YC->YD|[.lst ds]=>(Q6 W8 ds).bind λa=>if(∀r∈a,r ≠[])/\⇑(x9 a)<1000/\⇑a<=999 then !(.lst<|(Ql jL<|x9 a).map jA)else 8|_=>8
def ir(h:∀{s:TA},PA X A s->PE X e (wW (Ni X.w)<|Ar (wW (Nh X.w) s) wV))(C:QA X E A I):QN X E e (jp AT I):=PE.weak (h C) λZ H Q J=>by
 let(B F sd,r,n):=J;rw[je B F _ (r,(Res.need_bind n).mono (λds L U Y M c N=>?_) 005)];let(z,b,q):=jd L;unfold AT at b;split at b
 .let(-g,O,b):=Je.mp b;split at b
  .rename_i j;obtain rfl:=Zqi b;let(-v,rfl,h):=Q1 N;rw[EZ O,jq]at h;let(a,t,rfl,P,m):=h;rw[je a _ _ (9,P.same c.fh,vr.mp<|IsDs.same c.fh _ _ m,j.2.2,λS u=>?_)];let w:∀G,qD G (g.map _) _->qD G ((x9 _).map _) ((qw _ _).map λi=>t.getD i _):=λG o=>CK o _ λi R=>ZF _ _ i R;rw[je S _ _ (9,JI,w _<|qD.same (Kt u<|wx _ S _) _ _<|vr.mp<|IsDs.same c.fh _ _ m,λr T=>j.1 r<|rG.mp T,j.2.1,λl zs x o=>?_)];let p:l≠S:=λz=>by simp_all[JI]
   let f:M l=8:=by rwa[JC p]at x
   let y:Ext _ _ _ (upd _ S<|wx X.w S<|(qw g ⇑g).map λi=>t.getD i .non):=.keep c.fh u _;rw[(q.ext c) l _ _ (y.trans<|.keep y.fh x _) f (Qe c.fh f) (_,JI,vr.mpr<|o _<|w _<|vr.mp m)]
  .rw[J6 b]
 ext
def bt_set:bootBuiltins "set"=! .type "set":=by kernel_rfl
def zhB(h:∀r∈a,r ≠[])(b:⇑(x9 a)<1000)(c:⇑a<=999):AT [.lst (a.map jA)]=!(.lst<|(Ql jL<|x9 a).map jA):=by show(Q6 _ _).bind _=_;simp_all[Cu]
end L2.DL
namespace L2.ST
def wg(a b:J0):Bool:=decide (⇑a<⇑b)||decide (⇑a=⇑b)&&jL a b
theorem ZG:wg a b=6↔⇑a<⇑b\/⇑a=⇑b/\jL a b=6:=by simp_all[wg]
def FZ:wg a b=7↔⇑b<⇑a\/⇑a=⇑b/\jL a b=7:=by grind[ZG]
def k9:Tot wg where
 asy:=λa b h=>by
  rw[ZG]at h;rw[FZ,];obtain h|⟨f,e⟩:=h;.rw[.inl h]
  .rw[.inr (f.symm,y9.asy _ _ e)]
 neg:=λa b c h=>by
  rw[ZG]at h;rw[ZG,ZG];obtain h|⟨f,e⟩:=h;.omega
  .rcases U8 _ _ with z|z|z;.rw[.inl<|.inl z]
   .rcases y9.neg a b c e with y|y;.rw[018]
    ext
   lia
 tot:=λa b f e=>by
  rw[FZ]at f e;obtain f|⟨f,h3⟩:=f<;>obtain e|⟨e,h4⟩:=e;.omega
  .omega
  .omega
  .rw[y9.tot _ _ h3 h4]
def znD(h:l.Pairwise λa b=>jL a b=6)(p:Pl ⇑l c ⇑l)(u:Up (λi j=>decide<|(⇑(l.getD i []):3)<(⇑(l.getD j []):3)) c ⇑l):c.toList.map (λi=>l.getD i [])=Ql wg l:=by
 rw[AB k9 ?_ ?_<|WQ k9 l]
 .rw[VA ?_ (QL l).symm];let q:c.toList.Perm (List.range ⇑l):=by let:=Jr.mp p.perm;simpa using this
  rw[(q.map _).trans<|List.Perm.of_eq ?_];apply List.ext_getElem;.simp
  .intro i v m;simp[m]
 .rw[Jl.mpr λa b n o r=>?_];rw[VV,VV];let sz:⇑c.toList=⇑l:=by rw[Ue,p.size]
  rw[Zql]at n o;let s:c.toList[a]=gx c a:=by simp_all[gx]
  let t:c.toList[b]=gx c b:=by simp_all[gx]
  rw[s,t];let f:=p.lt (Zf _)<|show a<⇑l from();let g:=p.lt (Zf _)<|show b<⇑l from();let e:=u a b r ();generalize gx _ a=i at e f;generalize gx _ b=j at e g;rw[FZ,];obtain e|⟨e,ij⟩:=e;.ext
  .let:=of_decide_eq_false e;obtain z|z:=UO ⇑(l.getD i _) ⇑(l.getD j _);.rw[.inl z]
   .rw[.inr ((),y9.asy _ _ ?_)];let:=Jl.mp h i j f g ij;ext
def ou(m:IntsAre a b)(o:⇑b=⇑c):yM e w A s oneType' (λi=>%[jM a i|jM c i]) (λi j=>decide<|b.getD i 0<b.getD j 0) ⇑c:=by
 let f:∀{a:List _}{b:List _},IntsAre a b->∀i,i<⇑b->∃t,jM a i=.int (b.getD i 0) t:=by intro a b h;cases(h)with|nil=>simp|cons n t _ g=>
intro i l
cases(i)with|zero=>rw[(t,9)]|succ i=>rw[g i ()]
 intro i j l p E Q q;grind[W.kat_lt_int]
def oq(y:IntsAre f.toList n)(N:⇑n=⇑g)(z:⇑g<1000)(B:m≠a)(I:↥s m=! seqObj "list" f e)(O:↥s a=! seqObj "list" #[] C)(h:∀l F,Pl ⇑g l ⇑g->Up (λi j=>decide<|n.getD i 0<n.getD j 0) l ⇑g->(∀b o,b≠m->b≠a->019->F.get? b=!o)->(∃c,F.get? a=! seqObj "list" (l.map<|jM g) c)->P (.done<|.ret .none) {s with heap:=F}):YF r w A (ksk_end a 7 g.toArray C (.ref m) f) P E s:=by
 let t:f.size=⇑g:=by let Z:=⇑y;ext
 let kl:f=f.toList.toArray:=Array.toArray_toList.symm;let J:f.zip g.toArray=(Array.range ⇑g).map λi=>%[jM f.toList i|jM g i]:=by
  apply Array.ext_getElem?;intro k;rw[UX,];cases G:k<⇑g;.rw[Array.getElem?_range,Zd G];grind[jM,List.getD_eq_getElem?_getD,Array.length_toList,Array.getElem?_zip_eq_some,Zqg]
  grind
 let u:∀v(l:Yg),arrOf v=l.map (λi=>%[jM f.toList i|jM g i])->failedOf v=8->Pl ⇑g l ⇑g->Up (λi j=>decide<|n.getD i 0<n.getD j 0) l ⇑g->YF r w A (ksk_tail a 7 C (.ref m) v) P E s:=by
  intro v l R S L T;let U:(arrOf v).map (·.2)=l.map (jM g):=by rw[R,Array.map_map];rfl
  ext ksk_tail;dsimp only;rw[U,S];let(M,g1):∃M,(s.heap.update m<|Obj.mapSeq λb=>#[]).get? m=! seqObj "list" #[] M:=(_,get?_update_seq I<|λb=>#[]);let p:(s.heap.update m<|Obj.mapSeq λb=>#[]).get? a=! seqObj "list" #[] C:=by rw[Heap.get?_update_ne _ _ _ _ (Ne.symm B),];rw[O]
  rw[Za<|listUpdate_at I 9 ?_ (by rw[t,sizeLine_eq];lia)<|Ub _];rw[Za<|wpAny_letGo ?_];rw[Za (seqEpoch_at (s:={s with heap:=s.heap.update m (Obj.mapSeq λb=>#[])}) p 9<|Za<|listUpdate_at (s:={s with heap:=s.heap.update m (Obj.mapSeq λb=>#[])}) p 9 ?_ (Ub _)<|by rw[Ze Zj,Ur,L.size,sizeLine_eq];lia)];simp only[bne_self_eq_false,UD,if_false];rw[Zb<|h l _ L T (λb o X H Y=>?_) ?_];.show((s.heap.update m<|Obj.mapSeq λb=>#[]).update a<|Obj.mapSeq λb=>l.map<|jM g).get? b=!o;rw[Heap.get?_update_ne _ _ _ _ H,Heap.get?_update_ne _ _ _ _ X];rw[Y]
  .rw[(_,get?_update_seq p<|λb=>l.map<|jM g)]
 ext ksk_end;dsimp only;simp only[UD,if_false];cases q:g.toArray.size<2;.rw[Zd q,Zd q];rw[Za<|Zb<|u _ (Array.range _) J 9 (Ch _ _<|Zf _) λi j ij jn=>?_];rw[Zm]at q;lia
 .rw[Ze q,Ze q];rw[Zm]at q;rw[ksk_kind y (by rw[t,];lia),];rw[Za<|Zb ?_];rw[Za<|Zc (Ld (λi j h=>(),()) (ou y N) (Q:=λb x=>∃l,arrOf x=l.map (λi=>%[jM f.toList i|jM g i])/\failedOf x=8/\Pl ⇑g l ⇑g/\Up (λi j=>decide<|n.getD i 0<n.getD j 0) l ⇑g) (J,9,9,9) (Ch _ _ ()) () z ()) ?_ λb b e=>e];rw[()]
def oG{q:Yf} (T:⇑q=⇑n)(J:⇑n<1000)(L:C≠a)(U:↥s C=! seqObj "list" #[] 0)(hA:↥s a=! seqObj "list" #[] X)(F:∀(i:5)v k,n[i]?=!v->q[i]?=!k->∀h B,(∀b o,b≠C->b≠a->019->h.get? b=!o)->YF G w A (call f [v]) (λr H=>∃t M,r=.int k t/\H={s with heap:=h,toks:=M}) (λb b=>False) {s with heap:=h,toks:=B})(h:∀I l B,Pl ⇑n I ⇑n->Up (λi j=>decide<|q.getD i 0<q.getD j 0) I ⇑n->(∀b o,b≠C->b≠a->019->l.get? b=!o)->(∃c,l.get? a=! seqObj "list" (I.map<|jM n) c)->P (.done<|.ret .none) {s with heap:=l,toks:=B}):YF G w A (ksk_rest a f 7 n.toArray X<|.ref C) P E s:=by
 ext ksk_rest;rw[Za<|wpAny_rule ?_];first|rw[List.forIn_toArray,]|(rw[<-Vt];simp only[List.toList_toArray])|rw[<-Vt]
 rw[Za<|ksk_fold (λi H=>∃l B y e,H={s with heap:=l,toks:=B}/\(∀b o,b≠C->019->l.get? b=!o)/\l.get? C=! seqObj "list" y e/\IntsAre y.toList (q.take i)) n 0 s (jS s.heap s.toks #[] 0 (9,λb b b e=>e,U,by simpa using IntsAre.nil)) ?step ?done];case step=>
intro j x H Y;rw[uR λl B y e=>qT λz S m N=>?_];subst z;simp -iota only[Vj]at N ⊢;let hj:j<⇑n:=();let(k,hkj):∃k,q[j]?=!k:=(_,Zqg ());let hz:y.size<=⇑n:=by let Z:=⇑N;rw[Ue,Uy]at Z;lia
rw[Za<|wpAny_attempt<|Zc (F j x k Y hkj l B λb o hb d eb=>S b o hb eb) (λv s'' he=>?_) λb b hF=>hF.elim];let(O Q,rfl,rfl):=he
try dsimp only
let(c2,hc2):∃c2,(l.update C<|Obj.mapSeq (·.push<|.int k O)).get? _=! seqObj _ (y.push<|.int k _) _:=(_,get?_update_seq m (·.push _));let ek:q.take (j+1)=q.take j++[k]:=by rw[List.take_add_one,hkj];simp
let ea:(y.push<|Value.int k O).toList=y.toList++[Value.int k O]:=by simp
rw[Za<|listUpdate_at (s:={s with heap:=l,toks:=Q}) m 9 ?_ (by rw[sizeLine_eq,];lia)<|Zh (Yu<|Array.size_push ..)<|by rw[sizeLine_eq,];lia]
grind[wpAny_pure,ksk_snoc,Heap.get?_update_ne]
 case done=>
rintro H ⟨l,B,y,e,rfl,S,m,N⟩;let R:IntsAre y.toList q:=by grind[List.take_of_length_le]
try dsimp only
rw[Za<|listItems_at m 9 ?_];rw[oq R T J L m () λI h2 p u k2 g=>018]
def zmR{kz:Yf} (q:↥s a=! seqObj "list" l.toArray n)(I:⇑kz=⇑l)(B:⇑l<1000)(G:∀(i:5)v k,l[i]?=!v->kz[i]?=!k->∀h x,(∀b o,b≠a->019->h.get? b=!o)->YF m w A (call f [v]) (λr J=>∃t C,r=.int k t/\J={s with heap:=h,toks:=C}) (λb b=>False) {s with heap:=h,toks:=x})(h:∀y z x,Pl ⇑l y ⇑l->Up (λi j=>decide<|kz.getD i 0<kz.getD j 0) y ⇑l->(∀b o,b≠a->019->z.get? b=!o)->(∃c,z.get? a=! seqObj "list" (y.map<|jM l) c)->P (.done<|.ret .none) {s with heap:=z,toks:=x}):YF m w A (ksk_tree a f 7) P E s:=by
 let L:a<s⁻¹:=Zk q;let(H,ho1):∃H,(s.heap.update a<|Obj.mapSeq λb=>(#[]:Yk)).get? a=! seqObj "list" #[] H:=(_,get?_update_seq q λb=>#[]);let F:((s.heap.update a<|Obj.mapSeq λb=>(#[]:Yk)).push<|seqObj "tuple" l.toArray 0).objs.size=s⁻¹+1:=by simp
 ext ksk_tree;rw[Za<|listItems_at q 9 ?_];rw[Za<|listUpdate_at q 9 ?_ (by rw[Zm,sizeLine_eq];lia)<|Ub _];rw[Za (seqEpoch_at ho1 9<|Za<|wpAny_newTuple ?_<|by show ⇑l<=_;rw[sizeLine_eq,];lia)];rw[Za<|wpAny_newList (wpAny_holding ?_)<|Ub _];let M:∀{b o},019->b≠s⁻¹/\b≠s⁻¹+1:=λe=>(Zi<|Zk e,Zi<|UH<|Zk e);let keep:∀b o,b≠a->019->(((s.heap.update a<|Obj.mapSeq λb=>(#[]:Array _)).push<|seqObj "tuple" l.toArray 0).push<|seqObj "list" #[] 0).get? b=!o:=λb o N e=>by grind[Heap.get?_push_of_some,Heap.get?_update_ne]
 rw[oG I B (by rw[F,];rw[UP<|UH L]) (Zr _ 9) (Zq _<|Zq _ ho1) ()<|λy z x p u O g=>()]
def Nj:YB->Hp->VK->4:=λg H Q=>∃a e c,g=[022]/\Rd H a (.lst e)/\qD H (c.map rD) e/\c.Pairwise (λa b=>jL a b=6)/\⇑c<1000/\(∀r∈c,⇑r<=1000)/\∀l f,H l=8->(∀G,qD G (c.map rD) e->qD G ((Ql wg c).map rD) f)->Q (.ref l) (upd H l<|.lst f)
def iH{Z:St} (I:003)(ha:Rd H a (.lst y))(hA:qD H (h.map rD) y)(hs:h.Pairwise λa b=>jL a b=6)(h64:⇑h<1000)(N:∀r∈h,⇑r<=1000)(q:∀l zs,H l=8->(∀G,qD G (h.map rD) y->qD G ((Ql wg h).map rD) zs)->Q (.ref l) (upd H l<|.lst zs)):YE X (call (.builtin "sorted") [022] [%[Str.ofString "key"|.builtin "len"]]) (EP X Y Z Q) X.xe s:=by
 let(-f,O,pl,hz):=I.list (.inl ha);let l1:=⇑hA;let l2:=⇑O;rw[Zql]at l1;let P:⇑f=⇑h:=();let hl:=pl.isList;let keep:∀b o,019->(((s.heap.push<|seqObj "list" #[] 0).update s⁻¹<|Obj.mapSeq (·++f.toArray)).push<|seqObj "list" f.toArray 0).get? b=!o:=λb o q=>by let A:b<s⁻¹:=Zk q;rw[Zq _ ?_];rw[Heap.get?_update_ne _ _ _ _ (Zi A),Heap.get?_push_ne _ _ _ (Zi A)];rw[q]
 let B:((s.heap.push<|seqObj "list" #[] 0).update s⁻¹<|Obj.mapSeq (·++f.toArray)).objs.size=s⁻¹+1:=by simp
 let t:(((s.heap.push<|seqObj "list" #[] 0).update s⁻¹<|Obj.mapSeq (·++f.toArray)).push<|seqObj "list" f.toArray 0).get? (s⁻¹+1)=! seqObj "list" f.toArray 0:=by rw[<-B];rw[Zr _ 9]
 rw[call_function_entry_kw kind_sorted plain_sorted entry_sorted (ksk_s1 _ _) ?_];ext Builtin.«sorted»;rw[Za (m:=checkCount "sorted" 1 1 _)<|Zb ?_];rw[Za (collect_list hl ?_<|by rw[P,sizeLine_eq];lia)];rw[Za (wpAny_newList ?_<|by rw[P,sizeLine_eq];lia)];show wpAny _ _ _ _ _ {s with heap:=((s.heap.push<|seqObj "list" #[] 0).update s⁻¹<|Obj.mapSeq (·++f.toArray)).push (seqObj "list" f.toArray 0)};rw[B,];generalize hH:((s.heap.push<|seqObj "list" #[] 0).update s⁻¹<|Obj.mapSeq (·++f.toArray)).push (seqObj "list" f.toArray 0)=hp at keep t;rw[Za<|wpAny_holding<|wpAny_call_entry_kw slot_list_sort (_,t,9) entry_list_sort ?body<|ksk_l1 _ _];case body=>
show wpAny 015 X.A.in1.in1 (Builtin.«list.sort» ([.ref (s⁻¹+1)],[%[Str.ofString "key"|.builtin "len"]])) _ _ _;rw[ksk_t4,];rw[zmR (s:={s with heap:=hp}) (kz:=h.map λr=>(⇑r:3)) t () () (λi v k C hk M w S=>?_) λE M w p u S g=>(_,9,Zb (_,9,?_))]
.let n:i<⇑h:=by let:=(Jd.mp hk).1;rwa[Zql]at this
 let(-x,z,hI):=hA.get (i:=i) (d:=rD<|h.getD i []) (by rw[Zv,Zqg n,Qv (Zqg n)];rfl);let(-v',F,J):=O.get z;rw[C]at F;obtain rfl:=Zqi F;let(b o T m,R):=ES I.hok hI J;obtain rfl:v=Value.ref b:=R.isv;let hb:b≠s⁻¹+1:=Zi<|UH<|Zk R.get;let ht:IsTup M b T.toArray:=(o,S b o hb<|keep b o R.get,R.cls,m,R.dat);let U:⇑T=⇑(h.getD i []):=R.prs.1;let ek:k=(⇑(h.getD i []):3):=by ext
 let lrow:⇑(h.getD i [])<=1000:=by rw[Qv (Zqg n),];rw[N _<|Uv n]
 let ev:Value.int ((T.toArray.size:5):3) (w+1)=Value.int k (w+1):=by ext
 rw[len_tuple (s:={s with heap:=M,toks:=w}) ht (by rw[Zm,U];lia) (w+1,w+1+1,ev,9)]
.let(c,g):=g;let kk':∀b o,019->M.get? b=!o:=λb o e=>S b o (Zi<|UH<|Zk e)<|keep b o e;rw[P]at p u;let ud:λi j=>decide<|(h.map λr=>(⇑r:3)).getD i 0<(h.map λr=>(⇑r:3)).getD j 0=λi j=>decide<|(⇑(h.getD i []):3)<(⇑(h.getD j []):3):=by
  let e:∀i,(h.map λr=>(⇑r:3)).getD i 0=⇑(h.getD i []):=λi=>by rw[Ui,Zv,Ui];cases(h[i]?)<;>rfl
  funext i j;rw[e,e]
 rw[ud]at u;let sp:=znD hs p u;let L:s⁻¹<=s⁻¹+1:=Vc _;let at_:∀i∈E.toList,∃x v,y[i]?=!x/\f[i]?=!v/\jz x v:=λi n=>by let hn:=p.mem n;let(x,z):∃x,y[i]?=!x:=(y[i]'(),());let(-v,C,J):=O.get z;rw[(x,v,z,C,J)]
 let fin:=q _ (E.toList.map λi=>y.getD i _) (I.hok.fresh L) λG hG=>by let:=CK hG _ λi n=>p.mem n;rw[sp]at this;rw[this]
 rw[(.ref _,upd H (s⁻¹+1)<|.lst<|E.toList.map _,I.laid (a:=s⁻¹+1) (o:=.lst<|E.toList.map _) (t':=w) kk' L (?_,E.toList.map<|jM f,c,?_,?_),9,fin)];.rw[Zql,p.len];rw[Q8 ()]
 .rw[YS λi n=>?_];let(x v,z,C,J):=at_ i n;ext jM;rw[Qv z,Qv C];rw[J]
 .rw[g,];congr 03;apply Vp;simp
def pe_sortLen(j:Gl X "sorted")(l:X.mg "sorted"=8)(c:Gl X "len")(f:X.mg "len"=8)(m:PA X [e] t)(n:backTo b (01 [e] X.env)=%[7|007]::backTo b (01 [] X.env):=by rfl)(g:(backTo b<|01 [e] X.env).any (·.1)=7:=by rfl):PE X (.Call (.Name "sorted" p) [e] [(!"key",.Name "len" B,C)] b) (wW Nj t):=by intro Y s Z H Q I h;rw[wpAny_Call_Name_kw (Xx I j l (show bootBuiltins _=! .builtin "sorted"by kernel_rfl) ?_ 004<|004)];rw[callWith_kw (jG (m _ _ s _ H _ I h) λE F=>j3 λG J=>j7 λi o r=>kws_cons<|Xx i c f boot_len (kws_nil ?_) 004<|004) n g];let(a L M,rfl,v,w,x,y,z,q):=r;let(-u,rfl,A):=Qu o;obtain rfl:=A;rw[iH i v w x y z q]
end L2.ST
namespace L2.DL
open PySem PySem.Spec PyProof.Rows L2.ST
def AU:YC->YD|[.lst ds]=>(Q6 W8 ds).bind λc=>if c.Pairwise (λa b=>jL a b=6)/\⇑c<1000/\∀r∈c,⇑r<=1000 then !(.lst<|(Ql wg c).map jA)else 8|_=>8
def o7(h:∀{i:TA},PA X m i->PE X e (wW Nj i))(o:QA X E m p):QN X E e (jp AU p):=PE.weak (h o) λZ H Q s=>by
 let(B F sd,r,n):=s;rw[je B F _ (r,(Res.need_bind n).mono (λds t A C G c u=>?_) 005)];let(z,b,q):=jd t;unfold AU at b;split at b
 .let(-I,w,b):=Je.mp b;split at b;.rename_i f;obtain rfl:=Zqi b;let(-v,rfl,h):=Q1 u;rw[EZ w,jq]at h;let(a,J,rfl,x,j):=h;rw[je a _ _ (9,x.same c.fh,vr.mp<|IsDs.same c.fh _ _ j,f.1,f.2.1,f.2.2,λl L g y=>(q.ext c) l _ _ (.keep c.fh g _) g (Qe c.fh g) (_,JI,vr.mpr<|y _<|vr.mp j))]
  .rw[J6 b]
 ext
def zhz(h:c.Pairwise λa b=>jL a b=6)(e:⇑c<1000)(f:∀r∈c,⇑r<=1000):AU [.lst (c.map jA)]=!(.lst<|(Ql wg c).map jA):=by show(Q6 _ _).bind _=_;simp_all[Cu]
end L2.DL
namespace L2
def lf:typeLookup (.type "list_reverseiterator") "__len__"=pure 8:=by rw[typeLookup_type,builtinLookup_eq_fast];kernel_rfl
def aE:typeLookup (.type "list_reverseiterator") "__length_hint__"=pure ! .builtin "list_reverseiterator.__length_hint__":=by rw[typeLookup_type,builtinLookup_eq_fast];kernel_rfl
def et(e:s.TypeIs (.ref r) "list_reverseiterator") (h:Q 7 s):YF f w A (Builtin.List.listLengthHint<|.ref r) Q E s:=by ext Builtin.List.listLengthHint;rw[Za<|wpAny_specialOf e lf ?_];dsimp only;rw[Ze 002,Ze 002];show wpAny _ _ (specialOf _ (Str.ofString _)>>=_) _ _ _;rw[Za<|wpAny_specialOf e aE ?_];generalize c:"list_reverseiterator.__length_hint__"=id0;wp_delta;rw[show splitId _=!%["list_reverseiterator"|"__length_hint__"]from by subst c;decide,];subst c;rw[Za<|wpAny_isInstance (T:="list_reverseiterator") (b:=6) e (by rw[isSubtype_type,];kernel_rfl) ?_];rw[wpAny_ite_split (λa=>Zn a<|004)<|λ_=>?_];rw[wpAny_ite_split (λ_=>?_)<|λa=>Zn 002 a];rw[wpAny_ite_split (λa=>Zn a<|002)<|λ_=>?_];rw[Zb h]
def zn4(M:A.handled=8)(C:a≠m)(n:s.heap.IsRevIter m a ((g.size:3)-1))(N:s.heap.IsList a g)(S:Addr)(q:S≠m)(u:S≠a)(p:Value)(c₀:5)(l:↥s S=!{cls:=017,data:=.seq #[] c₀})(O:∀E B j t,(∀b o,b≠S->b≠m->019->E.get? b=!o)->E.get? S=!{cls:=017,dict:=8,data:=.seq j t,slots:=#[]}->ItemsOf (λi v=>g[g.size-1-i]?=!v) j g.size->R (.ok<|.ret p) {s with heap:=E,toks:=B})(P:g.size<=00):wpAny (model prog w) A.in1 (Builtin.List.listExtendWith (.ref S) (.ref m) p) (λF r=>match F with|.done f=>R (.ok f) r|.again t=>t.quiet=6/\codeAny (model prog w) A t R r) (λe r=>R (.error e) r) s:=by
 let W:=Walks.listRev (prog:=prog) (w:=w) (A:=A.in1) M m a C g;let G:S ∉[m,a]:=by simp only[UN,UY,or_false,not_or];rw[(q,u)]
 let x:∀(h:Heap)(c₁ B:5),(∀b o,b≠S->019->h.get? b=!o)->h.get? S=!{cls:=017,data:=.seq #[] c₁}->codeAny (model prog w) A (.builtin "list.extend.loop" ([.ref S,.ref m,p],[])) R {s with heap:=h,toks:=B}:=by
  intro h c₁ B H hS₁;rw[codeAny_extend_loopS W.toS P S G p g.size 0 _ #[] c₁ 9 (Ub _) (Ub _,?_,N.at λo e=>H a o u.symm e) hS₁ (ItemsOf.nil _) λr j t L I y=>?_];.let e:(g.size:3)-1-((0:5):3)=(g.size:3)-1:=();rw[e,];rw[n.at λo e=>H m o q.symm e]
  .rw[Moved.eq_with L,];rw[O r.heap r.toks j t (λb o z J e=>L.heap b o (λhmem=>?_)<|H b o z e) I y];obtain e'|hmem:=UN.mp hmem;.rw[z e']
   .rw[J<|Jb.mp hmem]
 ext Builtin.List.listExtendWith;rw[Za<|wpAny_typeOf (T:="list_reverseiterator") n.typeIs ?_];let Q:Builtin.List.listSameRef (.ref S) (.ref m)=7:=by simp[Builtin.List.listSameRef,q]
 let U:(Value.type "list_reverseiterator"==Value.type "list")=7:=004;let X:(Value.type "list_reverseiterator"==Value.type "tuple")=7:=004;simp only[Q,U,X,Bool.or_false,UD,if_false];rw[Za<|wpAny_pyIter_revIter n ?_];rw[Za<|wpAny_holding<|et n.typeIs ?_];rw[wpAny_ite_split (λ_=>?_)<|λb=>Zb (plainId_quiet PySem.F.plain_extend_loop _,x _ c₀ _ (λb o b e=>e) l)];rw[Za<|wpAny_rule ?_];rw[Za ?_];show wpAny _ _ (updateSeq S (·.push .none)>>=λb=>updateSeq S (·.pop)) _ _ _;rw[Za<|wpAny_updateSeq l 9 ?_];let hS₂:=Heap.get?_update_self (Obj.mapSeq (·.push Value.none)) l 9;rw[wpAny_updateSeq (hz:=by seq_fits) hS₂ 9 ?_];let hS₃:=Heap.get?_update_self (Obj.mapSeq (·.pop)) hS₂ 9;rw[Zb (plainId_quiet PySem.F.plain_extend_loop _,x _ _ _ (λb o z e=>?_) hS₃)];rw[(Heap.get?_update_other _ _<|Ne.symm z).trans<|(Heap.get?_update_other _ _<|Ne.symm z).trans e]
def e4(H:A.handled=8)(z:a≠r)(B:s.heap.IsRevIter r a ((g.size:3)-1))(I:s.heap.IsList a g)(S:Addr)(l:S≠r)(m:S≠a)(n:↥s S=!{cls:=017,data:=.seq #[]})(J:∀t G h u,(∀b o,b≠S->b≠r->019->t.get? b=!o)->t.get? S=!{cls:=017,dict:=8,data:=.seq h u,slots:=#[]}->ItemsOf (λi v=>g[g.size-1-i]?=!v) h g.size->R (.ok<|.ret .none) {s with heap:=t,toks:=G})(L:g.size<=00):wpAny (model p w) A.in1 (Builtin.«list.__init__» ([.ref S,.ref r],[])) (λC x=>match C with|.done f=>R (.ok f) x|.again u=>u.quiet=6/\codeAny (model p w) A u R x) (λe x=>R (.error e) x) s:=by show wpAny _ _ (do let M<-Builtin.List.listItems _;Builtin.List.listUpdate _ _;letGo _;Builtin.List.listExtendWith _ (.ref _) _) _ _ s;rw[Za ?_];ext Builtin.List.listItems;rw[Za<|wpAny_seqItems n 9<|Zb ?_];show wpAny _ _ (updateSeq S _>>=λb=>letGo (#[]:Array _).toList.reverse>>=λb=>Builtin.List.listExtendWith _ _ _) _ _ s;rw[Za<|wpAny_updateSeq n 9 ?_];let hS₂:=Heap.get?_update_self (Obj.mapSeq<|λb=>(#[]:Array _)) n 9;let j:∀b o,b≠S->019->(s.heap.update S<|Obj.mapSeq<|λb=>(#[]:Array _)).get? b=!o:=λb o y e=>(Heap.get?_update_other _ _<|Ne.symm y).trans e;rw[zn4 H z (B.at λo e=>j _ o l.symm e) (I.at λo e=>j a o m.symm e) S l m _ _ hS₂ (λt G N c O E q=>J _ _ _ c (λb o y F e=>O b o y F<|j b o y e) E q) L]
def aB(B:A.handled=8)(p:a≠q)(j:s.heap.IsRevIter q a ((f.size:3)-1))(u:s.heap.IsList a f)(C:f.size<=00)(F:∀n x g c,(∀b o,b≠q->019->n.get? b=!o)->n.get? s⁻¹=!{cls:=017,dict:=8,data:=.seq g c,slots:=#[]}->ItemsOf (λi v=>f[f.size-1-i]?=!v) g f.size->Q (.ref s⁻¹) {s with heap:=n,toks:=x}):YF y w A (call 017 [.ref q]) Q E s:=by rw[callType_codes (Q₁:=λl s₁=>l=.ref _/\s₁={s with heap:=s.heap.push _}) PySem.F.called_list (PySem.F.typeCall_list_1 _) PySem.F.entry_list_init (code_list_new _ (9,9)) λl s₁ h₁=>?_];let(rfl,rfl):=h₁;let z:(s.heap.push {cls:=017,data:=.seq #[]}).get? _=!_:=Zr _ 9;let G:=qk j λd=>j4 λr d=>Zk r;let H:=qk u λd=>j4 λr d=>Zk r;rw[((_,z,9),PySem.F.args_list_init_2 _ _,e4 (A:=A.in1) B p (j.at λo e=>Zq _ e) (u.at λo e=>Zq _ e) _ (UP G) (UP H) z (λn x g c I t m=>(9,F _ _ _ c (λb o J e=>I b o (Zi<|Zk e) J<|Zq _ e) t m)) C)]
def u3(H:Hp)(a:Addr):Hp:=λb=>if b=a then 8 else H b
def Nk:u3 H a a=8:=Zd 9
def ZH(h:b≠a):u3 H a b=H b:=Ze h
def am(h:H a=8):u3 (upd H a o) a=H:=by
 funext b;ext u3 upd;split;.rename_i e;rw[e,h]
 .rfl
section
variable {Z: St}
def Inv.forget(I:003)(h:H f=! .ext φ):Inv X Y Z (u3 H f) s:=by
 refine I.step (ch:=[]) (λb i=>nomatch i) (λb o b b b e b=>e) (λb o b b b e b=>(_,e)) (λb o _ _ n=>?_) (λb o b e=>(o,e)) (λb j e=>?_) (λb o u e=>?_) (λb p e=>(#[],?_)) (λm l=>l) (λb u e=>?_) I.bare
 .unfold u3;split;.rfl
  .exact n
 .rwa[(ZH λz=>by rw[z,h]at e;cases e),]
 .rwa[(ZH λz=>by rw[z,h]at e;cases e),]
 .rw[ZH (λz=>by rw[z,h]at e;cases e),e];simp
 .let nb:b≠f:=λz=>by rw[z,Nk]at e;exact J6 e
  rw[ZH nb]at e;refine(I.hok b u e).stay (λb b b q=>q) (λc q=>?_) λc j q=>?_;.rwa[(ZH λz=>by rw[z,h]at q;cases q),]
  .rwa[(ZH λz=>by rw[z,h]at q;cases q),]
def Inv.fpOf(I:003)(h:H f=!o)(i:X.s₀.heap.objs.size<=f):xr X Y (u3 H f) f:=by
 rw[(Nk,λz=>?_,λz=>?_,.inr i,λx c e z=>?_,λp j z=>?_)];.rw[z,I.free]at h;rw[J6 h]
 .let(_,n,l,_):=I.ok.funs.mem z;rw[I.base.free _ _ l (I.ok.frf _ z) λy=>I.ok.exfs _ y z]at h;rw[J6 h]
 .rw[<-z,I.freeC x c e]at h;rw[J6 h]
 .rw[<-z,(I.pin p j).2.1]at h;rw[J6 h]
end
section
variable {X:Cx}
def mL(X:Cx)(b a:Addr)(n:5):HO:=.ext λh=>h.IsRevIter b a ((n:3)-1)/\X.s₀.heap.objs.size<=b
def Nl(X:Cx):YB->Hp->VK->4:=λe H Q=>∃a c,e=[022]/\qR X.K H a c/\∀b,H b=8->Q (.ref b) (upd H b<|mL X b a ⇑c)
def Nm(X:Cx):YB->Hp->VK->4:=λe H Q=>∃b a c,e=[.ref b]/\H b=! mL X b a ⇑c/\qR X.K H a c/\∀l,H l=8->Q (.ref l) (upd (u3 H b) l<|.lst c.reverse)
def call_reversed:qc X (.type "reversed") (Nl X):=by
 intro Y s Z H p t Q I r h;let(a f,rfl,i,q):=h;let(-u,rfl,j):=Qu r;cases j;let(-c,l,m,v):=I.list i;let g:=⇑l;let sz:c.toArray.size=⇑f:=by simp;lia
 rw[call_reversed_list m.isList ?_];rw[sz,];let e:(s.heap.push<|revObj a<|⇑f-1).get? _=!_:=Zr _ 9;rw[(.ref _,_,I.laid (λb o e=>Zq _ e) (Zf _) ?_,9,q _<|I.hok.fresh<|Zf _)];rw[(((_,e,9,9),I.sz),(_,e),λw x z n=>(z.1.at n,z.2))]
def eL(r:j6 g b):∀{c:Yk},ItemsOf (λi v=>b.toArray[b.toArray.size-1-i]?=!v) c b.toArray.size->j6 g.reverse c.toList:=by
 intro c h;let e:c.toList=b.reverse:=by
  rw[Va λi=>?_];let sz:c.size=⇑b:=by rw[h.1,Zm]
  cases j:i<⇑b;.let f:=h.2 i (c[i]'())<|Uz _;rw[Zm,List.getElem?_toArray]at f;rw[Vh,Uz,List.getElem?_reverse j,f]
  .rw[UA (by rw[Ue,];lia),UA (by rw[List.length_reverse,];lia)]
 rw[e,];clear e h;cases(r)with|nil=>rw[.nil]|cons a r l=>rw[VE,VE];rw[j6.append l<|.cons a .nil]
def call_listRev(w:X.calm=6):qc X 017 (Nm X):=by
 intro Y s Z H R S Q I r h;let(x a y,rfl,f,A,q):=h;let(-u,rfl,B):=Qu r;cases B;let(-j,p,t,T):=I.list A;let v:=⇑p;let(!(C,E),(o,l),_):=I.hok _ _ f;let sz:j.toArray.size=⇑y:=by simp;lia
 let m:=FB t.isList l<|by let(-U,g,c,_):=C;rw[l]at g;obtain rfl:=Zqi g;rw[c,];decide
 rw[aB (I.ok.hd w) m (by rwa[sz,]) t.isList (by rwa[sz,]) λh' tk F c G J i=>?_];let lt:=Zk l;let L:=I.forget f;let M:=I.fpOf f E;let N:=eL p i;let O:=UP lt;let P:Inv X _ _ (upd _ _<|.lst _) {s with heap:=s.heap.push _,toks:=s.toks}:=L.laid (λb o e=>Zq _ e) (Zf _) (by rwa[List.length_reverse,],_,c,N,Zr _ 9);rw[(.ref _,_,Inv.turnedL (s:={s with heap:=s.heap.push _,toks:=s.toks}) (ch:=[x]) P (λb o n e=>?_) λb n=>?_,9,q _<|I.hok.fresh<|Zf _)]
 .rcases Heap.get?_push_cases e with ⟨rfl,rfl⟩|e;.rw[J]
  .rw[G b o λz=>n<|by simp[z] e]
 .rw[Jb.mp n,];rw[M.upd<|Ne.symm O]
end
end L2
namespace L2.DL
noncomputable def AV:YC->YD|[.lst ds]=>! .lst ds.reverse|_=>8
theorem IsDs.rev{K:f'} :∀{ds:YC}{c:YB},IsDs K H ds c->IsDs K H ds.reverse c.reverse|[],c,h=>by rw[IsDs.nil_iff]at h;subst h;rw[.nil]|d::ds,c,h=>by rw[jj]at h;let(x r,rfl,e,f):=h;rw[VE,VE];rw[(IsDs.rev f).snoc e]
def iI(h:∀{j:TA},PA X p j->PE X e (wW (Nm X)<|Ar (wW (Nl X) j) wV))(s:QA X E p t):QN X E e (jp AV t):=PE.weak (h s) λZ H Q u=>by
 let(B F sd,r,n):=u;rw[je B F _ (r,(Res.need_bind n).mono (λds w G I x c y=>?_) 005)];let(z,f,q):=jd w;unfold AV at f;split at f
 .obtain rfl:=Zqi f;let(-v,rfl,h):=Q1 y;let(a J,rfl,m,A):=h;rw[(a,_,9,(m.same c.fh).sq,λC o=>je _ a _ (9,JI,?_,λl g=>?_))];.rw[xA.sq<|(m.same c.fh).same<|Kt o _]
  .rw[am o,];let i:l≠C:=λz=>by rw[z,JI]at g;cases g
   let b:x l=8:=by rwa[JC i]at g
   rw[(q.ext c) l _ _ (.keep c.fh b _) b (Qe c.fh b) (_,JI,IsDs.rev A)]
 .rw[J6 f]
def zkU:bootBuiltins "reversed"=! .type "reversed":=by kernel_rfl
end L2.DL
namespace L2
def y0.has(x:y0 P w H h a o):∃u,h.get? a=!u:=by cases(o)with|lst i=>let(_,_,_,_,e):=x;rw[(_,e)]|tup i=>let(_,_,_,o,e,_):=x;rw[(_,e)]|dK c=>let(!_,_,(_,_,o,_,_,e,_)):=x;rw[(_,e)]|dT c=>let(!_,_,(_,_,o,_,_,e,_)):=x;rw[(_,e)]|set S n=>let(o _ _ _,e,_):=x;rw[(_,e)]|ins C j fs=>rw[(_,x.2.2.2.1)]|own y=>rw[x]|xd fs=>let(-_,(_,_,_,e,_),_):=x;rw[(_,e)]|rng lo l=>let(_ _ _,e):=x;rw[(_,e)]|frz p u=>rw[(_,x.1)]|tbl q=>rw[(_,x)]|met f y=>rw[(_,x)]|ext φ=>rw[x.2.1]
structure FlyAt(l:List Env)(h₀:Heap)(H:Hp)(x C:Addr)(B h:Heap):4 where
fly:∃t,Heap.FlyingW B l x (.ref C) (.ref t) h
trk:∀b o,h.get? b=!o->H b≠8\/(∃u,h₀.get? b=!u)/\b∉frs l->B.get? b=!o
def xZ(P:Program)(w:World):k7:=λa H s E e b=>∃c x C B,e=.ref x/\b.os=s.os/\AllBare b.gens/\Un (frs a) [] H c s.heap b.heap/\xc P w c b.heap/\FlyAt a s.heap c x C B b.heap/\E (.ref C) 8 c
structure Thrown(X:Cx)(E:XK):4 where on:∀(Y:Yb)(Z:St)(H:Hp)(s:Shared)(h₀:Heap)(x C:Addr)(B:Heap),003->(∀b u,X.s₀.heap.get? b=!u->b∉X.ex->∃u',h₀.get? b=!u')->FlyAt X.stack h₀ H x C B s.heap->E (.ref C) 8 H->X.xe (.ref x) s
structure Raises(X:Cx)(E:XK):4 where new:∀(Y:Yb)(Z:St)(H:Hp)(s:Shared)(h':Heap)(x C:Addr)(args:Ye),003->Heap.MadeExcOf s.heap h' x (.ref C) args->E (.ref C) 8 H->X.xe (.ref x) {s with heap:=h'}
def Thrown.passes(T:Thrown X E):Au (xZ X.prog X.w) X E:=by intro Y Z H s e i I c;let(j,x,C,B,l,os,bare,un,f,n,o):=c;subst l;rw[T.on Y Z j i s.heap x C B (I.call' os un f bare ()) (λb u e p=>I.base.there b u e p) n o]
def lB:Thrown X E0:=⟨λb b b b b b b b b b b z=>z.elim⟩
section
variable {K:f'}
def Ga{Z:St} {h₀ l B:Heap} (I:Inv (qm (xZ P w) P w K R y N i g f J A a s H E) Y Z F s')(h0:∀b u,↥s b=!u->∃S,h₀.get? b=!S)(G:Heap.FlyingW B a x (.ref C) (.ref t) l)(T:s'.heap.UpToSlots l)(trk:∀b o,↥s' b=!o->F b≠8\/(∃u,h₀.get? b=!u)/\b∉frs (envOfC i g s⁻¹ f J::a)->B.get? b=!o)(U:E (.ref C) 8 F):xZ P w a H s E (.ref x) {s' with heap:=l}:=by
 let X:∀b u,↥s b=!u->b∉frs a->b∉frs (envOfC i g s⁻¹ f J::a):=λb u e r z=>by
  let z:=z;obtain q|q:=UN.mp z;.rw[Zn (Zk e)<|by rw[q,];rw[Zy _]]
  .rw[r q]
 let j:∀b:Addr,b∉(qm (xZ P w) P w K R y N i g f J A a s H E).ex:=λb z=>Zn (show b∈([]:Yj)from z) ();let keep:∀b o,↥s' b=!o->F b≠8\/(∃u,↥s b=!u)/\b∉frs a->B.get? b=!o:=018;let M:∀b o,019->b∈frs a->∃O,l.get? b=!{o with slots:=O}:=λb o e r=>by let(-O,e1):=I.base.slot b o e (I.ok.frf b r) r (j b);let(_,m,p,hd):=I.ok.funs.mem r;let p:↥s b=!m:=p;rw[e]at p;obtain rfl:=Zqi p;let(L,e2):=T b _ e1 hd;rw[(L,e2)]
 rw[jS F x C B (9,I.os,I.bare,(λb o e n r _=>?_,(),λb o e n _=>I.base.free b o e n<|j b,λb o e _=>?_,I.base.tups,I.base.frzs,I.base.tbls),λb u e=>?_,((t,G),λb o e c=>?_),U)];.rw[G.1 b o<|keep b o (I.base.keep b o e n r<|j b) ()]
 .cases r:b∈frs a;.grind
  .have(m,Q):=I.base.there b o e (j b);rw[(m,G.1 b m ())]
 .rw[(I.hok b u e).stay (λc v hc q=>G.1 c v<|keep c v q<|.inl ?_) (λb q=>q) 005];grind
 .let ex:∃m,↥s' b=!m:=by
   obtain c|⟨⟨u,hu⟩,_⟩:=c;.induction q:F b with|none=>rw[Zn q c]|some u=>rw[(I.hok b u q).has]
   .rw[I.base.there b u hu<|j b]
  have(m,Q):=ex;let:=G.1 b m<|keep b m Q c;grind[Zqi]
def K7:Thrown (qm (xZ P w) P w K n g N i a f o A c s H E) E:=by rw[⟨λY Z v y h₀ x C B I p j q=>?_⟩];let((t,l),trk):=j;let m:∀b:Addr,b∉(qm (xZ P w) P w K n g N i a f o A c s H E).ex:=λb z=>Zn (show b∈([]:Yj)from z) ();rw[wpAny_leaves_onW I.ok.frames 9 l λF j r=>Ga I (λb u e=>p b u e<|m b) j r trk q]
def zmZ:Raises (qm (xZ P w) P w K L m N i g f n A h s H E) E:=by
 rw[⟨λY Z M s' O x C p I q r=>?_⟩];let l:∀j∈ envOfC i g s⁻¹ f n::h,∀a,j.frame=!a->a∈frs (envOfC i g s⁻¹ f n::h):=λj v a y=>Jt.mpr (j,v,y);rw[wpAny_leaves_madeW I.ok.frames 9 (λb o e=>W.of_hideAll _ e) (W.funFrames_hide I.stack l) q λB t F G Q J=>Ga (s':=s') I λb u e=>I.base.there b u e<|by show b∉([]:Yj);simp F ((Heap.UpToSlots.of_keeps q.keeps).trans J) (λb o e c=>W.hideAll_get _ e λz=>?_) r];obtain c|c:=c;.rw[c<|I.stkFree b z]
 ext
end
def zp(P:Program)(w:World)(K:f')(c:Yd)(a:Heap)(b:Str)(k:5)(e:Yi)(h:Sp):4:=∃f g,FnOk P w K c a (xZ P w) k f g e h/\wN K g e []/\W.keepIn K (.ref f)=6/\c b=! .ref f
theorem zp.mono{K:f'} (c:zp P w K l e i j n o)(h:j<=k):zp P w K l e i k n o:=by let(f p,F,r):=c;rw[(f,_,F.mono h,r)]
def AW(c:zp X.prog X.w X.K X.mg X.base a k u l)(T:Thrown X E)(m:Room k X.A)(n:Gl X a)(o:PA X (e::g) t)(h:(a==011)=7:=by decide)(q:01 (e::g) X.env=%[7|007]::01 g X.env:=by rfl)(i:(backTo j<|01 g X.env).any (·.1)=7:=by rfl):PE X (.Call (.Name a p) (e::g) [] j) (Ew l [] E t):=by let(f v,F,b,r,s):=c;rw[HS F m n s r b .nil T.passes o h q i]
def Fun.okX{K:f'} {n:Stmt} (F:Fun K x e n f v)(S:FnScope N r (Qd n))(len:∀l H Q E,u l H Q E->⇑l=⇑r)(i:∀j A c s H l Q E,Room k (A.deeper<|envOfC e (Qd n) s⁻¹ f j)->u l H Q E->∃t,qY (qm (xZ P w) P w K y o N e (Qd n) f j A c s H E) (Kj n) t/\t {nx:=λb z=>Q .non z,rt:=Q} (start N l) H):FnOk P w K y o (xZ P w) (k+1) f v r u:=by let(L,O,kV,B,R,T,j,U,G,rfl,I,p):=F.ex;rw[Ia I p S len λA c s H l Q E J q=>i _ A _ s H _ Q E J q]
end L2
namespace L2.DL
def xS(K:f')(a:YC->Res D):Sp:=λb H Q E=>∃F ds,jk F H/\IsDs K F ds b/\(a ds).need (yR K F H Q) (XW K E F H)
def yL(K:f')(a:YC->Res D):Sp:=λb H Q E=>∃F ds,jk F H/\IsDs K F ds b/\(a ds).need (yO K F H Q) (XW K E F H)
noncomputable def Res.strict{α:Type}:Res α->Res α|.ok a=>.ok a|_=>.no
@[simp]def vy(a:α):(Res.ok a).strict=.ok a:=rfl
def jJ{r:Res α} (h:r.strict.need p q):r.need p e:=by cases r with|ok a=>rw[h]|ex c fs=>rw[h.elim]|no=>rw[h]
@[simp]def K8(a:YC->Res D)(b:FA):FE:=λsd=>(b sd).bind λds=>(a ds).strict
def AX(c:zp X.prog X.w X.K X.mg X.base a k x (xS X.K j))(T:Thrown X E)(l:Room k X.A)(m:Gl X a)(o:QA X E (e::b) s)(f:(a==011)=7:=by decide)(t:01 (e::b) X.env=%[7|007]::01 b X.env:=by rfl)(g:(backTo h<|01 b X.env).any (·.1)=7:=by rfl):QE X E (.Call (.Name a p) (e::b) [] h) (J7 j s):=PE.weak (AW c T l m o f t g) λZ H Q u=>by let(B F sd,r,n):=u;rw[je B F _ (r,(Res.need_bind n).mono (λy v z A C i w=>?_) 005)];show xS _ _ _ _ Q E;rw[ZA,];rw[(_,_,i.fh,w,X6 v i)]
def ZI(c:zp X.prog X.w X.K X.mg X.base a k x (yL X.K j))(T:Thrown X E)(l:Room k X.A)(m:Gl X a)(o:QA X E (e::b) s)(f:(a==011)=7:=by decide)(t:01 (e::b) X.env=%[7|007]::01 b X.env:=by rfl)(g:(backTo h<|01 b X.env).any (·.1)=7:=by rfl):QN X E (.Call (.Name a p) (e::b) [] h) (J7 j s):=PE.weak (AW c T l m o f t g) λZ H Q u=>by let(B F sd,r,n):=u;rw[je B F _ (r,(Res.need_bind n).mono (λy v z A C i w=>?_) 005)];show yL _ _ _ _ Q E;rw[ZA,];rw[(_,_,i.fh,w,EU v i)]
def gQ(c:wO X.prog X.w X.K X.mg X.base a k x (q0 X.K j))(l:Room k X.A)(m:Gl X a)(o:QA X E (e::b) s)(f:(a==011)=7:=by decide)(t:01 (e::b) X.env=%[7|007]::01 b X.env:=by rfl)(g:(backTo h<|01 b X.env).any (·.1)=7:=by rfl):QE X E (.Call (.Name a p) (e::b) [] h) (K8 j s):=PE.weak (A1 c l m o f t g) λZ H Q u=>by let(B F sd,r,n):=u;rw[je B F _ (r,(Res.need_bind n).mono (λy v z A C i w=>?_) 005)];show q0 _ _ _ _ Q _;rw[ZA,];rw[(_,_,i.fh,w,jJ<|X6 v i)]
def AY(c:wO X.prog X.w X.K X.mg X.base a k x (yQ X.K j))(l:Room k X.A)(m:Gl X a)(o:QA X E (e::b) s)(f:(a==011)=7:=by decide)(t:01 (e::b) X.env=%[7|007]::01 b X.env:=by rfl)(g:(backTo h<|01 b X.env).any (·.1)=7:=by rfl):QN X E (.Call (.Name a p) (e::b) [] h) (K8 j s):=PE.weak (A1 c l m o f t g) λZ H Q u=>by let(B F sd,r,n):=u;rw[je B F _ (r,(Res.need_bind n).mono (λy v z A C i w=>?_) 005)];show yQ _ _ _ _ Q _;rw[ZA,];rw[(_,_,i.fh,w,jJ<|EU v i)]
section
variable {K:f'} {st:Stmt}
def CL(F:Fun K x b st f l)(S:FnScope N j (Qd st))(m:∀c A a s H E,Room k (A.deeper<|envOfC b (Qd st) s⁻¹ f c)->wK (qm (xZ P w) P w K p e N b (Qd st) f c A a s H E) E 7 (Kj st) g):FnOk P w K p e (xZ P w) (k+1) f l j (xS K<|jD ⇑N ⇑j g):=by
 rw[F.okX S (λt H Q E=>j3 λF ds=>j7 λ_ h n=>?_) λc A a s H t Q E u=>j3 λF ds=>j7 λv h n=>(_,m _ A _ s H E u,?_)]
 .unfold jD at n;split at n;.rw[⇑h,];lia
  .rw[n.elim]
 .unfold jD at n;split at n;.rw[je _ F _ (RS.start v h,(Res.need_bind n).mono (λo i=>?_) 005)];cases(o)with|next sd=>rw[λZ y z b r=>i _ _ _ r.ext<|jB.mpr 9]|ret d=>rw[i]|brk sd=>rw[i.elim]|cont sd=>rw[i.elim]
  .rw[n.elim]
def Gb(F:Fun K x b st f l)(S:FnScope N j (Qd st))(m:∀c A a s H E,Room k (A.deeper<|envOfC b (Qd st) s⁻¹ f c)->wK (qm (xZ P w) P w K p e N b (Qd st) f c A a s H E) E 6 (Kj st) g):FnOk P w K p e (xZ P w) (k+1) f l j (yL K<|qd ⇑N ⇑j g):=by
 rw[F.okX S (λr H Q E=>j3 λF ds=>j7 λ_ h n=>?_) λc A a s H r Q E t=>j3 λF ds=>j7 λu h n=>(_,m _ A _ s H E t,?_)]
 .unfold qd at n;split at n;.rw[⇑h,];lia
  .rw[n.elim]
 .unfold qd at n;split at n;.rw[je _ F _ (RS.start u h,(Res.need_bind n).mono (λo i=>?_) 005)];cases(o)with|next sd=>rw[i.elim]|ret d=>rw[i]|brk sd=>rw[i.elim]|cont sd=>rw[i.elim]
  .rw[n.elim]
end
end L2.DL
namespace L2
def zn7(h:n<1000000):n.log2<20:=by
 cases z:n=0;.ext
 .rw[(Nat.log2_lt z).mpr<|Zg h<|004]
section
variable {x:Str} {tv:TE}{t:TA} {k}
def rX(x:Str)(tv:TE):TE:=λZ H Q=>tv Z H λy b=>∃a:3,y=.int a/\a.natAbs<1000000/\Q (.str<|Str.empty++x++Str.ofString (toString a)) b
def pE(r:⇑x<=1000)(f:PE X v tv):PE X (.JoinedStr [.Constant 036 k w,.FormattedValue v (-1) 8 z] g) (rX x tv):=by
 intro Y s Z H Q I h;rw[wpAny_JoinedStr ?_];let A:Str.empty.length=0:=9;rw[jG (Ep _ s _ H (λy c=>y=036/\c=H) I (9,9)) λu B z9=>?_];let(y c,i,j,b,l):=z9;subst b l;let(C,rfl):=j;rw[(x,_,9,by grind[strLen_append,sizeLine_eq],wpAny_FormattedValue_plain<|jG (f _ _ _ _ _ i h) λu E z9=>?_)];let(y,F,m,n,a,b,o,q):=z9;subst b;let(G,rfl):=n;let p:=zn7 o;let J:=int_text_length_le 004 p;let e:⇑(Str.empty++x++Str.ofString (toString a))<=00:=by grind[strLen_append,PySem.ofString_length,sizeLine_eq]
 rw[wpAny_formatField_int () (_,_,9,e,e,(.str _,_,m.tok _,(_,9),q))]
structure Exc(K:f')(mg:Yd)(c:Str)(C:Addr):4 where
ns:W.nsIn K 000 c=! ! .ref C
mgc:mg c=! .ref C
exc:W.excIn K C [.type "ValueError",.type "Exception",.type "BaseException",.type "object"] "ValueError.__new__"=6
def dg(m:Ye)(l:List (02 Value))(g:Addr->List Value->02 Value->02 Value->02 Value->02 Value->String->02 Value->Bool):4:=∃C a b c e f n h,m=.ref C::a/\l=[b,c,e,f,! .builtin n,h]/\g C a b c e f n h=6
def iD(q:W.excIn.match_1 (λb b=>Bool) m l g (λb b=>7)=6):dg m l g:=by cases m with|nil=>rw[JF q]|cons v b=>cases(v)with
|ref C=>cases l with|nil=>rw[JF q]|cons c l=>cases l with|nil=>rw[JF q]|cons e l=>cases l with|nil=>rw[JF q]|cons f l=>cases l with|nil=>rw[JF q]|cons h l=>cases l with|nil=>rw[JF q]|cons a l=>cases(a)with|none=>rw[JF q]|some u=>cases(u)with
 |builtin n=>cases l with|nil=>rw[JF q]|cons i l=>cases(l)with|nil=>rw[wc _ _ _ _ _ _ _ (_,9,9,q)]|cons _ _=>rw[JF q]
 |_=>rw[JF q]
|_=>rw[JF q]
/-!-/
set_option tactic.hygienic true in
def No{K:f'} {P:4}(i:K.In h)(q:W.excIn K C j b=6)(k:∀v N w y bs e z sub A f B m o p r s E,h.get? C=! excClassObj w y C N bs v e z sub A f B m o p r s b->h.Ns N E->E "__init__"=8->OwnTail h j v->P):P:=by
 unfold W.excIn at q;split at q
 .rename_i B I F J;let(_,_,m,o,p,r,n,s,G,L,q):=iD q;simp only[Uc,Yp,Bool.not_eq_true']at q;let(((((M,O),a),Q),c),g):=q;subst M O;let H:=i _ _ J;let(w,bs,R,T,y,U,z,sub,A,f,S):=I;dsimp only at G a c g H;subst G a;let u:F=#[m,o,p,r,! .builtin n,s]:=by obtain⟨l⟩:=F;rw[Zt _ L]
  subst u;rw[k _ _ _ _ _ _ _ _ _ _ _ _ _ _ _ _ _ H (.of_isNs<|W.isNs_of_in i c) (W.nsMap_none_of_in i c g)<|W.tail_of_in i Q]
 .rw[JF q]
def pB(C:Addr)(E:XK)(t:TA):TS:=λd Z H=>t Z H λa b=>⇑a<=1000/\E (.ref C) 8 b
def ew(R:Raises X E)(g:Exc X.K X.mg c C)(l:X.calm=6)(m:Gl X c)(n:PA X [e] t)(o:(c==011)=7:=by decide)(i:01 [e] X.env=%[7|007]::01 [] X.env:=by rfl):PS X (.Raise (! .Call (.Name c A) [e] [] a) 8 p) (pB C E t):=by intro Y s Z H D I h;rw[No I.mod.kin g.exc λB N nm q bs hdct sn sub ab col dd k0 k1 k2 k3 k5 F r u f T=>wpAny_Raise_call_subU (nm:=nm) (q:=q) (N:=N) (bs:=bs) (hdct:=hdct) (sn:=sn) (sub:=sub) (ab:=ab) (col:=col) (dd:=dd) (k0:=k0) (k1:=k1) (k2:=k2) (k3:=k3) (k5:=k5) PySem.F.excBase_ValueError (by rfl) PySem.F.excBase_ValueError (T.hasType PySem.F.excBase_ValueError.hasBase) (I.ok.hd l) (by rw[i,];rfl) f<|YI I m g.mgc (9,?_) o];let j:=n a _ s _ H _ I h;rw[i]at j ⊢;rw[Calls.evalArgs_plain<|Zc j (λG J=>j3 λL M=>qT λb v O w=>?_) λb b y=>y];let P:=⇑v;rw[(9,Q8 (),b.bk _ _ r,u.keeps b.bk,T.keeps b.bk,λQ x z=>R.new _ _ _ _ _ x C _ b z w)]
end
end L2
namespace L2.DL
noncomputable def yI(x:Str):D->YD|.int a=>if Nat.ble a.natAbs 999999=6 then !(.str<|Str.empty++x++Str.ofString (toString a))else 8|_=>8
def eh(b:-999999<=a)(c:a<=999999):∃z,yI x (.int a)=! .str z:=(_,Zd<|Js.mpr ())
@[simp]def Gc(c:Str)(f:FE):FS:=λsd=>(f sd).bind λb=>.ex c []
section
variable {k}
set_option tactic.hygienic true in
def Gd(c:⇑x<=1000)(e:QE X E v f):QE X E (.JoinedStr [.Constant 036 k o,.FormattedValue v (-1) 8 p] g) (jO (yI x) f):=PE.weak (pE c e) λZ H Q h=>by
 let(B F sd,r,n):=h;rw[je B F _ (r,(Res.need_bind n).mono (λd i y s t j l=>?_) 005)];let(z,b,q):=jd i;unfold yI at b;split at b
 .rename_i a;split at b;.rename_i m;obtain rfl:=Zqi b;rw[(a,jc.mp l,by let:=Js.mp m;lia,q _ _ _ j<|jf.mpr 9)]
  .rw[J6 b]
 ext
def eT(R:Raises X E)(ex:Exc X.K X.mg c C)(g:X.calm=6)(h:Gl X c)(i:QE X E e b)(j:(c==011)=7:=by decide)(a:01 [e] X.env=%[7|007]::01 [] X.env:=by rfl):QS X E m (.Raise (! .Call (.Name c v) [e] [] f) 8 l) (Gc c b):=PS.weak (ew R ex g h (J3 i J5 a) j a) λT Z H o=>by
 let(B F sd,r,n):=o;let p:(J2 b jb sd).need (λds=>⇑ds=1/\XW X.K E B.F0 B.H0 c []) (XW X.K E F H):=by unfold Gc at n;ext J2 jb;induction hf:b _ with|ok d=>rw[hf]at n;rw[(9,n)]|ex w fs=>rw[hf]at n;rw[XW.ext n r.ext]|no=>rwa[hf]at n
 rw[je B F _ (r,p.mono (λds s x y z t u=>?_) 005)];let:=⇑u;rw[((),s.2 _ _ _ _ (r.ext.trans t) (C,9,ex.ns,006))]
end
end L2.DL
namespace L2
def lA(X:Cx)(Y:Yb)(Z:St)(E:XK)(e:Value)(c:Shared):4:=∃a h₀ x C B,e=.ref x/\Inv X Y Z a c/\(∀b u,X.s₀.heap.get? b=!u->b∉X.ex->∃f,h₀.get? b=!f)/\(∀p∈X.pn++Y,∃u,h₀.get? p.1=!u)/\FlyAt X.stack h₀ a x C B c.heap/\E (.ref C) 8 a
section
variable {Z: St}
def zlu(F:FnOk X.prog X.w X.K X.mg X.base (xZ X.prog X.w) k f m j n)(o:Room k X.A)(q:wN X.K m j [])(I:003)(r:j6 t l)(h:n t H Q E):YE X (call (.ref f) l) (EP X Y Z Q) (lA X Y Z E) s:=by
 let v:⇑(l++[])=⇑j:=by rw[ZA,<-⇑r];rw[F.len _ _ _ _ h]
 let a:=q s _ I.kIn v;rw[ZA]at a;rw[wpAny_call<|codeAny_mono (F.run _ _ s H _ _ _ Q E o I.env0 a r h) λr J c=>?_];cases(r)with|error e=>let(L x C B,w,os,bare,un,g,i,y):=c;subst w;rw[j8 _ _ x C B (9,I.call' os un g bare<|λb z=>Zn z (),λb u e A=>I.base.there b u e A,λp G=>(_,(I.pin p G).1),i,y)]|ok i=>cases(i)with|ret u=>rw[I.after c]|next=>rw[False.elim c]|brk=>rw[False.elim c]|cont=>rw[False.elim c]
def Inv.flown{h₀ G B:Heap} (I:003)(U:∀b u,X.s₀.heap.get? b=!u->b∉X.ex->∃u',h₀.get? b=!u')(hp:∀p∈X.pn++Y,∃u,h₀.get? p.1=!u)(trk:∀b o,019->H b≠8\/(∃u,h₀.get? b=!u)/\b∉frs X.stack->B.get? b=!o)(Q:Heap.FlyingW B X.stack x (.ref C) (.ref t) G)(S:s.heap.UpToSlots G):Inv X Y Z H {s with heap:=G}:=by
 let J:∀b u,X.s₀.heap.get? b=!u->b∉X.fs->b∉frs _:=λb u e f z=>by
  rcases UN.mp (I.stkSub b z)with q|q;.rw[Zn (Zk e)<|by rw[q,];rw[Nat.not_lt.mpr I.ok.above]]
  .rw[f q]
 let E:∀b o,X.s₀.heap.get? b=!o->b∈X.fs->b∉X.ex->∃R,G.get? b=!{o with slots:=R}:=λb o e f j=>by let(R,e1):=I.base.slot b o e (I.ok.frf b f) f j;let(_,o',L,T):=I.ok.funs.mem f;rw[e]at L;obtain rfl:=Zqi L;let(sl',e2):=S b _ e1 T;rw[(_,e2)]
 let F:∀c v,s.heap.IsCell c v->G.IsCell c v:=λc v zh=>by
  let(o,ho,T):=zh;let(R,e):=S c o ho λvs q=>by ext
  rw[(_,e,T)]
 let(-m,hn,hl):=id I.loc;rw[(I.ok,I.os,I.bare,(λb o e n f j=>?_,λb o e n f j=>E b o e f j,λb o e n j=>I.base.free b o e n j,λb o e j=>?_,I.base.tups,I.base.frzs,I.base.tbls),(m,S.ns hn,λi y v h1 h2 h3=>?_),λy c e=>?_,I.free,I.freeC,λp O=>?_,λb u e=>?_,I.len)];.rw[Q.1 b o<|trk b o (I.base.keep b o e n f j)<|.inr (U b o e j,J b o e f)]
 .cases f:b∈X.fs;.let(R,q):=E b o e f j;rw[(_,q)]
  .let(o',e'):=I.base.there b o e j;rw[(_,Q.1 b _<|trk b _ e'<|.inr (U b o e j,J b o e f))]
 .let(-u,r,l):=hl i y v h1 h2 h3;rw[(u,r,?_)];obtain l|⟨k,c,e,z⟩:=l;.rw[.inl l]
  .rw[.inr (k,c,e,F c _ z)]
 .let(v,q):=I.cell y c e;rw[(v,F c v q)]
 .let(!q1,q2,q3,q4,q5):=I.pin p O;rw[(Q.1 _ _<|trk _ _ q1<|.inr (hp p O,λz=>?_),q2,q3,q4,q5)];rcases UN.mp (I.stkSub _ z)with q|q;.rw[q3 q]
  .rw[q4 q]
 .rw[(I.hok b u e).stay (λc v hc q=>Q.1 c v<|trk c v q<|.inl ?_) (λb q=>q) 005];grind
noncomputable abbrev Cx.inSuite(X:Cx)(x:Addr):Cx:={X with A:=X.A.mark ! .ref x,calm:=7,xe:=λb b=>False}
def Inv.suite(I:003)(x:Addr):Inv (X.inSuite x) Y Z H s:=((I.ok.mod,I.ok.kind,I.ok.glob,I.ok.blt,I.ok.above,I.ok.inj,I.ok.has,I.ok.cab,(),I.ok.frames,I.ok.stk,I.ok.exf,I.ok.bs,I.ok.bsz,I.ok.noex,I.ok.exfs,I.ok.funs,I.ok.frf),I.os,I.bare,I.base,I.loc,I.cell,I.free,I.freeC,I.pin,I.hok,I.len)
def Inv.unsuite(I:Inv (X.inSuite x) Y Z H s)(ok:X.Ok):003:=(ok,I.os,I.bare,I.base,I.loc,I.cell,I.free,I.freeC,I.pin,I.hok,I.len)
theorem SP.unsuite(h:SP (X.inSuite x) Y D f i)(ok:X.Ok):SP X Y D f i:=by cases(f)with|next=>let(c,e,I,q):=h;rw[(_,_,I.unsuite ok,q)]|brk=>let(c,e,I,q):=h;rw[(_,_,I.unsuite ok,q)]|cont=>let(c,e,I,q):=h;rw[(_,_,I.unsuite ok,q)]|ret u=>let(v c e,I,r,q):=h;rw[(v,_,_,I.unsuite ok,r,q)]
def ge(i:5)(C:Addr)(b:Sp)(t:TA)(c:TS):TS:=λD Z H=>t Z H λe f=>b e f (λv a=>D.nx (Z.set i<|!v) a)<|λg b a=>g=.ref C/\c D Z a
def z0S(g:X.stack=X.env::X.outer)(L:X.env.frame=!X.env.locals)(hN:X.N.Nodup)(hi:X.N[i]?=!y)(hx:yS X.env.scope y)(cc:zp X.prog X.w X.K X.mg X.base a k ps sp)(hr:Room k X.A)(hg:Gl X a)(ha:PA X.nox (e::n) t)(ex:Exc X.K X.mg c C)(M:Gl X c)(hs:∀x,qY (X.inSuite x) (b₀::suite) ts)(O:(a==011)=7:=by decide)(he:01 (e::n) X.env=%[7|007]::01 n X.env:=by rfl)(P:(backTo j<|01 n X.env).any (·.1)=7:=by rfl)(hd:(c==011)=7:=by decide)(Q:swapsWith (.Call (.Name a p) (e::n) [] j) (! .Name y py) o.line X.env=pure 7:=by rfl)(hf:X.fn y=6\/028:=by trivial):PS X (.Try [.Assign [.Name y py] (.Call (.Name a p) (e::n) [] j) o] [.ExceptHandler (! .Name c np) 8 (b₀::suite) hpos] [] [] pos) (ge i C sp t ts):=by intro Y s Z H D I h;rw[Za<|wpAny_standAt<|wpAny_tryStmt_except<|wpAny_execs_cons<|wpAny_Assign_Name (Zc (by let(f fd,F,b,hk,hm):=cc;rw[wpAny_Call_Name_kw<|YI I hg hm (W.callWith_K I.ok.mod.kin hk (Zc (ha _ _ s _ H _ (I.wish _) h) (λus s1=>j3 λvs H1=>j7 λJ r q=>(J.kIn,zlu F hr b J.unwish r q)) λb b z=>z.elim) he P) O]) (λv s1 q=>?_) λe s1 l=>by let(H' h₀ x C' B,rfl,I,h0,hp,((t,R),trk),S,U):=l;cases S;let m:=R;rw[g]at m;rw[wpAny_looks_onW (I.ok.frames.trans<|by rw[g,]) L m λh₄ held₄ up₄=>wpAny_landsW held₄ λh₅ fl₅ up₅=>?_];let A:=fl₅;rw[<-g]at A;let E:=up₄.trans up₅;let I5:=I.flown h0 hp trk A E;rw[wpAny_handleBy_cons (codeAny_handlers_test<|YI (I5.suite x) M ex.mgc (No I5.kIn ex.exc λtl N nm q bs hdct sn sub ab col dd k0 k1 k2 k3 k5 mN hC hN hni T=>?_) hd) (by intro q;cases q)];let(ob,hob,G):=fl₅.there;rw[wpAny_excMatches_sub_self hC hob G (T.hasType PySem.F.excBase_ValueError.hasBase)<|codeAny_handlers_suite<|lands_againW fl₅ λh₆ fl₆ up₆=>?_];rw[<-g]at fl₆;rw[Zc (hs x Y _ Z H' D ((I.flown h0 hp trk fl₆<|E.trans up₆).suite x) U) (λf s2 q=>q.unsuite I.ok) λb b z=>z.elim]) Q];let(z H1,J,r1,q1):=q;rw[Am J hN hi hx r1 (λs2 I2=>wpAny_execs_nil<|wpAny_execs_nil (_,H1,I2,q1)) hf]
end
end L2
namespace L2.DL
def vD(i:5)(c:Str)(a:FS)(sd:SD):Res D->Res Out|.ok d=>.ok (.next<|sd.set i<|~~~d)|.ex c' []=>@ite _ (c'=c) (Classical.propDecidable _) (a sd).strict .no|_=>.no
@[simp]def nu(i)(c)(a)(sd)(d):vD i c a sd (.ok d)=.ok (.next<|sd.set i<|~~~d):=rfl
@[simp]def lO(i)(c)(a)(sd):vD i c a sd (.ex c [])=(a sd).strict:=@if_pos _ _ 9 _ _ _
@[simp]def vH(i:5)(c:Str)(a:YC->Res D)(b:FA)(e:FS):FS:=λsd=>(b sd).strict.bind λds=>vD i c e sd<|a ds
section
variable {X:Cx}
def z07(ex:Exc X.K X.mg c C) (h:kC X.K E m (vH i c g j l) T Z H):ge i C (xS X.K g) (dz X.K E0 j) (kC X.K E0 m l) T Z H:=by let(B F sd,r,n):=h;rw[je B F _ (r,?_)];unfold vH at n;induction hf:j _ with|ex p fs=>rw[hf]at n;rw[n.elim]|no=>rwa[hf]at n|ok ds=>
rw[hf]at n;let n:(vD i c _ _ _).need _ _:=n;intro A G I b u;rw[qE _ _ (b.fh,u,?_)]
induction hq:g _ with|ok d=>rw[hq]at n;rw[λv w x e y=>n _ _ _ (b.ff.trans e.ff)<|((r.step b).step e).setVal y]|no=>rwa[hq]at n|ex p fs=>
rw[hq]at n
cases(fs)with|cons d r=>rw[n.elim]|nil=>
cases s:p=c
.subst s;rw[lO]at n;intro J a w x e f;let(L,z,t,_):=f;rw[ex.ns]at t;cases t;rw[(z,B,_,_,(r.step b).step e,(jJ n).mono (λo q=>q.mono<|b.ff.trans e.ff) 005)]
.let n:(@ite _ _ (Classical.propDecidable _) (l _).strict _).need _ _:=n;rw[@if_neg _ _ s]at n;rw[n.elim]
def yL.d{K:f'} (h:xS K c e H Q E):yL K c e H Q E:=by let(F ds,f,i,n):=h;rw[(F,_,f,i,n.mono (λb q=>q.new) 005)]
theorem zp.d{K:f'} (c:zp P w K j e i k l (yL K n)):zp P w K j e i k l (xS K n):=by let(f o,F,r):=c;rw[(f,_,F.imp λb b b b h=>yL.d h,r)]
def cC(l:X.stack=X.env::X.outer)(n:X.env.frame=!X.env.locals)(v:X.N.Nodup)(w:X.N[i]?=!y)(z:yS X.env.scope y)(A:zp X.prog X.w X.K X.mg X.base a k S (xS X.K B))(F:Room k X.A)(G:Gl X a)(I:QA X.nox E0 (e::g) J)(t:Exc X.K X.mg c C)(o:Gl X c)(L:∀x,wK (X.inSuite x) E0 m (b₀::suite) M)(q:(a==011)=7:=by decide)(N:01 (e::g) X.env=%[7|007]::01 g X.env:=by rfl)(r:(backTo f<|01 g X.env).any (·.1)=7:=by rfl)(O:(c==011)=7:=by decide)(s:swapsWith (.Call (.Name a p) (e::g) [] f) (! .Name y P) j.line X.env=pure 7:=by rfl)(Q:X.fn y=6\/028:=by trivial):QS X E m (.Try [.Assign [.Name y P] (.Call (.Name a p) (e::g) [] f) j] [.ExceptHandler (! .Name c U) 8 (b₀::suite) u] [] [] R) (vH i c B J M):=PS.weak (z0S l n v w z A F G I t o L q N r O s Q) λT Z H h=>z07 t h
end
end L2.DL
namespace L2
def Ge{K:f'} :PassesOwn (model (qm (xZ P w) P w K g c N e a f h A b s H E).prog (qm (xZ P w) P w K g c N e a f h A b s H E).w) (qm (xZ P w) P w K g c N e a f h A b s H E).A (qm (xZ P w) P w K g c N e a f h A b s H E).env (qm (xZ P w) P w K g c N e a f h A b s H E).xe:=PassesOwn.leaving
end L2
namespace L2.DL
def Gf(a:D->D->YD)(b:FE)(sd:SD)(y:D):D->Res D|.bl true=>(b sd).bind λw=>.ofO<|a y w|.bl false=>.ok (.bl 7)|_=>.no
@[simp]def mz(a:D->D->YD)(b:FE)(sd:SD)(y:D):Gf a b sd y (.bl 6)=(b sd).bind λw=>.ofO<|a y w:=rfl
@[simp]def m6(a:D->D->YD)(b:FE)(sd:SD)(y:D):Gf a b sd y (.bl 7)=.ok (.bl 7):=rfl
@[simp]def K9(g a:D->D->YD)(b c e:FE):FE:=λsd=>(b sd).bind λx=>(c sd).bind λy=>(Res.ofO<|g x y).bind<|Gf a e sd y
def Np{K:f'} (h:tD K E (K9 g l m o p) Z H Q):RV (wb K g) (wb K l) (tD K E m) (tD K E o) (tD K E p) Z H Q:=by let(B F sd,r,n):=h;rw[je B F _ (r,(Res.need_bind n).mono (λx s v L M a t=>?_) 005)];rw[je B _ _ (r.step a,(Res.need_bind s).mono (λy A w N O b j=>?_) λb b q=>q.ext a)];let(-z,C,e):=jd (Res.need_bind A);rw[jS _ x y z (b.fh,IsD.same b.ff _ _ t,j,C,λP R S c G=>?_)];cases z with
|bl k=>rw[(k,jo.mp G,?_)];cases(k)with|true=>rw[je B _ _ (((r.step a).step b).step c,(Res.need_bind e).mono (λu I T U X f J=>?_) λd d q=>q.ext<|a.trans<|b.trans c)];let(-Y,i,q):=jd I;rw[jS _ y u _ (f.fh,IsD.same (c.ff.trans f.ff) _ _ j,J,i,q.ext<|a.trans<|b.trans<|c.trans f)]|false=>rw[e _ _ _ (a.trans<|b.trans c)<|jo.mpr 9]
|_=>rw[e.elim]
def lR(o:xu X (compareOp j) (wb X.K g))(i:xu X (compareOp f) (wb X.K p))(q:QE X E a r)(t:QE X E b w)(A:QE X E c B)(C:lastMarks [j,f] [b,c]=7:=by with_unfolding_all rfl):QE X E (.Compare a [j,f] [b,c] F) (K9 g p r w B):=PE.weak (by
intro Y s Z H Q I h;rw[Compare_chain (jG (q _ s _ H _ I h) λv T=>j3 λx U=>j7 λG J L=>chain_link<|jG (t _ _ _ _ _ G L) λu s2=>j3 λy H2=>j7 λM l N=>jG (o _ _ _ _ x y v u _ M J l N) λd s3 z9=>?_) C]
let(z,H3,m,O,k,e,n):=z9;subst e;cases O;rw[wpAny_truthy_bool ?_]
cases(k)with|false=>rw[ite_ff (.bl _,_,m,9,n)]|true=>rw[ite_tt<|chain_last<|jG (A _ _ _ _ _ m n) λw' s4=>j3 λz' H4=>j7 λP R S=>i _ _ _ _ y _ u _ Q P l R S]) λb b b h=>Np h
def zj(H:Hp)(l:Addr):Hp:=λa=>if a=l then 8 else H a
def lW(h:a≠l):zj H l a=H a:=by simp_all[zj]
def Nq{b:FS} (R:Res Out->4)(P:5->SD->4)(r:P 0 sd)(s:∀sd,P ⇑ds sd->R (.ok<|.next sd))(m:∀(i:5)(x:D)(sd:SD),ds[i]?=!x->P i sd->(∃a,(JX g x sd).bind b=.ok (.next a)/\P (i+1) a)\/∃c h,(JX g x sd).bind b=.ex c h/\R (.ex c h)):R (xb g b ds sd):=by
 let n:∀(k i:5)(sd:SD),⇑ds-i=k->i<=⇑ds->P i sd->R (xb g b (ds.drop i) sd):=by intro k;cases(k)with
|zero=>
intro i sd e o p;let:i=⇑ds:=()
ext|succ k q=>
  intro i sd e o p;let f:i<⇑ds:=();rw[Uq f,];ext xb zg;obtain⟨a,j,l⟩|⟨c,h,j,l⟩:=m i ds[i] _ () p;.rw[j,];rw[q _ _ () f l]
  .rwa[j,]
 grind
noncomputable def AZ:D->D->YD|.lst a,.lst b=>if ⇑a+⇑b<=00 then !(.lst<|a++b)else 8|_,_=>8
def Nr:mO X (binaryOp .Add) AZ:=xu.weak LB λx y H Q j=>by let(F d e z,f,id,m,c,q):=j;cases d with
|lst a=>cases e with
 |lst b=>
let c:(if ⇑a+⇑b<=00 then !_ else 8)=!z:=c
split at c
.obtain rfl:=Zqi c;let(l r,rfl,n,h):=id;let(s t,rfl,o,i):=m;let u:=⇑h;let v:=⇑i;rw[jS l _ _ _ (9,9,n.same f,o.same f,(),λp g=>q p F _ (.keep f g _) g (Qe f g) (_,JI,h.append i))]
ext|_=>rw[J6 c]
|_=>rw[J6 c]
@[simp]def zyt(a b:YC):AZ (.lst a) (.lst b)=if ⇑a+⇑b<=00 then !(.lst<|a++b)else 8:=rfl
end L2.DL
namespace L2
def uy(K:f')(x:Str)(a:Stmt):4:=∃f b,W.nsIn K 000 x=! ! .ref f/\Fun K x x a f b
def uy.callee{K:f'} {c:Stmt} (X:K.In h)(G:h.Ns 000 p)(d:uy K x c)(ok:∀{f:Addr}{i:FuncData},Fun K x x c f i->FnOk P w K p e yz k f i j q)(r:∀(kV l s:Value)(u:02 Addr)(n v:Value)(o:Ye),⇑o=⇑j->bindArgs (W.fnOf x x (X0 c) (Kj c) (Qd c) .none kV l s u n v) (o,[])=pure (j.zip o)):wO P w K p e x k j q:=by let(f i,a,F):=d;rw[(f,_,ok F,F.binds r,F.kp,W.mg_of X G a)]
def uy.calleeX{K:f'} {c:Stmt} (X:K.In h)(G:h.Ns 000 o)(d:uy K x c)(ok:∀{f:Addr}{p:FuncData},Fun K x x c f p->FnOk P w K o e (xZ P w) k f p i q)(r:∀(kV j s:Value)(u:02 Addr)(l v:Value)(n:Ye),⇑n=⇑i->bindArgs (W.fnOf x x (X0 c) (Kj c) (Qd c) .none kV j s u l v) (n,[])=pure (i.zip n)):zp P w K o e x k i q:=sQ d λf b=>j4 λa F=>(f,_,ok F,F.binds r,F.kp,W.mg_of X G a)
def cp(x:Str):It:=(λi b=>i<x.cps.size,λi H y a=>a=H/\∃c,x.cps[i]?=!c/\y=.str ⟨#[c]⟩,λi b=>x.cps.size<=i)
def aY{K:f'} (j:Addr)(x:Str)(t:Tok):Turn P w K N (cp x) [j] j λi h=>h.IsStrIter j "str_ascii_iterator" x t i where
 mem:=by simp
 obj:=λi h a b f=>by let(-o,z,_,O):=a;ext
 keep:=λi h n a k=>qk a λo=>j4 λz r=>(o,k _ () o z,r)
 item:=by intro X B C F A i Y s Z H E I m a g;have(p,q,G,u,v,y):=m j ();let g:i<x.cps.size:=g;rw[wpAny_pyNext_ascii_item a (c:=x.cps[i]) () λn l J=>?_];let L:Inv X _ _ H {s with heap:=n,toks:=s.toks+1}:=I.turned (λb o f e=>(J.2 b f).trans e) p q u v y;let(-o,e,c,d):=id l;rw[(_,9,BL e c d 004 (.str ⟨_⟩,H,L,(_,9),(9,_,(),9),l,λb f=>(m b f).1))]
 done:=by intro X B C F A i Y s Z H E I m a g;have(p,q,G,u,v,y):=m j ();let g:x.cps.size<=i:=g;rw[wpAny_pyNext_ascii_end (I.ok.hd A) a (by simp[g]) λn M=>(9,I.turned (λb o f e=>M b o f e) p q u v y)]
 self:=λb b b b b a h=>wpAny_pyIter_striter_ascii a h
def fT(a:TE):TI:=λZ H R=>a Z H λy b=>∃x,y=036/\x.cps.all (·<128)=6/\R (cp x) b
def cL(c:PE X l f):PI X p l (fT f):=by
 intro Y s Z H R I h;rw[jG (c _ s _ H _ I h) λv g=>j3 λy r=>j7 λa i j=>?_];let(-x,rfl,m,q):=j;let(t,rfl):=i;rw[wpAny_pyIter_ascii m<|j8 _ _ _ _ _ (9,a.kept λb o e=>Zq _ e,aY _ x t,(_,Zr _ 9,9,9),λb n=>?_,q)];let e:b=g⁻¹:=by simpa using n
 subst e;rw[a.fpOk (Zf _)<|a.hok.fresh<|Zf _]
def o0{lo n:02 Expr} (B:PE X e C)(E:PO X lo F)(G:PO X n th):PE X (.Subscript e (.Slice lo n 8 J) L) λZ H Q=>C Z H λx o=>F Z o λl p=>th Z p λu r=>∃z,x=.str z/\⇑z<=00/\Q (.str<|Txt.slice z l u) r:=by
 intro Y s Z H Q I h;rw[Subscript_<|jG (B Y s Z H _ I h) λv M=>j3 λx o=>j7 λN O P=>?_];rw[wpAny_Slice<|jG (E Y M Z o _ N P) λj R(l,p,S,T,U)=>jG (G Y R Z p _ S U) λm a z9=>?_];let(u r,I3,pu,q3):=z9;let(z,rfl,hz,q):=q3;let(t,rfl):=O;rw[evalPart_none,];rw[Zb ?_];let A:Inv X Y Z r {a with heap:=a.heap.push {cls:=.type "slice",data:=.fields #[j,m,.none]}}:=I3.kept (t':=a.toks) λb ob q=>Zq _ q;show YE X (subscriptTail e (.Slice lo n 8 J) (.str z t)<|.ref a⁻¹) (EP X Y Z Q) X.xe {a with heap:=a.heap.push {cls:=.type "slice",data:=.fields #[j,m,.none]}};suffices w:YE X (getItem (.str z t)<|.ref a⁻¹) (EP X Y Z Q) X.xe {a with heap:=a.heap.push {cls:=.type "slice",data:=.fields #[j,m,.none]}}by rw[tail_any (ops:=[.ref a⁻¹,.str z t]) (typeIs_str _ z t) slot_str_getitem.lookup w<|by with_unfolding_all rfl]
 let(f,hl'):∃f:02 (3×Tok),j=partValue f/\f.map (·.1)=l:=by cases(T)with|none=>rw[(8,9,9)]|int i t=>rw[(!%[i|t],9,9)]
 let(g,hu'):∃g:02 (3×Tok),m=partValue g/\g.map (·.1)=u:=by cases(pu)with|none=>rw[(8,9,9)]|int i t=>rw[(!%[i|t],9,9)]
 rw[wpAny_getItem_str_slice (l:=f) (u:=g) (st:=8) (_,Zr _ 9,9,by rw[hl'.1,hu'.1];rfl) 9 ?_];let le:=Txt.slice_le z l u;let es:Txt.slice z l u=if((1:3)==1&&⇑(slicePicked z f g 8)==⇑z)=6 then z else⟨((slicePicked z f g 8).filterMap (z.cps[·]?)).toArray⟩:=by ext Txt.slice slicePicked;rw[hl'.2,hu'.2];rfl
 ext sliceMade;rw[es]at q le;cases c:((1:3)==1&&⇑(slicePicked z f g 8)==⇑z)=6;.rw[Zd c]at q;let y:(((8:02 (3×Tok)).map (·.1)).getD 1==1&&⇑(slicePicked z _ _ _)==⇑z)=6:=c;rw[Zd y,];rw[(.str z,_,A,(_,9),q)]
 .rw[Ze c]at q le;let y:¬(((8:02 (3×Tok)).map (·.1)).getD 1==1&&⇑(slicePicked z _ _ _)==⇑z)=6:=c;rw[Ze y,];rw[((),.str _,_,A.tok _,(_,9),q)]
def p4(E:X.A.units+64<cLine)(b:Bool):xu X (compareOp<|if b then .NotIn else .In) λx y H Q=>∃(d:DL.D)(a:Yi)(p:Addr),DL.IsD X.K H d x/\DL.plN 12 d=6/\(a.map DL.D.str).all (DL.plN 12)=6/\y=.ref p/\yu X.K H p (a.map V.str)/\Q (.bl<|if b then not<|(a.map DL.D.str).any<|λe=>DL.sameD e d else(a.map DL.D.str).any λe=>DL.sameD e d) H:=by
 intro Y s Z H x y v u Q I l m f;let(d,a,p,id,n,g,o,r,q):=f;subst o;obtain rfl:=m;let(-c,t,h,F):=I.tuple r;let z:∀a:List _,DL.IsDs X.K H (a.map DL.D.str) (a.map _):=λa=>by cases(a)with|nil=>rw[.nil]|cons w a B=>rw[.mk 9 B]
 let(C,i):=DL.any_eq (A:=X.A.in1) (by show X.A.units+1+60<cLine;lia) I.hok n id l g (z _) t;let j:c.toArray.any (DL.eqTo X.K H d)=(a.map DL.D.str).any λe=>DL.sameD e d:=by rw[show c.toArray.any _=c.any (DL.eqTo X.K H d)by simp,DL.any_map',C,<-DL.any_map']
 cases(b)with
|true=>
rw[SeqAt.notIn_tupleAt _ h (λw g=>i w<|by simpa using g) (.bl _,H,I,9,?_)]
rwa[j,]|false=>
rw[SeqAt.in_tupleAt _ h (λw g=>i w<|by simpa using g) (.bl _,H,I,9,?_)]
rwa[j,]
end L2
namespace L2.DL
noncomputable def ve(x:Str):Bool:=x.cps.all (·<128)
noncomputable def uA(x:Str):YC:=x.cps.toList.map λc=>.str ⟨#[c]⟩
def vR(f:FE):FA:=λsd=>(f sd).bind λd=>match d with|.str x=>if ve x=6 then .ok (uA x)else .no|_=>.no
@[simp]def nY(f:FE)(sd:SD):vR f sd=(f sd).bind λd=>match d with|.str x=>if ve x=6 then .ok (uA x)else .no|_=>.no:=rfl
def x5(a:Bool):D->D->YD|.str c,.str x=>!(.bl<|if a then not<|not<|(Builtin.Str.occurrences x c 0 ⇑x 1).isEmpty else not<|(Builtin.Str.occurrences x c 0 ⇑x 1).isEmpty)|_,_=>8
def CM(a:Bool)(c:5)(x:Str):x5 a (.str ⟨#[c]⟩) 036=!(.bl<|if a then not<|decide<|c∈x.cps.toList else decide (c∈x.cps.toList)):=by show some (D.bl _)=_;rw[PySem.StrLaws.found_one,]
noncomputable def yr:YC->YD|[.int i]=>if Nat.ble i.natAbs.log2 1900 then !(.str<|toString i)else 8|_=>8
noncomputable def hU:D->02 3->02 3->YD|.str x,l,u=>if ⇑x<=00 then !(.str<|Txt.slice x l u)else 8|_,_,_=>8
@[simp]def mt(a:FE)(b c:FO):FE:=λsd=>(a sd).bind λd=>(b sd).bind λl=>(c sd).bind λh=>.ofO<|hU d l h
section
variable {lo hi:02 Expr}
def Nt(h:QE X E e f):QI X E u e (vR f):=PI.weak (cL h) λZ H R g=>by let(B F sd,r,n):=g;rw[je B F _ (r,(Res.need_bind n).mono (λd a v j w m o=>?_) 005)];cases d with
|str x=>
let a:(if ve x=6 then Res.ok _ else Res.no).need _ _:=a
split at a
.rename_i p;let s:∀l:List _,IsDs X.K j (l.map λc=>D.str ⟨#[c]⟩) (l.map _):=λl=>by cases(l)with|nil=>rw[.nil]|cons c l t=>rw[.mk (jf.mpr 9) t]
 rw[(x,jf.mp o,p,a _ _ _ m<|C6 (S:=λ_=>True) (s _) () (λi H y _ b=>?_) (λi H _ hi=>?_) λi H y z _ b=>?_)];.let:=(Jd.mp b).1;rwa[Zql,Ue]at this
 .rwa[Zql,Ue]at hi
 .let(A,c,C,G):=b;ext
.rw[a.elim]|_=>rw[a.elim]
def Nu(a:Bool):yN X (compareOp<|if a then .NotIn else .In) (x5 a):=by intro Y s Z H x y v u Q I g h b;let(F,d,e,z,i,id,m,f,q):=b;cases d with
|str c=>cases e with
 |str t=>obtain rfl:=Zqi f;let j:=jf.mp id;let l:=jf.mp m;cases(a)with|true=>rw[RU _ s _ H x y v u Q I g h (c,t,j,l,q _ F H (.refl i)<|zH _ F)]|false=>rw[RR _ s _ H x y v u Q I g h (c,t,j,l,q _ F H (.refl i)<|zH _ F)]
 |_=>rw[J6 f]
|_=>rw[J6 f]
def Gg:yN X (compareOp .In) (x5 7):=Nu _
def z0I:yN X (compareOp .NotIn) (x5 6):=Nu _
set_option tactic.hygienic true in
def CN:qc X (.type "str") (wa X.K yr):=qc.weak Sa λh H Q b=>by
 let(F ds z,c,id,a,q):=b;unfold yr at a;split at a
 .rename_i i;split at a;.rename_i e;obtain rfl:=Zqi a;let(j l,f,g,id):=jj.mp id;subst id f;rw[(i,by rw[jc.mp g,],UR (Js.mp e)<|004,q _ F H (.refl c)<|jf.mpr 9)]
  .rw[J6 a]
 ext
def aD(f:QE X E e g)(i:QO X E lo j)(m:QO X E hi o):QE X E (.Subscript e (.Slice lo hi 8 G) p) (mt g j o):=PE.weak (o0 f i m) λZ H Q s=>by let(B F sd,r,n):=s;rw[je B F _ (r,(Res.need_bind n).mono (λd t v I J b u=>?_) 005)];rw[je B _ _ (r.step b,(Res.need_bind t).mono (λl w L M c=>?_) λ_ _ q=>q.ext b)];rw[je B _ _ ((r.step b).step c,(Res.need_bind w).mono (λh y N O A=>?_) λ_ _ q=>q.ext<|b.trans c)];let(z,a,q):=jd y;cases d with
|str x=>
let a:(if ⇑x<=00 then !_ else 8)=!z:=a
split at a
.rename_i C;obtain rfl:=Zqi a;rw[(x,jf.mp u,C,q _ _ _ ((b.trans c).trans A)<|jf.mpr 9)]
.rw[J6 a]|_=>rw[J6 a]
def CO(a:X.mg x=! .str v t)(b:Gl X x)(c:(x==011)=7:=by decide):QE X E (.Name x e) (dC<|.str v):=AC (Hv (v:=.str v) b a (t,9) c) λF=>jf.mpr 9
structure KTup(K:f')(mg:Yd)(x:Str)(ws:Yi):4 where ex:∃p,mg x=! .ref p/\∀H,yu K H p (ws.map V.str)
def ph{K:f'} {a:Yi} (i:∀H,yu K H p (a.map V.str))(h:tD K E (ji (xQ c) j<|dC<|.tup<|a.map .str) Z H Q):uN (λx y H Q=>∃(d:D)(a:Yi)(p:Addr),IsD K H d x/\plN 12 d=6/\(a.map D.str).all (plN 12)=6/\y=.ref p/\yu K H p (a.map V.str)/\Q (.bl<|if c then not<|(a.map D.str).any<|λe=>sameD e d else(a.map D.str).any λe=>sameD e d) H) (tD K E j) (tC<|.ref p) Z H Q:=by
 let(B F sd,r,n):=h;rw[je B F _ (r,(Res.need_bind n).mono (λx l v o s g m=>?_) 005)];let(z,b,q):=jd l;let b:(if plN _ x&&(a.map _).all _ then !_ else 8)=!z:=b;split at b;.rename_i f;rw[Uc]at f;obtain rfl:=Zqi b;rw[je x _ p (IsD.same g.fh _ _ m,f.1,f.2,9,i _,q _ _ _ g<|jo.mpr 9)]
 .rw[J6 b]
def z0F(b:X.A.units+64<cLine)(k:KTup X.K X.mg g ws)(c:Gl X g)(e:QE X E a f)(i:(g==011)=7:=by decide):QT X E (.Compare a [.In] [.Name g p] j) (JB<|ji (xQ 7) f<|dC<|.tup<|ws.map .str):=by let(-q,l,m):=k.ex;rw[PT.weak (BN (p4 b 7) e (Hv (v:=.ref q) c l 9 i) 9) λZ H Q h=>ph m<|W5 h]
def ZJ(o:xu X (compareOp j) (wb X.K g))(i:xu X (compareOp f) (wb X.K p))(q:QE X E a r)(t:QE X E b w)(A:QE X E c B)(C:lastMarks [j,f] [b,c]=7:=by with_unfolding_all rfl):QT X E (.Compare a [j,f] [b,c] F) (JB<|K9 g p r w B):=PT.weak (by
intro Y s Z H Q I h;rw[isTrue_chain (jG (q _ s _ H _ I h) λv s1=>j3 λx H1=>j7 λG J L=>test_link<|jG (t _ _ _ _ _ G L) λu s2=>j3 λy H2=>j7 λM l N=>jG (o _ _ _ _ x y v u _ M J l N) λd s3 z9=>?_) C]
let(z,H3,m,O,k,e,n):=z9;subst e;cases O;rw[wpAny_truthy_bool ?_]
cases(k)with|false=>let(-k',P,R):=n;cases P;rw[ite_ff (_,m,R)]|true=>rw[ite_tt<|test_last<|jG (A _ _ _ _ _ m n) λw' s4=>j3 λz' H4=>j7 λS T U=>jG (i _ _ _ _ y _ u _ _ S l T U) λd' s5 z9=>?_];let(z2,H5,I5,r5,k2,e2,q5):=z9;subst e2;cases r5;rw[wpAny_truthy_bool (_,I5,q5)]) λb b b h=>Np<|W5 h
end
structure ClsD(K:f')(mg:Yd)(c:Str)(C:Addr)(fs:Yi):4 where
ns:W.nsIn K 000 c=! ! .ref C
mgc:mg c=! .ref C
cls:Cls K C
no:∀f∈fs,u0 K C f
noncomputable def wp(f:Str):Yi->YC->YD|g::a,d::ds=>if g=f then !d else wp f a ds|_,_=>8
theorem Gh{K:f'} :∀{fs:Yi}{ds:YC}{a:YB}{d:D},IsDs K H ds a->⇑fs=⇑a->wp f fs ds=!d->∃x,(fs.zip a).lookup f=!x/\IsD K H d x
|[],ds,a,d,_,_,h=>J6 h|g::b,[],a,d,i,l,h=>by simp_all[IsDs.nil_iff]|g::b,e::ds,a,d,i,l,h=>by
 let(x r,rfl,j,c):=jj.mp i;unfold wp at h;rw[Vy,];cases q:g=f;.ext
 .rw[Ze q]at h;let(-y,m,n):=Gh c (by simpa using l) h;grind
def j0(c f:Str):D->YD|.ins c' fs ds=>if c'=c then wp f fs ds else 8|_=>8
def JV(k:ClsD X.K X.mg c C fs)(m:f∈fs)(o:QE X E e p)(s:attributeBase e f X.env 007=007:=by rfl):QE X E (.Attribute e f t) (jO (j0 c f) p):=PE.weak (HN o s) λZ H Q u=>by let(B F sd,r,n):=u;rw[je B F _ (r,(Res.need_bind n).mono (λd w v M N b y=>?_) 005)];let(-z,g,q):=jd w;cases d with
|ins h O ds=>
let i:(if h=c then wp f _ _ else 8)=!z:=g;cases j:h=c
.rw[Zd j]at i;subst j;let(a P R S,rfl,l,A,G,I):=jW.mp y;rw[k.ns]at l;cases l;let(-x,J,L):=Gh I G i;rw[j8 a C _ _ x (9,b.fh _ _ A,k.cls,k.no f m,J,q _ _ _ b L)]
ext|_=>rw[J6 g]
theorem Gi(f)(v):∀fs:List (Str×V),f∉fs.map (·.1)->xg f v fs=fs++[%[f|v]]|[],_=>9|%[g|x]::r,h=>by rw[Zl,UN,not_or]at h;show(if g=f then%[g|v]::r else%[g|x]::xg f v r)=_;rw[Ze λz=>h.1 z.symm,Gi f v r h.2];rfl
def tI(K:f')(c:Str)(a:Yi)(g:FA):TS:=λT Z H=>∃B F sd x C l fs f e,023/\(∀(i:5)(p:Bool)(d:D),sd[i]? ≠ ! ! SV.own p d)/\Z[0]?=! ! .ref x/\B.H0 x=8/\F x=8/\W.nsIn K 000 c=! ! .ref C/\H x=!(.ins C l<|fs.zip f)/\⇑fs=⇑f/\(fs++a).Nodup/\⇑(fs++a)<900/\IsDs K F e f/\(g sd).need (λds=>∀h j b,Ext B.F0 B.H0 h j->h x=8->j x=!(.ins C l<|(fs++a).zip b)->⇑(fs++a)=⇑b->IsDs K h (e++ds) b->T.nx Z j) (XW K E0 B.F0 B.H0)
def Nv:qY X [] (tI X.K c [] jb):=qY.weak An λT Z H f=>by let(B,F,sd,x,C,m,fs,o,g,r,no,p,q,h,s,i,j,t,u,l,n):=f;let n:∀b e a,Ext _ _ b e->b x=8->e x=!(.ins C _<|(fs++[]).zip a)->⇑(fs++[])=⇑a->IsDs _ _ _ _->T.nx _ _:=n;simp at n;rw[n F H _ r.ext h i j l]
def CP(k:ClsD X.K X.mg c C fs)(G:f∈fs)(I:PE X o (yX 0))(J:QE X E0 e L)(M:qY X N (tI X.K c b g))(O:swapsWith e (! .Attribute o f j) s.line X.env=pure 7:=by rfl):qY X (.Assign [.Attribute o f j] e s::N) (tI X.K c (f::b)<|J2 L g):=qY.weak (YJ (HQ I J O) M) λT Z H P=>by
 let(B,F,sd,x,Q,R,h,l,S,r,no,w,y,U,t,z,A,Y,hm,hi,n):=P;rw[je B F sd (r,(Res.need_bind n).mono (λd n1 v E H1 p i1=>?_) λb b q=>q.ext r.ext)];let c1:Q=C:=by rw[k.ns]at t;cases t;rfl
 subst c1;let u:=p.hh _ _ z;let m:E x=8:=p.new x U (by rw[z,];simp);let lz:(h.zip l).map (·.1)=h:=by rw[List.map_fst_zip (),]
 let hfn:f∉h:=018;let ll:⇑(h.zip l)<1000:=by grind
 rw[(_,w,x,_,_,_,9,u,k.cls,k.no f G,ll,?_)];rw[Gi f v _ (by rwa[lz,]),];let ez:h.zip l++[%[f|v]]=(h++[f]).zip (l++[v]):=by rw[List.zip_append A,];rfl
 rw[ez,];let i:=r.step p;rw[wc B E _ x _ R _ (l++[v],_,((i.ext.ff,λa o e=>?_,λa o e=>?_,i.ext.new),i.len,i.val,(),()),no,w,y,m,t,JI,by simp[A],by simpa using Y,by simpa using hm,IsDs.snoc (IsDs.same p.ff _ _ hi) i1,(Res.need_bind n1).mono (λds n2 F2 H2 xs2 e2 f2 q1 q2 q3=>?_) 005)];.rw[JC (Ky e m),];rw[i.ext.fh _ _ e]
 .rw[JC (Ky e y),];rw[i.ext.hh _ _ e]
 .rw[n2 _ _ _ e2 f2 (by simpa using q1) (by simpa using q2)<|by simpa using q3]
def cb(K:f')(c:Str)(a:Yi)(i:YC->Res YC):Sp:=λj H Q d=>∃F ds x C g h,jk F H/\j=.ref x::h/\IsDs K F ds h/\F x=8/\W.nsIn K 000 c=! ! .ref C/\H x=! .ins C g []/\(i ds).need (λl=>∀b e f,Ext F (zj H x) b e->b x=8->e x=!(.ins C g<|a.zip f)->⇑a=⇑f->IsDs K b l f->Q .non e) (XW K E0 F<|zj H x)
def zZ(n ar:5)(g:FA)(ds:YC):Res YC:=if ⇑ds+1=ar then g (8::Qr (n-1) ds)else .no
def wy{K:f'} (s:jk F H)(h:IsDs K F ds f):RS K (F,zj H x,λb=>8) F H (8::Qr ⇑N ds) (some (.ref x)::L2.start N f)/\∀(i:5)p d,(8::Qr ⇑N ds:SD)[i]? ≠ ! ! SV.own p d:=by
 let c:=RS.start (N:=N) s h;let no:∀(i:5)p d,(8::Qr _ _)[i]? ≠ ! ! SV.own p d:=λi p d q=>by cases(i)with|zero=>cases q|succ i=>let(-l,_,n,_,j,_):=c.own q;let(o,r):=j.has;ext
 rw[(((038,s,λa o e=>by simp_all[zj],λb e b=>e),by simp[c.len],λ{i d}q=>?_,λq=>Zn q<|no _ _ _,λb q b b=>Zn q<|no _ _ _),no)];cases(i)with|zero=>cases q|succ i=>rw[c.val q]
section
variable {K:f'} {st:Stmt}
def bu(F:Fun K x j st f q)(S:FnScope (y::N) p (Qd st))(t:a.Nodup)(u:⇑a<900)(v:∀l A b s H E,Room k (A.deeper<|envOfC j (Qd st) s⁻¹ f l)->qY (qm yz P w K z m (y::N) j (Qd st) f l A b s H E).nox (Kj st) (tI K c a g)):FnOk P w K z m yz (k+1) f q p (cb K c a<|zZ ⇑(y::N) ⇑p g):=by
 rw[F.ok S (λB H Q E=>vM λF ds x C G o=>vN λ_ e i _ _ _ n=>?_) λl A b s H B Q E I=>vM λF ds x C G o=>vN λJ e i L M O n=>(_,v _ A _ s H E I,?_)]
 .unfold zZ at n;split at n;.rename_i h;rw[e,<-h,Zu,⇑i]
  .rw[n.elim]
 .subst e;unfold zZ at n;split at n
  .let R:L2.start (y::N) (.ref x::o)=some (.ref x)::L2.start N o:=by ext L2.start;simp
   rw[R,];let(r,no):=wy J i;rw[wc _ F _ x C _ [] (_,_,r,no,9,by simp_all[zj],L,M,O,9,t,u,.nil,n)]
  .rw[n.elim]
end
def db(P:Program)(w:World)(K:f')(e:Yd)(b:Heap)(c:Str)(a:Yi)(k:5)(g:Yi)(i:YC->Res YC):4:=∃C f h,ClsD K e c C a/\Mk K C f/\FnOk P w K e b yz k f h g (cb K c a i)/\wN K h g []
def Wq(c:Str)(a:Yi)(b:YC->Res YC)(e:FA):FE:=λsd=>(e sd).bind λds=>(b ds).bind λf=>.ok<|.ins c a f
def ZK(M:db X.prog X.w X.K X.mg X.base c g k ps J)(L:Room (k+1) X.A)(N:Gl X c)(O:QA X E0 (e::l) P)(m:(c==011)=7:=by decide)(R:01 (e::l) X.env=%[7|007]::01 l X.env:=by rfl)(t:(backTo u<|01 l X.env).any (·.1)=7:=by rfl):QN X E0 (.Call (.Name c p) (e::l) [] u) (Wq c g J P):=by
 let(C f fd,v,mk,F,b):=M;rw[PE.weak (HU mk F L N v.mgc b .nil E5 O m R t) λZ H Q=>qx λB F sd=>j4 λr n=>je B F _ (r,(Res.need_bind n).mono (λds S vs w H1 h T x A i jt ne=>?_) 005)];let y:w x=8:=by induction q:w x with|none=>rfl|some o=>rw[h.fh _ _ q]at i;cases i
 let z:H x=8:=by induction q:H x with|none=>rfl|some o=>rw[h.hh _ _ q]at i;cases i
 let E:∀{G:Hp},jk G _->jk G (zj (upd (upd _ _<|.own x) x<|.ins C A []) x):=λ{G}s a o q=>by let j:=s _ _ q;rwa[lW (Ky j i),JC (Ky j i),JC (Ky j jt)]
 let U:jk w (upd (upd _ _<|.own x) x<|.ins C A []):=λa o q=>by let j:=h.fh _ _ q;rwa[JC (Ky j i),JC (Ky j jt)]
 let I:Ext F H _ (zj _ x):=(h.ff,E h.fh,E h.hh,h.new);rw[ZA,];rw[wd _ _ x C _ _ (U,9,T,y,v.ns,JI,(Res.need_bind S).mono (λl Y F2 H2 xs e2 f2 h2 l2 i2=>(9,Y x _ _ (I.trans e2) z f2<|je C _ _ (v.ns,h2,l2,i2))) λb b q=>q.ext I)]
def Gj(K:f')(c a:Str)(fs:Yi)(g:Stmt):4:=∃C e b,W.nsIn K 000 c=! ! .ref C/\Cls K C/\(∀f∈fs,u0 K C f)/\Mk K C e/\Fun K "__init__" a g e b
def CQ(F c:Hp):4:=∀a b,c a=! .tup b->F a=! .tup b
section
variable {K:f'} {F H F' H':Hp}
def RS.frz1C(r:023)(I:sd[i]?=! ! .own p d):∃F',jk F F'/\CQ F F'/\RS K B F' H (sd.set i<|~~~d) Z:=by
 let(-l,J,h0,L,f,_):=r.own I;let(o,e):=f.has;let O:i<⇑sd:=(Jd.mp I).1;let G:jk F _:=Kt L o;let Q:CQ F (upd F l o):=λa xs q=>by
  cases z:a=l;.subst z;rw[JI]at q;obtain rfl:=Zqi q;cases d with|lst ds=>let(-_,h,_):=f;ext|dct ks ds=>let(-_,h,_):=f;ext|ins c fs ds=>let(_ _ _,_,h,_):=f;ext|_=>rw[f.elim]
  .rwa[JC z]at q
 rw[(_,G,Q,(r.ext.ff.trans G,λb u q=>?_,r.ext.hh,λa y s=>?_),by rw[U7,r.len],λ{j x}q=>?_,λ{j p x}q=>?_,λ{j k p1 p2 d1 d2 m}n y s R=>?_)]
 .cases z:b=l;.simp_all[JI]
  .rw[JC z]at q;rw[r.ext.fh _ _ q]
 .let z:a≠l:=λz=>s (by rwa[z,]);rw[JC z,];rw[r.ext.new a y s]
 .cases z:i=j;.subst z;let(E,_):=KI q;cases E;rw[(_,J,f.frz e L)]
  .rw[QM z]at q;let(v,S,T):=r.val q;rw[(v,S,IsD.same G _ _ T)]
 .cases z:i=j;.ext
  .rw[QM z]at q;let(-m,U,m2,m3,X,Y):=r.own q;let ne:m≠l:=λe=>r.apart z I q J ();rw[(m,U,m2,by rwa[JC ne,],X.ext G λu q'=>q',Y)]
 .let z1:i≠j:=λz=>by subst z;let(E,_):=KI y;cases E
  let z2:i≠k:=λz=>by subst z;let(E,_):=KI s;cases E
  rw[QM z1]at y;rw[QM z2]at s;rw[r.apart n y s R]
set_option tactic.hygienic true in
theorem RS.frzC:∀(c:Yh){F:Hp}{sd:SD},023->∃F',jk F F'/\CQ F F'/\RS K B F' H (qF c sd) Z
|[],F,sd,r=>(F,038,005,r)|i::c,F,sd,r=>by
 ext qF;split;.rename_i p d h;let(-s,e,f,j):=r.frz1C h;let(u,l,n,o):=RS.frzC _ j;rw[(_,e.trans l,λa v q=>f a _<|n a _ q,o)]
 .rw[RS.frzC _ r]
def Nw:D->Bool|.tup ds=>ds.all W6|d=>W6 d
noncomputable def XJ(F H b:Hp):Hp:=λa=>match H a,b a with|none,some (.tup c)=>! .tup c|_,_=>F a
theorem yw:∀{ds:YC}{c:YB},ds.all W6=6->IsDs K F ds c->IsDs K F' ds c|[],c,_,h=>by simp_all[IsDs.nil_iff]|d::ds,c,s,h=>by let(x r,rfl,e,f):=jj.mp h;rw[Us,Uc]at s;rw[jj.mpr (x,r,9,e.scal s.1,yw s.2 f)]
theorem Nx(s:jk F H)(l:jk F f)(j:CQ F f)(e:Ext f H g m):∀{ds:YC}{c:YB},ds.all Nw=6->IsDs K g ds c->IsDs K (XJ F H g) ds c|[],c,_,h=>by simp_all[IsDs.nil_iff]|d::ds,c,hd,h=>by let(x r,rfl,b,i):=jj.mp h;rw[Us,Uc]at hd;rw[jj.mpr (x,r,9,by cases d with
|tup ds=>let(a,c,rfl,b,i):=js.mp b;rw[js.mpr (a,_,9,?_,yw hd.1 i)];let b:g a=!_:=b;show XJ F H _ a=!_;ext XJ;induction h:H a with|none=>rw[b,]|some o=>induction q:f a with|none=>rw[e.new a q (by rw[h,];simp)]at b;rw[J6 b]|some u=>let:=e.ff _ _ q;rw[b]at this;obtain rfl:=Zqi this;rw[j _ _ q]
|_=>rw[b.scal hd.1],Nx s l j e hd.2 i)]
def Ny:D->Bool|.lst ds=>ds.all Nw|_=>7
@[simp]def Nz(a:Yh)(f:FE):FE:=λsd=>(f<|qF a sd).bare.bind λd=>if Ny d then .ok d else .no
end
def ziz(Q:Yh)(N:Yi)(cap:List (02 5))(z:X.N.Nodup)(A:X.N[R]?=!y)(E:yS X.env.scope y)(S:X.calm=6)(G:Kk b X.env N X.N cap=6)(U:QI X E0 I e Y)(hg:∀g C s H i,QG (JP X b N g C s H i) I t)(ht:∀g C s H i,QT (JP X b N g C s H i) E0 c fc)(he:∀g C s H i,QE (JP X b N g C s H i) E0 j f)(J:swapsWith (.ListComp j [(I,e,[c],0)] b L) (! .Name y py) p.line X.env=pure 6:=by rfl)(M:X.fn y=6\/028:=by trivial)(v:∀x,foldedSetIterable e X.env x=pure x:=by intro _;rfl):QS X E0 m (.Assign [.Name y py] (.ListComp j [(I,e,[c],0)] b L) p) (qr R<|Nz Q<|WA cap Y t fc f):=PS.weak (LW J z A E M N _ S G U hg ht he v) λT Z H h=>LX (λ_ _ _ q=>Ft<|by
let(B F sd,r,n):=q;let(F1,s1,nt,r1):=r.frzC _;rw[je B _ _ (r1,(xt r.ext.fh<|001).mono (λd O l F2 H2 w u P h3=>?_) λc fs q=>q)]
split at O
.rename_i v;cases d with
|lst ds=>let(-xs,g1,g2):=h3;rw[O l _ _ (by
rw[(λa o q=>?_,λa o q=>?_,w.hh,λa q1 q2=>?_)]
.ext XJ;rwa[r.ext.fh _ _ q,]
.unfold XJ at q;split at q;.rename_i u P;obtain rfl:=Zqi q;rw[w.fh _ _ P]
 .rw[w.hh _ _<|r.ext.fh _ _ q]
simp_all[XJ]) u ?_ (_,g1,Nx r.ext.fh s1 nt w v g2)];ext XJ;rw[u,P];induction q:F l with|none=>rfl|some o=>rw[r.ext.fh _ _ q]at u;cases u
|_=>rw[JF v]
.rw[O.elim]) h
abbrev FJ:=Str->SD->Res D
noncomputable def xh:FJ:=λa b=>if ⇑a<=00 then .ok (.str a)else .no
noncomputable def qV(x:Str)(r:FJ):FJ:=λa sd=>if(a++x).length<=00 then r (a++x) sd else .no
def yc(g:D->02 Str)(b:FE)(r:FJ):FJ:=λa sd=>(b sd).bind λd=>match g d with|some z=>if ⇑z<=00/\⇑(a++z)<=00 then r (a++z) sd else .no|none=>.no
noncomputable def Qt:D->02 Str|.str x=>!x|.int a=>if a.natAbs.log2<1920 then !(Str.ofString<|toString a)else 8|_=>8
def QJ(X:Cx)(E:XK)(e:List Expr)(f:FJ):4:=∀(Y:Yb)(s:Shared)(Z:St)(H:Hp)(a:Str)(Q:VK),003->tD X.K E (f a) Z H Q->Joins 015 X.A X.xe (evalEach e X.env) a (λb c=>⇑b<=00/\EP X Y Z Q (.str b c.toks) {c with toks:=c.toks+1}) s
section
variable {k}
def ZL:QJ X E [] xh:=λY s Z H a Q I b=>by
 let(B F sd,r,n):=b;unfold xh at n;split at n;.rename_i h;rw[(h,.str _,H,I.tok _,(_,9),n _ F H (.refl r.ext.fh)<|jf.mpr 9)]
 .rw[n.elim]
def XL(b:QJ X E c r):QJ X E (.Constant 036 k o::c) (qV x r):=λY s Z H e Q I f=>by
 let(B F sd,g,n):=f;unfold qV at n;split at n;.rename_i h;rw[jG (Ep _ s _ H (λy a=>y=036/\a=H) I (9,9)) λu p=>j3 λy a=>qT λi j l m=>?_];subst l m;let(q,rfl):=j;rw[(x,_,9,h,b _ _ _ _ _ Q i<|je B F _ (g,n))]
 .rw[n.elim]
def Ws(w:QE X E e x)(i:QJ X E A r):QJ X E (.FormattedValue e (-1) 8 M::A) (yc Qt x r):=λY s Z H g Q I C=>by
 let(B F sd,p,n):=C;show wpAny _ _ (eval (.FormattedValue e _ _ _) _) _ _ s;rw[wpAny_FormattedValue_plain<|jG (w _ s _ H (λy j=>∃z:Str,(y=.str z\/∃a:3,y=.int a/\a.natAbs.log2<1920/\z=Str.ofString (toString a))/\⇑z<=00/\⇑(g++z)<=00/\tD X.K E (r<|g++z) Z j Q) I<|je B F _ (p,(Res.need_bind n).mono (λd c y N j b t=>?_) 005)) λu O(y,j,l,v,z,b,G,m,q)=>?_]
 .let o:∃z,Qt d=!z:=by cases h:Qt d with|none=>rw[h]at c;rw[c.elim]|some z=>rw[(z,9)]
  let(z,f):=o;rw[f]at c;let c:(if ⇑z<=00/\⇑(g++z)<=00 then r _ _ else .no).need (yR _ F H Q) (XW _ E F H):=c;split at c
  .rename_i h;rw[(z,?_,h.1,h.2,B,_,_,p.step b,c.mono (λd q=>q.ext b) λ_ _ q=>q.ext b)];unfold Qt at f;split at f;.cases f;rw[.inl<|jf.mp t]
   .split at f;.rename_i J;obtain rfl:=Zqi f;rw[.inr (_,jc.mp t,J,9)]
    .rw[J6 f]
   .rw[J6 f]
  .rw[c.elim]
 .rcases b with b|⟨a,b,ha,rfl⟩
  .subst b;let(L,rfl):=v;rw[wpAny_formatField_str (_,_,9,m,?_) (_,_,9,m,?_) G];.rw[i _ _ _ _ _ Q l q]
   .rw[i _ _ _ _ _ Q (l.tok _) q]
  .subst b;let(L,rfl):=v;rw[wpAny_formatField_int ha (_,_,9,m,?_)];rw[i _ _ _ _ _ Q (l.tok _) q]
def ZM(h:QJ X E (a::b::c) f):QE X E (.JoinedStr (a::b::c) e) (f Str.empty):=λY s Z H Q I q=>wpAny_JoinedStr<|h _ s _ H _ Q I q
end
end L2.DL
namespace L2
open PySem
def JH(a:h.kind=.function:=by rfl)(b:h.isCoroutine=7:=by rfl)(c:h.isGenerator=7:=by rfl)(d:N.Nodup:=by decide)(e:N.take ⇑P=P:=by rfl)(f:∀x∈P,h.names.lookup x=!.local\/h.names.lookup x=!.cell:=by decide)(g:∀y∈h.names,y.2 ≠ .free:=by decide):FnScope N P h:=(a,b,c,d,e,f,g)
def qz(i:5)(a:X.N.Nodup)(b:X.N[i]?=!x:=by rfl)(c:yS X.env.scope x:=by trivial)(e:X.fn x=6\/027:=by trivial):PG X (.Name x f) (Wh i):=JR a b c e
section
variable {p:Ye->Prop}
def du(h:∀a,p [a]):∀b:Ye,⇑b=1->p b:=λb e=>by let(a,rfl):=List.length_eq_one_iff.mp e;rw[h a]
def nq(h:∀a b,p [a,b]):∀c:Ye,⇑c=2->p c:=λc e=>by cases c with|nil=>ext|cons a c=>rw[du (p:=λc=>p _) (λb=>h a b) _<|UU e]
def dq(h:∀a b c,p [a,b,c]):∀f:Ye,⇑f=03->p f:=λf e=>by cases f with|nil=>ext|cons a f=>rw[nq (p:=λf=>p _) (λb c=>h a b c) _<|UU e]
def rK(h:∀a b c d,p [a,b,c,d]):∀f:Ye,⇑f=04->p f:=λf e=>by cases(f)with|nil=>ext|cons a f=>rw[dq (p:=λf=>p _) () _<|UU e]
def us5(h:∀a b c d e,p [a,b,c,d,e]):∀f:Ye,⇑f=05->p f:=λf e=>by cases(f)with|nil=>ext|cons a f=>rw[rK (p:=λf=>p _) () _<|UU e]
end
end L2
namespace L2.DL
section
variable {fo fa:FE}
def Ba(fo a:FE):FE:=λsd=>(fo sd).bind λd=>match d with|.dct b ds=>(a sd).bind λk=>.ofO<|(Qw k).map λq=>(jH b ds q).getD .non|_=>.no
@[simp]def rb(fo a:FE)(sd:SD):Ba fo a sd=(fo sd).bind λd=>(F6 d).bind λo=>(a sd).bind λk=>.ofO<|(Qw k).map λq=>(jH o.1 o.2 q).getD .non:=by ext Ba;cases(fo _)with|ok d=>cases d<;>rfl|ex c fs=>rfl|no=>rfl
def c9(j:X.A.units+1<cLine)(l:QE X E o fo)(m:QE X E e fa)(s:M1 X o "get" a e b):QE X E (.Call (.Attribute o "get" a) [e] [] b) (Ba fo fa):=PE.weak (SI j l m s) λZ H Q t=>by let(B F sd,r,n):=t;rw[je B F _ (r,(Res.need_bind n).mono (λd h v T U c u=>?_) 005)];cases d with
|dct x ds=>
let(p A,rfl,C,G,I):=u;let i:=c.fh _ _ C;rw[(p,9,.inl (_,.inl i),B,_,_,r.step c,(Res.need_bind h).mono (λk J w Y H2 f L=>?_) λb b q=>q.ext c)];let(-z,g,q):=jd J;let(M,N,g):=Jh.mp g;subst g;let(O,P):=WY _ G I;rw[(qq (x.zip A) M,?_,?_)]
.rw[Wn N L,];rw[xl.k<|f.hh _ _ i]
.induction hv:jH _ _ _ with|none=>rw[hv]at q;rw[P hv,];rw[q _ _ _ (c.trans f)<|jB.mpr 9]|some d=>rw[hv]at q;let(-y,R,S):=O d hv;rw[R,];rw[q _ _ _ (c.trans f)<|IsD.same f.ff _ _ S]
|_=>rw[h.elim]
end
end L2.DL
namespace L2.ST
noncomputable def wI(k:jI)(D:List jI):Bool:=D.any λx=>decide<|x=k
def rF:wI k D=6↔k∈D:=by simp_all[wI]
def Wt(D:List jI)(k:jI):List jI:=if wI k D=6 then D else D++[k]
def yt(a:List jI):List jI:=a.foldl Wt []
def N0(D:List jI)(k:jI):⇑(Wt D k)=if wI k D then ⇑D else ⇑D+1:=by
 ext Wt;induction h:wI k D;.rw[Ze (),Ze (),Ua];rfl
 .rw[Zd 9,Zd 9]
def oA(D:List jI)(k a:jI):wI a (Wt D k)=(wI a D||decide (a=k)):=by
 ext Wt;cases h:wI k D=6;.ext
 .rw[Ze h,Vb,U4,rF,rF,decide_eq_true_eq,List.mem_append,List.mem_singleton]
theorem N1:∀(a D:List jI),⇑(a.foldl Wt D)<=⇑D+⇑a|[],D=>Zf _|k::a,D=>by let h:=N1 a<|Wt D k;rw[N0]at h;rw[Ve,Zu];split at h<;>lia
def N2(a:List jI):⇑(yt a)<=⇑a:=by let:=N1 a [];rwa[ZC,Vj]at this
theorem N3:∀(a D:List jI),(D++a).Nodup->a.foldl Wt D=D++a
|[],D,_=>(ZA _).symm|k::a,D,h=>by
 let b:=λz=>by rw[List.nodup_append]at h;rw[h.2.2 k z k Zqs 9]
 let e:Wt D k=D++[k]:=Ze λz=>b<|rF.mp z;rw[Ve,e,N3 _ _ (by rwa[Uf,]),Uf];rfl
def dedL_nodup(h:a.Nodup):yt a=a:=N3 _ _ h
def eH(h:KW k v=6):v.scannable=6:=by obtain⟨i,t,rfl,rfl⟩|⟨x,t,rfl,rfl⟩:=KG h<;>rfl
abbrev yx(prog:Program)(w:World)(h:Heap)(S:Addr)(D:List jI):4:=h.SetOf (QC prog w) S (λk=>wI k D) ⇑D
def zR(H:h.SetOf (QC c w) S T n)(e:∀k,T k=wI k D)(f:n=⇑D):yx c w h S D:=by let:T=λk=>wI k D:=funext e;subst this;subst f;rw[H]
section
variable {St:Nat->Yz}
def yx.keep(H:yx c w e S D)(k:∀o,e.get? S=!o->hp'.get? S=!o):yx c w hp' S D:=by let(o i j t,f,r):=H;rw[jS o _ _ t (k _ f,r)]
def iB(W:WalksS c w A.in1 I L y G ⇑a P St)(S:Addr)(m:S∉L)(n:∀i v k,P i v->a[i]?=!k->KW k v=6)(hn:⇑a<=999):∀(k i:5)(s:Shared),⇑a-i=k->i<=⇑a->St i s->yx c w s.heap S (yt<|a.take i)->(∀f,Moved (S::y) G s f->yx c w f.heap S (yt a)->R (.ok<|.ret .none) f)->codeAny (model c w) A (.builtin "set.update.loop" ([.ref S,.ref I],[])) R s:=by let p:S∉y:=λh=>m<|W.sub _ h;let g:∀b∈y,b∈S::y:=λb z=>Zqm _ z;intro k;cases(k)with
|zero=>
intro i s M N j H B;let C:i=⇑a:=()
subst C;rw[Vv]at H;rw[codeAny_builtin F.entry_set_update_loop ?_];rw[Around.under_plainId F.plain_set_update_loop,];show wpAny _ _ (pyNext _>>=_) _ _ s;rw[Za<|W.done s _ _ j λf q=>?_];show wpAny _ _ (ret _) _ _ _;rw[Zb<|B _ (q.mono g)<|H.keep λo e=>q.heap S _ p e]|succ k O=>
intro i s M N j H B;let l:i<⇑a:=()
let r:a[i]?=!_:=Zqg l;rw[codeAny_builtin F.entry_set_update_loop ?_];rw[Around.under_plainId F.plain_set_update_loop,];show wpAny _ _ (pyNext _>>=_) _ _ s;rw[Za<|W.item i s _ _ l j λv f Q t q=>?_];let E:=n i v _ Q r;let T:=H.keep (hp':=f.heap) λo e=>q.heap S _ p e;show wpAny _ _ (holding _ _>>=_) _ _ _;rw[Za<|wpAny_holding ?_];ext setAdd;rw[wpAny_holding ?_];rw[Za<|(QC _ w).pyHash (k:=a[i]) E ?_];let hl:=N2<|a.take i;let ht:⇑(a.take i)=i:=by rw[Uy,];lia
rw[wpAny_setAddHashed_of (knd:=QC _ w) (s:={f with toks:=f.toks+1}) E (eH E) T (by ext scanBound;lia) λU u X=>?_];let Y:yt (a.take<|i+1)=Wt (yt<|a.take i) a[i]:=by rw[Vn,r];ext yt;rw[VJ,];rfl
let Z:yx c w U S (yt<|a.take<|i+1):=by rw[Y,];rw[zR X (λk'=>(oA _ _ _).symm) (N0 _ _).symm]
rw[Zb (plainId_quiet F.plain_set_update_loop _,O _ _ () l (W.frame _ f _ _ t (Vc _) λb z o e=>?_) Z λs'' x J=>?_)]
.rw[u.2 b λh:b=S=>m<|by rwa[<-h],];rw[e]
.rw[B _ (Moved.trans W.gtrans ((q.mono g).then_heap (Vc _) λb o z e=>?_) x) J];rwa[u.2 b λh:b=S=>z<|by rw[h,];calc Zqs,]
end
section
variable {s:Shared}
def oJ(b:c.get? S=!{cls:=.type "set",dict:=8,data:=.set #[] 0 (.fresh 0 0 f)}):yx a w c S []:=jS _ _ 0 _ (b,(9,9,9),9,λe g=>by simp at g,λk=>by simp[wI],by grind[scanBound],9,9)
def ziq(n:A.handled=8)(p:s.heap.IsList l a)(f:a.size=⇑g)(c:∀(i:5)(v:Value)(k:jI),a[i]?=!v->g[i]?=!k->KW k v=6)(q:⇑g<=999)(h:∀(j:Heap)(r:5),yx e w j s⁻¹ (yt g)->(∀b o,b<s⁻¹->019->j.get? b=!o)->Q (.ref s⁻¹) {s with heap:=j,toks:=r}):YF e w A (call (.type "set") [.ref l]) Q E s:=MK n p (λW b b m b t b u R=>by rw[f]at W;rw[iB W _ m c q _ 0 _ 9 (Ub _) t (oJ u) R]) h
end
def N5(X:Cx)(S:Addr)(n:5):HO:=.ext λh=>∃T,h.SetOf (QC X.prog X.w) S T n
def N6(X:Cx):YB->Hp->VK->4:=λc H Q=>∃a b,c=[022]/\Rd H a (.lst<|b.map kV)/\⇑b<=999/\∀S,H S=8->Q (.ref S) (upd H S<|N5 X S ⇑(yt b))
def N7(X:Cx):YB->Hp->VK->4:=λa H Q=>∃S n,a=[.ref S]/\H S=! N5 X S n/\n<=999/\Q (.int n) H
def call_setK(m:X.calm=6):qc X (.type "set") (N6 X):=by
 intro Y s Z H M N Q I n h;let(a O,rfl,p,y,q):=h;let(-u,rfl,A):=Qu n;obtain rfl:=A;let(-B,g,C,R):=I.list (.inl p);let S:=⇑g;rw[ziq (I.ok.hd m) C.isList () (λi v k j U=>?_) y λh' tk l E=>?_];.let(-v',c,F):=g.get (i:=i) (x:=kV k) ();rw[List.getElem?_toArray,c]at j;obtain rfl:=Zqi j;rw[Wz (P:=X.prog) (w:=X.w) F]
 .rw[(.ref _,upd H _ _,I.laid (λb o e=>E b o (Zk e) e) (Zf _) ?_,9,q _<|I.hok.fresh<|Zf _)];let(o G J t,f,r):=id l;rw[((_,l),(_,f),λh1 h2 z L=>?_)];let(T o G J t,f,r):=z;rw[j8 T o _ _ t (L _ f,r)]
def call_lenK:qc X (.builtin "len") (N7 X):=by intro Y s Z H l m Q I b h;let(S n,rfl,c,p,q):=h;let(-u,rfl,e):=Qu b;obtain rfl:=e;let(!(T,o,r,v,t,f,a,g,_,_,w,i,j),_,_):=I.hok S _ c;rw[call_len_set f a g i () (.int n,H,I.tok _,(_,by rw[j,]),q)]
end L2.ST
namespace L2.DL
open PySem PySem.Spec PyProof.Rows L2.ST
def CS:YC->YD|[.lst ds]=>(Q6 Qw ds).bind λa=>if ⇑a<=999 then ! .int ⇑(yt a) else 8|_=>8
theorem N8{K:f'} :∀{ds:YC}{a:List jI}{b:YB},Q6 Qw ds=!a->IsDs K F ds b->b=a.map kV|[],a,b,h,i=>by obtain rfl:=Zqi h;rw[i]|d::ds,a,b,h,i=>by let(x r,rfl,c,e):=i;let(-k,f,h):=Je.mp h;let(-l,g,rfl):=Jh.mp h;rw[Wn f c,N8 g e];rfl
def cA(h:∀{f:TA},PA X g f->PE X e (wW (N7 X)<|Ar (wW (N6 X) f) wV))(i:QA X E g j):QE X E e (jp CS j):=PE.weak (h i) λZ H Q l=>by
 let(B F sd,r,n):=l;rw[je B F _ (r,(Res.need_bind n).mono (λds m y A C c o=>?_) 005)];let(z,b,q):=jd m;unfold CS at b;split at b
 .let(-p,s,b):=Je.mp b;split at b;.rename_i t;obtain rfl:=Zqi b;let(-v,rfl,h):=Q1 o;let(a G,rfl,u,w):=h;obtain rfl:=N8 s w;let I:=N2 p;rw[(a,_,9,u.same c.fh,t,λS x=>(S,_,9,JI,(),q _ _ _ (c.trans<|.keep c.fh x _)<|jc.mpr 9))]
  .rw[J6 b]
 .rw[J6 b]
end L2.DL
namespace L2
section
variable {Z: St}
def Inv.freeze(I:003)(h:H d=! .dK f)(j:↥s d=!o):Inv X Y Z (upd H d<|.frz o<|.dK f) s:=by
 rw[I.step (ch:=[]) () (λb o b b b e b=>e) (λb o b b b e b=>(_,e)) (λb o _ _ n=>?_) (λb o b e=>(o,e)) (λb i e=>?_) (λb o u e=>?_) (λb p e=>(#[],?_)) (λm l=>l) (λb u e=>?_) I.bare];.rwa[JC λz=>by simp_all,]
 .rwa[JC λz=>by simp_all,]
 .rwa[JC λz=>by simp_all,]
 .rw[JC λz=>(),e];simp
 .cases nb:b=d;.subst nb;rw[JI]at e;obtain rfl:=Zqi e;rw[(j,(I.hok b _ h).stay (λb b b q=>q) λc q=>by rwa[JC λz=>by simp_all,] λc i q=>by rwa[JC λz=>by simp_all,])]
  .rw[JC nb]at e;rw[(I.hok b u e).stay (λb b b q=>q) λc q=>by rwa[JC λz=>by simp_all,] λc i q=>by rwa[JC λz=>by simp_all,]]
end
def df(d:Addr)(o:Obj)(a:List (jI×V)):It:=(λi H=>H d=!(.frz o<|.dK a)/\i<⇑a,λi H v b=>∃T k x,v=.ref T/\H T=8/\b=upd H T (.tup [kV k,x])/\a[i]?=!%[k|x],λi H=>H d=!(.frz o<|.dK a)/\⇑a<=i)
def c8(a d:Addr)(n b i:5)(h:Heap):4:=∃ok c,IsItemIter h a d i n b ok c
theorem KV.at:∀{f:List (κ × V)}{j:List (κ × Value)}{i:5}{a:κ × V},KV f j->f[i]?=!a->∃v,j[i]?=!%[a.1|v]/\jz a.2 v:=by intro f j i a l;induction l generalizing i with|nil=>intro e;simp at e|@cons p q _ _ n u o=>cases(i)with|zero=>intro c;simp at c;subst c;rw[(_,by rw[n.1,];rfl,n.2)]|succ i=>intro c;let(-v,r,s):=o (by simpa using c);rw[(v,by simpa using r,s)]
def fO(h:KW k v=6):jz (kV k) v:=by
 obtain⟨i,t,rfl,rfl⟩|⟨x,t,rfl,rfl⟩:=KG h;.rw[(t,9)]
 .rw[(t,9)]
def N9{Z:St} (b:∀g a,o.data=.dict g a->a=m)(I:003)(h:H d=!(.frz o<|.dK c)):∃e,KV c e/\s.heap.DictAt (QC X.prog X.w) d e m:=by let(!i,_,_,(e,f,p,g,a,j,n,l,r)):=show y0 _ _ H _ d _ from I.hok d _ h;rw[i]at j;obtain rfl:=Zqi j;let:=b _ _ l;subst this;rw[(_,f,o,_,i,n,l,r)]
def i8:entryFor table "dict_itemiterator.__iter__"=!Builtin.«dict_keyiterator.__iter__»:=entryFor_alias (id':="dict_keyiterator.__iter__") (by kernel_rfl) (by rfl) 002<|by kernel_rfl
def oU{K:f'} (d l:Addr)(o:Obj)(g:List (jI×V))(O:5)(m:∀T n,o.data=.dict T n->n=O):Turn P w K (.Tuple R kx U) (df d o g) [l] l (c8 l d ⇑g O)where
 mem:=by simp
 obj:=λi h e c a=>by let(ok,r,b):=e;rw[Jb.mp a,];rw[(_,b,λv q=>by cases q)]
 keep:=λi h h' e y=>by let(ok,r,b):=e;rw[qE _ _<|y _ () _ b]
 item:=by
  intro X B C F a i Y s Z H E I t e G;subst B C F;let(J,L):=G;let(S,f,j):=N9 m I J;let(ok r,b):=e;let u:⇑g=⇑S:=⇑f;rw[u]at b;let(-v,hv,rv):=KV.at f (Zqg L);rw[wpAny_pyNext_items_item b j hv λkey h' p M ht hz y=>?_];rw[(_,9,wpAny_letOwnedTupleGo_items (s:={s with heap:=h'}) M λh2 b1 x=>?_)];let x:Heap.SameBut _ h' _:=x;let lt:l≠s⁻¹:=Zi<|Zk b;let I2:=I.paired (t':=s.toks) (h':=h2) (ch:=[l]) (fO p) rv t (λc a=>by rw[Jb.mp a,];rw[lt]) (x.extBut _ _ (Ne.symm lt) ht)<|λc o a q=>by let a:c≠l:=λz=>a (by simp[z]);rw[x.extBut c o a<|y c o a q]
  rw[(.ref _,_,I2,9,je _ _ _ (9,I.hok.fresh<|Zf _,9,Zqg L),qE _ v<|by rwa[u,],λc a=>?_)];rw[Jb.mp a,];rw[(JC lt).trans (t _ ()).1]
 done:=by intro X B C F a i Y s Z H E I t e G;subst B C F;let(J,L):=G;let(S,f,j):=N9 m I J;let(ok r,b):=e;let u:=⇑f;rw[u]at b;rw[wpAny_pyNext_items_end (I.ok.hd a) b j (UA ()) λh' eb=>(9,I.turnedL (λc o a q=>?_) λc a=>t c a)];rw[eb c o λz=>a<|by simp[z] q]
 self:=λA i s Q E e h=>by let(ok r,b):=e;let N:s.TypeIs (.ref _) _:=(_,b,9);rw[wpAny_pyIter_slot N PySem.F.slot_dict_itemiterator_iter<|wpAny_call_entry PySem.F.slot_dict_itemiterator_iter N i8 ?_<|PySem.F.args_dict_itemiterator_iter_1 _];show wpAny _ _ (ret _) _ _ s;rw[Zb (_,9,_,_,N,PySem.F.slot_dict_itemiterator_next.lookup,h)]
def gF:V->YB->Hp->VK->4:=λx b H Q=>∃d a,x=.ref d/\b=[]/\H d=! .dK a/\∀p,H p=8->Q (.ref p) (upd H p<|W4 p d)
def z02(R:It->Hp->4):VK:=λx b=>∃p d a,x=.ref p/\b p=! W4 p d/\b d=! .dK a/\∀o,R (df d o a) (upd b d<|.frz o<|.dK a)
def z0V(K:f')(a:TE):TI:=λZ H R=>uO K "dict" gF a Z H<|z02 R
def aW(y:PE X e z)(a:attributeBase e "items" X.env 007=007:=by rfl)(f:(i.endLine==j.line)=6:=by rfl):PI X (.Tuple v N O) (.Call (.Attribute e "items" i) [] [] j) (z0V X.K z):=by intro Y s Z H R I h;rw[jG (Ic PySem.F.plainAttrs_dict PySem.F.slot_dict_items PySem.F.type_dict_items Ls y a f _ s _ H _ I h) λu A z9=>?_];let(x,P,m,B,p,d,C,E,F,l,q):=z9;subst E;obtain rfl:=B;let(!g,_,_):=m.hok p _ F;let(!_,_,(Q,n,o,S,G,w,J,L,dr)):=Ax m.hok l;let r:A.heap.DictAt _ d _ _:=(o,_,w,J,L,dr);let t:=m.freeze l w;rw[wpAny_pyIter_items g r<|j8 _ _ _ _ _ (9,t.kept<|λb o e=>Zq _ e,oU d _ o _ G (),qE _ _<|by rw[⇑n,];rw[Zr _ 9],λc M=>?_,q o)];rw[Jb.mp M,];rw[t.fpOk (Zf _)<|t.hok.fresh<|Zf _]
end L2
namespace L2.DL
noncomputable def fN:jI->D|.inl i=>.int i|.inr x=>036
def XM(a:List jI)(ds:YC):YC:=List.zipWith (λk x=>D.tup [fN k,x]) a ds
def Gk:D->Res YC|.dct a ds=>.ok (XM a ds)|_=>.no
@[simp]def dO(f:FE):FA:=λsd=>(f sd).bind Gk
@[simp]def zxT(a:List jI)(ds:YC):Gk (.dct a ds)=.ok (XM a ds):=rfl
def al(K:f')(F:Hp)(k:jI):IsD K F (fN k) (kV k):=by cases k with|inl i=>rw[jc.mpr 9]|inr x=>rw[jf.mpr 9]
def oZ{K:f'} (h:f d=!(.frz o<|.dK<|a.zip c))(w:⇑a=⇑c)(g:IsDs K f ds c):vX K f (df d o<|a.zip c) (XM a ds):=λi y z j l=>by
 let m:=l _ _<|j _ _ h;let A:=⇑g;let B:⇑(a.zip c)=⇑a:=by rw[List.length_zip,];lia
 let C:⇑(XM a ds)=⇑a:=by ext XM;rw[List.length_zipWith,];lia
 rw[(λp=>((m,()),λv E q=>?_),λp=>(m,()))];let(T k x,rfl,r,rfl,e):=q;let s:i<⇑ds:=();let(_,t,u):=g.get (Zqg s);rw[VQ]at e;let(e,b):=e;rw[t]at b;cases b;let n:=qB l r<|.tup [kV k,x];rw[(_,_,?_,n,js.mpr (T,_,9,.of JI,.mk (al K _ k)<|.mk (IsD.same (j.trans n.ff) _ _ u) .nil))];ext XM;rw[List.getElem?_zipWith,e,Zqg]
set_option tactic.hygienic true in
def eX(A:QN X E e f)(a:attributeBase e "items" X.env 007=007:=by rfl)(c:(h.endLine==i.line)=6:=by rfl):QI X E (.Tuple v Q S) (.Call (.Attribute e "items" h) [] [] i) (dO f):=PI.weak (aW A a c) λZ H R C=>by
 let(B F sd,r,n):=C;rw[je B F _ (r,(Res.need_bind n).mono (λz m l T U g G w I=>?_) 005)];unfold Gk at m;split at m
 .rename_i J ds;let(-L,j,M,N):=I;rw[(.inr<|.inr<|.inl (9,.inl (_,j)),l,_,9,9,j,λp s=>(p,l,J.zip L,9,JI,?_,λo=>?_))]
  .let t:l≠p:=λz=>by rw[z,s]at j;rw[J6 j]
   rw[(JC t).trans j]
  .let O:=Qe g.fh s;let Hp:=Qe g.hh s;rw[m _ (upd _ l<|.frz o _) _ (g.ff.trans<|Kt w _,λb u q=>?_,λb u q=>?_,λb P x=>?_)<|oZ JI M<|IsDs.same (Kt w _) _ _ N]
   .cases z:b=l;.subst z;rwa[JI]at q ⊢
    .rw[JC z]at q ⊢;let:b≠p:=λy=>by rw[y,O]at q;rw[J6 q]
     rw[JC this,];rw[g.fh _ _ q]
   .let z:b≠l:=λy=>by rw[y,G]at q;rw[J6 q]
    let y:b≠p:=λy=>by rw[y,Hp]at q;rw[J6 q]
    rw[JC z,JC y];rw[g.hh _ _ q]
   .let z:b≠l:=λy=>x (by rwa[y,]);rw[JC z,];rw[g.new b P x]
 .rw[m.elim]
def mG(i:5)(sd:SD):02 (02 SV)->Res D->Res Out
|some (~~~.int a),r=>r.bind λd=>match d with|.int b=>.ok (.next<|sd.set i<|~~~(.int<|a+b))|_=>.no
|_,_=>.no
@[simp]def vI(i:5)(f:FE):FS:=λsd=>mG i sd sd[i]?<|f sd
@[simp]def mF(i:5)(sd:SD)(a b:3):mG i sd (!~~~.int a) (.ok<|.int b)=.ok (.next<|sd.set i<|~~~(.int<|a+b)):=rfl
def pC(j:X.N.Nodup)(l:X.N[i]?=!x)(o:yS X.env.scope x)(s:QE X E e c)(t:X.fn x=6\/027:=by trivial):QS X E m (.AugAssign (.Name x f) .Add e u) (vI i c):=PS.weak (RD j l o s RE t) λT Z H w=>by let(B F sd,r,n):=w;unfold vI at n;generalize y:sd[i]?=q at n;cases(q)with|none=>rw[False.elim n]|some q=>cases(q)with|none=>rw[False.elim n]|some q=>cases(q)with|own p d=>rw[False.elim n]|val d=>cases d with
|int a=>let(-v,z,A):=r.val y;subst A;let n:((c _).bind λd=>match d with|.int b=>Res.ok (Out.next<|sd.set i<|!_)|_=>.no).need _ _:=n;rw[(_,z,B,F,_,r,(Res.need_bind n).mono (λd g v G I h C=>?_) λb b q=>q.ext r.ext)];cases d with|int b=>rw[(_,_,9,C,g _ _ _ h.ff<|(r.step h).setVal<|jc.mpr 9)]|_=>rw[False.elim g]
|_=>rw[False.elim n]
end L2.DL
namespace L2
def zkr(B:c.StaysIn s.heap)(C:s.heap.FunFrames c l)(F:s.heap.TracedAtW c e p G O)(h:∀g T,c.get? T=8->(∀b,b≠T->g.get? b=↥s b)->(∃o u,↥s T=!o/\o.data=.fields u)->c.StaysIn g->g.FunFrames c l->(∃r,g.TracedAtW c e p G r)->Q Yq {s with heap:=g}):wpAny M A (setFlight (.ref e) f) Q E s:=by
 let(P,u,T,R,S,v,H,w,x,t,y,j,i,I):=F;let J:=(Jw.mp I).1;let m:∀b,b≠T->(s.heap.update T<|Obj.mapFields (·.setIfInBounds 03<|f.elim Value.none λa=>rawInt a)).get? b=↥s b:=λb n=>Heap.get?_update_other _ _ n.symm;let L:∀b o,019->(∀N,o.data ≠ .fields N)->b≠T:=λb o q n z=>by subst z;rw[j]at q;cases q;rw[n _ i]
 rw[Za<|wpAny_field v w x ?_];rw[wpAny_setField j i J<|h _ T t m (_,_,j,i) (λb o q=>(m b λz=>by rw[z,t]at q;cases q).trans<|B b o q) (C.of_keeps λb o q n=>(o,(m b<|L b o q n).trans q,9))<|wd (f.elim Value.none λa=>rawInt a) _ _ T _ _ ((m e y.symm).trans v,H,w,x,t,y,Heap.get?_update_self _ j<|Obj.isFreed_of_fields<|Obj.data_mapFields i _,Obj.data_mapFields i _,?_)];ext
def zmU(i:A.frames=! g::f)(j:g.frame=!L)(r:a.StaysIn s.heap)(l:a.get? e=8)(t:s.heap.FunFrames a (g::f))(m:s.heap.TracedAtW a e p C F)(u:∀h,Heap.FlyingW a f e p C h->s.heap.UpToSlots h->Q Yq {s with heap:=h}):wpAny M A (leaving g<|.ref e) Q E s:=by
 cases c:F=rawInt L;.subst c;rw[Za<|wpAny_noteFrame_againW j m<|wpAny_setFlight_noneW r t m λh G H I J=>u _ (G,l,H.2.2,I) λb o q n=>(_,J b o q n)]
 .let(oe,vs,T,oT,ts,N,(O,P),v,R,g5,g6,w,x,y):=m;subst O;let S:=(Jw.mp y).1;let B:∀b,b≠T->(s.heap.update T<|Obj.mapFields (·.setIfInBounds 03 Value.none)).get? b=↥s b:=λb n=>Heap.get?_update_other _ _ n.symm;let U:∀b o,019->(∀X,o.data ≠ .fields X)->b≠T:=018;ext leaving noteFrame;simp only[j];rw[Za<|Za<|wpAny_field N v R<|Za<|wpAny_field w x y ?_];rw[Ze λz=>c<|Yp.mp z,];rw[Za<|wpAny_setField w x S<|wpAny_newEntryW i (t.of_keeps ()) j () (λb o q=>(B b λz=>()).trans<|r b o q) l v () P λh=>qT λY Z x3 x4=>u _ (Y,l,Z.2.2,x3) λb o q n=>x4 b o ((B b<|U b o q n).trans q) n]
structure FlyAny(l:List Env)(h₀:Heap)(H:Hp)(x C:Addr)(B h:Heap):4 where
st:B.StaysIn h
no:B.get? x=8
fr:h.FunFrames B l
tr:∃t fl,h.TracedAtW B x (.ref C) (.ref t) fl
trk:∀b o,h.get? b=!o->H b≠8\/(∃u,h₀.get? b=!u)/\b∉frs l->B.get? b=!o
structure ThrownA(X:Cx)(E:XK):4 where on:∀(Y:Yb)(Z:St)(H:Hp)(s:Shared)(x C:Addr)(B:Heap),003->FlyAny X.stack X.s₀.heap H x C B s.heap->E (.ref C) 8 H->X.xe (.ref x) s
def zkO{K:f'} :ThrownA (qm (xZ P w) P w K p i N j c f q A g s H E) E:=by rw[⟨λY Z r v x C B I a l=>?_⟩];let(t m,n):=a.tr;rw[zmU I.ok.frames 9 a.st a.no a.fr n λy h o=>Ga I (λb u e=>(u,e)) h o a.trk l]
theorem NA{h a B c:Heap}(e:∀b,B.get? b=8->c.get? b=8):∀{l:List Env},(∀b∈frs l,a.get? b=h.get? b)->h.FunFrames B l->a.FunFrames c l
|[],_,_=>trivial|env::rest,k,(g,(L,o,f,g3,g4,g5),r)=>by
 let i:L∈frs (env::rest):=by ext frs;rw[Vs,f];rw[Zqs]
 rw[(g,(L,o,f,e L g3,(k L i).trans g4,g5),NA e (λb j=>k b ?_) r)];simp_all[frs]
def zkw(A:X.stack=X.env::X.outer)(hfr:X.env.frame=!X.env.locals)(M:X.ex=[])(T:ThrownA X E)(at_:X1 X C s H ex):Thrown (JP X l N cl C s H ex) E:=by
 let(F Z0,I0,O,hC):=at_;rw[⟨λY Z H' s' h₀ x D B I h0 fl hE=>?_⟩];let((t,fly),trk):=fl;let P:Heap.FlyingW B (X.env::X.outer) x (.ref D) (.ref t) s'.heap:=by rw[<-A];rw[fly]
 let Q:noteFrame (.ref x) (compEnvC l cl C X.env)=noteFrame (.ref x) X.env:=9;show YE X (noteFrame (.ref x)<|compEnvC l cl C X.env) (λb s''=>Az X C (.ref x) s'') (Az X C) s';rw[Q,];rw[wpAny_looks_onW (I0.ok.frames.trans<|by rw[A,]) hfr P λh1 R up1=>?_];let(-m,hm,_):=id I.loc;let S:h1.Ns C m:=up1.ns hm;rw[(m,S,λG g cenv _=>?_)];let(!hc1,hc2,hc3,hc4):=R;let(oC es ep,hoC,hdC,_):=id S;let nC:∀b o ws,h1.get? b=!o->o.data=.fields ws->b≠C:=018;let f:∀b o,019->b≠C:=λb o q=>Zi<|Zg (Zk q) hC;let U:∀b∈frs X.stack,b≠C:=λb a=>by let(_,J,i,_):=I.ok.funs.mem a;rw[f b J i]
 let(p,hB'):∃p,W.hideAll B [C]=p:=(_,9);let inB:∀b o,p.get? b=!o->B.get? b=!o:=λb o q=>by rw[<-hB']at q;rw[W.of_hideAll _ q]
 let toB:∀b o,B.get? b=!o->b≠C->p.get? b=!o:=λb o q n=>by grind[W.hideAll_get]
 let L:∀b,B.get? b=8->p.get? b=8:=λb q=>by induction z:p.get? b with|none=>rfl|some o=>rw[inB b o z]at q;cases q
 let nBC:∀b o,p.get? b=!o->b≠C:=λb o q z=>by grind[W.hideAll_none]
 let st2:p.StaysIn G:=λb o q=>(g.2 b<|nBC b o q).trans<|hc1 b o<|inB b o q;let fr2:G.FunFrames p X.stack:=NA L (λb a=>g.2 b<|U b a) (by rw[A,];rw[hc3]);let(oe,vs,T0,oT,ts,g1,g2,g3,g4,g5,g6,g7,g8,g9):=hc4;let tr2:G.TracedAtW p x (.ref D) (.ref t) (rawInt X.env.locals):=j8 oe vs T0 oT ts ((g.2 x<|nC _ _ _ g1 g3).trans g1,g2,g3,g4,L T0 g5,g6,(g.2 T0<|nC _ _ _ g7 g8).trans g7,g8,g9);ext PySem.passOn;rw[Za<|wpAny_field (s:={s' with heap:=G}) ((g.2 x<|nC _ _ _ g1 g3).trans g1) g3 g4 ?_];rw[Ze (),];rw[Za<|zkr (s:={s' with heap:=G}) st2 fr2 tr2 λh3 T' t1 t2 t3 st3 fr3 tr3=>wpAny_throw ?_];let K1:∀b o,B.get? b=!o->b≠C->h3.get? b=!o:=λb o q n=>st3 b o<|toB b o q n;let nex:∀b u,X.s₀.heap.get? b=!u->b∉ex:=λb u q a=>by
  rcases(O b a).2.2.2.1 with z|z;.rw[M]at z;cases z
  .rw[Zn (Zk q)<|Nat.not_lt.mpr z]
 let w:∀b o,019->b∈frs X.stack->b∉ex->∃sl,h3.get? b=!{o with slots:=sl}:=λb o q a j=>by let(_,J,i,hd):=I.ok.funs.mem a;let i:↥s b=!J:=i;rw[q]at i;obtain rfl:=Zqi i;let(sl,e1):=I.base.slot b o q (I.ok.frf b a) a j;let(sl',e2):=up1 b _ e1 hd;let e3:G.get? b=!{o with slots:=sl'}:=(g.2 b<|U b a).trans e2;rw[(sl',(t2 b λz=>?_).trans e3)];let(oz wz,z1,z2):=t3;rw[<-z]at z1;let z1:G.get? b=!oz:=z1;rw[e3]at z1;cases z1;rw[hd _ z2]
 rw[T.on F Z0 H' _ x D p (I0.call' (s':={s' with heap:=h3}) (ch:=ex) I.os (λb o e n a j=>?_,λb o e n a j=>w b o e a j,λb o e n j=>I.base.free b o e n j,λb o e j=>?_,I.base.tups,I.base.frzs,I.base.tbls) (λb u e=>?_) I.bare λb a=>((O b a).2.2.2.1,(O b a).2.1,(O b a).2.2.2.2.1,(O b a).2.2.2.2.2)) (st3,L x hc2,fr3,?_,λb o e c=>?_) hE];.rw[K1 b o (trk b o (I.base.keep b o e n a j)<|.inr (h0 b o e j,a))<|f b o e]
 .cases a:b∈frs X.stack;.let(sl,q):=w b o e a j;rw[(_,q)]
  .let(J,e'):=I.base.there b o e j;rw[(J,K1 b J (trk b J e'<|.inr (h0 b o e j,a))<|f b o e)]
 .rw[(I.hok b u e).stay (λc v hc q=>K1 c v (trk c v q<|.inl ?_) ?_) (λb q=>q) 005]
  .rcases hc with z|z;.rw[z,e];simp
   .rw[z,];simp
  .intro z;let fC:H' C=8:=I.free;obtain y|y:=hc;.rw[<-y,z,fC]at e;rw[J6 e]
   .rw[z,fC]at y;rw[J6 y]
 .let(fl',q):=tr3;rw[qE t fl' q]
 .let key:∃r,B.get? b=!r/\b≠C:=by
   obtain c|⟨⟨u,hu⟩,a⟩:=c;.induction q:H' b with|none=>rw[Zn q c]|some u=>let(r,h2'):=(I.hok b u q).has;rw[(r,trk b r h2'<|.inl c,λz=>by rw[z]at q;rw[show H' C=8 from I.free]at q;rw[J6 q])]
   .let(-o1,e1):=I0.base.there b u hu (by rw[M,];simp);let(r,e2):=I.base.there b o1 e1 (nex b u hu);rw[(r,trk b r e2<|.inr (h0 b o1 e1<|nex b u hu,a),f b o1 e1)]
  let(-r,k1,k2):=key;let:=K1 b r k1 k2;let e:=e;rw[e]at this;cases this;rw[toB b o k1 k2]
end L2
namespace L2.DL
def ae(N)(cap)(l:X.calm=6)(e:Kk a X.env N X.N cap=6)(m:QI X E j b n)(o:∀g C s H c,QG (JP X a N g C s H c) j t)(p:∀g C s H c,X1 X C s H c->QE (JP X a N g C s H c) E i f)(q:∀x,foldedSetIterable b X.env x=pure x:=by intro _;rfl):QN X E (.ListComp i [(j,b,[],0)] a r) (Qc cap n t f):=PE.weak (Iw N _ l e m o p q) λb b b h=>Ct h
abbrev HP:=List<|Addr×D
noncomputable def jh:HP->Addr->YD|[],_=>8|p::r,a=>if a=p.1 then !p.2 else jh r a
noncomputable def QD:HP->Addr->D->HP|[],_,_=>[]|p::r,a,d=>if a=p.1 then%[p.1|d]::r else p::QD r a d
def eu(a):jh [] a=8:=rfl
def Kv(p)(r:HP)(a):jh (p::r) a=if a=p.1 then !p.2 else jh r a:=rfl
theorem Gm:∀{c:HP}{a:Addr}{d:D}b,jh c a≠8->jh (QD c a d) b=if b=a then !d else jh c b
|[],a,d,b,h=>Zn 9 h|p::r,a,d,b,h=>by
 ext QD;cases z:a=p.1;.simp_all[Kv]
 .rw[Ze z,Kv,Kv];rw[Kv,Ze z]at h;rw[Gm b h,];grind
structure RT(K:f')(B B':Bs)(F H:Hp)(sd:SD)(hp:HP)(Z:St):4 where
rs:RS K B' F H sd Z
f0:B'.F0=B.F0
pa:B'.pa=B.pa
out:∀a,jh hp a=8->B'.H0 a=B.H0 a
obj:∀a d,jh hp a=!d->B.F0 a=8/\B.H0 a=8/\yU K F B'.H0 a d
section
variable {K:f'} {F F' H H':Hp} {hp:HP}
def RT.sub(t:RT K B c F H sd hp Z):jk B.H0 c.H0:=λa o e=>by induction q:jh _ a with|none=>rwa[t.out a q,]|some d=>rw[(t.obj a d q).2.1]at e;rw[J6 e]
def RT.ext0(t:RT K B c F H sd hp Z) (e:Ext c.F0 c.H0 f i):Ext B.F0 B.H0 f i:=(by rw[<-t.f0];rw[e.ff],e.fh,t.sub.trans e.hh,λa l j=>e.new a (by rwa[t.f0,]) λz=>j<|Qe t.sub z)
def RT.go(t:RT K B e F H sd hp Z)(s:jk F F')(r:RS K e F' H' c Z'):RT K B e F' H' c hp Z':=(r,t.f0,t.pa,t.out,λa d h=>f9 (t.obj a d h) λf i j=>(f,i,j.ext s λb q=>q))
def RT.free(t:RT K B e F H sd hp Z)(h:jh hp a=!d):F a=8:=f9 (t.obj a d h) λf i c=>qk c.has λo j=>t.rs.ext.new a (by rwa[t.f0,]) ()
def RT.lies(t:RT K B c F H sd hp Z)(h:jh hp a=!d):yU K F H a d:=(t.obj a d h).2.2.ext 038 λo q=>t.rs.ext.hh _ _ q
def RT.no_own(t:RT K B c F H sd hp Z)(h:jh hp a=!d) (e:c.H0 l=8):l≠a:=λz=>by let(-o,f):=(t.obj a d h).2.2.has;ext
theorem RT.start(r:023):RT K B B F H sd [] Z:=(r,9,9,009,λa d h=>by cases h)
def RT.ret(t:RT K B c F H sd hp Z)(h:Cr K m B Q d):Cr K m c Q d:=by let f:yR K _ _ Q d->yR K _ _ Q d:=λh v j p e i=>h v _ _ (t.ext0 e) i;let q:yO K _ _ Q d->yO K _ _ Q d:=λh l j p e n r o=>h l _ _ (t.ext0 e) (Qe t.sub n) r o;cases(m)with
|none=>
let h:rz K _ _ Q d:=h;show rz K _ _ Q d
grind[rz]|some b=>cases(b)with|true=>rw[q h]|false=>rw[f h]
def RT.xw(t:RT K B f F H sd hp Z)(h:XW K E B.F0 B.H0 c fs):XW K E f.F0 f.H0 c fs:=λi a j l e q=>h _ a _ _ (t.ext0 e) q
def RT.chg(t:RT K B f F H sd hp Z) (j:jh hp a=!d)(h:yU K F (upd H a o) a s):RT K B (f.F0,upd f.H0 a o,f.pa) F (upd H a o) sd (QD hp a s) Z:=by
 let v:=t.free j;have(x,E,X):=t.obj a d j;let n:jh hp a≠8:=by ext
 rw[(((t.rs.ext.ff,BV o t.rs.ext.fh v,λb u e=>?_,λb G I=>?_),t.rs.len,t.rs.val,λ{i p e}q=>?_,t.rs.apart),t.f0,t.pa,λb c=>?_,λb e c=>?_)]
 .let e:upd _ a o b=!u:=e;cases z:b=a;.simp_all[JI]
  .rw[JC z]at e ⊢;rw[t.rs.ext.hh _ _ e]
 .cases z:b=a;.rwa[z,]
  .rw[t.rs.ext.new b G λy=>I<|by show upd _ a o b=8;rwa[JC z,]]
 .let(-l,J,r,L,O,Q):=t.rs.own q;let ne:=t.no_own j r;rw[(l,J,(JC ne).trans r,L,O.ext 038<|λu R=>by rwa[JC ne,],λz=>(Q z).mono λu R=>by rwa[JC ne,])]
 .rw[Gm b n]at c;cases z:b=a;.ext
  .rw[Ze z]at c;show upd _ a o b=B.H0 b;rw[JC z,];rw[t.out b c]
 .rw[Gm b n]at c;cases z:b=a;.rw[Zd z]at c;obtain rfl:=Zqi c;subst z;rw[(x,E,h.ext 038 λu q=>by simp_all[JI])]
  .rw[Ze z]at c;have(S,T,U):=t.obj b e c;rw[(S,T,U.ext 038 λu q=>by show upd _ a o b=!u;rwa[JC z,])]
def xq(F b:Hp)(hp:HP):Hp:=λa=>match jh hp a with|some _=>b a|none=>F a
theorem RT.frz(t:RT K B n F H sd hp Z):∃r,jk F r/\RS K B r H sd Z/\∀a d,jh hp a=!d->IsD K r d 022:=by
 let G:∀b d,jh hp b=!d->xq F n.H0 hp b=n.H0 b:=λb d e=>by grind[xq]
 let j:∀b,jh hp b=8->xq F n.H0 hp b=F b:=λb e=>by grind[xq]
 let f:jk F (xq F _ _):=λb u e=>by induction q:jh _ b with|none=>rwa[j b q,]|some d=>rw[t.free q]at e;rw[J6 e]
 rw[(_,f,((?_,λb u e=>?_,t.sub.trans t.rs.ext.hh,λb R s=>?_),t.rs.len,λq=>by let(-v,s,h2):=t.rs.val q;rw[(v,s,IsD.same f _ _ h2)],λ{i p e}q=>?_,t.rs.apart),λb e x=>?_)];.rw[<-t.f0];rw[t.rs.ext.ff.trans f]
 .induction q:jh _ b with|none=>rw[j b q]at e;rw[t.rs.ext.fh _ _ e]|some d=>rw[G b d q]at e;rw[t.rs.ext.hh _ _ e]
 .induction q:jh _ b with|none=>rw[j b q,];rw[t.rs.ext.new b (by rwa[t.f0,])<|by rwa[t.out b q,]]|some d=>rw[Zn (t.obj b d q).2.1 s]
 .let(-l,I,y,S,J,L):=t.rs.own q;let O:jh hp l=8:=by induction z:jh _ l with|none=>rfl|some T=>rw[Zn 9<|t.no_own z y]
  rw[(l,I,Qe t.sub y,by rwa[j l O,],J.ext f λb q=>q,λz=>by rw[<-t.pa];rw[L z])]
 .let(!U,X,E):=t.obj b e x;let(-o,Q):=E.has;rw[IsD.same (λc u q=>?_) _ _<|E.frz Q<|t.free x];cases z:c=b;.simp_all[JI]
  .rw[JC z]at q;rw[f _ _ q]
end
mutual
def der(f:HP):D->D
| .adr a=>match jh f a with|some d=>d|none=>.adr a
| .lst ds=>.lst (zi f ds)| .non=>.non| .bl b=>.bl b| .int i=>.int i| .str x=>.str x| .ty n=>.ty n| .scr g=>.scr g| .tup ds=>.tup ds| .dct e ds=>.dct e ds| .ins c fs ds=>.ins c fs ds| .exc c=>.exc c| .exr c n=>.exr c n| .ucl c=>.ucl c| .dcf e ds=>.dcf e ds| .pin a d=>.pin a d
def zi(a:HP):YC->YC| []=>[]|d::ds=>der a d::zi a ds
end
theorem ah(b)(a):der b (.adr a)=match jh b a with|some d=>d|none=>.adr a:=by rw[der,]
def rk(a)(ds):der a (.lst ds)=.lst (zi a ds):=by rw[der,]
def aK(a):zi a []=[]:=by rw[zi,]
def z0N(a)(d)(ds):zi a (d::ds)=der a d::zi a ds:=by rw[zi,]
section
variable {K:f'}{B:Bs}{F H:Hp}{sd:SD}{hp:HP}{Z: St}
mutual
theorem IsD.der(e:∀a d,jh hp a=some d->IsD K F d (.ref a)):∀(d:D) (v:V),IsD K F d v->IsD K F (der hp d) v| .adr a,v,h=>by obtain rfl:=j9.mp h;grind[ah]| .lst _,v,h=>have ⟨a,l,f,i,j⟩:=jq.mp h;jq.mpr ⟨a,_,f,i,IsDs.der e _ _ j⟩| .non,v,h=>by rwa [L2.DL.der]| .bl b,v,h=>by rwa [L2.DL.der]| .int b,v,h=>by rwa [L2.DL.der]| .str b,v,h=>by rwa [L2.DL.der]| .ty b,v,h=>by rwa [L2.DL.der]| .scr b,v,h=>by rwa [L2.DL.der]| .tup b,v,h=>by rwa [L2.DL.der]| .dct b c,v,h=>by rwa [L2.DL.der]| .ins b c d,v,h=>by rwa [L2.DL.der]| .exc b,v,h=>by rwa [L2.DL.der]| .exr b c,v,h=>by rwa [L2.DL.der]| .ucl b,v,h=>by rwa [L2.DL.der]| .dcf b c,v,h=>by rwa [L2.DL.der]| .pin b c,v,h=>by rwa [L2.DL.der]theorem IsDs.der(e:∀a d,jh hp a=some d->IsD K F d (.ref a)):∀ds c,IsDs K F ds c->IsDs K F (zi hp ds) c| [],c,h=>by rwa [aK]|d::ds,c,h=>have ⟨x,r,f,i,j⟩:=jj.mp h;jj.mpr ⟨x,r,f,IsD.der e d x i,IsDs.der e _ r j⟩
end
noncomputable def derI(hp:HP):Yh->SD->SD|[],sd=>sd|i::a,sd=>derI hp a (match sd[i]? with|some (~~~d)=>sd.set i (~~~der hp d)|_=>sd)
def NB{α:Type}{l:List α} {a:α}(h:l[i]?=!a):l.set i a=l:=by
 apply Va;intro j;cases z:i=j;.subst z;rw[U0 (Jd.mp h).1,h]
 .rw[Zx z,]
def RS.reval(r:023)(c:sd[i]?=!~~~d)(h:∀v,IsD K F d v->IsD K F e v):RS K B F H (sd.set i<|~~~e) Z:=by let(v,f,j):=r.val c;let:=r.setVal (i:=i)<|h v j;rwa[NB f]at this
set_option tactic.hygienic true in
theorem RS.derI(c:∀a d,jh hp a=!d->IsD K F d 022):∀e{sd:SD},023->RS K B F H (derI hp e sd) Z
|[],sd,r=>r|i::e,sd,r=>by
 ext L2.DL.derI;split;.rename_i d h;rw[RS.derI c _<|r.reval h λv q=>IsD.der c d v q]
 .rw[RS.derI c _ r]
end
inductive Out2 where|next(sd:SD)(hp:HP)|ret(d:D)|brk(sd:SD)(hp:HP)|cont(sd:SD)(hp:HP)
def uJ(K:f')(m:02 Bool)(B:Bs)(F:Hp)(T:Ends):Out2->4|.next sd c=>∀Z e a b,jk F a->RT K B e a b sd c Z->T.nx Z b|.brk sd c=>∀Z e a b,jk F a->RT K B e a b sd c Z->T.bk Z b|.cont sd c=>∀Z e a b,jk F a->RT K B e a b sd c Z->T.ct Z b|.ret d=>Cr K m B T.rt d
abbrev yh:=SD->HP->Res Out2
def gu(K:f')(E:XK)(m:02 Bool)(g:yh):TS:=λT Z H=>∃B b F sd a,RT K B b F H sd a Z/\(g sd a).need (uJ K m B F T) (XW K E B.F0 B.H0)
abbrev uG(X:Cx)(E:XK)(m:02 Bool)(st:Stmt)(g:yh):4:=PS X st<|gu X.K E m g
abbrev zO(X:Cx)(E:XK)(m:02 Bool)(st:List Stmt)(g:yh):4:=qY X st<|gu X.K E m g
noncomputable def rL(a:HP):Out->Out2|.next sd=>.next sd a|.ret d=>.ret d|.brk sd=>.brk sd a|.cont sd=>.cont sd a
section
variable {K:f'}
def uJ.mono(h:uJ K m B F T o)(e:jk F l):uJ K m B l T o:=by cases(o)with|next sd c=>rw[λZ f i j s r=>h _ _ _ _ (e.trans s) r]|brk sd c=>rw[λZ f i j s r=>h _ _ _ _ (e.trans s) r]|cont sd c=>rw[λZ f i j s r=>h _ _ _ _ (e.trans s) r]|ret d=>rw[h]
def RT.lift(t:RT K B j F H sd l Z) (h:uJ K m B F T (rL l o)):uz K m j F T o:=by cases(o)with|next c=>rw[λe f i s r=>h _ _ _ _ s<|t.go s r]|brk c=>rw[λe f i s r=>h _ _ _ _ s<|t.go s r]|cont c=>rw[λe f i s r=>h _ _ _ _ s<|t.go s r]|ret d=>rw[t.ret h]
end
section
variable {E:XK} {st:Stmt} {g:FS}{g1 g2:yh}
@[simp]def kG(g:FS):yh:=λsd a=>(g sd).bind λo=>.ok<|rL a o
def Gn(h:QS X E m st g):uG X E m st (kG g):=PS.weak h λT Z H=>qK λB b F sd c=>j4 λt n=>je _ F _ (t.rs,(Res.need_bind n).mono (λo a=>t.lift a) λb b q=>t.xw q)
def NC:yh:=λsd a=>.ok<|.next sd a
def Bb(g1 g2:yh):yh:=λsd c=>(g1 sd c).bind λo=>match o with|.next a b=>g2 a b|o=>.ok o
def z0a:zO X E m [] NC:=qY.weak An λT Z H=>qK λB a F sd b=>j4 λt n=>n _ _ F H 038 t
def ND(h:uG X E m st g1):zO X E m [st] g1:=BJ h
def lI(f:uG X E m st g1)(h:zO X E m e g2):zO X E m (st::e) (Bb g1 g2):=qY.weak (YJ f h) λT Z H i=>by let(B l F sd p,t,n):=i;rw[j8 B _ F _ _ (t,(Res.need_bind n).mono (λo c=>?_) 005)];cases(o)with|next a b=>rw[λr u v w s j=>j8 B _ _ _ _ (j,c.mono (λo q=>q.mono s) 005)]|ret d=>rw[c]|brk a b=>rw[c]|cont a b=>rw[c]
abbrev r8:=SD->HP->Res Bool
def sg(K:f')(E:XK)(f:r8):TT:=λZ H Q=>∃B b F sd a,RT K B b F H sd a Z/\(f sd a).need (kq F H Q) (XW K E F H)
abbrev cf(X:Cx)(E:XK)(e:Expr)(f:r8):4:=PT X e<|sg X.K E f
@[simp]def zY(c:r8)(g1 g2:yh):yh:=λsd a=>(c sd a).bind λb=>if b then g1 sd a else g2 sd a
def gR(h:cf X E c i)(j:zO X E m a g1)(l:zO X E m b g2):uG X E m (.If c a b o) (zY i g1 g2):=PS.weak (BK h j l) λT Z H p=>by let(B r F sd s,t,n):=p;rw[j8 B _ F _ _ (t,(Res.need_bind n).mono (λb f u v e=>?_) λb b q=>q.ext<|t.ext0 t.rs.ext)];cases(b)with|true=>rw[j8 B _ _ _ _ (t.go e.ff<|t.rs.step e,f.mono (λb q=>q.mono e.ff) 005)]|false=>rw[j8 B _ _ _ _ (t.go e.ff<|t.rs.step e,f.mono (λb q=>q.mono e.ff) 005)]
def xC(b:D->yh):YC->yh|[],sd,e=>.ok (.next sd e)|x::f,sd,e=>(b x sd e).bind λo=>match o with|.next a c=>xC b f a c|.cont a c=>xC b f a c|.brk a c=>.ok (.next a c)|.ret d=>.ok (.ret d)
@[simp]def Wu(a:Tg)(b:yh)(x:D):yh:=λsd c=>(JX a x sd).bind λs=>b s c
@[simp]def Bc(a:FA)(c:Tg)(b:yh):yh:=λsd e=>(a sd).bind λds=>xC (Wu c b) ds sd e
def cD(f:PassesOwn 015 X.A X.env X.xe)(hc:X.calm=6)(O:QI X E P a it)(hg:QG X P t)(hb:zO X E m h g1)(A:∀x,foldedSetIterable a X.env x=pure x:=by intro _;rfl):uG X E m (.For P a h [] pos) (Bc it t g1):=PS.weak (Et f hc O hg hb A) λT Z H=>qK λB B' F sd f=>j4 λr n=>je _ F _ (r.rs,(Res.need_bind n).mono (λds n1 J C H1 G wk=>by
rw[(λi k Z H=>k=⇑ds-i/\i<=⇑ds/\∃Q v sd f,jk C v/\RT _ B Q v H sd f Z/\(xC (Wu t _) (ds.drop i) sd f).need (uJ _ m B v T) (XW _ E _ _),(_,9,Ub _,B',C,_,_,038,r.go G.ff<|r.rs.step G,n1.mono (λb q=>q.mono G.ff) 005),?_)]
rintro i k Z2 H2 ⟨rfl,O,Q,v,sd2,hp2,I,w,j⟩;let(!w1,w2):=wk i _ H2 I w.rs.ext.fh;cases b:i<⇑ds
.let(go,yl):=w1 b;rw[.inr (go,λR H'=>∃S L l M,jk C L/\RT _ B S _ _ l M _/\(xC (Wu t _) (ds.drop _) _ _).need (uJ _ m B _ T) (XW _ E _ _),λR H' z9=>by let(S,L,l,_,q1,q2,q3):=z9;rw[(_,(),9,b,_,_,_,_,q1,q2,q3)],λx H3 y=>?_)];let(d L,hd,c,i3):=yl x _ y;rw[Uq b]at j;let N:ds[i]=d:=by ext
 rw[N]at j;let U:=w.go c.ff<|w.rs.step c;rw[AE U.rs i3 (Res.need_bind<|Res.need_bind j) λsd' R n4 _ r4=>j8 B _ _ _ _ (U.go 038 r4,n4.mono (λo z=>?_) 005)];cases(o)with|next p s=>rw[λY B5 F5 H5 e u=>(_,_,_,_,(I.trans c.ff).trans e,u,z.mono (λb q=>q.mono<|c.ff.trans e) 005)]|cont p s=>rw[λY B5 F5 H5 e u=>(_,_,_,_,(I.trans c.ff).trans e,u,z.mono (λb q=>q.mono<|c.ff.trans e) 005)]|brk p s=>rw[λY B5 F5 H5 e u=>z _ _ _ _ (c.ff.trans e) u]|ret d=>rw[z]
.let he:i=⇑ds:=();rw[.inl (w2 (),?_)];subst he;rw[Vi]at j;rw[j _ _ _ _ 038 w]) λb b q=>q.ext<|r.ext0 r.rs.ext)
end
@[simp]def gb(a:HP)(sd:SD):rL a (.next sd)=.next sd a:=rfl
def gB(g:yh):Out2->Res Out2|.next sd a=>g sd a|o=>.ok o
@[simp]def z0J(g:yh)(sd:SD)(a:HP):gB g (.next sd a)=g sd a:=rfl
@[simp]def mj(a b:yh)(sd:SD)(c:HP):Bb a b sd c=(a sd c).bind (gB b):=by rfl
def w5(K:f')(F H:Hp)(b:HP):4:=∀a d,jh b a=!d->F a=8/\yU K F H a d
def RT.lent{K:f'} (t:RT K B e F H sd c Z):w5 K F H c:=λb b h=>(t.free h,t.lies h)
abbrev xT:=SD->HP->Res (D×HP)
abbrev wC:=SD->HP->Res (YC×HP)
abbrev vp:=SD->HP->Res (Bool×HP)
def rZ(K:f')(E:XK)(f:xT):TE:=λZ H Q=>∃B e F sd b,RT K B e F H sd b Z/\(f sd b).need (λp=>∀v g a c,jk F a->RT K B g a c sd p.2 Z->IsD K a p.1 v->Q v c) (XW K E B.F0 B.H0)
abbrev vg(X:Cx)(E:XK)(e:Expr)(f:xT):4:=PE X e<|rZ X.K E f
def gr(K:f')(E:XK)(f:wC):TA:=λZ H Q=>∃B g F sd b,RT K B g F H sd b Z/\(f sd b).need (λp=>∀c h a e,jk F a->RT K B h a e sd p.2 Z->IsDs K a p.1 c->Q c e) (XW K E B.F0 B.H0)
abbrev ug(X:Cx)(E:XK)(es:List Expr)(f:wC):4:=PA X es<|gr X.K E f
def gq(K:f')(E:XK)(f:vp):TT:=λZ H Q=>∃B e F sd a,RT K B e F H sd a Z/\(f sd a).need (λp=>∀g b c,jk F b->RT K B g b c sd p.2 Z->Q p.1 c) (XW K E B.F0 B.H0)
abbrev mM(X:Cx)(E:XK)(e:Expr)(f:vp):4:=PT X e<|gq X.K E f
section
variable {a b e o i:Expr} {fa fb fe fo fi:FE}
@[simp]def wQ(fe:FE):xT:=λsd c=>(fe sd).bind λd=>.ok %[d|c]
def ZN(h:QE X E e fe):vg X E e (wQ fe):=PE.weak h λZ H Q=>qK λB j F sd l=>j4 λt n=>je _ F _ (t.rs,(Res.need_bind n).mono (λd f v m p c g=>f v _ _ _ c.ff (t.go c.ff<|t.rs.step c) g) λb b q=>q.ext<|t.ext0 t.rs.ext)
@[simp]def uL(g:D->D->YD)(fa fb:xT):xT:=λsd c=>(fa sd c).bind λp=>(fb sd p.2).bind λq=>(Res.ofO<|g p.1 q.1).bind λz=>.ok %[z|q.2]
def pY(l:zP X (wb X.K g))(m:vg X E a r)(s:vg X E b x)(y:Aw b):vg X E (.Subscript a b A) (uL g r x):=PE.weak (BP l m s y) λ_ _ _ h=>by let(B O F sd P,t,n):=h;rw[j8 B _ F _ _ (t,(Res.need_bind n).mono (λp C v Q R S G H I=>j8 B _ _ _ _ (H,(Res.need_bind C).mono (λq J w T U Y j c L=>?_) 005)) 005)];let(-z,M,k):=jd (Res.need_bind J);rw[jS _ _ _ z (c.rs.ext.fh,IsD.same j _ _ I,L,M,λu Z H3 f N=>k u _ _ _ ((G.trans j).trans f.ff) (c.go f.ff<|c.rs.step f) N)]
@[simp]def Go:wC:=λb c=>.ok %[[]|c]
@[simp]def Xb(f:xT)(g:wC):wC:=λsd c=>(f sd c).bind λp=>(g sd p.2).bind λq=>.ok %[p.1::q.1|q.2]
def aX:ug X E [] Go:=PA.weak K3 λZ H Q=>qK λB c F sd f=>j4 λt n=>n _ _ F H 038 t .nil
def Gp(g:vg X E e h)(j:ug X E c l)(m:01 (e::c) X.env=%[7|007]::01 c X.env:=by rfl):ug X E (e::c) (Xb h l):=PA.weak (Kz g j m) λZ H Q=>qK λB A F sd C=>j4 λt n=>j8 B _ F _ _ (t,(Res.need_bind n).mono (λp r v G I J s u w=>j8 B _ _ _ _ (u,(Res.need_bind r).mono (λq x L M N O f y z=>x _ _ _ _ (s.trans f) y<|.mk (IsD.same f _ _ w) z) 005)) 005)
def Xc(i:5)(f:xT):yh:=λsd c=>match sd[i]? with|some (some<|.own false<|.lst ds)=>(f sd c).bind λp=>if ⇑ds<00 then .ok (.next (sd.set i<|!(.own 7<|.lst<|ds++[p.1])) p.2)else .no|_=>.no
def ls{i:5} (A:PE X o (yX i))(C:vg X E e G)(w:∀{x:TE}{t:TA},PE X o x->PA X [e] t->PE X (.Call (.Attribute o "append" c) [e] [] f) (u2 X.K "list" BQ x t))(I:swapsWith (.Call (.Attribute o "append" c) [e] [] f) 8 g.line X.env=pure 7:=by rfl)(h:01 [e] X.env=%[7|007]::01 [] X.env:=by rfl):uG X E m (.Expr (.Call (.Attribute o "append" c) [e] [] f) g) (Xc i G):=PS.weak (YK (w A<|Kz C K3 h) I) λT Z H J=>by
 let(B P F sd w,t,n):=J;unfold Xc at n;split at n
 .rename_i ds j;let(-l,r,Q,R,(S,L,U),_):=t.rs.own j;rw[(_,r,.inl (9,_,qR.of L),B,_,F,_,_,t,(Res.need_bind n).mono (λp s v Y F1 H1 M u N=>?_) 005)];split at s;.let(-l',y,g2,g3,(ys,O,z),_):=u.rs.own j;rw[r]at y;cases y;let hl:=⇑z;rw[je l _ v (9,9,O,(),s _ _ _ _ M<|u.go 038<|u.rs.chg j r (_,JI,z.snoc N))]
  .rw[s.elim]
 .rw[n.elim]
end
def NE(K:f')(E:XK)(g:xT):TS:=λT Z H=>∃B f F sd c,RT K B f F H sd c Z/\(g sd c).need (λp=>∀v h a i b e,jk F b->RT K B i b e a p.2 h->IsD K b p.1 v->T.rt v e) (XW K E B.F0 B.H0)
abbrev z8(X:Cx)(E:XK)(sts:List Stmt)(g:xT):4:=qY X sts<|NE X.K E g
section
variable {f2 g2 ga:xT}{g1:yh}{fc:vp} {st:Stmt}
def CT(h:vg X E e f2):z8 X E [.Return (!e) a] f2:=qY.weak (BJ<|Ao h) λT Z H=>qK λB b F sd c=>j4 λt n=>j8 B _ F _ _ (t,n.mono () 005)
def zy(g1:yh)(g2:xT):xT:=λsd c=>(g1 sd c).bind λo=>match o with|.next a b=>g2 a b|_=>.no
def CU(f:uG X E m st g1)(g:z8 X E e g2):z8 X E (st::e) (zy g1 g2):=qY.weak (YJ f g) λT Z H h=>by let(B w F sd x,t,n):=h;rw[j8 B _ F _ _ (t,(Res.need_bind n).mono (λo c=>?_) 005)];cases(o)with|next a b=>rw[λy z A C s i=>j8 B _ _ _ _ (i,c.mono (λp q v G j I J L l r u=>q v _ _ _ _ _ (s.trans l) r u) 005)]|ret d=>rw[c.elim]|brk a b=>rw[c.elim]|cont a b=>rw[c.elim]
@[simp]def wJ(fc:vp)(ga g2:xT):xT:=λsd a=>(fc sd a).bind λp=>if p.1 then ga sd p.2 else g2 sd p.2
def NF(m:mM X E c fc)(o:z8 X E a ga)(r:z8 X E b g2):z8 X E (.If c a [] s::b) (wJ fc ga g2):=qY.weak (YJ (BK m o An) r) λT Z H u=>by let(B C F sd G,t,n):=u;rw[j8 B _ F _ _ (t,(Res.need_bind n).mono (λp i I J L j l=>?_) 005)];let(k,w):=p;cases(k)with|true=>rw[j8 B _ _ _ _ (l,i.mono (λp q v x e y z A f g h=>q v _ _ _ _ _ (j.trans f) g h) 005)]|false=>rw[j8 B _ _ _ _ (l,i.mono (λp q v x e y z A f g h=>q v _ _ _ _ _ (j.trans f) g h) 005)]
end
structure ExtW(K:f')(F H:Hp)(hp:HP)(F' H':Hp)(hp':HP):4 where
ff:jk F F'
fh:jk F' H'
hh:∀a o,jh hp a=8->H a=!o->H' a=!o
new:∀a,F a=8->H a≠8->F' a=8
len:w5 K F' H' hp'
dom:∀a,jh hp' a=8↔jh hp a=8
theorem wF:∀{b:HP}{a:Addr},jh b a=8↔a∉b.map (·.1)
|[],a=>by simp[eu]|p::r,a=>by
 rw[Kv,Zl,UN,not_or];cases z:a=p.1;.ext
 .rw[Ze z,wF];ext
def xz(H:Hp)(b:HP):Hp:=λa=>match jh b a with|none=>H a|some _=>8
def Kw(h:jh b a=8):xz H b a=H a:=by grind[xz]
def CV(h:jh b a=!d):xz H b a=8:=by ext xz;rw[h,]
def KB(n ar:5)(g:xT)(ds:YC)(a:HP):Res (D×HP):=if ⇑ds=ar then(g (Qr n ds) a).bind λp=>if p.2.map (·.1)=a.map (·.1)then .ok p else .no else .no
section
variable {K:f'}
def RT.call(t:RT K B n F H sd r Z)(w:ExtW K F H r G j s):∃I,RT K B I G j sd s Z:=by
 let J:=λa o h e=>w.hh a o h<|t.rs.ext.hh _ _ e;rw[((_,λa=>match jh r a with|none=>n.H0 a|some _=>j a,_),((t.rs.ext.ff.trans w.ff,w.fh,λa o e=>?_,λa L f=>?_),t.rs.len,λq=>qk (t.rs.val q) λv=>j4 λf O=>(v,f,IsD.same w.ff _ _ O),λ{i p d}q=>?_,t.rs.apart),t.f0,t.pa,λa c=>?_,λa d c=>?_)];.grind
 .induction z:jh _ a with|none=>
let f:(match jh _ a with|none=>n.H0 a|some _=>j a)≠8:=f
rw[z]at f;rw[w.new a (t.rs.ext.new a L f) λy=>f<|Qe t.rs.ext.hh y]|some d=>let(o,Q):=(t.lies z).has;rw[w.new a (t.free z) ()]
 .let(l,R,S,T,x,U):=t.rs.own q;let E:jh r l=8:=by induction z:jh _ l with|none=>rfl|some d'=>rw[Zn 9<|t.no_own z S]
  let(o,Q):=x.has;rw[(l,R,?_,w.new l T (),x.ext w.ff λu q=>w.hh _ _ E q,λz=>(U z).mono λu q=>w.hh _ _ E q)];ext
 .let c:=(w.dom a).mp c;show(match jh _ a with|none=>n.H0 a|some _=>j a)=B.H0 a;rw[c,];rw[t.out a c]
 .induction z:jh _ a with|none=>rw[(w.dom a).mpr z]at c;cases c|some d0=>
let(!X,Y,_):=t.obj a _ z;rw[(X,Y,(w.len a d c).2.ext 038 λo q=>?_)]
ext
def RT.hidden(t:RT K B f F H sd c Z):Ext B.F0 B.H0 F (xz H c):=by
 let e:=t.ext0 t.rs.ext;rw[(e.ff,λa o q=>?_,λa o q=>?_,e.new)];.cases z:jh _ a with|none=>rw[Kw z,];rw[e.fh _ _ q]|some d=>rw[t.free z]at q;rw[J6 q]
 .cases z:jh _ a with|none=>rw[Kw z,];rw[e.hh _ _ q]|some d=>rw[(t.obj a d z).2.1]at q;rw[J6 q]
end
def Xd(a:YC->HP->Res (D×HP))(b:FA):xT:=λsd c=>(b sd).bind λds=>a ds c
def y8:FS:=λb=>.no
def KC{a:Stmt}:QS X E m a y8:=λY s Z H T I=>qx λB F sd=>j4 λr n=>n.elim
section
variable {g:xT}
def ka(i:5)(g:xT):xT:=λsd a=>g (qF [i] sd) a
def cG(h:z8 X E a g):z8 X E a (ka i g):=qY.weak h λT Z H=>qK λB j F sd l=>j4 λt n=>qk (t.rs.frz _) λm=>j4 λs r=>j8 B _ _ _ _ (t.go s r,(n).mono (λp q v o b u w x c e f=>q v _ _ _ _ _ (s.trans c) e f) 005)
def vT:D->D->YD:=λd e=>match d with|.dct _ _=>8|.dcf _ _=>8|d=>jY d e
def fP:zP X (wb X.K vT):=LH
end
open Classical in
def ye(n:5)(g:Yj->Res Out):Res Out:=if h:∃o,∀a,⇑a=n->g a=.ok o then .ok (Classical.choose h)else .no
def NG(h:∀a,⇑a=n->g a=.ok o):ye n g=.ok o:=by let b:∃o,∀a,⇑a=n->g a=.ok o:=(o,h);ext ye;let c:⇑(List.replicate n 0)=n:=List.length_replicate;grind
def capO(cap:List (02 5))(k:5)(sd:SD):SD:=match(cap[k]?).join with
|some j=>match sd[j]? with|some (some<|.own false d)=>(q9 cap sd).set k ! .own 7 d|_=>q9 cap sd
|none=>q9 cap sd
def ik{i:5} (q:(q9 cap sd)[i]?=! !x):∃d,x=.val d:=by unfold q9 at q;rw[Zv]at q;induction hc:cap[i]? with|none=>ext|some o=>
rw[hc]at q
cases(o)with|none=>cases q|some j=>grind
/-!-/
set_option tactic.hygienic true in
theorem RS.capO{K:f'}{B:Bs}{F H:Hp}{sd:SD}{Z:St}(cap)(k)(r:023):RS K B F H (capO cap k sd) (KY cap Z):=by
 ext L2.DL.capO;split
 .rename_i j c;split
  .rename_i d f;let(-l,n,s,u,v,_):=r.own f;let x:(KY cap Z)[k]?=! ! .ref l:=by ext KY;rw[Zv,];induction hc:cap[k]? with|none=>rw[hc]at c;rw[J6 c]|some o=>rw[hc]at c;subst c;show some (Option.bind _ _)=_;rw[Option.bind_some,n];rfl
   let y:=(r.cap cap).setOwn (i:=k) s u v λi p e q=>by let(E,z):=ik q;cases z
   rwa[NB x]at y
  .rw[r.cap _]
 .rw[r.cap _]
def CW(cap:List (02 5))(k:5)(b:FA)(a:Tg)(f:FE):FE:=λsd=>(b sd).bind λds=>if Wl (capO cap k sd) a=6/\⇑ds<00 then(yF (λx=>(JX a x<|capO cap k sd).bind f) ds).bind λc=>.ok<|.lst c else .no
def zkx(N)(cap)(c)(i:X.N.Nodup)(j:X.N[z]?=!y)(l:yS X.env.scope y)(A:X.calm=6)(n:Kk a X.env N X.N cap=6)(B:QI X E o b fi)(F:∀p C s H r,QG (JP X a N p C s H r) o t)(G:∀p C s H r,QE (JP X a N p C s H r) E e f)(u:swapsWith (.ListComp e [(o,b,[],0)] a v) (! .Name y I) g.line X.env=pure 6:=by rfl)(w:X.fn y=6\/028:=by trivial)(J:∀x,foldedSetIterable b X.env x=pure x:=by intro _;rfl):QS X E m (.Assign [.Name y I] (.ListComp e [(o,b,[],0)] a v) g) (jv z<|CW cap c fi t f):=PS.weak (Fu u i j l w N _ A n B F G J) λT Z H h=>Fv (λb b b q=>L6 (cap:=cap) (t:=t) (fi:=fi) (f:=f) (RS.capO cap c) q) h
@[simp]def mm(cap)(k)(b)(a)(f)(sd):CW cap k b a f sd=(b sd).bind λds=>if Wl (capO cap k sd) a=6/\⇑ds<00 then(jQ a f (capO cap k sd) ds).bind λc=>.ok<|.lst c else .no:=rfl
def KD(K:f')(e:YC->HP->Res (D×HP)):Sp:=λf H Q E=>∃F ds a,jk F H/\IsDs K F ds f/\w5 K F H a/\(e ds a).need (λp=>∀v b c,ExtW K F H a b c p.2->IsD K b p.1 v->Q v c) (XW K E F<|xz H a)
section
variable {K:f'} {st:Stmt}
def NH(F:Fun K x c st f I)(S:FnScope N B (Qd st))(J:∀h A b s H E,Room k (A.deeper<|envOfC c (Qd st) s⁻¹ f h)->qY (qm (xZ P w) P w K L l N c (Qd st) f h A b s H E) (Kj st) (NE K E g)):FnOk P w K L l (xZ P w) (k+1) f I B (KD K<|KB ⇑N ⇑B g):=by
 rw[F.okX S (λM H Q E=>qx λF ds C=>qT λ_ i _ n=>?_) λh A b s H M Q E O=>qx λF ds C=>qT λR i G n=>(_,J _ A _ s H E O,?_)]
 .unfold KB at n;split at n;.rw[⇑i,];lia
  .rw[n.elim]
 .unfold KB at n;split at n
  .let t:RT K (F,xz H _,_) _ F H _ _ (L2.start N _):=(RS.start R i,9,9,λa j=>(Kw j).symm,λa d j=>((G a d j).1,CV j,(G a d j).2));rw[j8 _ _ F _ _ (t,(Res.need_bind n).mono (λp r v Z' T B2 F' H' U m X=>?_) 005)];split at r
   .rename_i Y;let u:∀a,jh p.2 a=8↔jh C a=8:=λa=>by rw[wF,wF,Y]
    let e:=m.ext0 m.rs.ext;rw[r v _ _ (U,m.rs.ext.fh,λa o j q=>e.hh a o<|(Kw j).trans q,λa Z h1=>?_,m.lent,u) X];induction z:jh _ a with|none=>rw[e.new a Z λy=>h1<|(Kw z).symm.trans y]|some d=>induction y:jh p.2 a with|none=>ext|some d'=>rw[m.free y]
   .rw[r.elim]
  .rw[n.elim]
end
section
variable {fe fo fi:FE}{fr:FA} {pos pos' p:Pos}
def NI(c:zp X.prog X.w X.K X.mg X.base a k C (KD X.K l))(T:Thrown X E)(m:Room k X.A)(o:Gl X a)(r:QA X E (e::b) fr)(g:(a==011)=7:=by decide)(s:01 (e::b) X.env=%[7|007]::01 b X.env:=by rfl)(h:(backTo pos<|01 b X.env).any (·.1)=7:=by rfl):vg X E (.Call (.Name a p) (e::b) [] pos) (Xd l fr):=PE.weak (AW c T m o r g s h) λZ H Q u=>by let(B G F sd I,t,n):=u;rw[je _ F _ (t.rs,(Res.need_bind n).mono (λds x J L M f y=>?_) λb b q=>q.ext<|t.ext0 t.rs.ext)];let j:=t.go f.ff<|t.rs.step f;show KD _ _ _ _ Q E;rw[ZA,];rw[je _ _ _ (f.fh,y,j.lent,x.mono (λp z v N O w i=>?_) λb b q=>q.ext j.hidden)];let(P,A):=j.call w;rw[z v _ _ _ (f.ff.trans w.ff) A i]
def CY(a:YC->Res D)(fr:wC):xT:=λsd b=>(fr sd b).bind λp=>(a p.1).bind λd=>.ok %[d|p.2]
def lb(c:zp X.prog X.w X.K X.mg X.base a k C (xS X.K l))(T:Thrown X E)(m:Room k X.A)(o:Gl X a)(r:ug X E (e::f) g)(h:(a==011)=7:=by decide)(s:01 (e::f) X.env=%[7|007]::01 f X.env:=by rfl)(i:(backTo pos<|01 f X.env).any (·.1)=7:=by rfl):vg X E (.Call (.Name a p) (e::f) [] pos) (CY l g):=PE.weak (AW c T m o r h s i) λZ H Q u=>by let(B G F sd I,t,n):=u;rw[j8 B _ F _ _ (t,(Res.need_bind n).mono (λp w J L M N x b y=>?_) 005)];show xS _ _ _ _ Q E;rw[ZA,];rw[(_,_,b.rs.ext.fh,y,(Res.need_bind w).mono (λd z v O P j A=>z v _ _ _ (x.trans j.ff) (b.go j.ff<|b.rs.step j) A) λd d q=>q.ext<|b.ext0 b.rs.ext)]
def wP(f:FT):vp:=λsd a=>(f sd).bind λb=>.ok %[b|a]
def NJ(h:QT X E e c):mM X E e (wP c):=PT.weak h λZ H Q=>qK λB g F sd i=>j4 λt n=>je _ F _ (t.rs,(Res.need_bind n).mono (λb f j l a=>f _ _ _ a.ff<|t.go a.ff<|t.rs.step a) λb b q=>q.ext<|t.ext0 t.rs.ext)
def vF(a:Yh)(f:FT):r8:=λsd b=>(f<|derI b a sd).strict
def cu(a)(h:QT X E e b):cf X E e (vF a b):=PT.weak h λZ H Q=>qK λB l F sd m=>j4 λt n=>qk t.frz λo=>j7 λr f g=>je B _ _ (f.derI g _,(jJ<|n).mono (λd i s u j=>i F _<|.grow t.rs.ext.fh j.hh) λc fs q=>q)
def wR(fo fi:FE):xT:=λsd b=>(fo sd).bind λo=>match o with
|.adr a=>match jh b a with|some (.dct c ds)=>(fi sd).bind λk=>(Res.ofO<|(Qw k).bind λq=>jH c ds q).bind λz=>.ok %[z|b]|_=>.no
|_=>.no
/-!-/
set_option tactic.hygienic true in
def z0i(j:X.A.units+1<cLine)(l:QE X E o fo)(m:QE X E i fi)(r:vh i):vg X E (.Subscript o i pos) (wR fo fi):=PE.weak (E4 j l m r) λZ H Q s=>by
 let(B P F sd R,t,n):=s;rw[je _ F _ (t.rs,(Res.need_bind n).mono (λd b v S T e u=>?_) λ_ _ q=>q.ext<|t.ext0 t.rs.ext)];split at b
 .rename_i a;obtain rfl:=j9.mp u;split at b;.rename_i U ds A;let c:=t.go e.ff<|t.rs.step e;rw[je _ _ _ (c.rs,(Res.need_bind b).mono (λy C w Y H2 f G=>?_) λ_ _ q=>q.ext<|t.ext0 c.rs.ext)];let h:=c.go f.ff<|c.rs.step f;let(_,I,J,L):=h.lies A;let(-z,g,q):=jd (Res.need_bind C);let(-k,M,g):=Je.mp g;let(-x,N,O):=(WY k J L).1 z g;rw[(a,x,9,?_,q x _ _ _ (e.ff.trans f.ff) h O)];rw[Wn M G,<-N];rw[Ff<|.inl I]
  .rw[b.elim]
 .rw[b.elim]
def NK(fo c:FE)(sd:SD)(p:D×HP):Res Out2:=(fo sd).bind λo=>match o with
|.adr a=>match jh p.2 a with
 |some (.dct b ds)=>(c sd).bind λk=>match Qw k with|some q=>if ⇑b<00 then .ok (.next sd<|QD p.2 a<|.dct (KN b q)<|Um b ds q p.1)else .no|none=>.no
 |_=>.no
|_=>.no
def CZ(fo a:FE)(b:xT):yh:=λsd c=>(b sd c).bind<|NK fo a sd
def lN(s:X.A.units+1<cLine)(u:QE X E o fo)(x:QE X E i fi)(y:vg X E e z)(A:swapsWith e (! .Subscript o i pos') pos.line X.env=pure 7:=by rfl):uG X E m (.Assign [.Subscript o i pos'] e pos) (CZ fo fi z):=PS.weak (Il s u x y A) λT Z H C=>by
 let(B Y F sd hp,t,n):=C;rw[j8 B _ F _ _ (t,(Res.need_bind n).mono (λp G v B1 F1 H1 I b J=>je _ _ _ (b.rs,(Res.need_bind G).mono (λd c v2 F2 H2 g L=>?_) λ_ _ q=>q.ext<|b.ext0 b.rs.ext)) 005)];split at c
 .rename_i a;obtain rfl:=j9.mp L;let h:=b.go g.ff<|b.rs.step g;split at c
  .rename_i ks ds l;rw[je _ _ _ (h.rs,(Res.need_bind c).mono (λk f w F3 H3 j M=>?_) λ_ _ q=>q.ext<|b.ext0 h.rs.ext)];let r:=h.go j.ff<|h.rs.step j;split at f
   .rename_i q N;split at f;.let(-xs,O,P,Q):=r.lies l;let(ys,R,S,U):=Fd P Q (IsD.same (g.ff.trans j.ff) _ _ J);rw[(a,_,9,by rw[Wn N M,];rw[wD.k O ()],f _ _ _ _ ((I.trans g.ff).trans j.ff)<|r.chg l (_,by rw[JI,R],S,U))]
    .rw[f.elim]
   .rw[f.elim]
  .rw[c.elim]
 .rw[c.elim]
end
def vE(K:f')(E:XK)(e:FA)(f:D):TA:=λZ H Q=>∃B F sd,023/\(e sd).need (λds=>∀c l a b,Ext F H a b->IsDs K a ds c->H l=8->a l=8->yU K a b l f->Q (c++[.ref l]) b) (XW K E F H)
open Classical in
def vf(g:Addr->Res D):Res D:=if h:∃r,∀a,g a=r then Classical.choose h else .no
def l9(h:∀a,g a=r):vf g=r:=by let b:∃r,∀a,g a=r:=(r,h);ext vf;rw[dif_pos,];rw[(Classical.choose_spec b 0).symm.trans<|h 0]
def iz(h:(vf g).need p q)(a):(g a).need p q:=by
 unfold vf at h;split at h;.grind
 .rw[h.elim]
def Gq(a:YC->HP->Res (D×HP))(b:D)(c:FA):FE:=λsd=>(c sd).bind λds=>vf λl=>(a (ds++[.adr l]) [%[l|b]]).bind λp=>.ok p.1
def eQ(h:QN X E e (dC d0))(a:01 [e] X.env=%[7|007]::01 [] X.env:=by rfl):PA X [e] (vE X.K E jb d0):=PA.weak (Kz h K3 a) λZ H Q=>qx λB F sd=>j4 λr n=>je B F _ (r,λl g i e b c f=>n _ l _ _ e 9 b c f)
def Gr(f:QE X E e g)(h:PA X b (vE X.K E i j))(m:01 (e::b) X.env=%[7|007]::01 b X.env:=by rfl):PA X (e::b) (vE X.K E (J2 g i) j):=PA.weak (Kz f h m) λZ H Q=>qx λB F sd=>j4 λr n=>je B F _ (r,(Res.need_bind n).mono (λx o v z A a p=>je B _ _ (r.step a,(Res.need_bind o).mono (λC s G l I J c t u w y=>s _ l _ _ (a.trans c) (.mk (IsD.same c.ff _ _ p) t) (Qe a.hh u) w y) λb b q=>q.ext a)) 005)
def gP(c:zp X.prog X.w X.K X.mg X.base b k ps (KD X.K x))(T:Thrown X E)(A:Room k X.A)(C:Gl X b)(G:PA X (e::h) (vE X.K E I j))(m:(b==011)=7:=by decide)(J:01 (e::h) X.env=%[7|007]::01 h X.env:=by rfl)(s:(backTo t<|01 h X.env).any (·.1)=7:=by rfl):QE X E (.Call (.Name b p) (e::h) [] t) (Gq x j I):=PE.weak (AW c T A C G m J s) λZ H Q L=>by
 let(B F sd,r,n):=L;rw[je B F _ (r,(Res.need_bind n).mono (λds M vs l N O f P h1 h2 h3=>?_) 005)];show KD _ _ _ _ Q E;rw[ZA,];let g:∀{a:Addr},a≠l->jh [%[l|j]] a=8:=λz=>by rw[Kv,Ze z];rfl
 let ne:∀a o,H a=!o->a≠l:=018;let R:w5 X.K N O [%[l|j]]:=λa d q=>by simp_all[Kv]
 rw[je _ _ _ (f.fh,P.snoc<|j9.mpr 9,R,(Res.need_bind<|iz M l).mono (λp S v F2 H2 w i=>?_) λc fs q=>?_)];.rw[S v _ _ (f.ff.trans w.ff,w.fh,λa o q=>w.hh a o (g<|ne a o q)<|f.hh a o q,λa U u=>w.new a (f.new a U u) λz=>?_) i];induction y:H a with|none=>rw[u y]|some o=>rw[f.hh a o y]at z;cases z
 .rw[q.ext (f.ff,λa o y=>?_,λa o y=>?_,f.new)];.let Y:a≠l:=018;rw[Kw (g Y),];rw[f.fh a o y]
  .rw[Kw (g<|ne a o y),];rw[f.hh a o y]
def cH{K:f'} :FnOk P w K b a (xZ P w) k f c e (KD K λb b=>.no):=(λb b b b=>qx λb b b=>qT λb b b n=>n.elim,λb b b b b b b b b b b b b=>qx λb b b=>qT λb b b n=>n.elim)
structure Ev where
P:Program
w:World
K:f'
mg:Yd
base:Heap
C:5->Addr
t:5->Tok
abbrev Ca(e:Ev):=wO e.P e.w e.K e.mg e.base
abbrev zS(e:Ev):=zp e.P e.w e.K e.mg e.base
def kO(K:f')(T:5->Stmt):List (Str×5)->4|[]=>True|p::r=>uy K p.1 (T p.2)/\kO K T r
def Nn(K:f'):Yi->4|[]=>True|x::r=>W.nsIn K 000 x=!8/\Nn K r
def dfs_cons{K:f'} (h:uy K x (T i))(q:kO K T r):kO K T (%[x|i]::r):=(h,q)
def nn_cons{K:f'} (h:W.nsIn K 000 x=!8)(q:Nn K r):Nn K (x::r):=(h,q)
theorem Gs{K:f'} :∀{l:List (Str×5)}{j:5}{p:Str×5},kO K T l->l[j]?=!p->uy K p.1 (T p.2)
|[],j,p,_,h=>by simp at h|q::r,0,p,d,h=>by
 obtain rfl:=by simpa using h
 rw[d.1]|q::r,j+1,p,d,h=>Gs d.2 (by simpa using h)
theorem NL{K:f'} (X:K.In h)(G:h.Ns 000 a):∀{l:Yi},Nn K l->∀x∈l,a x=8
|[],_,x,q=>by simp at q|y::r,d,x,q=>by
 obtain z|z:=UN.mp q;.rw[z,];rw[W.mg_none_of X G d.1]
 .rw[NL X G d.2 x z]
abbrev ck(mg:Yd)(bl:Yi):4:=∀x∈bl,mg x=8
def JD(m:ck a bl)(h:x∈bl:=by decide):a x=8:=m x h
structure Al(e:Ev)(T:5->Stmt)(tbl:List (Str×5))(bl:Yi):4 where
h:∃h,e.K.In h/\h.Ns 000 e.mg
d:kO e.K T tbl
m:ck e.mg bl
section
variable {e:Ev}{T:Nat->Stmt}{tbl:List (Str×Nat)}{bl:Yi}{x:Str}{k:Nat}{ps:Yi}{sp:Sp}
abbrev NM(x:Str)(st:Stmt)(ps:Yi):4:=∀(kV doc pm:Value)(an:02 Addr)(cdv ct:Value)(us:Ye),⇑us=⇑ps->bindArgs (W.fnOf x x (X0 st) (Kj st) (Qd st) .none kV doc pm an cdv ct) (us,[])=pure (ps.zip us)
def qp(a:Al e T tbl bl)(j i:5)(ok:∀{f:Addr}{b:FuncData},Fun e.K x x (T i) f b->FnOk e.P e.w e.K e.mg e.base yz k f b ps sp)(h:tbl[j]?=!%[x|i]:=by rfl)(c:NM x (T i) ps:=by intro _ _ _ _ _ _;first|rw[nq 009]|rw[dq λb b b=>9]|rw[du λb=>9]|rw[rK λb b b b=>9]|rw[us5 λb b b b b=>9]|rw[g λb b b b b b=>9]):Ca e x k ps sp:=by let(-_,X,G):=a.h;rw[(Gs a.d h).callee X G ok c]
def yE(a:Al e T tbl bl)(j i:5)(ok:∀{f:Addr}{b:FuncData},Fun e.K x x (T i) f b->FnOk e.P e.w e.K e.mg e.base (xZ e.P e.w) k f b ps sp)(h:tbl[j]?=!%[x|i]:=by rfl)(c:autoParam (NM x (T i) ps) qp._auto_2):zS e x k ps sp:=by let(-_,X,G):=a.h;rw[(Gs a.d h).calleeX X G ok c]
end
def jt{X:Cx}(h:X.N.Nodup:=by dsimp only[JP,qm,Cx.nox];decide):X.N.Nodup:=h
set_option tactic.hygienic true in
def qv(i:5) (b:X.N[i]?=!x:=by rfl)(c:autoParam (rq X.env.scope x) pv._auto_2)(e:(x==011)=7:=by decide)(a:(x==("__classdict__":Str))=7:=by decide):QE X E (.Name x f) (ja i):=PE.weak (pv i b c e a) λZ H Q g=>by
 let(B F sd,r,n):=g;unfold ja at n;split at n;.rename_i d q;let(-v,h,j):=r.val q;rw[(v,h,n v F H (.refl r.ext.fh) j)]
 .rw[n.elim]
set_option genInjectivity true in
inductive Wr(α:Type)where|ok(a:α)|ex(c:Str)(fs:YC)|no|new(hp:HP)(k:Addr->Wr α)
def Wr.bind{α β:Type}:Wr α->(α->Wr β)->Wr β|.ok a,g=>g a|.ex c fs,_=>.ex c fs|.no,_=>.no|.new e k,g=>.new e λa=>(k a).bind g
def Wr.need{α:Type}:Wr α->(α->4)->(Str->YC->4)->4|.ok a,p,_=>p a|.ex c fs,_,q=>q c fs|.no,_,_=>False|.new e k,p,q=>∀a,jh e a=8->(k a).need p q
def Wr.of{α:Type}:Res α->Wr α|.ok a=>.ok a|.ex c fs=>.ex c fs|.no=>.no
@[simp]theorem Wr.bind_ok(a:α)(g:α->Wr β):(Wr.ok a).bind g=g a:=rfl
@[simp]def uC(c:HP)(k:Addr->Wr α)(g:α->Wr β):(Wr.new c k).bind g=.new c λa=>(k a).bind g:=rfl
@[simp]def uB(c:HP)(k:Addr->Wr α)(p:α->4)(q:Str->YC->4):(Wr.new c k).need p q=∀a,jh c a=8->(k a).need p q:=rfl
@[simp]def mI(a:α):Wr.of (Res.ok a)=.ok a:=rfl
theorem Wr.need_bind{g:α->Wr β}:∀{r:Wr α},(r.bind g).need p q↔r.need (λa=>(g a).need p q) q|.ok _=>.rfl|.ex _ _=>.rfl|.no=>.rfl|.new _ k=>forall_congr' λa=>imp_congr .rfl<|Wr.need_bind
theorem Wr.need.mono{p e:α->4} (f:∀a,p a->e a)(i:∀c fs,q c fs->j c fs):∀{r:Wr α},r.need p q->r.need e j|.ok _,h=>f _ h|.ex _ _,h=>i _ _ h|.no,h=>h|.new _ k,h=>λa z=>Wr.need.mono f i<|h a z
def qo:(Wr.of r).need p q↔r.need p q:=by cases r<;>rw[.rfl]
def qf{g:α->Wr β}{r:Wr α}(h:(r.bind g).need p q) (k:∀a,(g a).need p q->c a):r.need c q:=(Wr.need_bind.mp h).mono k λb b z=>z
def zm{g:α->Wr β} (h:((Wr.of r).bind g).need p q) (k:∀a,(g a).need p q->e a)(f:∀c fs,q c fs->i c fs):r.need e i:=(qo.mp<|Wr.need_bind.mp h).mono k f
def dr(b:HP):5->D->D
|0,d=>d|n+1,.adr a=>match jh b a with|some d=>dr b n d|none=>.adr a
|n+1,.lst ds=>.lst (ds.map<|dr b n)|n+1,.tup ds=>.tup (ds.map<|dr b n)|n+1,.dct e ds=>.dct e (ds.map<|dr b n)|n+1,.ins c fs ds=>.ins c fs (ds.map<|dr b n)|_+1,d=>d
def drI(n:5)(a:HP):Yh->SD->SD|[],sd=>sd|i::b,sd=>drI n a b (match sd[i]? with|some (~~~d)=>sd.set i (~~~dr a n d)|_=>sd)
section
variable {K:f'}{B B':Bs}{F H F' H':Hp}{sd:SD}{hp hp':HP}{Z: St}
theorem IsDs.mapOf(h:∀d v,IsD K F d v->IsD K F (g d) v):∀{ds:YC}{c:YB},IsDs K F ds c->IsDs K F (ds.map g) c|[],_,i=>i|d::ds,c,i=>by let(x r,e,f,j):=jj.mp i;rw[jj.mpr (x,r,e,h d x f,IsDs.mapOf h j)]
set_option tactic.hygienic true in
theorem IsD.dr(j:∀a d,jh hp a=!d->IsD K F d 022):∀(n:5)(d:D)(v:V),IsD K F d v->IsD K F (dr hp n d) v
|0,_,_,h=>h|n+1,.adr a,v,h=>by
 obtain rfl:=j9.mp h;ext L2.DL.dr;split;.rename_i d q;rw[IsD.dr j n d _<|j a d q]
 .rw[h]|n+1,.lst _,v,h=>have(a,l,e,f,i):=jq.mp h;jq.mpr (a,_,e,f,IsDs.mapOf (IsD.dr j n) i)|n+1,.tup _,v,h=>by let(a l,e,f,i):=js.mp h;rw[js.mpr (a,_,e,f,IsDs.mapOf (IsD.dr j n) i)]|n+1,.dct _ _,v,h=>by let(a l,e,f,o,i):=jX.mp h;rw[jX.mpr (a,_,e,f,o,IsDs.mapOf (IsD.dr j n) i)]|n+1,.ins c _ _,v,h=>by let(a C r l,e,p,f,o,i):=jW.mp h;rw[jW.mpr<|jS a C _ _ (e,p,f,o,IsDs.mapOf (IsD.dr j n) i)]|_+1,.non,_,h=>h|_+1,.bl _,_,h=>h|_+1,.int _,_,h=>h|_+1,.str _,_,h=>h|_+1,.ty _,_,h=>h|_+1,.scr _,_,h=>h|_+1,.exc _,_,h=>h|_+1,.exr _ _,_,h=>h|_+1,.ucl _,_,h=>h|_+1,.dcf _ _,_,h=>h|_+1,.pin _ _,_,h=>h
set_option tactic.hygienic true in
theorem RS.drI(c:∀a d,jh hp a=!d->IsD K F d 022)(n:5):∀(e:Yh){sd:SD},023->RS K B F H (drI n hp e sd) Z
|[],sd,r=>r|i::e,sd,r=>by
 ext L2.DL.drI;split;.rename_i d h;rw[RS.drI c n _<|r.reval h λv q=>IsD.dr c n d v q]
 .rw[RS.drI c n _ r]
def XN:5->D->Bool|n+1,.tup ds=>ds.all (XN n)|_,d=>W6 d
theorem xX(h:∀d v,g d=6->IsD K F d v->IsD K F' d v):∀{ds:YC}{c:YB},ds.all g=6->IsDs K F ds c->IsDs K F' ds c|[],_,_,i=>i|d::ds,c,s,i=>by let(x r,e,f,j):=jj.mp i;rw[Us,Uc]at s;rw[jj.mpr (x,r,e,h d x s.1 f,xX h s.2 j)]
theorem zA(e:∀a c,F a=! .tup c->F' a=! .tup c):∀(n:5)(d:D)(v:V),XN n d=6->IsD K F d v->IsD K F' d v|0,d,v,s,h=>h.scal (by cases d<;>rw[s])|n+1,d,v,s,h=>by cases d with|tup ds=>let(a c,f,i,j):=js.mp h;rw[js.mpr (a,_,f,.of<|e a _ i,xX (zA e n) s j)]|_=>rw[h.scal s]
def yU.noTup(h:yU K F H a d)(e:H a=Option.some o)(f:YB):o ≠ .tup f:=λz=>by cases d with|lst ds=>let(-_,q,_):=h;ext|dct i ds=>let(-_,q,_):=h;ext|ins c fs ds=>let(_ _ _,_,q,_):=h;ext|_=>rw[h]
def RT.frzA(t:RT K B B' F H sd hp Z):jk F (xq F B'.H0 hp)/\RS K B (xq F B'.H0 hp) H sd Z/\∀a d,jh hp a=!d->IsD K (xq F B'.H0 hp) d 022:=by
 let y:∀b d,jh hp b=!d->xq F _ _ b=B'.H0 b:=λb d e=>by ext xq;rw[e,]
 let n:∀b,jh hp b=8->xq F B'.H0 _ b=F b:=λb e=>by ext xq;rw[e,]
 let f:jk F (xq F B'.H0 hp):=λb u e=>by induction q:jh hp b with|none=>ext|some d=>rw[t.free q]at e;rw[J6 e]
 rw[(f,((?_,λb u e=>?_,t.sub.trans t.rs.ext.hh,λb O j=>?_),t.rs.len,λq=>qk (t.rs.val q) λv=>j4 λj E=>(v,j,IsD.same f _ _ E),λ{i p e}q=>?_,t.rs.apart),λb e r=>?_)];.rw[<-t.f0];rw[t.rs.ext.ff.trans f]
 .induction q:jh _ b with|none=>rw[n b q]at e;rw[t.rs.ext.fh _ _ e]|some d=>rw[y b d q]at e;rw[t.rs.ext.hh _ _ e]
 .induction q:jh _ b with|none=>rw[n b q,];rw[t.rs.ext.new b (by rwa[t.f0,])<|by rwa[t.out b q,]]|some d=>rw[Zn (t.obj b d q).2.1 j]
 .let(l,G,s,Q,I,J):=t.rs.own q;let R:jh hp l=8:=by induction z:jh _ l with|none=>rfl|some S=>rw[Zn 9<|t.no_own z s]
  rw[(l,G,Qe t.sub s,(),I.ext f λb q=>q,λz=>by rw[<-t.pa];rw[J z])]
 .let(!T,U,x):=t.obj b e r;let(-o,L):=x.has;rw[IsD.same (λc u q=>?_) _ _<|x.frz L<|t.free r];cases z:c=b;.simp_all[JI]
  .rw[JC z]at q;rw[f _ _ q]
def RT.thaw(t:RT K B B' F H sd hp Z) (e:Ext (xq F B'.H0 hp) H c n):RT K B B' (xz c hp) n sd hp Z/\jk F (xz c hp)/\∀a f,c a=! .tup f->xz c hp a=! .tup f:=by
 let(!p,u,j):=t.frzA;let i:jk F (xz c hp):=λa o q=>by induction z:jh _ a with|none=>rw[Kw z,];rw[e.ff _ _<|p _ _ q]|some d=>rw[t.free z]at q;rw[J6 q]
 let r:Ext F H _ _:=(i,λa o q=>by cases z:jh _ a with|none=>rw[Kw z]at q;rw[e.fh _ _ q]|some d=>rw[CV z]at q;rw[J6 q],e.hh,λa v s=>by cases z:jh _ a with|none=>rw[Kw z,];rw[e.new a (by simp_all[xq]) s]|some d=>rw[CV z]);rw[(t.go i<|t.rs.step r,i,λa f q=>?_)];induction z:jh _ a with|none=>rwa[Kw z,]|some d=>let(!_,_,l):=t.obj a d z;let(-o,j):=l.has;let x:=e.ff a o (by simp_all[xq]);rw[Zn ()<|l.noTup j f]
def RT.newO(t:RT K B B' F H sd hp Z) (f:H a=8)(h:yU K F (upd H a o) a d):jh hp a=8/\RT K B (B'.F0,upd B'.H0 a o,B'.pa) F (upd H a o) sd (%[a|d]::hp) Z:=by
 let j:jh hp a=8:=by induction z:jh _ a with|none=>rfl|some T=>
let(u,s):=(t.lies z).has
ext
 let n:=Qe t.rs.ext.fh f;let U:=Qe t.rs.ext.hh f;let v:B.H0 a=8:=by rwa[<-t.out a j]
 rw[(j,((t.rs.ext.ff,BV o t.rs.ext.fh n,λb u e=>?_,λb x E=>?_),t.rs.len,t.rs.val,λ{i p e}q=>?_,t.rs.apart),t.f0,t.pa,λb c=>?_,λb e c=>?_)]
 .let e:upd _ a o b=!u:=e;cases z:b=a;.simp_all[JI]
  .rw[JC z]at e ⊢;rw[t.rs.ext.hh _ _ e]
 .cases z:b=a;.rwa[z,]
  .rw[t.rs.ext.new b x λy=>E<|by show upd _ a o b=8;rwa[JC z,]]
 .let(l,G,I,J,r,L):=t.rs.own q;let ne:l≠a:=λz=>by let(u,s):=r.has;ext
  rw[(l,G,(JC ne).trans I,J,r.ext 038<|λu O=>by rwa[JC ne,],λz=>(L z).mono λu O=>by rwa[JC ne,])]
 .rw[Kv]at c;cases z:b=a;.ext
  .rw[Ze z]at c;show upd _ a o b=B.H0 b;rw[JC z,];rw[t.out b c]
 .rw[Kv]at c;cases z:b=a;.rw[Zd z]at c;obtain rfl:=Zqi c;subst z;rw[(by rw[<-t.f0];rw[Qe t.rs.ext.ff n],v,h.ext 038 λu q=>by simp_all[JI])]
  .rw[Ze z]at c;let(!Q,R,S):=t.obj b e c;rw[(Q,R,S.ext 038 λu q=>by show upd _ a o b=!u;rwa[JC z,])]
structure ExtV(K:f')(F H:Hp)(hp:HP)(F' H':Hp)(hp':HP):4 where
ff:jk F F'
fh:jk F' H'
hh:∀a o,jh hp a=8->H a=!o->H' a=!o
new:∀a,F a=8->H a≠8->F' a=8
len:w5 K F' H' hp'
dom:∀a,jh hp' a=8->jh hp a=8
frs:∀a,jh hp a=8->jh hp' a≠8->H a=8
def RT.callV(t:RT K B B' F H sd hp Z)(w:ExtV K F H hp F' H' hp'):∃E,RT K B E F' H' sd hp' Z:=by
 rw[((_,λa=>match jh hp' a with|none=>B'.H0 a|some _=>H' a,_),((t.rs.ext.ff.trans w.ff,w.fh,λa o e=>?_,λa G c=>?_),t.rs.len,λq=>qk (t.rs.val q) λv=>j4 λI J=>(v,I,IsD.same w.ff _ _ J),λ{i p e}q=>?_,t.rs.apart),t.f0,t.pa,λa f=>?_,λa d f=>?_)];.let e:(match jh _ a with|none=>B'.H0 a|some _=>H' a)=!o:=e;induction z:jh _ a with|none=>rw[z]at e;rw[w.hh a o (w.dom a z)<|t.rs.ext.hh _ _ e]|some d=>ext
 .let c:(match jh _ a with|none=>B'.H0 a|some _=>H' a)≠8:=c;induction z:jh _ a with|none=>rw[z]at c;rw[w.new a (t.rs.ext.new a G c) λy=>c<|Qe t.rs.ext.hh y]|some d=>rw[(w.len a d z).1]
 .let(l,L,O,Q,r,R):=t.rs.own q;let n:jh hp l=8:=by induction z:jh _ l with|none=>rfl|some S=>rw[Zn 9<|t.no_own z O]
  let(o,s):=r.has;let T:jh hp' l=8:=by induction z:jh _ l with|none=>rfl|some S=>let:=w.frs l n (by rw[z,];simp);rw[s]at this;rw[J6 this.symm]
  rw[(l,L,?_,w.new l Q<|by rw[s,];simp,r.ext w.ff λu q=>w.hh _ _ n q,λz=>(R z).mono λu q=>w.hh _ _ n q)];ext
 .show(match jh _ a with|none=>B'.H0 a|some _=>H' a)=B.H0 a;rw[f,];rw[t.out a<|w.dom a f]
 .let j:B.F0 a=8/\B.H0 a=8:=by induction z:jh _ a with|none=>let x:=w.frs a z (by rw[f,];simp);rw[(by rw[<-t.f0];rw[Qe t.rs.ext.ff<|Qe t.rs.ext.fh x],by rw[<-t.out a z];rw[Qe t.rs.ext.hh x])]|some U=>rw[((t.obj a _ z).1,(t.obj a _ z).2.1)]
  rw[(j.1,j.2,(w.len a d f).2.ext 038 λo q=>?_)];ext
end
abbrev FV:=SD->HP->Wr (D×HP)
abbrev wM:=SD->HP->Wr (YC×HP)
abbrev uH:=SD->HP->Wr (Bool×HP)
def OkV(K:f')(B:Bs)(F:Hp)(sd:SD)(Z:St)(Q:VK)(p:D×HP):4:=∀v c a b,jk F a->RT K B c a b sd p.2 Z->IsD K a p.1 v->Q v b
def dy(K:f')(E:XK)(f:FV):TE:=λZ H Q=>∃B b F sd a,RT K B b F H sd a Z/\(f sd a).need (OkV K B F sd Z Q) (XW K E B.F0 B.H0)
abbrev QV(X:Cx)(E:XK)(e:Expr)(f:FV):4:=PE X e<|dy X.K E f
def sf(K:f')(E:XK)(f:wM):TA:=λZ H Q=>∃B g F sd b,RT K B g F H sd b Z/\(f sd b).need (λp=>∀c h a e,jk F a->RT K B h a e sd p.2 Z->IsDs K a p.1 c->Q c e) (XW K E B.F0 B.H0)
abbrev kM(X:Cx)(E:XK)(es:List Expr)(f:wM):4:=PA X es<|sf X.K E f
def gt(K:f')(E:XK)(f:uH):TT:=λZ H Q=>∃B e F sd a,RT K B e F H sd a Z/\(f sd a).need (λp=>∀g b c,jk F b->RT K B g b c sd p.2 Z->Q p.1 c) (XW K E B.F0 B.H0)
abbrev kL(X:Cx)(E:XK)(e:Expr)(f:uH):4:=PT X e<|gt X.K E f
section
variable {a b e o i:Expr} {fe fa fb fo fi:FE} {fr:wM}
@[simp]def vL(f:FE):FV:=λsd c=>(Wr.of<|f sd).bind λd=>.ok %[d|c]
def QF(h:QE X E e fe):QV X E e (vL fe):=PE.weak h λZ H Q=>qK λB j F sd l=>j4 λt n=>je _ F _ (t.rs,zm n (λd f v m p c g=>f v _ _ _ c.ff (t.go c.ff<|t.rs.step c) g) λb b q=>q.ext<|t.ext0 t.rs.ext)
@[simp]def rJ(f:FT):uH:=λsd c=>(Wr.of<|f sd).bind λd=>.ok %[d|c]
def NN(h:QT X E e f):kL X E e (rJ f):=PT.weak h λZ H Q=>qK λB j F sd l=>j4 λt n=>je _ F _ (t.rs,zm n (λd g m p c=>g _ _ _ c.ff<|t.go c.ff<|t.rs.step c) λb b q=>q.ext<|t.ext0 t.rs.ext)
@[simp]def dk(k:5)(g:Yh)(f:FE):FV:=λsd c=>(Wr.of (f<|drI k c g sd).strict).bind λd=>if XN 08 d then .ok %[d|c]else .no
def gN(k:5)(g:Yh)(h:QE X E e fe):QV X E e (dk k g fe):=PE.weak h λZ H Q j=>by
 let(B y F sd z,t,n):=j;let(!A,l,m):=t.frzA;rw[je B _ _ (l.drI m k _,(jJ<|qo.mp<|Wr.need_bind.mp n).mono (λd f v C G p r=>?_) λc fs q=>q)];split at f;.rename_i s;let(!u,w,x):=t.thaw p;rw[f v _ _ _ w u<|zA x 08 d v s r]
 .rw[f.elim]
@[simp]def kX(k:5)(g:Yh)(f:FT):uH:=λsd c=>(Wr.of (f<|drI k c g sd).strict).bind λd=>.ok %[d|c]
def z1d(k:5)(f:Yh)(h:QT X E e g):kL X E e (kX k f g):=PT.weak h λZ H Q j=>by let(B s F sd u,t,n):=j;rw[je B _ _ (t.frzA.2.1.drI t.frzA.2.2 k _,(jJ<|qo.mp<|Wr.need_bind.mp n).mono (λd l v w m=>?_) λc fs q=>q)];let(!p,r,x):=t.thaw m;rw[l _ _ _ r p]
def vC(o:D)(q:D×HP):Wr (D×HP):=match o with
|.adr a=>match jh q.2 a with|some (.lst c)=>(Wr.of<|.ofO<|jY (.lst c) q.1).bind λz=>.ok %[z|q.2]|_=>.no
|_=>.no
@[simp]def dm(fo fi:FV):FV:=λsd c=>(fo sd c).bind λp=>(fi sd p.2).bind<|vC p.1
set_option tactic.hygienic true in
def gO(l:QV X E o m)(r:QV X E i s)(u:Aw i):QV X E (.Subscript o i A) (dm m s):=PE.weak (BP rE l r u) λZ H Q C=>by
 let(B U F sd Y,t,n):=C;rw[j8 B _ F _ _ (t,qf n λp G v B1 F1 H1 I J g=>j8 B _ _ _ _ (J,qf G λq c w B2 F2 H2 L h M=>?_))];unfold vC at c;split at c
 .rename_i a f;rw[f]at g;obtain rfl:=j9.mp g;split at c;.rename_i es N;let(-xs,O,P):=h.lies N;let(-z,j,k):=jd (qo.mp<|Wr.need_bind.mp c);let(y,R):=q;cases y with|int k'=>let(-x,S,T):=Cz P j;rw[jS a _ _ x (9,jc.mp M,qR.of O,S,k _ _ _ _ (I.trans L) h T)]|_=>rw[J6 j]
  .rw[c.elim]
 .rw[c.elim]
def Da(c f:Str)(p:D×HP):Wr (D×HP):=match p.1 with
|.adr a=>match jh p.2 a with|some d=>(Wr.of<|.ofO<|j0 c f d).bind λz=>.ok %[z|p.2]|_=>.no
|_=>.no
@[simp]def uM(c f:Str)(fo:FV):FV:=λsd g=>(fo sd g).bind<|Da c f
set_option tactic.hygienic true in
def NO(k:ClsD X.K X.mg c C fs)(y:f∈fs)(A:QV X E e G)(I:attributeBase e f X.env 007=007:=by rfl):QV X E (.Attribute e f J) (uM c f G):=PE.weak (HN A I) λZ H Q L=>by
 let(B Y F sd hp,t,n):=L;rw[j8 B _ F _ _ (t,qf n λp g v B1 F1 H1 M m r=>?_)];unfold Da at g;split at g
 .rename_i a j;rw[j]at r;obtain rfl:=j9.mp r;split at g;.rename_i d N;let O:=m.lies N;let(-z,s,q):=jd (qo.mp<|Wr.need_bind.mp g);cases d with
|ins u gs ds=>
let h:(if u=c then wp f _ _ else 8)=!z:=s;cases l:u=c
.rw[Zd l]at h;subst l;let(C' dx xs,w,P,R,S):=O;rw[k.ns]at w;cases w;let(-x,T,U):=Gh S R h;rw[j8 a C _ _ x (9,P,k.cls,k.no f y,T,q _ _ _ _ M m U)]
.rw[Ze l]at h;rw[J6 h]|_=>rw[J6 s]
  .rw[g.elim]
 .rw[g.elim]
@[simp]def yW:wM:=λb c=>.ok %[[]|c]
@[simp]def Wd(f:FV)(g:wM):wM:=λsd c=>(f sd c).bind λp=>(g sd p.2).bind λq=>.ok %[p.1::q.1|q.2]
def ZO:kM X E [] yW:=PA.weak K3 λZ H Q=>qK λB c F sd f=>j4 λt n=>n _ _ F H 038 t .nil
def XO(g:QV X E e h)(j:kM X E c fr)(l:01 (e::c) X.env=%[7|007]::01 c X.env:=by rfl):kM X E (e::c) (Wd h fr):=PA.weak (Kz g j l) λZ H Q=>qK λB z F sd A=>j4 λt n=>j8 B _ F _ _ (t,qf n λp m v C G I r s u=>j8 B _ _ _ _ (s,qf m λq w J L M N f x y=>w _ _ _ _ (r.trans f) x<|.mk (IsD.same f _ _ u) y))
@[simp]def wS(fr:wM):FV:=λsd c=>(fr sd c).bind λp=>if ⇑p.1<=1000 then .new p.2 λa=>.ok %[.adr a|%[a|.lst p.1]::p.2]else .no
def Gu(h:kM X E g fr):QV X E (.List g j) (wS fr):=PE.weak (HR h) λZ H Q l=>by
 let(B w F sd x,t,n):=l;rw[j8 B _ F _ _ (t,qf n λp c y z A C m r f=>?_)];split at c;.let G:=⇑f;rw[(Q8 (),λq s=>?_)];let(u,v):=r.newO (d:=.lst _) s (_,JI,f);rw[c q u _ _ _ _ m v<|j9.mpr 9]
 .rw[c.elim]
def kK(K:f')(h:YC->HP->Wr (D×HP)):Sp:=λj H Q b=>∃F ds c,jk F H/\IsDs K F ds j/\w5 K F H c/\(h ds c).need (λp=>∀v f g,ExtV K F H c f g p.2->IsD K f p.1 v->Q v g) (XW K E0 F<|xz H c)
def Bd(c:YC->HP->Wr (D×HP))(fr:wM):FV:=λsd f=>(fr sd f).bind λp=>c p.1 p.2
def NP(c:wO X.prog X.w X.K X.mg X.base f k J (kK X.K r))(s:Room k X.A)(u:Gl X f)(x:kM X E0 (e::g) fr)(j:(f==011)=7:=by decide)(y:01 (e::g) X.env=%[7|007]::01 g X.env:=by rfl)(l:(backTo m<|01 g X.env).any (·.1)=7:=by rfl):QV X E0 (.Call (.Name f p) (e::g) [] m) (Bd r fr):=PE.weak (A1 c s u x j y l) λZ H Q z=>by let(B L F sd M,t,n):=z;rw[j8 B _ F _ _ (t,qf n λp A N O P R C h E=>?_)];show kK _ _ _ _ Q _;rw[ZA,];rw[je _ _ _ (h.rs.ext.fh,E,h.lent,A.mono (λq G v S T w i=>?_) λb b q=>q.ext h.hidden)];let(U,I):=h.callV w;rw[G v _ _ _ (C.trans w.ff) I i]
end
inductive Out3 where|next(sd:SD)(hp:HP)|ret(d:D)(hp:HP)|brk(sd:SD)(hp:HP)|cont(sd:SD)(hp:HP)
def kP(K:f')(B:Bs)(F:Hp)(T:Ends):Out3->4|.next sd c=>∀Z e a b,jk F a->RT K B e a b sd c Z->T.nx Z b|.brk sd c=>∀Z e a b,jk F a->RT K B e a b sd c Z->T.bk Z b|.cont sd c=>∀Z e a b,jk F a->RT K B e a b sd c Z->T.ct Z b|.ret d c=>∀v Z sd e a b,jk F a->RT K B e a b sd c Z->IsD K a d v->T.rt v b
def kP.mono{K:f'} (h:kP K B F T o)(e:jk F n):kP K B n T o:=by cases(o)with|next sd c=>rw[λZ f j l s r=>h _ _ _ _ (e.trans s) r]|brk sd c=>rw[λZ f j l s r=>h _ _ _ _ (e.trans s) r]|cont sd c=>rw[λZ f j l s r=>h _ _ _ _ (e.trans s) r]|ret d c=>rw[λv Z sd f j l s r i=>h v _ _ _ _ _ (e.trans s) r i]
abbrev xH:=SD->HP->Wr Out3
def dw(K:f')(E:XK)(g:xH):TS:=λT Z H=>∃B b F sd a,RT K B b F H sd a Z/\(g sd a).need (kP K B F T) (XW K E B.F0 B.H0)
abbrev VS(X:Cx)(E:XK)(st:Stmt)(g:xH):4:=PS X st<|dw X.K E g
abbrev vY(X:Cx)(E:XK)(st:List Stmt)(g:xH):4:=qY X st<|dw X.K E g
noncomputable def dv(a:HP):Out->Wr Out3|.next sd=>.ok (.next sd a)|.ret _=>.no|.brk sd=>.ok (.brk sd a)|.cont sd=>.ok (.cont sd a)
section
variable {st:Stmt} {g:FS}{g1 g2:xH} {o i e:Expr}
@[simp]def zL(g:FS):xH:=λsd a=>(Wr.of<|g sd).bind<|dv a
def Db(h:QS X E m st g):VS X E st (zL g):=PS.weak h λT Z H=>qK λB l F sd p=>j4 λt n=>je _ F _ (t.rs,zm n (λo b=>by cases(o)with|next a=>rw[λc f j s r=>b _ _ _ _ s<|t.go s r]|brk a=>rw[λc f j s r=>b _ _ _ _ s<|t.go s r]|cont a=>rw[λc f j s r=>b _ _ _ _ s<|t.go s r]|ret d=>rw[b.elim]) λb b q=>t.xw q)
@[simp]def XP:xH:=λsd a=>.ok<|.next sd a
def zK(g2:xH):Out3->Wr Out3|.next a b=>g2 a b|o=>.ok o
@[simp]def xf(g1 g2:xH):xH:=λsd a=>(g1 sd a).bind<|zK g2
def Be:vY X E [] XP:=qY.weak An λT Z H=>qK λB a F sd b=>j4 λt n=>n _ _ F H 038 t
def Xe(h:VS X E st g1):vY X E [st] g1:=BJ h
def K0(h:VS X E st g1)(j:vY X E f g2):vY X E (st::f) (xf g1 g2):=qY.weak (YJ h j) λT Z H l=>by let(B p F sd r,t,n):=l;rw[j8 B _ F _ _ (t,qf n λo c=>?_)];cases(o)with|next b a=>rw[λu v w x s m=>j8 B _ _ _ _ (m,c.mono (λo q=>q.mono s) 005)]|ret d a=>rw[c]|brk b a=>rw[c]|cont b a=>rw[c]
@[simp]def zq(f:FV):xH:=λsd a=>(f sd a).bind λp=>.ok<|.ret p.1 p.2
def ZP(h:QV X E e a):VS X E (.Return (!e) b) (zq a):=PS.weak (Ao h) λT Z H=>qK λB m F sd q=>j4 λt n=>j8 B _ F _ _ (t,qf n λp c v r s u f j l=>c v _ _ _ _ _ f j l)
@[simp]def uK(i:5)(f:FV):xH:=λsd a=>(f sd a).bind λp=>.ok<|.next (sd.set i<|~~~p.1) p.2
def z0u{i:5} (c:X.N.Nodup)(f:X.N[i]?=!x)(h:yS X.env.scope x)(j:QV X E e l)(m:swapsWith e (! .Name x a) q.line X.env=pure 7:=by rfl)(r:X.fn x=6\/027:=by trivial):VS X E (.Assign [.Name x a] e q) (uK i l):=PS.weak (Es c f h j m r) λT Z H=>qK λB y F sd z=>j4 λt n=>j8 B _ F _ _ (t,qf n λp s v A C G u b w=>s _ _ _ _ u<|b.go 038<|b.rs.setVal w)
@[simp]def ZQ(c:uH)(g1 g2:xH):xH:=λsd a=>(c sd a).bind λp=>if p.1 then g1 sd p.2 else g2 sd p.2
def Dc(l:kL X E c m)(r:vY X E a g1)(s:vY X E b g2):VS X E (.If c a b u) (ZQ m g1 g2):=PS.weak (BK l r s) λT Z H v=>by let(B x F sd y,t,n):=v;rw[j8 B _ F _ _ (t,qf n λp f z A C h j=>?_)];let(b,w):=p;cases(b)with|true=>rw[j8 B _ _ _ _ (j,(f).mono (λb q=>q.mono h) 005)]|false=>rw[j8 B _ _ _ _ (j,(f).mono (λb q=>q.mono h) 005)]
def ZR(sd:SD)(a:Addr)(q:D×HP):Wr Out3:=match jh q.2 a with|some (.lst b)=>if ⇑b<00 then .ok (.next sd<|QD q.2 a<|.lst<|b++[q.1])else .no|_=>.no
def Dd(b:FV)(sd:SD)(p:D×HP):Wr Out3:=match p.1 with
|.adr a=>match jh p.2 a with|some (.lst _)=>(b sd p.2).bind (ZR sd a)|_=>.no
|_=>.no
@[simp]def vB(a b:FV):xH:=λsd c=>(a sd c).bind<|Dd b sd
set_option tactic.hygienic true in
def Gv(C:QV X E o G)(I:QV X E e J)(s:∀{u:TE}{t:TA},PE X o u->PA X [e] t->PE X (.Call (.Attribute o "append" b) [e] [] c) (u2 X.K "list" BQ u t))(L:swapsWith (.Call (.Attribute o "append" b) [e] [] c) 8 j.line X.env=pure 7:=by rfl)(l:01 [e] X.env=%[7|007]::01 [] X.env:=by rfl):VS X E (.Expr (.Call (.Attribute o "append" b) [e] [] c) j) (vB G J):=PS.weak (YK (s C<|Kz I K3 l) L) λT Z H M=>by
 let(B U F sd s,t,n):=M;rw[j8 B _ F _ _ (t,qf n λp f v Y F1 H1 N x y=>?_)];unfold Dd at f;split at f
 .rename_i a m;rw[m]at y;obtain rfl:=j9.mp y;split at f
  .rename_i O r;let(-P,Q,k2):=x.lies r;rw[(.inl (9,_,qR.of Q),B,_,_,_,_,x,qf f λq h w B2 F2 H2 R z S=>?_)];unfold ZR at h;split at h
   .rename_i es A;split at h;.have(xs,g1,g2):=z.lies A;let hl:=⇑g2;rw[je a _ w (9,9,g1,(),h _ _ _ _ (N.trans R)<|z.chg A (_,JI,g2.snoc S))]
    .rw[h.elim]
   .rw[h.elim]
  .rw[f.elim]
 .rw[f.elim]
def xR(b:D->xH):YC->xH|[],sd,f=>.ok (.next sd f)|x::h,sd,f=>(b x sd f).bind λo=>match o with|.next c a=>xR b h c a|.cont c a=>xR b h c a|.brk c a=>.ok (.next c a)|.ret d a=>.ok (.ret d a)
def Xf(a:Tg)(b:xH)(x:D):xH:=λsd c=>(Wr.of<|JX a x sd).bind λs=>b s c
def v5(a:FA)(c:Tg)(b:xH):xH:=λsd f=>(Wr.of<|a sd).bind λds=>xR (Xf c b) ds sd f
def cN(m:PassesOwn 015 X.A X.env X.xe)(hc:X.calm=6)(S:QI X E U c it)(hg:QG X U t)(hb:vY X E p g1)(C:∀x,foldedSetIterable c X.env x=pure x:=by intro _;rfl):VS X E (.For U c p [] pos) (v5 it t g1):=PS.weak (Et m hc S hg hb C) λT Z H=>qK λB B' F sd m=>j4 λr n=>je _ F _ (r.rs,zm n (λds n1 J F1 H1 G wk=>by
rw[(λi k Z H=>k=⇑ds-i/\i<=⇑ds/\∃Y w sd m,jk _ w/\RT _ B Y w H sd m Z/\(xR _ (ds.drop i) sd m).need (kP _ B w T) _,(_,9,Ub _,_,_,_,_,038,r.go G.ff<|r.rs.step G,n1.mono (λb q=>q.mono G.ff) 005),?_)]
rintro i k Z2 H2 ⟨rfl,S,Y,w,sd2,hp2,I,z,s⟩;let(!w1,w2):=wk i _ _ I z.rs.ext.fh;cases a:i<⇑ds
.let(go,yl):=w1 a;rw[.inr (go,λZ' H'=>∃B3 L u M,jk _ L/\RT _ B B3 _ _ u M _/\(xR _ _ _ _).need _ _,λZ' H' z9=>by let(B3,L,u,_,q1,q2,q3):=z9;rw[(_,(),9,a,_,_,_,_,q1,q2,q3)],λx H3 y=>?_)];let(d L,hd,f,i3):=yl x _ y;rw[Uq a]at s;let N:ds[i]=d:=by rw[Zqg a]at hd;rw[Zqi hd]
 rw[N]at s;let r3:=z.go f.ff<|z.rs.step f;rw[AE r3.rs i3 (qo.mp<|Wr.need_bind.mp<|Wr.need_bind.mp s) λsd' Z' n4 _ r4=>j8 B _ _ _ _ (r3.go 038 r4,n4.mono (λo A=>?_) 005)];cases(o)with|next h j=>rw[λO P Q R b l=>(_,_,_,_,(I.trans f.ff).trans b,l,A.mono (λd q=>q.mono<|f.ff.trans b) 005)]|cont h j=>rw[λO P Q R b l=>(_,_,_,_,(I.trans f.ff).trans b,l,A.mono (λd q=>q.mono<|f.ff.trans b) 005)]|brk h j=>rw[λO P Q R b l=>A _ _ _ _ (f.ff.trans b) l]|ret d j=>rw[λv O h P Q R b l i5=>A v _ _ _ _ _ (f.ff.trans b) l i5]
.let he:i=⇑ds:=();rw[.inl (w2 (),?_)];subst he;rw[Vi]at s;rw[s _ _ _ _ 038 z]) λb b q=>q.ext<|r.ext0 r.rs.ext)
end
noncomputable def xM:Out3->Wr (D×HP)|.ret d a=>.ok %[d|a]|.next _ a=>.ok %[.non|a]|_=>.no
def yB(n ar:5)(g:xH)(ds:YC)(a:HP):Wr (D×HP):=if ⇑ds=ar then((g (Qr n ds) a).bind xM).bind λp=>if a.all λz=>(jh p.2 z.1).isSome then .ok p else .no else .no
section
variable {K:f'} {st:Stmt}
theorem NQ:∀{b:HP}{a:Addr}{d:D},jh b a=!d->∃z∈b,z.1=a
|[],a,d,h=>by cases h|p::r,a,d,h=>by
 rw[Kv]at h;cases z:a=p.1;.rw[(p,Zqs,z.symm)]
 .rw[Ze z]at h;let(-y,c,e):=NQ h;rw[(y,Zqm _ c,e)]
def uY(F:Fun K x l st f Y)(S:FnScope N U (Qd st))(Z:∀(u:Value)(A:Around)(h:List Env)(s:Shared)(H:Hp)(E:XK),Room k (A.deeper<|envOfC l (Qd st) s⁻¹ f u)->vY (qm yz P w K mg G N l (Qd st) f u A h s H E).nox E0 (Kj st) g):FnOk P w K mg G yz (k+1) f Y U (kK K<|yB ⇑N ⇑U g):=by
 rw[F.ok S (λvs H Q E=>qx λF ds I=>qT λ_ i _ n=>?_) λu A h s H vs Q E hr=>qx λF ds I=>qT λhs i X n=>(_,Z _ A _ s H E hr,?_)]
 .unfold yB at n;split at n;.rw[⇑i,];assumption
  .rw[n.elim]
 .unfold yB at n;split at n
  .let t:RT K (F,xz H _,_) (F,H,_) F H (Qr _ _) _ (L2.start N _):=(RS.start hs i,9,9,λa m=>(Kw m).symm,λa d m=>((X a d m).1,CV m,(X a d m).2));let J:∀{d:D}{b:HP}{v:V}{M:St}{c:SD}{O:Bs}{B C:Hp},(Wr.need (if I.all λz=>(jh b z.1).isSome then(.ok %[d|b]:Wr _)else .no) (λp=>∀v B C,ExtV K F H _ B C p.2->IsD K B p.1 v->Q v C)<|XW K E0 F<|xz H I)->jk F B->RT K (F,xz H _,λb=>8) O _ C c b M->IsD K _ d v->Q v _:=λ{d b v M c O B C}r L j R=>by
    split at r
    .let T:∀a,jh b a=8->jh I a=8:=λa m=>by induction z:jh I a with|none=>rfl|some d0=>grind[NQ]
     let e:=j.ext0 j.rs.ext;rw[r v _ _ (L,j.rs.ext.fh,λa o m q=>e.hh a o<|(Kw m).trans q,λa h0 h1=>?_,j.lent,T,λa z y=>?_) R];.induction z:jh _ a with|none=>rw[e.new a h0 λy=>h1<|(Kw z).symm.trans y]|some d=>induction y:jh b a with|none=>ext|some d'=>rw[j.free y]
     .induction y':jh b a with|none=>rw[Zn y' y]|some d'=>
let:=(j.obj a _ y').2.1
rwa[<-Kw (H:=H) z]
    .rw[r.elim]
   rw[j8 _ _ F _ _ (t,qf (Wr.need_bind.mp n|>λq=>Wr.need_bind.mpr q|>λq=>Wr.need_bind.mp q) λo r=>?_)];cases(o)with|next c b=>rw[λM O B C L j=>J r L j<|jB.mpr 9]|ret d b=>rw[λv M c O B C L j R=>J r L j R]|brk c b=>rw[r.elim]|cont c b=>rw[r.elim]
  .rw[n.elim]
def br(F:Fun K x h st f M)(S:FnScope N J (Qd st))(hw:∀ds d,t ds=.ok d->⇑ds=⇑J/\((g (Qr ⇑N ds) []).bind xM).need (λp=>dr p.2 kk p.1=d) λb b=>False)(hx:∀ds,∀c fs,t ds ≠ .ex c fs)(O:∀(j:Value)(A:Around)(e:List Env)(s:Shared)(H:Hp)(E:XK),Room k (A.deeper<|envOfC h (Qd st) s⁻¹ f j)->vY (qm yz P w K R m N h (Qd st) f j A e s H E).nox E0 (Kj st) g):FnOk P w K R m yz (k+1) f M J (q0 K t):=by
 rw[F.ok S (λT H Q E=>j3 λF ds=>j7 λ_ i n=>?_) λj A e s H T Q E U=>j3 λF ds=>j7 λX i n=>(_,O _ A _ s H E U,?_)];.induction q:t _ with|ok d=>rw[⇑i,];rw[(hw _ d q).1]|ex c fs=>ext|no=>rw[q]at n;rw[n.elim]
 .induction q:t _ with|ex c fs=>ext|no=>rw[q]at n;rw[n.elim]|ok d=>
rw[q]at n;let r:∀{L:D}{a:HP}{v:V}{u:St}{b:SD}{y:Bs}{B C:Hp},dr a _ L=d->RT K (F,H,λb=>8) y B C b _ u->IsD K _ _ v->Q v _:=λ{L a v u b y B C}Y l I=>by let:=IsD.dr l.frzA.2.2 kk _ v<|IsD.same l.frzA.1 _ _ I;rw[Y]at this;rw[n v _ _ l.frzA.2.1.ext this]
rw[j8 _ _ F _ _ (RT.start<|RS.start X i,(Wr.need_bind.mp (hw _ d q).2).mono (λo G=>?_) λb b z=>z.elim)]
cases(o)with|next b a=>rw[λu y B C Z l=>r G l<|jB.mpr 9]|ret d a=>rw[λv u b y B C Z l I=>r G l I]|brk b a=>rw[G.elim]|cont b a=>rw[G.elim]
end
end L2.DL
namespace L2
end L2
namespace L2.DL
def sF(K:f')(g:Str->D->YD):V->YB->Hp->VK->4:=λx b H Q=>∃F a e z v,jk F H/\x=.str a/\b=[v]/\IsD K F e v/\g a e=!z/\yR K F H Q z
def gG(K:f')(g:Str->D->YD):V->YB->Hp->VK->4:=λx b H Q=>∃F a e z v,jk F H/\x=.str a/\b=[v]/\IsD K F e v/\g a e=!z/\yO K F H Q z
def qM(g:Str->D->YD)(a b:FE):FE:=λsd=>(a sd).bind λd=>match d with|.str x=>(b sd).bind λe=>.ofO<|g x e|_=>.no
def De{a id:String} (m:QE X E o p)(s:QE X E e u)(A:∀{i:TE}{t:TA},PE X o i->PA X [e] t->PE X (.Call (.Attribute o a b) [e] [] c) (u2 X.K "str" (sF X.K g) i t))(f:01 [e] X.env=%[7|007]::01 [] X.env:=by rfl):QE X E (.Call (.Attribute o a b) [e] [] c) (qM g p u):=PE.weak (A m<|Kz s K3 f) λZ H Q C=>by let(B F sd,r,n):=C;rw[je B F _ (r,(Res.need_bind n).mono (λd j v M N h G=>?_) 005)];cases d with|str x=>obtain rfl:=jf.mp G;rw[(9,B,_,_,r.step h,(Res.need_bind j).mono (λy I w O P l J=>?_) λb b q=>q.ext h)];let(-z,L,q):=jd I;rw[j8 _ x y z w (l.fh,9,9,J,L,q.ext<|h.trans l)]|_=>rw[j.elim]
def Df{a id:String} (m:QE X E o p)(s:QE X E e u)(A:∀{i:TE}{t:TA},PE X o i->PA X [e] t->PE X (.Call (.Attribute o a b) [e] [] c) (u2 X.K "str" (gG X.K g) i t))(f:01 [e] X.env=%[7|007]::01 [] X.env:=by rfl):QN X E (.Call (.Attribute o a b) [e] [] c) (qM g p u):=PE.weak (A m<|Kz s K3 f) λZ H Q C=>by let(B F sd,r,n):=C;rw[je B F _ (r,(Res.need_bind n).mono (λd j v M N h G=>?_) 005)];cases d with|str x=>obtain rfl:=jf.mp G;rw[(9,B,_,_,r.step h,(Res.need_bind j).mono (λy I w O P l J=>?_) λb b q=>q.ext h)];let(-z,L,q):=jd I;rw[j8 _ x y z w (l.fh,9,9,J,L,q.ext<|h.trans l)]|_=>rw[j.elim]
noncomputable def ZS:YC->02 Yi|[]=>![]|.str x::r=>(ZS r).map (x::·)|_=>8
theorem NR:∀(a:Yi),ZS (a.map D.str)=!a|[]=>9|w::a=>by show(ZS _).map _=_;rw[NR,];rfl
theorem NS{K:f'} :∀{ds:YC}{a:Yi}{b:YB}{c:Ye},ZS ds=!a->IsDs K F ds b->j6 b c->∃l:List (Str×Tok),c=strValues l/\l.map (·.1)=a|[],a,b,c,h,i,r=>by obtain rfl:=Zqi h;subst i;cases r;rw[([],9,9)]|d::ds,a,b,c,h,i,r=>by let(x o,rfl,e,f):=jj.mp i;cases d with
|str w=>let(-g,j,rfl):=Jh.mp h;obtain rfl:=jf.mp e;cases r with|cons m n=>let(t,rfl):=m;let(-l,rfl,rfl):=NS j f n;rw[(%[w|t]::l,9,9)]
|_=>rw[J6 h]
def ZT(x:Str):D->YD|.lst ds=>(ZS ds).bind λa=>if JoinOk x a then !(.str<|Txt.join x a)else 8|_=>8
def Gw:kN X "str.join" (sF X.K ZT):=by intro Y s Z H x E v G Q I g i h;let(F a e z w,c,rfl,rfl,j,f,q):=h;let(t,rfl):=g;let(-u,rfl,m):=Qu i;cases e with
|lst ds=>
let(-J,n,b):=Je.mp f
split at b
.rename_i o;obtain rfl:=Zqi b;let(p L,rfl,r,y):=jq.mp j;obtain rfl:=m;let(-A,B,C,M):=I.list (r.same c).sq;let(-l,rfl,rfl):=NS n y B;rw[SC.join C.isList 9 o λN k=>(.str _,H,I.tok _,(_,9),q _ F H (.refl c)<|jf.mpr 9)]
.rw[J6 b]|_=>rw[J6 f]
def Dg(x:Str):D->YD|.str y=>!(.bl<|Txt.startswith x y)|_=>8
def oj:kN X "str.startswith" (sF X.K Dg):=by intro Y s Z H x l v m Q I c f h;let(F a e z w,g,rfl,rfl,i,b,q):=h;let(t,rfl):=c;let(-u,rfl,j):=Qu f;cases e with|str y=>obtain rfl:=Zqi b;obtain rfl:=jf.mp i;let(n,rfl):=j;rw[call_gives PySem.F.slot_str_startswith (typeIs_str _ _ _) PySem.F.entry_str_startswith (PySem.F.args_str_startswith_2 _ _) (gives_str_startswith a y t _) (.bl _,H,I,9,q _ F H (.refl g)<|jo.mpr 9)]|_=>rw[J6 b]
noncomputable def Wv(x:Str):D->YD|.str y=>if(⇑y==0)=7/\⇑x+2<=00 then !(.lst<|(Txt.split x y).map .str)else 8|_=>8
theorem NT:∀l:List (Str×Tok),j6 ((l.map (·.1)).map V.str) (strValues l)|[]=>.nil|p::l=>.cons (_,9) (NT l)
theorem NU{K:f'} :∀a:Yi,IsDs K F (a.map D.str) (a.map V.str)|[]=>.nil|w::a=>.mk (jf.mpr 9) (NU _)
def Dh:kN X "str.split" (gG X.K Wv):=by intro Y s Z H x M v N Q I p r h;let(F a e z w,j,rfl,rfl,A,f,q):=h;let(t,rfl):=p;let(-u,rfl,B):=Qu r;cases e with
|str y=>
obtain rfl:=jf.mp A;let(t',rfl):=B;let f:(if(⇑y==0)=7/\⇑a+2<=00 then !(D.lst<|(Txt.split a y).map .str)else 8)=!z:=f
split at f
.rename_i C;obtain rfl:=Zqi f;let(m,E):=C;let G:⇑(Builtin.Str.partsBetween a (Builtin.Str.occurrences a y 0 ⇑a<|⇑a+1) ⇑y)<=00:=by let O:=StrLaws.occ_length_le a y 0 ⇑a<|⇑a+1;rw[PySem.length_partsBetween,];lia
 let c:∀(l:List _)(i:5),l.map _=Txt.split a y->⇑l<=00->EP X Y _ Q (.ref _) {s with heap:=s.heap.push {cls:=.type _,data:=.seq _},toks:=i}:=λl i n J=>by let L:=I.laid (a:=s⁻¹) (o:=.lst<|(Txt.split a y).map V.str) (h':=s.heap.push {cls:=.type _,data:=.seq _}) (t':=i) (λb u q=>Zq _ q) (Zf _) (by rw[<-n,Zql,Zql];rw[J],strValues l,0,by rw[<-n];rw[NT l],Zr _ 9);rw[(.ref _,_,L,9,q _ F _ (.keep j (I.hok.fresh<|Zf _) _) (I.hok.fresh<|Zf _) (Qe j<|I.hok.fresh<|Zf _) (_,JI,NU _))]
 induction g:decide (⇑a<⇑y)||decide (Builtin.Str.strKind a<Builtin.Str.strKind y)
 .induction hf:(Builtin.Str.occurrences a y 0 _ _).isEmpty;.rw[call_meets PySem.F.slot_str_split (typeIs_str _ _ _) PySem.F.entry_str_split (PySem.F.args_str_split_2 _ _) (meets_str_split_sep a y t _ g m hf () G) ?_];show wants _ _ _ {s with toks:=_,heap:=s.heap.push {cls:=.type _,data:=.seq (strsFrom _<|Builtin.Str.partsBetween a (Builtin.Str.occurrences a y 0 _ _) _).toArray}};rw[strsFrom_eq,];rw[c (numbered _ _) _ ((numbered_texts _ _).trans ((Ze<|ne_true_of_eq_false g).trans<|Ze<|ne_true_of_eq_false hf).symm) ?_];let:=Zt List.length<|numbered_texts s.toks<|Builtin.Str.partsBetween a (Builtin.Str.occurrences a y 0 ⇑a<|⇑a+1) ⇑y;rw[Zql]at this;lia
  .rw[call_meets PySem.F.slot_str_split (typeIs_str _ _ _) PySem.F.entry_str_split (PySem.F.args_str_split_2 _ _) (meets_str_split_not_found a y t _ g m hf)<|c [%[a|t]] _ ((Ze<|ne_true_of_eq_false g).trans<|Zd hf).symm<|by simp;lia]
 .rw[call_meets PySem.F.slot_str_split (typeIs_str _ _ _) PySem.F.entry_str_split (PySem.F.args_str_split_2 _ _) (meets_str_split_cannot_occur a y t _ g)<|c [%[a|t]] _ (Zd g).symm<|by simp;lia]
.rw[J6 f]|_=>rw[J6 f]
@[simp]def ri(n:5)(a:HP)(sd:SD):drI n a [] sd=sd:=rfl
def dX(n:5)(a:HP)(i:5)(sd:SD):02 (02 SV)->SD|some (~~~d)=>sd.set i (~~~dr a n d)|_=>sd
@[simp]def rj(n:5)(a:HP)(i:5)(sd:SD)(d:D):dX n a i sd (!~~~d)=sd.set i (~~~dr a n d):=rfl
@[simp]def mq(n:5)(a:HP)(i:5)(b:Yh)(sd:SD):drI n a (i::b) sd=drI n a b (dX n a i sd sd[i]?):=by rfl
def lx(h:jh q.2 a=! .lst b):vC (.adr a) q=(Wr.of<|.ofO<|jY (.lst b) q.1).bind λz=>.ok %[z|q.2]:=by simp_all[vC]
@[simp]def mi(a:YC->HP->Wr (D×HP))(b:wM)(sd:SD)(c:HP):Bd a b sd c=(b sd c).bind λp=>a p.1 p.2:=rfl
@[simp]def kZ(a:HP)(sd:SD):dv a (.next sd)=.ok (.next sd a):=rfl
@[simp]def nj(g:xH)(sd:SD)(a:HP):zK g (.next sd a)=g sd a:=rfl
@[simp]def rH(g:xH)(d:D)(a:HP):zK g (.ret d a)=.ok (.ret d a):=rfl
def Gx(h:jh b a=! .lst e):Dd c sd %[.adr a|b]=(c sd b).bind (ZR sd a):=by simp_all[Dd]
def Gy(h:jh b a=! .lst es)(c:⇑es<00):ZR sd a %[d|b]=.ok (.next sd<|QD b a<|.lst<|es++[d]):=by simp_all[ZR]
@[simp]def fj(d:D)(a:HP):xM (.ret d a)=.ok %[d|a]:=rfl
def XQ(n:5)(h:jh b a=!d):dr b (n+1) (.adr a)=dr b n d:=by show(match jh _ a with|some d=>dr _ n d|none=>.adr a)=_;rw[h,]
@[simp]def b6(n:5)(i:3):XN n (.int i)=6:=by cases n<;>rfl
@[simp]def b5(n:5)(i:Str):XN n (.str i)=6:=by cases n<;>rfl
@[simp]def nV(n:5)(i:Bool):XN n (.bl i)=6:=by cases n<;>rfl
def NV{n ar:5} (e:⇑ds=ar)(h:((g (Qr n ds) b).bind xM).need (λp=>(∀a,jh b a≠8->jh p.2 a≠8)/\P p) Q):(yB n ar g ds b).need P Q:=by
 ext yB;rw[Zd e,];rw[Wr.need_bind.mpr<|h.mono (λp c=>?_) 005];let:(b.all λz=>(jh _ _).isSome)=6:=Uw.mpr λz f=>by
  let i:jh b z.1≠8:=by rw[Ne,wF];rw[λy=>y<|Ja.mpr (z,f,9)]
  let:=c.1 _ i;induction y:jh _ _ with|none=>rw[Zn y this]|some d=>rfl
 rw[Zd this,];rw[c.2]
end L2.DL
namespace L2
noncomputable def af(a:Addr):Yk:=#[.none,.bool 7,022,rawInt 1,.none,.none]
noncomputable def ZU(l:Addr):Obj:={cls:=.type "list_iterator",data:=.fields #[.ref l,.int 0 0]}
def Di(a:Addr):Obj:={cls:=.type "enumerate",data:=.fields (af a)}
def Xg(h:Heap)(l:Addr):Heap:=(h.push<|ZU l).push<|Di h.objs.size
set_option tactic.hygienic true in
set_option maxHeartbeats 1000000 in
def zkz(l:Addr)(h:Yk)(k:5)(i:02 Addr)(j:Array (02 Value))(t:Tok):Meets (Builtin.«enumerate.__new__» ([.type "enumerate",.ref l],[%["start"|.int 1 t]])) λ_ R s=>↥s l=!(017,i,.seq h k,j)/\R (.ok<|.ret<|.ref (s.heap.push<|ZU l).objs.size) {s with heap:=Xg s.heap l}:=.of_wp λb w A R s q=>by
 let(o,p,m,n,os):=s;let a:=q.1;let e:=q.2;let f:=sub_enumerate;let g:Heap.IsList (Shared.heap (_,_,m,n,os)) l _:=(_,a,9,k,9);wp_walk using AutoSeq1.wpAny_loadPart' a;rw[wpAny_stack_any λ_=>Zb ?_];split;.rename_i c _ _ _ _ _;cases c==Value.type _<;>(wp_walk using AutoSeq1.wpAny_loadPart' a,wpAny_pyIter_list g;rw[(_,9,e)])
 .wp_walk using AutoSeq1.wpAny_loadPart' a,wpAny_pyIter_list g;rw[(_,9,e)]
def fQ:Meets (Builtin.«object.__init__» ([b,a],f)) λ_ R s=>s.TypeIs b "enumerate"/\R (.ok<|.ret .none) s:=by
 let g:=PySem.F.called_enumerate.init.lookup;let m2:=PySem.F.called_enumerate.made;let h:(some "enumerate.__new__"!=!"object.__new__")=6:=004;rw[Meets.of_wp λc w A R s q=>?_];let i:=q.1;let e:=q.2;repeat(any_goals(first|assumption|wp_step))
 rw[(_,9,e)]
def l7(a:Value)(t:Tok):checkTypeCall "enumerate" ([a],[%["start"|.int 1 t]])=pure Yq:=by kernel_rfl
def aj(a:Value)(t:Tok):checkBuiltinCall "enumerate.__new__" ([.type "enumerate",a],[%["start"|.int 1 t]])=pure Yq:=by kernel_rfl
def aa(o a:Value)(t:Tok):argsOk "object.__init__" ([o,a],[%["start"|.int 1 t]]):=by ext argsOk;rw[signature?_of (id:="object.__init__") (n:=['_','_','t','i','n','i','_','_']) (o:=['t','c','e','j','b','o']) (by kernel_rfl) PySem.F.owner_object,];kernel_rfl
def znH(p:s.heap.IsList l g)(q:Q (.ref<|s⁻¹+1) {s with heap:=Xg s.heap l}):YF a w A (call (.type "enumerate") [.ref l] [%["start"|.int 1 t]]) Q E s:=by
 let((u,v,x,y),B,C,k,F):=p;obtain rfl:u=017:=C;obtain rfl:x=.seq g k:=F;let T:=PySem.F.called_enumerate;let(M N,h):=T.mro;let O:=T.made;let G:=T.sub;let H:=T.notType;let I:=T.canCreate;let P:=l7 (.ref l) t;let i:(s.heap.push<|ZU l).objs.size=s⁻¹+1:=Heap.size_push ..;rw[wpAny_call<|codeAny_of_tree<|show wpAny _ _ (callAny (.type "enumerate") ([.ref l],[%["start"|.int 1 t]])) _ _ _ from ?_];rw[Zb (Code.quiet_builtin _<|002,codeAny_builtin PySem.F.entry_type_call ?_)];rw[Around.under_plain (weight_type_call_type "enumerate" [.ref l] [%["start"|.int 1 t]]) (units_type_call_type "enumerate" [.ref l] [%["start"|.int 1 t]]),];repeat(any_goals(first|assumption|wp_step))
 let made:=zkz l g k v y t a w A.in1 (wants (λo j=>o=.ref (s⁻¹+1)/\j={s with heap:=Xg s.heap l}) E) s (B,by rw[i,];rw[(9,9)]);rw[codeAny_mono (codeAny_call_builtin T.plain PySem.F.entry_enumerate_new<|wpAny_of_eq (aj (.ref l) t) made) λr j b=>?_];cases(r)with|error e=>rw[b]|ok f=>cases(f)with
|ret o=>
 let(rfl,rfl):=b;let m:Shared.TypeIs {s with heap:=Xg s.heap l} (.ref<|s⁻¹+1) "enumerate":=(Di s⁻¹,by let:=Zr (s.heap.push<|ZU l) (o:=Di s⁻¹) 9;rw[i]at this;rw[this],9);let R:=T.init.lookup;let S:=T.init.bind<|.ref<|s⁻¹+1;repeat(any_goals(first|assumption|wp_step))
 rw[codeAny_mono (codeAny_call_builtin T.init.plain PySem.F.entry_object_init<|T.init.check _ _ _ _ _ _ _ _ m (aa _ (.ref l) t)<|fQ a w A.in1 (wants (λz n=>z=.none/\Q (.ref<|s⁻¹+1) n) E) _ (m,9,q)) λJ n c=>?_];cases(J)with|error e=>rw[c]|ok L=>cases(L)with
 |ret z=>
let(rfl,U):=c
repeat(any_goals(first|assumption|wp_step))|_=>rw[c.elim]
|_=>rw[b.elim]
def ziD(h:wpAny M A (spliced<|backTo b<|01 (e::rest) c) (λn i=>wpAny M A (evalAll<|(backToKw b<|keywordEach f c).map (·.2)) (λo m=>wpAny M A (call (.type T) n<|((backToKw b<|keywordEach f c).filterMap (·.1)).zip o) Q E m) E i) E s)(p:backTo b (01 (e::rest) c)=%[7|eval e c]::backTo b (01 rest c):=by rfl)(j:(backTo b<|01 (e::rest) c).any (·.1)=7:=by rfl)(g:(backToKw b<|keywordEach f c).all (·.1.isSome)=6:=by rfl)(l:(backToKw b<|keywordEach f c).any (·.1.isNone)=7:=by rfl):wpAny M A (callWith b (.type T) [] (backTo b<|01 (e::rest) c)<|backToKw b<|keywordEach f c) Q E s:=by
 let t:wpAny M A (evalArgs (.type T) 6 (backTo b<|01 (e::rest) c)<|backToKw b<|keywordEach f c) (λa i=>wpAny M A (call (.type T) ([]++a.pos) a.kw) Q E i) E s:=by rw[p]at h ⊢;rw[evalArgs_kwB g h]
 ext callWith;rw[Za<|wpAny_holding<|Zc t (λa i q=>Za<|wpAny_standAt ?_) λb b z=>z];simp -iota only[j,l,Bool.or_false];rw[Za<|Zb<|Za<|Zc q (λr m z=>Za<|wpAny_holding<|wpAny_point<|Zb z) λb b z=>z]
def eE(v:Gl X "enumerate")(w:X.mg "enumerate"=8)(x:PA X [a] z)(A:backTo g (01 [a] X.env)=%[7|eval a X.env]::backTo g (01 [] X.env):=by rfl)(l:(backTo g<|01 [a] X.env).any (·.1)=7:=by rfl):PI X (.Tuple n L M) (.Call (.Name "enumerate" p) [a] [(!"start",.Constant (.int 1) N O,P)] g) (FC X.K 1 z):=by
 intro Y s Z H R I h;rw[wpAny_Call_Name_kw (Xx I v w (show bootBuiltins _=! .type "enumerate"by kernel_rfl) ?_ 004<|004)];rw[ziD (jG (x _ _ s _ H _ I h) λQ f=>j3 λS T=>j7 λj B C=>?_) A l];rw[kws_cons<|wpAny_Constant_int ?_];rw[kws_nil ?_];let(-a,e,(U,E),q):=C;subst e;let(u,rfl,F):=Qu B;obtain rfl:u=Value.ref a:=F;let(-G,rv,p,hz):=j.list E;rw[znH (s:={f with toks:=f.toks+1}) p.isList ?_];let m:(f.heap.push<|ZU a).objs.size=f⁻¹+1:=Heap.size_push ..;let r:IsEnum (Xg f.heap a) (f⁻¹+1) f⁻¹ ((0+1:5):3) .none:=by let:=Zr (f.heap.push<|ZU a) (o:=Di f⁻¹) 9;rw[m]at this;rw[this]
 let J:(Xg f.heap a).IsListIter _ a 0:=(_,Zq _<|Zr _ 9,9,9);rw[wpAny_pyIter_enum (s:={f with toks:=f.toks+1,heap:=Xg _ a}) r ?_];rw[j8 _ _ _ _ _ (9,j.kept (t':=f.toks+1) (h':=Xg _ a)<|λb o y=>Zq _<|Zq _ y,Mi a _ _<|Nat.succ_ne_self _,((_,r),J),λc t=>?_,q)];let i:f⁻¹<=c:=by simp only[UN,UY,or_false]at t;obtain rfl|rfl:=t<;>first|rw[Zf _]|rw[Ul _ _]
 rw[j.fpOk i<|j.hok.fresh i]
end L2
namespace L2.DL
def a7(f:Gl X "enumerate")(g:X.mg "enumerate"=8)(i:QA X E [a] j)(l:backTo b (01 [a] X.env)=%[7|eval a X.env]::backTo b (01 [] X.env):=by rfl)(c:(backTo b<|01 [a] X.env).any (·.1)=7:=by rfl):QI X E (.Tuple e m n) (.Call (.Name "enumerate" p) [a] [(!"start",.Constant (.int 1) o q,r)] b) (uW 1 j):=Mj (λb h=>eE f g h l c) i
section
variable {fa fb fe:FE} {fr:wM} {pos pos' p:Pos}
def Bf(c f:Str)(sd:SD)(d:D)(q:D×HP):Wr Out3:=match q.1 with
|.adr a=>match jh q.2 a with|some (.ins c' fs ds)=>if c'=c/\f∉fs/\⇑fs<900 then .ok (.next sd<|QD q.2 a<|.ins c' (fs++[f])<|ds++[d])else .no|_=>.no
|_=>.no
@[simp]def vA(c f:Str)(a b:FV):xH:=λsd e=>(b sd e).bind λp=>(a sd p.2).bind<|Bf c f sd p.1
set_option tactic.hygienic true in
def Gz(k:ClsD X.K X.mg c C fs)(x:f∈fs)(y:QV X E o z)(A:QV X E e G)(I:swapsWith e (! .Attribute o f pos') pos.line X.env=pure 7:=by rfl):VS X E (.Assign [.Attribute o f pos'] e pos) (vA c f z G):=PS.weak (HQ y A I) λT Z H J=>by
 let(B B' F sd hp,t,n):=J;rw[j8 B _ F _ _ (t,qf n λp L v B1 F1 H1 M N O=>j8 B _ _ _ _ (N,qf L λq b w B2 F2 H2 i j l=>?_))];unfold Bf at b;split at b
 .rename_i a P;rw[P]at l;obtain rfl:=j9.mp l;split at b
  .rename_i c' g ds m;split at b
   .rename_i Q;let(!rfl,hn,hl):=Q;let(C' dx h,r,R,s,S):=j.lies m;let u:=r;rw[k.ns]at u;cases u;let U:(g.zip h).map (·.1)=g:=by rw[List.map_fst_zip (),]
    rw[jS a C _ _ (9,R,k.cls,k.no f x,by rw[List.length_zip,];lia,?_)];rw[Gi f v _ (by rwa[U,]),];let Y:g.zip h++[%[f|v]]=(g++[f]).zip (h++[v]):=by rw[List.zip_append s,];rfl
    rw[Y,];rw[b _ _ _ _ (M.trans i)<|j.chg m<|je C _ _ (r,JI,by simp[s],S.snoc<|IsD.same i _ _ O)]
   .rw[b.elim]
  .rw[b.elim]
 .rw[b.elim]
def cj(P:Program)(w:World)(K:f')(e:Yd)(b:Heap)(c:Str)(a:Yi)(k:5)(g:Yi)(i:YC->HP->Wr (D×HP)):4:=∃C f h,ClsD K e c C a/\Mk K C f/\FnOk P w K e b yz k f h g (kK K i)/\wN K h g []
noncomputable def G0(x:Addr)(q:D×HP):Wr (D×HP):=match q.1 with|.non=>.ok %[.adr x|q.2]|_=>.no
def G1(c:Str)(a:YC->HP->Wr (D×HP))(fr:wM):FV:=λsd b=>(fr sd b).bind λp=>.new p.2 λx=>(a (.adr x::p.1)<|%[x|.ins c [] []]::p.2).bind<|G0 x
def lF(M:cj X.prog X.w X.K X.mg X.base c i k Y y)(z:Room (k+1) X.A)(A:Gl X c)(E:kM X E0 (e::a) fr)(j:(c==011)=7:=by decide)(G:01 (e::a) X.env=%[7|007]::01 a X.env:=by rfl)(l:(backTo pos<|01 a X.env).any (·.1)=7:=by rfl):QV X E0 (.Call (.Name c p) (e::a) [] pos) (G1 c y fr):=by
 let(C f fd,s,mk,I,b):=M;rw[PE.weak (HU mk I z A s.mgc b .nil E5 E j G l) λZ H Q=>qK λB B' F sd hp=>j4 λt n=>?_];rw[j8 B _ F _ _ (t,qf n λp J vs B1 F1 L N m O x P nx jt ne=>?_)];let o:RT _ B _ _ (upd _ _<|.own x) _ _ _:=m.go 038<|m.rs.step<|.keep m.rs.ext.fh jt _;let r:upd L P (.own x) x=8:=by rwa[JC ne.symm,]
 let(R,g):=o.newO (d:=.ins c [] _) r (je C _ _ (s.ns,JI,9,.nil));let S:=Wr.need_bind.mp<|J x R;rw[ZA,];rw[je _ _ _ (g.rs.ext.fh,.mk (j9.mpr 9) O,g.lent,S.mono (λq h v F2 H2 w u=>?_) λ_ _ q=>q.ext g.hidden)];unfold G0 at h;split at h;.rename_i T;rw[T]at u;let(B3,U):=g.callV w;rw[(jB.mp u,h _ _ _ _ (N.trans w.ff) U<|j9.mpr 9)]
 .rw[h.elim]
def kg(p:D×HP):Wr (Bool×HP):=match p.1 with|.bl b=>.ok %[b|p.2]|_=>.no
@[simp]def Bg(f:FV):uH:=λsd a=>(f sd a).bind kg
set_option tactic.hygienic true in
def NW{K:f'} (h:gt K E (Bg e) Z H Q):tB (dy K E e) Z H Q:=by
 let(B j F sd l,t,n):=h;rw[j8 B _ F _ _ (t,qf n λp a v m o q f g b=>?_)];unfold kg at a;split at a;.rename_i c i;rw[i]at b;rw[(c,jo.mp b,a _ _ _ f g)]
 .rw[a.elim]
def ap(c:QV X E a e)(f:∀b,isTrue a X.env b=(do let v<-b;standAt a.pos;holding [v] (truthy v)):=by intro _;rfl):kL X E a (Bg e):=PT.weak (Hx c f) λb b b q=>NW q
@[simp]def G2(f:uH):uH:=λsd a=>(f sd a).bind λp=>.ok %[not<|p.1|p.2]
def lU(b:kL X E a c):kL X E (.UnaryOp .Not a pos) (G2 c):=PT.weak (Hy b) λZ H Q=>qK λB h F sd i=>j4 λt n=>j8 B _ F _ _ (t,qf n λp e j l m f g=>e _ _ _ f g)
@[simp]def kY(fa fb:FV):FV:=λsd a=>(Bg fa sd a).bind λp=>if p.1 then fb sd p.2 else .ok %[.bl 7|p.2]
def pc(h:QV X E a i)(j:QV X E (.BoolOp .And (b::rest) pos) l):QV X E (.BoolOp .And (a::b::rest) pos) (kY i l):=PE.weak (HA h j) λZ H Q m=>by let(B x F sd y,t,n):=m;rw[NW<|j8 B _ F _ _ (t,qf n λp e A C G f g=>?_)];let(c,o):=p;cases(c)with|true=>rw[j8 B _ _ _ _ (g,(e).mono (λq z v I J r s u w=>z v _ _ r (f.trans s) u w) λb b z=>z)]|false=>rw[e _ _ _ _ f g<|jo.mpr 9]
def pL(h:QV X E a b):QV X E (.BoolOp c [a] pos) b:=Hz h
@[simp]def ro(b:Bool)(a:HP):kg %[.bl b|a]=.ok %[b|a]:=rfl
@[simp]def mh(c:Str)(a:YC->HP->Wr (D×HP))(fr:wM)(sd:SD)(b:HP):G1 c a fr sd b=(fr sd b).bind λp=>.new p.2 λx=>(a (.adr x::p.1)<|%[x|.ins c [] []]::p.2).bind<|G0 x:=rfl
def NX(h:jh b a=!d)(e:j0 c f d=!z):Da c f %[.adr a|b]=.ok %[z|b]:=by ext Da;simp only[h,e];rfl
def eN(h:jh b a=! .ins c fs ds)(e:f∉fs)(g:⇑fs<900):Bf c f sd d %[.adr a|b]=.ok (.next sd<|QD b a<|.ins c (fs++[f])<|ds++[d]):=by ext Bf;simp[h,e,g]
end
end L2.DL
namespace L2
def NY:V->YB->Hp->VK->4:=λx c H Q=>∃a b k v,x=022/\c=[kV k,v]/\H a=! .dK b/\⇑b<00/\(∀w,qq b k=!w->Q w H)/\(qq b k=8->Q v (upd H a<|.dK<|qJ b k v))
def oB:da X "dict.setdefault" NY:=by
 intro Y s Z H x G v J Q I m n h;let(a c k y,rfl,rfl,g,L,o,p):=h;obtain rfl:v=Value.ref a:=m;let(M N,rfl,r,i):=n.two;let(z,j,O,b,l):=Ax I.hok g;rw[call_meetsIn PySem.F.slot_dict_setdefault l.typeIs PySem.F.entry_dict_setdefault (PySem.F.args_dict_setdefault_3 _ _ _) (kt_meets_setdefault _ a (Wz r) j _) (_,l,by rwa[<-⇑b],λw t=>?_,λu A f B=>?_)];.let:=b.val k;rw[t]at this;induction e:qq _ k with|none=>rw[e]at this;rw[this.elim]|some C=>rw[e]at this;rw[(_,H,I.tok _,this,o _ e)]
 .let:=b.val k;rw[u]at this;let e:qq c k=8:=by induction e:qq _ k with|none=>rfl|some C=>rw[e]at this;rw[this.elim]
  let E:∃q,A.get? a=!q:=let(q,_,_,hq,_):=f;(q,hq);let F:⇑(qJ c k y)<=00:=by let:=BR c k y;lia
  rw[(y,_,E2 I (by rw[g,];rw[True.intro]) B E<|E3 F j (b.put k i) f,i,p e)]
end L2
namespace L2.DL
def G3(j:5)(sd:SD)(a:List jI)(ds:YC)(v:D):02 jI->Res Out|some q=>if ⇑a<00 then match jH a ds q with|some _=>.ok (.next sd)|none=>.ok (.next<|sd.set j<|!(.own 7<|.dct (KN a q)<|Um a ds q v))else .no|none=>.no
def Dj(j:5)(a b:FE):FS:=λsd=>match sd[j]? with|some (some<|.own false<|.dct c ds)=>(a sd).bind λk=>(b sd).bind λv=>G3 j sd c ds v<|Qw k|_=>.no
set_option tactic.hygienic true in
def oD(S:PE X o (yX j))(U:QE X E b i)(Y:QE X E f p)(hp:∀{I:TE}{t:TA},PE X o I->PA X [b,f] t->PE X (.Call (.Attribute o "setdefault" g) [b,f] [] h) (u2 X.K "dict" NY I t))(hs:swapsWith (.Call (.Attribute o "setdefault" g) [b,f] [] h) 8 A.line X.env=pure 7:=by rfl)(C:01 [b,f] X.env=%[7|eval b X.env]::01 [f] X.env:=by rfl)(s:01 [f] X.env=%[7|eval f X.env]::01 [] X.env:=by rfl):QS X E m (.Expr (.Call (.Attribute o "setdefault" g) [b,f] [] h) A) (Dj j i p):=PS.weak (YK (hp S<|J3 U (J3 Y J5 s) C) hs) λT Z H zh=>by
 let(B F sd,r,n):=zh;unfold Dj at n;split at n
 .rename_i ks ds J;let(-l,L,g2,g3,(xs,M,N,g6),_):=r.own J;rw[(_,L,.inr<|.inr<|.inl (9,.inl (_,M)),B,F,_,r,?_)];let n':(J2 i (J2 p jb) sd).need (λG=>∀k v,G=[k,v]->(G3 j sd ks ds v<|Qw k).need (uz X.K m B F T) (XW X.K E B.F0 B.H0)) (XW X.K E B.F0 B.H0):=by show((i _).bind λx=>((p _).bind λy=>(Res.ok _).bind λO=>.ok _).bind λxs=>.ok _).need _ _;induction hk:i _ with
|ok k=>rw[hk]at n;induction hv:p _ with|ok v=>rw[hv]at n;intro k' v' P;cases P;rw[n]|ex c fs=>rw[hv]at n;rw[n]|no=>rw[hv]at n;rw[n.elim]
|ex c fs=>rw[hk]at n;rw[n]|no=>rw[hk]at n;rw[n.elim]
  rw[n'.monoE (λG a n1 vs F1 H1 b i1=>?_) λ_ _ q=>q.ext r.ext];let(k,v,rfl):∃k v,G=[k,v]:=by let a:((i _).bind λx=>((p _).bind λy=>(Res.ok _).bind λO=>.ok _).bind _)=.ok _:=a;induction hk:i _ with
|ok k=>rw[hk]at a;induction hv:p _ with|ok v=>rw[hv]at a;cases a;rw[(k,v,9)]|ex c fs=>rw[hv]at a;cases a|no=>rw[hv]at a;cases a
|ex c fs=>rw[hk]at a;cases a|no=>rw[hk]at a;cases a
  let e:=n1 k v 9;let(v1 v2,rfl,j1,j2):=Fk i1;unfold G3 at e;split at e
  .rename_i q hq;split at e
   .rename_i P;let Q:=r.step b;let hH:=b.hh _ _ M;let u:=IsDs.same b.ff _ _ g6;let(w1,w2):=WY (K:=X.K) q N u;rw[jS l _ q _ (9,by rw[Wn hq j1,],hH,by rw[List.length_zip,];lia,λw z=>?_,λz=>?_)];.induction hd:jH _ _ q with|none=>rw[w2 hd]at z;rw[J6 z]|some d=>rw[hd]at e;rw[e _ _ _ b.ff Q]
    .induction hd:jH _ _ q with|some d=>let(-x,R,_):=w1 d hd;rw[z]at R;rw[J6 R]|none=>rw[hd]at e;let(O,y1,y2,y3):=Fd N u j2;rw[e _ _ _ b.ff<|Q.chg J L (_,by rw[JI,y1],y2,y3)]
   .rw[e.elim]
  .rw[e.elim]
 .rw[n.elim]
noncomputable def Bh:YC->YD|[.str x]=>if ⇑x<=640 then(intText? x).map .int else 8|_=>8
set_option tactic.hygienic true in
def c7:qc X (.type "int") (wa X.K Bh):=by
 intro Y s Z H i j Q I r b;let(F,ds,z,c,id,a,q):=b;unfold Bh at a;split at a
 .rename_i x;split at a;.rename_i e;let(-n,f,rfl):=Jh.mp a;let(-v,rfl,g):=Q1 id;obtain rfl:=jf.mp g;let(-u,rfl,h):=Qu r;let(t,rfl):=h;rw[W.KIN.call_text f e (.int n,H,I.tok _,(_,9),q _ F H (.refl c)<|jc.mpr 9)]
  .rw[J6 a]
 .rw[J6 a]
def vS:D->D->YD|.lst ds,.lst []=>!(.bl<|not ds.isEmpty)|_,_=>8
set_option tactic.hygienic true in
def fA(S:X.A.units+64<cLine):yN X (compareOp .NotEq) vS:=by
 intro Y s Z H x y v u Q I A B m;let(F d e z,h,id,C,i,q):=m;unfold vS at i;split at i
 .rename_i ds;obtain rfl:=Zqi i;let(p T,rfl,E,G):=jq.mp id;let(U J,rfl,n,o):=jq.mp C;obtain rfl:=A;obtain rfl:=B;let(-b,L,w,hl):=I.list (E.same h).sq;let(-f,r,g,M):=I.list (n.same h).sq;let N:=⇑G;let O:=⇑o;let l3:=⇑L;let l4:=⇑r;rw[ZC]at O;let P:f.toArray.size=0:=by rw[Zm,];lia
  cases c:ds=[]
  .subst c;rw[ZC]at N;let t:b.toArray.size=0:=by rw[Zm,];lia
   rw[PySem.SeqAt.RcNeAt.lists (e:=λ_=>6) w.isList g.isList () () (λj j1 _=>()) _ _ _ _<|by rw[t,];rw[(.bl _,H,I,9,q _ F H (.refl h)<|zH _ F)]]
  .let n0:⇑ds≠0:=λz=>c<|Jo.mp z;let t:b.toArray.size≠0:=by rw[Zm,];lia
   let R:not ds.isEmpty=6:=by cases(ds)with|nil=>rw[Zn 9 c]|cons a l=>rfl
   rw[R]at q;rw[PySem.SeqAt.RcNeAt.lists_lengths w.isList g.isList (by rw[P,];simpa using t) () _ _ _ _ (.bl _,H,I,9,q _ F H (.refl h)<|zH _ F)]
 .rw[J6 i]
end L2.DL
set_option maxHeartbeats 4000000
namespace My
open PySem L2 L2.DL
@[simp high]def gt1{α:Type}(b a:α)(l):(b::a::l)[1]?=!a:=rfl
@[simp high]def se1{α:Type}(a b v:α)(l):(a::b::l).set 1 v=a::v::l:=rfl
@[simp high]def gt2{α:Type}(b c a:α)(l):(b::c::a::l)[2]?=!a:=rfl
@[simp high]def se2{α:Type}(a b c v:α)(l):(a::b::c::l).set 2 v=a::b::v::l:=rfl
@[simp high]def gt3{α:Type}(b c e a:α)(l):(b::c::e::a::l)[03]?=!a:=rfl
@[simp high]def se3{α:Type}(a b c e v:α)(l):(a::b::c::e::l).set 03 v=a::b::c::v::l:=rfl
@[simp high]def gt4{α:Type}(b c e f a:α)(l):(b::c::e::f::a::l)[04]?=!a:=rfl
@[simp high]def se4{α:Type}(a b c e f v:α)(l):(a::b::c::e::f::l).set 04 v=a::b::c::e::v::l:=rfl
@[simp high]def gt5{α:Type}(b c e f g a:α)(l):(b::c::e::f::g::a::l)[05]?=!a:=rfl
@[simp high]def se5{α:Type}(a b c e f g v:α)(l):(a::b::c::e::f::g::l).set 05 v=a::b::c::e::f::v::l:=rfl
@[simp high]def gt6{α:Type}(b c e f g h a:α)(l):(b::c::e::f::g::h::a::l)[06]?=!a:=rfl
@[simp high]def se6{α:Type}(a b c e f g h v:α)(l):(a::b::c::e::f::g::h::l).set 06 v=a::b::c::e::f::g::v::l:=rfl
@[simp high]def gt7{α:Type}(b c e f g h i a:α)(l):(b::c::e::f::g::h::i::a::l)[07]?=!a:=rfl
@[simp high]def se7{α:Type}(a b c e f g h i v:α)(l):(a::b::c::e::f::g::h::i::l).set 07 v=a::b::c::e::f::g::h::v::l:=rfl
@[simp high]def gt8{α:Type}(b c e f g h i j a:α)(l):(b::c::e::f::g::h::i::j::a::l)[08]?=!a:=rfl
@[simp high]def se8{α:Type}(a b c e f g h i j v:α)(l):(a::b::c::e::f::g::h::i::j::l).set 08 v=a::b::c::e::f::g::h::i::v::l:=rfl
@[simp high]def gt9{α:Type}(b c e f g h i j m a:α)(l):(b::c::e::f::g::h::i::j::m::a::l)[09]?=!a:=rfl
@[simp high]def se9{α:Type}(a b c e f g h i j m v:α)(l):(a::b::c::e::f::g::h::i::j::m::l).set 09 v=a::b::c::e::f::g::h::i::j::v::l:=rfl
@[simp high]def gt10{α:Type}(b c e f g h i j m n a:α)(l):(b::c::e::f::g::h::i::j::m::n::a::l)[10]?=!a:=rfl
@[simp high]def se10{α:Type}(b c e f g h i j m n a v:α)(l):(b::c::e::f::g::h::i::j::m::n::a::l).set 10 v=b::c::e::f::g::h::i::j::m::n::v::l:=rfl
@[simp high]def gt11{α:Type}(c e f g h i j m n o b a:α)(l):(c::e::f::g::h::i::j::m::n::o::b::a::l)[11]?=!a:=rfl
@[simp high]def se11{α:Type}(c e f g h i j m n o a b v:α)(l):(c::e::f::g::h::i::j::m::n::o::a::b::l).set 11 v=c::e::f::g::h::i::j::m::n::o::a::v::l:=rfl
@[simp high]def gt12{α:Type}(e f g h i j m n o p b c a:α)(l):(e::f::g::h::i::j::m::n::o::p::b::c::a::l)[12]?=!a:=rfl
@[simp high]def se12{α:Type}(e f g h i j m n o p a b c v:α)(l):(e::f::g::h::i::j::m::n::o::p::a::b::c::l).set 12 v=e::f::g::h::i::j::m::n::o::p::a::b::v::l:=rfl
@[simp high]def gt13{α:Type}(f g h i j m n o p q b c e a:α)(l):(f::g::h::i::j::m::n::o::p::q::b::c::e::a::l)[13]?=!a:=rfl
@[simp high]def se13{α:Type}(f g h i j m n o p q a b c e v:α)(l):(f::g::h::i::j::m::n::o::p::q::a::b::c::e::l).set 13 v=f::g::h::i::j::m::n::o::p::q::a::b::c::v::l:=rfl
noncomputable def jU(a b:3):3:=(a%2147483647+b)*48271%2147483647*((a%2147483647+b)*48271%2147483647)%2147483629
def Bi(a b:3):3:=if 0<jU a b%04 then jU a b/04%05-2 else if jU a b/20%2=0 then a/07*(b+2)%(10:3)^(60:5)else-(a/07*(b+2)%(10:3)^(60:5))
def XR(a:Yf)(k:3):3:=a.getD k.toNat 0
def Bj(b:Yf)(a:3)(n:5):Yf:=(List.range n).map λk:5=>Bi (XR b (0+k)/03+(0+k))<|a+(0+k)
def qQ(a:Yf)(t:3):3:=a.getD t.toNat 0
def QX(r:J0)(a:Yf):3:=xx<|r.map λp=>qQ a p.1+p.2
def cP:plN 12 (.lst [])=6:=rfl
def pX(r:Yf):plN 12 (.lst<|r.map D.int)=6:=by show(r.map _).all _=6;rw[Vw,Uw];rw[λp b=>9]
def zjN{α:Type}(f:α->D)(l:List α):sameD (.lst<|l.map f) (.lst [])=l.isEmpty:=by cases(l)with|nil=>rw[Wm _]|cons x r=>rw[v3.mpr λh=>by cases h]
theorem XS{k:5}(h:k<⇑l):qO l (k:3)=l[k]?:=by simp_all[qO,wH]
def NZ{a:Yf} (b:0<=t)(c:t<(⇑a:3)):qO (a.map D.int) t=!(.int<|qQ a t):=by simp_all[wH,qO,qQ]
def Kg{α:Type}{f:α->D}{l:List α}{i:5} (h:(l.map f)[i]?=!x):∃p,l[i]?=!p/\x=f p:=()
def zgL(h:∀r∈a,r ≠[])(b:⇑a<1000):ZD [.lst (a.map jA)]=!(.lst<|(Ql jL a).map jA):=by show(Q6 _ _).bind _=_;simp_all[Cu]
def jr(f:J1):D:=.lst<|f.map jA
def Oa(h:jr f=jr g):f=g:=by grind[jr,Cu]
def iq(f g:J1):sameD (jr f) (jr g)=decide (f=g):=by
 cases h:f=g;.simp_all[Wm]
 .rw[Zo h,];rw[v3.mpr λz=>h<|Oa z]
def qC(all:J1)(row:J0):Bool:=(all.filter λone=>(not<|decide<|one=row)&&JQ one row).isEmpty
def ZV(all a:J1)(row:J0):J1:=if qC all row=6/\row∉a then a++[row]else a
def Ob(all a:J1):J1:=a.foldl (ZV all) []
def Qi(a:J1):J1:=Ql jL<|Ob a a
theorem Dk(all:J1):∀(b a:J1),⇑(b.foldl (ZV all) a)<=⇑a+⇑b/\(∀r,r∈b.foldl (ZV all) a↔r∈a\/r∈b/\qC all r=6)/\(a.Nodup->(b.foldl (ZV all) a).Nodup)
|[],a=>by simp
|row::b,a=>by
 rw[List.foldl_cons,];obtain⟨c,e,f⟩:=Dk all b (ZV all a row)
 by_cases q:qC all row=true∧row∉a
 .have z:ZV all a row=a++[row]:=if_pos q
  rw[z]at c e f⊢
  refine⟨by simp at c⊢;lia,fun r=>?_,fun n=>f (by rw[List.nodup_append,];exact⟨n,by simp,fun x i y j=>by rw[List.mem_singleton.mp j,];exact fun z=>q.2 (z▸i)⟩)⟩
  rw[e,List.mem_append,List.mem_singleton,List.mem_cons]
  exact⟨fun h=>h.elim (fun h=>h.elim .inl fun h=>.inr ⟨.inl h,h▸q.1⟩) fun h=>.inr ⟨.inr h.1,h.2⟩,fun h=>h.elim (fun h=>.inl (.inl h)) fun h=>h.1.elim (fun k=>.inl (.inr k)) fun k=>.inr ⟨k,h.2⟩⟩
 .have z:ZV all a row=a:=if_neg q
  rw[z]at c e f⊢
  refine⟨by rw[List.length_cons,];lia,fun r=>?_,f⟩
  rw[e,List.mem_cons]
  exact⟨fun h=>h.elim .inl fun h=>.inr ⟨.inr h.1,h.2⟩,fun h=>h.elim .inl fun h=>h.1.elim (fun k=>.inl (Classical.byContradiction fun m=>q ⟨k▸h.2,k▸m⟩)) fun k=>.inr ⟨k,h.2⟩⟩
theorem xK:r∈Qi a↔r∈a/\qC a r=6:=by grind[Qi,Ob,QL,Dk]
def JG(f:J1)(a:Yf):3:=yp<|f.map λr=>QX r a
@[simp]def kU(f):XF (jr f)=! f.map jA:=rfl
@[simp]def kT(r):XF (jA r)=! r.map xB:=rfl
def Oc(n)(r):plN (n+03) (jA r)=6:=by show(r.map _).all _=6;rw[Vw,Uw];rw[λp b=>9]
def Od(n)(f):plN (n+04) (jr f)=6:=by show(f.map _).all _=6;rw[Vw,Uw];rw[λr b=>Oc n r]
def p7(f g):xV (jr f) (jr g)=!(.bl<|not<|decide<|f=g):=by rw[AI (Od 08 f) (Od 08 g),iq]
def eG(h:l ≠[])(w:3):yp (l.map (·+w))=yp l+w:=by let(a,b):=BU h;rw[(EB () λy c=>?_).symm];grind
def aZ(h:l ≠[])(w:3):xx (l.map (·+w))=xx l+w:=by let(a,b):=X2 h;rw[(I1 () λy c=>?_).symm];grind
def qS(r:J0):4:=(r.map (·.1)).Pairwise (·<·)
def G4(h:qS r):r.Pairwise λx y=>qu x y=6:=by unfold qS at h;rw[U9]at h;rw[h.imp λ{a b}z=>?_];simp_all[qu]
def zT:JQ r o=6↔∀p∈r,∃w,JE o p.1=!w/\p.2<=w:=by
 unfold JQ;rw[List.all_eq_true,];exact forall_congr' fun p=>forall_congr' fun _=>by unfold zb;cases JE o p.1<;>simp
theorem KE(e:JQ a b=6)(f:JQ b c=6):JQ a c=6:=by rw[zT]at*;intro p g;let(-w,h,i):=e p g;let(-v,j,l):=f _ (Q0 h);rw[(v,j,Int.le_trans i l)]
def Oe(e:jF a)(f:JQ a b=6)(g:JQ b a=6):∀p∈a,p∈b:=by rw[zT]at*;intro p c;let(-w,h,l):=f p c;let i:=Q0 h;let(-v,j,m):=g _ i;rw[e.look c]at j;grind
theorem Og(f:jF a)(g:jF b)(h:qS a)(i:qS b)(c:JQ a b=6)(e:JQ b a=6):a=b:=WR wG (G4 h) (G4 i) λp=>(Oe f c e p,Oe g e c p)
theorem G8:∀{a:J1},a ≠[]->(∀r∈a,jF r/\qS r)->∃m∈a,∀o∈a,JQ o m=6->o=m
|[],h,_=>Zn 9 h|x::a,_,ok=>by
 cases q:a=[];.ext
 .let(-m,b,c):=G8 q ();grind[Zqm,Zqs,KE,Og]
def vt:qC a m=6↔∀o∈a,JQ o m=6->o=m:=by grind[qC,List.isEmpty_iff,List.filter_eq_nil_iff]
def aA(j n:5):min (j:3) (n:3)=((min j n:5):3):=by lia
def G9(l:List α) (a:0<=k):QU l (!k) 8 8=l.drop k.toNat:=by
 let e:sliceBounds (!k) 8 8 ⇑l=%[((min k.toNat ⇑l:5):3),(⇑l:3)|1]:=by let(j,rfl):=VZ a;ext sliceBounds;simp only;rw[Ze (Int.not_lt.mpr a),aA];rw[9]
 ext QU;rw[e,sliceRange_one];let b:(λx:5=>l[x]?)=λx:5=>l.toArray[x]?:=by simp
 rw[b,pick_run _ _ _];cases c:k.toNat<=⇑l;.rw[Vo c,UG ()]
 .rw[Nat.min_eq_right (),Vm (Zf _),Vm ()];rw[List.take_nil]
def Oh{α:Type}{f:α->Bool}{l:List α} {p:α}(h:∀q∈l.take i,f q=7)(a:l[i]?=!p)(b:f p=6):l.find? f=!p:=by grind[List.take_append_drop,List.drop_eq_getElem_cons]
def Dl(h:qS r):jF r:=by grind[qS,jF,List.Nodup]
def iW(h:jF r) (b:p∈r)(c:q∈r)(e:p.1=q.1):p=q:=by cases(r)with|nil=>cases b|cons a r f=>grind[jF,List.map_cons,List.nodup_cons]
def Oi(a:p∈r):qQ hs p.1+p.2<=QX r hs:=(X2<|λz=>()).2 _ ()
def aq(a:r ≠[]):∃p∈r,QX r b=qQ b p.1+p.2:=qk (Ja.mp (X2<|λz=>a<|Jg.mp z).1) λp=>j4 λc e=>(p,c,e.symm)
def zlx(b:r ≠[]):QX r c<=x↔∀p∈r,qQ c p.1+p.2<=x:=by
 constructor;.intro h p a;rw[Int.le_trans (Oi a) h]
 .intro h;let(p,a,e):=aq b;rw[e,];rw[h p a]
def Xh(a:r∈f):JG f hs<=QX r hs:=(BU<|λz=>()).2 _ ()
def XT(a:f ≠[]):∃r∈f,JG f hs=QX r hs:=qk (Ja.mp (BU<|λz=>a<|Jg.mp z).1) λp=>j4 λb e=>(p,b,e.symm)
open L2.ST
theorem GA:∀{b a:Yf},a.Pairwise (·<·)->b.Pairwise (·<·)->(∀x∈a,x∈b)->⇑a<=⇑b/\(⇑a=⇑b->a=b)
|[],a,_,_,h=>by cases(a)with|nil=>simp|cons x a=>cases h x Zqs
|y::b,[],_,_,_=>by simp|y::b,x::a,hx,hy,h=>by
 rw[List.pairwise_cons]at hx hy;rcases UN.mp (h x Zqs)with q|q
 .let(!c,f):=GA hx.2 hy.2 λz e=>by grind
  ext
 .let(!c,_):=GA (Jj.mpr hx) hy.2 λz e=>by grind
  grind
theorem Oj:∀{a b:J0},a.map (·.1)=b.map (·.1)->(∀(i:5)p q,a[i]?=!p->b[i]?=!q->p.2<=q.2)->a≠b->jL a b=6
|[],[],_,_,h=>Zn 9 h|[],_::_,e,_,_=>by simp at e|_::_,[],e,_,_=>by simp at e|p::a,q::b,e,hw,hn=>by
 let g:=hw 0 p q 9 9;rw[W3,];cases z:p=q;.rw[Zd z,];rw[Oj (List.cons.inj e).2 (λi p q c f=>hw (i+1) p q c f) ()]
 grind[X3]
def a6(l:qS a)(e:qS b)(h:JQ a b=6)(m:a≠b):wg a b=6:=by
 let u:=zT.mp h;let(f,g):=GA l e λx n=>by let(-p,j,rfl):=Ja.mp n;let(-w,c,_):=u p j;rw[Ja.mpr (_,Q0 c,9)]
 rw[Zql,Zql]at f g;rw[ZG,];obtain q|q:=Nat.lt_or_eq_of_le f;.rw[.inl q]
 .rw[.inr (q,Oj (g q) (λi p r j o=>?_) m)];let(-w,c,s):=u p ();let t:p.1=r.1:=by let v:(a.map (·.1))[i]?=!p.1:=018;ext
  let:=iW (Dl e) (Ug o) (Q0 c) t.symm;rwa[this,]
def Bk(T:Tot c) (f:l.Nodup):(Ql c l).Pairwise λa b=>c a b=6:=by let e:(Ql c l).Nodup:=(QL l).nodup_iff.mpr f;rw[List.Pairwise.imp ?_<|(WQ T l).and e];rintro a b ⟨g,h⟩;induction q:c a b with|true=>rfl|false=>rw[Zn (T.tot _ _ q g) h]
def xo(a:J1):J1:=Ql wg<|Ql jL<|x9 a
theorem nc:r∈xo a↔r∈a:=by grind[xo,rG,QL]
def Ol(c:J1):(xo c).Pairwise λa b=>wg a b=6:=Bk k9<|(QL _).nodup_iff.mpr<|Nd _
def Om(a:J1):⇑(xo a)<=⇑a:=by ext xo;rw[(QL _).length_eq,(QL _).length_eq];rw[Nf _]
def wf(kept:J1)(r:J0):J1:=if kept.any (λo=>JQ o r)=6 then kept else kept++[r]
def xy(a:J1):J1:=(xo a).filter<|qC a
theorem Oo(n:∀r∈a,qS r):∀i,i<=⇑(xo a)->((xo a).take i).foldl wf []=((xo a).take i).filter (qC a)
|0,_=>by simp|i+1,J=>by
 let G:=Oo n i ();let s:=Ol a;let p:∀r,r∈xo _↔r∈a:=λr=>nc;generalize xo _=L at J G s p;let c:i<⇑L:=();rw[WM (Zqg c),VJ,List.filter_append,G];let t:∀o∈L.take i,wg o _=6:=λo e=>by let(j,u,rfl):=UM e;rw[Uy]at u;rw[List.getElem_take,];rw[Jl.mp s j i _ c ()]
 let v:=(p _).mp<|Uv c;show wf ((L.take i).filter<|qC _) _=_;ext wf;induction q:qC _ _ with
|true=>
let y:=vt.mp q;rw[Ze,List.filter_cons_of_pos q,List.filter_nil];intro z;let(-o,e,A):=VW.mp z;let e:=(Jf.mp e).1;let b:=t o e;rw[y o ((p o).mp<|List.mem_of_mem_take e) A]at b;let:=k9.asy _ _ b
ext|false=>
let N:¬ ∀o∈a,JQ o _=6->o=L[i]:=λz=>by rw[vt.mpr z]at q;cases q
let(o,e,A,hne):∃o∈a,JQ o L[i]=6/\o≠L[i]:=by rw[018]
let(-H,B,C):=G8 (λz=>by let:o∈a.filter λo=>JQ o _:=Jf.mpr (e,A);rw[z]at this;cases this) λr h=>(Dl<|n r (Jf.mp h).1,())
let(I,E):=Jf.mp B;let g:=vt.mpr λx M l=>C x (Jf.mpr (M,KE l E)) l;let m:H≠L[i]:=018
let f:H∈L.take i:=by
 let(j,u,F):=UM ((p _).mpr I);obtain w|w|w:=U8 j i;.rw[<-F,List.mem_take_iff_getElem];rw[018]
 .subst w;rw[Zn F.symm m]
 .let b:=Jl.mp s i j c u w;rw[F]at b;let:=k9.asy _ _ b;rw[a6 (n _ I) (n _ v) E m]at this;cases this
rw[Zd (VW.mpr (_,Jf.mpr (f,g),E)),List.filter_cons_of_neg (by rw[q,];simp),List.filter_nil,ZA]
def Op(c:J1):Ql jL (xy c)=Qi c:=by
 let f:(xy c).Nodup:=by
  let:(xo c).Nodup:=by rw[(Ol _).imp λ{a b}h e=>?_];let:=k9.asy _ _ h;ext
  rw[List.Pairwise.sublist List.filter_sublist this]
 rw[WR y9 (Bk y9 f) (Bk y9<|(Dk _ _ _).2.2 VI) λr=>?_];grind[xy,xK,nc,QL]
def zn2(a:s ≠[])(f:jF r)(h:JQ s r=6):QX s hs<=QX r hs:=by rw[zlx a,];intro p b;let(-w,c,e):=zT.mp h p b;let:=Oi (hs:=hs)<|Q0 c;grind
def ZW(ok:∀r∈b,jF r/\qS r) (f:r∈b):∃s∈Qi b,JQ s r=6:=by
 let l:=zT.mpr λp g=>(_,(ok r f).1.look g,UW _);let ne:b.filter (λo=>JQ o r)≠[]:=λz=>by ext
 let(-m,i,h):=G8 ne ();let(c,a):=Jf.mp i;rw[(m,xK.mpr (c,vt.mpr λo j e=>h o (Jf.mpr (j,KE e a)) e),a)]
def zmX(l:g ≠[])(ok:∀r∈g,r ≠[]/\jF r/\qS r):JG (Qi g) hs=JG g hs:=by let(-r,j,e):=XT (hs:=hs) l;let(-s,f,m):=ZW (λr h=>(ok r h).2) j;let a:=Xh (hs:=hs) f;let b:=zn2 (hs:=hs) (ok s (xK.mp f).1).1 (ok r j).2.1 m;let ne:Qi g ≠[]:=018;let(-n,i,o):=XT (hs:=hs) ne;let c:=Xh (hs:=hs) (xK.mp i).1;lia
def pO(h:⇑f+⇑g<=1000):j5 (jr f) (jr g)=!(jr<|f++g):=by show(if(f.map _).length+⇑(g.map _)<=00 then _ else _)=_;rw[Zql,Zql,Zd (Q8 h)];ext jr;simp
def WC(c):(Qi c).Pairwise λa b=>jL a b=6:=Bk y9<|(Dk _ _ _).2.2 VI
structure JRow(r:J0):4 where
ne:r ≠[]rise:qS r
bnd:∀p∈r,0<=p.1/\p.1<12
def JRow.once(h:JRow r):jF r:=Dl h.rise
def JRow.len(h:JRow r):⇑r<=12:=by
 let e:∀(l:List _)(a:3),l.Pairwise (·<·)->(∀x∈l,a<=x/\x<12)->⇑l<=max 0 (12-a):=by intro l;cases(l)with|nil=>simp;lia|cons x l f=>
intro a c i;rw[List.pairwise_cons]at c;let n:=i x Zqs;let:=f (x+1) c.2 ()
grind
 let:=e _ 0 h.rise λx j=>by let(-p,c,rfl):=Ja.mp j;rw[h.bnd p c]
 grind
def asc(x:Str):4:=x.cps.all (·<128)=6
def v0:asc x↔∀c∈x.cps.toList,c<128:=by ext asc;rw[<-V0,Uw];simp
theorem Q3(a b:Str):⇑(a++b)=⇑a+⇑b:=Array.size_append
def Qq(a b:Str):(a++b).cps.toList=a.cps.toList++b.cps.toList:=Array.toList_append
def Oq(f:asc a)(g:asc b):asc (a++b):=v0.mpr λc e=>by
 rw[Qq]at e;obtain h|h:=Jc.mp e;.rw[v0.mp f c h]
 .rw[v0.mp g c h]
structure TxtOk(n:5)(x:Str):4 where
len:⇑x<=n
asc:asc x
def TxtOk.app(c:TxtOk m a)(e:TxtOk n b):TxtOk (m+n) (a++b):=(by rw[Q3,];let:=c.len;let:=e.len;lia,Oq c.asc e.asc)
def TxtOk.mono(c:TxtOk m a)(h:m<=n):TxtOk n a:=(Zh c.len h,c.asc)
def z06(h:c<128):TxtOk 1 ⟨#[c]⟩:=(Zf _,v0.mpr λd a=>())
def Qx(h:(decide (⇑x<=n)&&x.cps.all (·<128))=6):TxtOk n x:=by rw[Uc]at h;rw[(of_decide_eq_true h.1,h.2)]
def GB(c:TxtOk m a)(e:TxtOk n b)(h:m+n<=1000):j5 (.str a) (.str b)=!(.str<|a++b):=Zd<|Q8<|by let:=c.len;let:=e.len;lia
def Dm(b:TxtOk n a)(h:n<=1000):jE [.str a]=! .int ⇑a:=Zd<|Q8<|by let:=b.len;lia
def Os(b:TxtOk n a)(h:n<=1000)(f:0<=k)(i:k<(⇑a:3)):∃c,jY (.str a) (.int k)=! .str ⟨#[c]⟩/\a.cps.toList[k.toNat]?=!c/\c<128:=by
 let g:k.toNat<⇑a.cps.toList:=by rw[Ue,];let:⇑a=a.cps.size:=9;lia
 rw[(_,?_,(),v0.mp b.asc _<|Uv g)];show(if ⇑a<=00 then(qO _ k).map _ else 8)=_;rw[Zd (Q8<|by let:=b.len;lia),];let e:qO a.cps.toList k=!a.cps.toList[k.toNat]:=by ext qO wH;rw[Zd f,Zd (by rwa[Ue,])];rw[()]
 rw[e,];rfl
def aT:∀k:Fin 64,Nat.ble (k.val:3).natAbs.log2 1900=6/\(decide (⇑(toString (k.val:3):Str)<=2)&&(toString (k.val:3):Str).cps.all (·<128))=6:=002
noncomputable def jT(k:5):Str:=(toString (k:3):Str)
def zn0:∀k:Fin 26,("abcdefghijklmnopqrstuvwxyz":Str).cps.toList[k.val]?=! 97+k.val:=002
def Dn{k:5}(h:k<64):yr [.int (k:3)]=!(.str<|jT k)/\TxtOk 2 (jT k):=by let(a,b):=aT (k,h);rw[(Zd a,Qx b)]
structure Pl where
name:Str
givens:Yi
rows:List (Str×Str×J0)
def jK(r:Str×Str×J0):D:=.tup [.str r.1,.str r.2.1,jA r.2.2]
def XU(p:Pl):D:=.tup [039,.lst (p.givens.map .str),.lst (p.rows.map jK)]
def JN(p:Pl):D:=.ins "Plan" 008 [039,.lst (p.givens.map .str),.lst (p.rows.map jK)]
def JJ(a:List Pl):D:=.ins "Book" ["plans"] [.lst (a.map JN)]
structure ItOk(ahead:3)(its:J0):4 where
rng:∀p∈its,0<=p.1/\p.1<ahead
far:∀p∈its,-1000000000000000000000000000000<p.2/\p.2<1000000000000000000000000000000
@[simp]def z09(a):j0 "Book" "plans" (JJ a)=!(.lst<|a.map JN):=rfl
@[simp]def b4(p):j0 "Plan" "name" (JN p)=! 039:=rfl
@[simp]def zxU(p):j0 "Plan" "givens" (JN p)=!(.lst<|p.givens.map .str):=rfl
@[simp]def bw(p):j0 "Plan" "rows" (JN p)=!(.lst<|p.rows.map jK):=rfl
def KF(h:asc x):plN (n+1) 036=6:=by show PyData.strOk x=6;ext PyData.strOk;rw[<-V0,Uw];rw[λc a=>Zp<|Uh (v0.mp h c a) ()]
def lZ{α:Type}{f:α->D}{l:List α}(h:plN 12 (.lst<|l.map f)=6):x6 (.lst<|l.map f) (.lst [])=! .bl l.isEmpty:=by rw[Cy h cP,zjN]
def Ww{x y:Str}(h:x.cps.toList=y.cps.toList):x=y:=by cases x;ext
@[simp]def nX(c)(a)(b)(e)(sd):Wq c a b e sd=(e sd).bind λds=>(b ds).bind λf=>.ok<|.ins c a f:=rfl
@[simp]def oE(i j k)(r)(sd):JX (.tup [i,j,k]) (jK r) sd=.ok (((sd.set i<|~~~.str r.1).set j<|~~~.str r.2.1).set k<|~~~jA r.2.2):=rfl
@[simp]def zzg(x):Qw 036=! .inr x:=rfl
noncomputable def dT(t:List (Str×3)):D:=.dct (t.map λp=>.inr p.1)<|t.map λp=>.int p.2
noncomputable def vw(t:List (Str×3))(x:Str):02 3:=(t.find? λp=>decide<|p.1=x).map (·.2)
def ay:(UB a:jI)=.inr b ↔a=b:=()
theorem Dp:∀(t:List (Str×3))(x:Str),jH (t.map λp=>.inr p.1) (t.map λp=>.int p.2) (.inr x)=(vw t x).map .int
|[],_=>9|p::t,x=>by
 rw[Zl,Zl];ext jH vw;rw[List.find?_cons,];cases h:p.1=x;.ext
 .rw[Ze λz=>h<|ay.mp z,Zo h];rw[Dp t x]
def pp(t:List (Str×3))(x:Str):yH (.inr x) (t.map λp=>.inr p.1)=t.any λp=>decide<|p.1=x:=by unfold yH;rw[List.any_map,];congr 1;funext p;exact decide_eq_decide.mpr ⟨Sum.inr.inj,fun z=>z▸rfl⟩
def gU(h:x∉t.map (·.1))(v:3):D.dct (KN (t.map λp=>.inr p.1)<|.inr x) (Um (t.map λp=>.inr p.1) (t.map λp=>.int p.2) (.inr x)<|.int v)=dT (t++[%[x|v]]):=by simp_all[KN,Um,dT,pp]
def l8:vw t x=8↔x∉t.map (·.1):=by grind[vw,Option.map_eq_none_iff,List.find?_eq_none]
noncomputable def uU(how:Str):Bool:=not<|decide (how="all")||decide (how=034)
def uV(c:5):Bool:=decide (97<=c)&&decide (c<123)
def vQ(c:5):Bool:=decide (48<=c)&&decide (c<58)
noncomputable def kept:Yi:=["plan","given","all",034,"part"]
def XV(x:Str):Bool:=decide (1<=⇑x)&&(decide (⇑x<=12)&&((kept.all λw=>not<|decide<|w=x)&&(uV (x.cps.toList.headD 0)&&x.cps.toList.all λc=>uV c||vQ c)))
def qU(x:Str):4:=TxtOk 12 x/\XV x=6
def wr(x:Str):Bool:=decide (⇑x<=12)&&x.cps.all (·<128)&&XV x
def ZX(h:wr x=6):qU x:=by unfold wr at h;rw[Uc]at h;rw[(Qx h.1,h.2)]
def GC{l:Yi}(h:l.all wr=6):∀x∈l,qU x:=λx a=>ZX<|Uw.mp h x a
def qU.ne(h:qU x):1<=⇑x/\x ≠"all"/\x ≠ 034:=by let h:=h.2;unfold XV at h;rw[Uc,Uc,Uc,decide_eq_true_eq]at h;let k:=Uw.mp h.2.2.1;let c:=k "all" 002;let e:=k 034 002;rw[(h.1,λz=>by rw[z]at c;simp at c,λz=>by rw[z]at e;simp at e)]
def yP(t g:J1):J1:=Qi<|t++g
@[simp]def zzP(a)(b)(sd)(c):Xd a b sd c=(b sd).bind λds=>a ds c:=rfl
def eK(g:xT):Out2->Res (D×HP)|.next sd a=>g sd a|_=>.no
@[simp]def Dq(a:yh)(g:xT)(sd:SD)(b:HP):zy a g sd b=(a sd b).bind (eK g):=by rfl
def GD(a)(d):jh [%[a|d]] a=!d:=Zd 9
def lQ(a)(d e):QD [%[a|d]] a e=[%[a|e]]:=Zd 9
def ie{n ar:5} (h:⇑ds=ar)(c:g (Qr n ds) [%[a|d]]=.ok %[v|[%[a|b]]]):KB n ar g ds [%[a|d]]=.ok %[v|[%[a|b]]]:=by simp_all[KB]
def kF(h:a sd=.ok (.next sd'))(c:b sd'=r):jg a b sd=r:=()
def n9(h:a sd e=.ok (.next sd' c))(f:b sd' c=r):zy a b sd e=r:=by rw[Dq,h];rw[f]
def Ot(h:g sd=.ok (.next a)):kG g sd b=.ok (.next a b):=()
def KR(a:asc x)(b:asc y):x6 036 (.str y)=!(.bl<|decide<|x=y):=by rw[Cy (KF a) (KF b),];simp_all[sameD]
def Xi:asc "all":=by ext asc;decide
def Xj:asc 034:=by ext asc;decide
def Ou:x6 (.str "all") (.str "all")=! .bl 6:=by rw[KR Xi Xi,];congr 2
def Ov:x6 (.str 034) (.str "all")=! .bl 7:=by rw[KR Xj Xi,];congr 2
def Ow:x6 (.str 034) (.str 034)=! .bl 6:=by rw[KR Xj Xj,];congr 2
def yi(a:Yf)(b:J0):Yf:=b.map λp=>qQ a p.1+p.2
def pA(h:a ≠[]):yi found a ≠[]:=λz=>h<|Jg.mp z
def lD(a)(b):⇑(yi a b)=⇑b:=by ext yi;simp
def au(h:∀p∈b,0<=p.1/\p.1<(⇑a:3)):jQ (.tup [0,1]) (ji j5 (ji jY (ja 2)<|013)<|014) [8,8,~~~(.lst<|a.map .int)] (b.map xB)=.ok ((yi a b).map .int):=by ext yi;rw[Zw,];rw[Q9 λp c=>by let:=NZ (h p c).1 (h p c).2;simp[this]]
def GE{α:Type}{f:α->D}(a:List α)(x:α):jY (.lst<|(a++[x]).map f) (.int<|-1)=! f x:=by
 show qO _ _=_;ext qO wH;rw[Ze (),Zd (by rw[Zql,Ua,Uj];lia)];let e:((-1:3)+⇑((a++[x]).map f)).toNat=⇑a:=by rw[Zql,Ua,Uj];lia
 ext
def GF{α:Type}{l:List α}(h:l ≠[]):∃a x,l=a++[x]:=(_,_,(List.dropLast_concat_getLast h).symm)
def iN(x:Str):Str.empty++x=x:=Ww<|by rw[Qq,];rfl
def Ox(x:Str){k:5}(h:k<64):yI x (.int (k:3))=!(.str<|x++jT k):=by let e:yI x (.int k)=!(.str<|Str.empty++x++jT k):=Zd<|Js.mpr ();rw[e,iN]
def yY(k:5)(x:J0):Str×Str×J0:=%["r"++jT k,"all"|x]
noncomputable def yZ(many n:5):Str×Str×J0:=%["end",034|(List.range n).map λk:5=>%[(many:3)+k|0]]
def vu(a:Str)(many:5)(f:J1):Pl:=(a,(List.range many).map λk=>"g"++jT k,((List.range ⇑f).map λk:5=>yY k<|f.getD k [])++[yZ many ⇑f])
def Oy(f:J1):KQ 0 (f.map jA)=(List.range ⇑f).map λk:5=>D.tup [.int k,jA (f.getD k [])]:=by
 apply Va;intro i;rw[CD,Zv,Zv];obtain z|z:=UO i _;.rw[Zqg z,VL z];show some _=! D.tup _;rw[Ui,Zqg];rfl
 .rw[UA z,UA (by rwa[ZB,])];rfl
def zjB(a:Str)(many:5)(f:J1):(vu a many f).rows.length=⇑f+1:=by grind[vu,List.length_append,Zql,List.length_range]
def ak(h:(vu a many f).rows[i]?=!r):(∃x,f[i]?=!x/\r=yY i x)\/i=⇑f/\r=yZ many ⇑f:=by
 let h:((List.range _).map _++[yZ _ _])[i]?=!r:=h;obtain z|z:=UO i _
 .rw[UV (by rwa[Zql,ZB]),Zv,VL z]at h;left;rw[(_,Zqg z,?_)];let e:f.getD i []=f[i]:=by rw[Ui,Zqg];rfl
  injection h with h;rw[<-h];show yY i _=_;rw[e,]
 .rw[UI (by rwa[Zql,ZB]),Zql,ZB]at h;right;rcases Vr (i-⇑f)with y|y;.rw[y]at h;injection h with h;rw[()]
  .rw[UA (by rw[Uj,];lia)]at h;cases h
variable {V:Nat}
def sq2(h:a sd f=.ok (.next c e))(g:b c e=r):Bb a b sd f=r:=()
def fR(h:c sd a=.ok 6)(e:b sd a=r):zY c b f sd a=r:=by rwa[zY,h]
def fS(h:c sd a=.ok 7)(e:b sd a=r):zY c f b sd a=r:=by rwa[zY,h]
def dD:Pl:=("",[],[])
abbrev Rw:=Str×Str×J0
structure RwP(V:5)(ps:List Pl)(n:3)(r:Rw):4 where
nm:asc r.1
how:r.2.1="all"\/r.2.1=034\/∃q∈ps,r.2.1=q.name/\⇑r.2.2=⇑q.givens
ne:r.2.2 ≠[]sh:⇑r.2.2<=24
rng:∀p∈r.2.2,0<=p.1/\p.1<n
wt:∀p∈r.2.2,-(V:3)<=p.2/\p.2<=V
structure PlP(V:5)(ps:List Pl)(p:Pl):4 where
g1:1<=⇑p.givens
g2:⇑p.givens<=04
r1:1<=⇑p.rows
r2:⇑p.rows<=26
row:∀(k:5)r,p.rows[k]?=!r->RwP V ps ((⇑p.givens:3)+k) r
structure BkP(V:5)(ps:List Pl):4 where
len:⇑ps<=04
nm:∀(i:5)p,ps[i]?=!p->asc p.name/\p.name ≠"all"/\p.name ≠ 034
inj:∀(i j:5)p q,ps[i]?=!p->ps[j]?=!q->p.name=q.name->i=j
ok:∀(i:5)p,ps[i]?=!p->PlP V (ps.take i) p
def BkP.at(B:BkP V c) {p:Pl}(h:c[i]?=!p):i<⇑c/\i<04/\asc p.name/\p.name ≠"all"/\p.name ≠ 034:=by let e:=(Jd.mp h).1;let l:=B.len;rw[(e,(),B.nm i p h)]
theorem BkP.find(B:BkP V l){i:5} (h:l[i]?=!p):l.find? λq=>decide<|q.name=p.name=!p:=by rw[Oh (i:=i) (λq n=>?_) h<|Zp 9];let(j,c):=Jk.mp n;let f:=(Jd.mp c).1;rw[Uy]at f;rw[V1 ()]at c;rw[Zo λe=>?_];let:=B.inj j i q p c h e;lia
def ya(rc:Str->List 3->3)(a:Yf)(r:Rw):3:=if r.2.1="all"then xx (yi a r.2.2)else if r.2.1=034 then yp (yi a r.2.2)else rc r.2.1 (yi a r.2.2)
def qs(rc:Str->List 3->3)(a:List Rw)(b:Yf):Yf:=a.foldl (λf r=>f++[ya rc f r]) b
def xm(a:List Pl):5->Pl->List 3->List 3|0,_,_=>[]|n+1,p,b=>qs (λx c=>(xm a n ((a.find? λq=>decide<|q.name=x).getD dD) c).getLastD 0) p.rows b
def Oz{a:List Rw} (h:a[i]?=!r):qs rc (a.take<|i+1) b=qs rc (a.take i) b++[ya rc (qs rc (a.take i) b) r]:=by simp_all[qs,Vn]
theorem GG(rc):∀a b,⇑(qs rc a b)=⇑b+⇑a|[],b=>9|r::a,b=>by show(qs _ _<|b++[ya _ _ r]).length=_;rw[GG,Ua,Uj,Zu];lia
def ii:⇑(xm ps (n+1) p hs)=⇑hs+⇑p.rows:=GG _ _ _
def oy(P:PlP V c p):∃b,xm ps (n+1) p hs=b++[(xm ps (n+1) p hs).getLastD 0]:=by
 let ne:xm _ _ p _ ≠[]:=λz=>by let a:=ii (ps:=ps) (n:=n) (p:=p) (hs:=hs);rw[z]at a;let f:=P.r1;let a:0=⇑hs+⇑p.rows:=a;lia
 let(b x,e):=GF ne;rw[(_,by rw[e,VM])]
def PlP.at(P:PlP V l p) (n:⇑c=⇑p.givens){i:5}{r:Rw}(h:p.rows[i]?=!r):(∀y∈r.2.2,0<=y.1/\y.1<(⇑(qs rc (p.rows.take i) c):3))/\⇑(qs rc (p.rows.take i) c)=⇑p.givens+i/\i<⇑p.rows:=by
 let f:=(Jd.mp h).1;let e:⇑(qs rc (p.rows.take i) c)=⇑p.givens+i:=by rw[GG,Uy];lia
 rw[(λy j=>?_,e,f)];let:=(P.row i r h).rng y j;rw[e,];lia
def gV(P:PlP V a p)(b:∀q∈a,asc q.name)(n:5):plN (n+06) (.lst<|p.rows.map jK)=6:=by
 show(p.rows.map _).all _=6;rw[Uw,];intro x c;let(-r,e,rfl):=Ja.mp c;let(k,f):=Jk.mp e;let R:=P.row k r f;let g:asc r.2.1:=by
  obtain z|z|⟨q,z1,z2,_⟩:=R.how;.rw[z,];rw[Xi]
  .rw[z,];rw[Xj]
  .rw[z2,];rw[b q z1]
 show[D.str _,D.str _,jA _].all _=6;rw[Us,Us,Us,KF R.nm,KF g,Oc];rfl
def BkP.snoc(B:BkP V c)(l:⇑c<04)(P:PlP V c p)(o:asc p.name/\p.name ≠"all"/\p.name ≠ 034)(n:∀q∈c,q.name≠p.name):BkP V (c++[p]):=by
 let f:∀(i:5)q,(c++[p])[i]?=!q->i<⇑c/\c[i]?=!q\/i=⇑c/\q=p:=λi q h=>by
  obtain z|z:=UO i _;.rw[UV z]at h;rw[.inl (z,h)]
  .rw[UI z]at h;rcases Vr (i-⇑c)with y|y;.rw[y]at h;cases h;rw[.inr ((),9)]
   .rw[UA (by rw[Uj,];lia)]at h;cases h
 rw[(by rw[Ua,Uj];lia,λi q h=>?_,λi j q r h s e=>?_,λi q h=>?_)]
 .rcases f i q h with ⟨_,z⟩|⟨rfl,rfl⟩;.rw[B.nm i q z]
  .rw[o]
 .rcases f i q h with ⟨_,z⟩|⟨rfl,rfl⟩<;>obtain⟨_,y⟩|⟨rfl,rfl⟩:=f j r s;.rw[B.inj i j q r z y e]
  .rw[Zn e<|n q<|Ug z]
  .rw[Zn e.symm<|n r<|Ug y]
  .rfl
 .rcases f i q h with ⟨y,z⟩|⟨rfl,rfl⟩;.rw[List.take_append_of_le_length (),];rw[B.ok i q z]
  .rwa[List.take_append_of_le_length (Zf _),Vv]
def O0:BkP V []:=(Ub _,(by intro i p h;cases h),(by intro i j p q h;cases h),by intro i p h;cases h)
def BkP.ascs(B:BkP V c):∀q∈c,asc q.name:=λq e=>by let(i,f):=Jk.mp e;rw[(B.at f).2.2.1]
def xJ(a:List Pl)(n:5)(x:Str)(b:Yf):3:=(xm a n ((a.find? λq=>decide<|q.name=x).getD dD) b).getLastD 0
def GH(a)(n)(p)(b):xm a (n+1) p b=qs (xJ a n) p.rows b:=rfl
theorem BkP.how(B:BkP V f){i:5} (l:f[i]?=!p){k:5}{r:Rw}(n:p.rows[k]?=!r):r.2.1="all"\/r.2.1=034\/asc r.2.1/\r.2.1 ≠"all"/\r.2.1 ≠ 034/\∃j q,j<i/\f[j]?=!q/\r.2.1=q.name/\⇑r.2.2=⇑q.givens:=by
 rcases((B.ok i p l).row k r n).how with z|z|⟨q,z1,z2,z3⟩;.rw[.inl z]
 .rw[.inr<|.inl z]
 .let(j,c):=Jk.mp z1;let e:=(Jd.mp c).1;rw[Uy]at e;rw[V1 ()]at c;let(!_,_,o,s,u):=B.at c;rw[.inr<|.inr (by rw[z2,];rw[o],by rw[z2,];rw[s],by rw[z2,];rw[u],j,q,(),c,z2,z3)]
def BkP.part(B:BkP V ps){j n:5} (i:ps[j]?=!q)(c:Yf):∃f,xm ps (n+1) q c=f++[xJ ps (n+1) q.name c]:=by let(f,e):=oy (ps:=ps) (n:=n) (hs:=c) (B.ok j q i);rw[(f,?_)];ext xJ;rw[B.find i,];rw[e]
def dN:Yi:=["plan","given","all",034,"part"]
def aM(x:Str)(a:Yi):(a.map D.str).any (λe=>sameD e<|036)=decide (x∈a):=by
 cases h:x∈a;.rw[Zp h,];rw[VW.mpr (_,Ja.mpr (x,h,9),Wm _)]
 grind[nh]
def O1{xs:Yi}(a:asc x)(h:∀y∈xs,asc y):xQ neg 036 (.tup<|xs.map D.str)=!(.bl<|if neg then not<|decide<|x∈xs else decide (x∈xs)):=by
 let b:plN 12 _=6:=KF a;let c:(xs.map _).all (plN 12)=6:=Uw.mpr λd e=>by let(-x,a,rfl):=Ja.mp e;rw[KF<|h x a]
 show(if plN _ _&&(xs.map _).all _ then ! D.bl _ else 8)=_;rw[b,c,aM];rfl
def GI(a:Tg)(b:FS)(c:YC):Out->Res Out|.next sd=>xb a b c sd|.cont sd=>xb a b c sd|.brk sd=>.ok (.next sd)|.ret d=>.ok (.ret d)
def O2(a:Tg)(b:FS)(x:D)(c:YC)(sd:SD):xb a b (x::c) sd=((JX a x sd).bind b).bind (GI a b c):=by show((JX _ x _).bind b).bind _=_;rw[Zt _<|funext λo=>by cases(o)<;>rfl]
@[simp]def mD(a b c:D)(sd:SD):JX (.tup [0,1,2]) (.tup [a,b,c]) sd=.ok (((sd.set 0<|~~~a).set 1<|~~~b).set 2<|~~~c):=rfl
noncomputable def jZ(n:3):Str:=Str.ofString<|toString n
def zU(x:Str)(w:3):Str:=if w=0 then x else if 0<w then x++"+"++jZ w else x++jZ w
noncomputable def qh(a:Yi)(k:3):Str:=a.getD k.toNat Str.empty
def zG(b:Yi)(a:J0):Str:=Txt.join ", "<|a.map λp=>zU (qh b p.1) p.2
noncomputable def yV(how:Str):Str:=if how="all"\/how=034 then how else"part "++how
def yb(a:Yi)(r:Str×Str×J0):Str:=" "++r.1++" "++yV r.2.1++" "++zG a r.2.2
def Ks(p:Pl):Yi:=[("plan ":Str)++p.name]++p.givens.map (λg=>(" given ":Str)++g)++p.rows.map (yb<|p.givens++p.rows.map (·.1))
def KS(a:Str):(Str.empty:Str)++a=a:=Ww<|by rw[Qq,];rfl
def zF(h:⇑(a++x)<=1000000):qV x r a sd=r (a++x) sd:=Zd<|Zh h<|002
def vx(b:c sd=.ok d)(e:g d=!z)(h:⇑(a++z)<=1000000):yc g c r a sd=r (a++z) sd:=by
 ext yc;rw[b,];show(match g d with|some z=>if ⇑z<=00/\⇑(a++z)<=00 then r _ _ else .no|none=>.no)=_;let f:⇑z<=⇑(a++z):=by rw[Q3,];lia
 let i:1000000<=00:=002;grind
def wh(h:⇑a<=1000000):xh a sd=.ok (.str a):=Zd<|Zh h<|002
def ad(a:-1000000000000000000000000000000<n)(b:n<1000000000000000000000000000000):n.natAbs.log2<100:=by
 cases z:n.natAbs=0;.rw[z,];decide
 .rw[Nat.log2_lt z,];lia
def Xk(a b c:Str):a++b++c=a++(b++c):=Ww<|by simp only[Qq,Uf]
def Bl(m:5):(jZ (m:3)).cps.toList=(Nat.toDigits 10 m).map Char.toNat:=by let:=PyProof.Rows.text_ofNat m;ext jZ;rw[show m=Int.ofNat m from 9,this]
def GJ(m:5):jZ (-((m+1:5):3))=("-":Str)++jZ ((m+1:5):3):=by let e:toString (-(m+1:3))="-"++Nat.repr _:=9;let a:toString (m+1:3)=Nat.repr _:=9;ext jZ;rw[Ww ?_];simp_all[Qq,PySem.Str.ofString_eq_toList]
def GK(g:-1000000000000000000000000000000<n)(i:n<1000000000000000000000000000000):TxtOk 31 (jZ n):=(by ext jZ;rw[PySem.ofString_length,];rw[int_text_length_le10 () ()],by
let a:∀m:5,asc (jZ m):=λm=>v0.mpr λc e=>by
 rw[Bl]at e;let(-f,b,rfl):=Ja.mp e;let:=Nat.isDigit_of_mem_toDigits 004 004 b;let j:f.toNat<=57:=by unfold Char.isDigit at this;simp at this;rw[this.2]
 lia
cases h:0<=n
.let(m,rfl):=VZ h;rw[a m]
.let(m,rfl):∃m:5,n=-(m+1:5):=((-n-1).toNat,());rw[GJ,];rw[Oq (by ext asc;decide)<|a _])
def O3(a:TxtOk 12 x)(b:-1000000000000000000000000000000<w)(c:w<1000000000000000000000000000000):TxtOk 44 (zU x w):=by
 ext zU;split;.rw[a.mono ()]
 .split;.rw[((a.app (n:=1)<|Qx<|002).app<|GK b c).mono ()]
  .rw[(a.app<|GK b c).mono ()]
def Xl(a x y:Str)(r:Yi):Txt.join a (x::y::r)=x++a++Txt.join a (y::r):=by ext Txt.join;rw[StrLaws.glued_eq_join,StrLaws.glued_eq_join];rfl
def Xm(a x:Str):Txt.join a [x]=x:=by ext Txt.join;rw[StrLaws.glued_eq_join,];rfl
def il(a:Str):Txt.join a []=Str.empty:=by ext Txt.join;rw[StrLaws.glued_eq_join,];rfl
theorem Bm(c:TxtOk m a):∀{b:Yi}{k:5},(∀x∈b,TxtOk n x)->⇑b<=k->TxtOk (k*(n+m)) (Txt.join a b)|[],k,_,_=>by rw[il,];rw[(Ub _,by ext asc;decide)]|[x],k,h,hl=>by rw[(h x Zqs).mono ?_];let:1*(n+m)<=k*(n+m):=Nat.mul_le_mul_right _ (by simpa using hl);lia|x::y::r,k,h,hl=>by rw[Xl,];cases(k)with|zero=>simp at hl|succ k=>
let:=Bm c (λz e=>h z<|Zqm _ e) (by simpa using hl);rw[(((h x Zqs).app c).app this).mono ?_]
grind
def GL(e:⇑a<=m)(h:∀x∈b,⇑x<=n)(c:⇑b<=k)(f:k*n+k*m<=16777216):JoinOk a b=6:=by ext JoinOk;rw[Bool.not_eq_true',];rw[StrLaws.joinFits h ?_];let g:⇑b*n<=k*n:=Nat.mul_le_mul_right _ c;let i:=VN c e;lia
def GM(h:JoinOk sep a=6):ZT sep (.lst<|a.map .str)=!(.str<|Txt.join sep a):=by show(ZS _).bind _=_;rw[NR,];rw[Zd h]
def O4(c:TxtOk m a)(e:TxtOk n b)(h:m+n<=1000000):j5 (.str a) (.str b)=!(.str<|a++b):=Zd<|Zh (show ⇑a+⇑b<=1000000 by let:=c.len;let:=e.len;lia)<|002
structure PlT(p:Pl):4 where
nm:TxtOk 12 p.name
gs:∀g∈p.givens,TxtOk 12 g
gl:⇑p.givens<=12
rl:⇑p.rows<=32
rs:∀r∈p.rows,TxtOk 12 r.1/\TxtOk 12 r.2.1/\⇑r.2.2<=44/\∀i∈r.2.2,0<=i.1/\i.1<((⇑p.givens+⇑p.rows:5):3)/\-1000000000000000000000000000000<i.2/\i.2<1000000000000000000000000000000
def yj(p:Pl):Yi:=p.givens++p.rows.map (·.1)
def PlT.th(h:PlT p):∀x∈yj p,TxtOk 12 x:=λx c=>by
 obtain z|z:=Jc.mp c;.rw[h.gs x z]
 .let(-r,e,rfl):=Ja.mp z;rw[(h.rs r e).1]
def GN(p:Pl):⇑(yj p)=⇑p.givens+⇑p.rows:=by ext yj;rw[Ua,Zql]
def GO(b:0<=k)(c:k<(⇑a:3)):jY (.lst<|a.map .str) (.int k)=!(.str<|qh a k)/\qh a k∈a:=by
 let(j,rfl):∃j:5,k=j:=(k.toNat,());let f:j<⇑a:=();let e:qh a j=a[j]:=by ext qh;rw[Vu,Ui,Zqg];rfl
 rw[e,];rw[(?_,Uv _)];show qO _ j=_;rw[XS (by rwa[Zql,]),Zv,Zqg];rfl
def O5(h:TxtOk 12 x):TxtOk 17 (yV x):=by
 ext yV;split;.rw[h.mono ()]
 .rw[((Qx (n:=05) (x:="part ")<|002).app h).mono ()]
def O6(g:∀x∈c,TxtOk 12 x)(q:⇑b<=44)(h:∀i∈b,0<=i.1/\i.1<(⇑c:3)/\-1000000000000000000000000000000<i.2/\i.2<1000000000000000000000000000000):(∀y∈b.map λp=>zU (qh c p.1) p.2,TxtOk 44 y)/\TxtOk 2024 (zG c b)/\JoinOk ", " (b.map λp=>zU (qh c p.1) p.2)=6:=by
 let a:∀y∈b.map λp=>zU (qh c p.1) p.2,TxtOk _ y:=λy e=>by let(-p,j,rfl):=Ja.mp e;let(!l,m,n,o):=h p j;rw[O3 (g _ (GO l m).2) n o]
 let f:TxtOk 2 ", ":=Qx 002;rw[(a,(Bm f a (k:=44) ()).mono (),GL (k:=44) f.len (λy e=>(a y e).len) () ())]
def k8:TxtOk 1 (" ":Str):=Qx<|002
def O7(h:PlT p):(∀y∈Ks p,TxtOk 2056 y)/\⇑(Ks p)<=45:=by
 rw[(λy hy=>?_,?_)]
 .rcases Jc.mp hy with hy|hy
  .rcases Jc.mp hy with hy|hy;.rw[Jb.mp hy,];rw[((Qx (n:=05)<|002).app h.nm).mono ()]
   .let(-g,e,rfl):=Ja.mp hy;rw[((Qx (n:=07)<|002).app<|h.gs g e).mono ()]
  .let(-r,f,rfl):=Ja.mp hy;let(!a,b,c,d):=h.rs r f;rw[(((((k8.app a).app k8).app<|O5 b).app k8).app<|(O6 h.th c<|λi j=>by rw[GN,];rw[d i j]).2.1).mono ()]
 .ext Ks;rw[Ua,Ua,Zql,Zql,Uj];let:=h.gl;let:=h.rl;lia
noncomputable def adrs(b:List (Addr×Addr×Addr)):Yj:=b.flatMap λa=>[a.1,a.2.1,a.2.2]
def GP(a:HP)(n:5)(x:Str):dr a n 036=036:=by cases n<;>rfl
def aH{α:Type}{f:α->D} (h:∀x,g (f x)=f x)(l:List α):(l.map f).map g=l.map f:=by rw[Zw,];rw[UJ λx b=>h x]
def O8(a:HP)(n:5)(r:Yi):dr a n (.lst<|r.map .str)=.lst (r.map .str):=by cases n with|zero=>rfl|succ n=>show D.lst _=_;rw[aH (GP _ n),]
def cO(l:List α)(x:α):qO (l++[x]) (-1)=!x:=by ext qO wH;rw[Ze (),Zd (by rw[Ua,Uj];lia),Ua,Uj,show((-1:3)+(⇑l+1:5)).toNat=⇑l by lia];simp
def nU(n:5)(r:J0):XN (n+2) (jA r)=6:=by show(r.map _).all _=6;rw[Vw,Uw];rw[λx b=>by show[D.int _,D.int _].all _=6;simp]
def GQ{n ar:5} (f:⇑ds=ar)(e:(g (Qr n ds) c).bind xM=.ok %[d|b])(k:∀a,jh c a≠8->jh b a≠8):yB n ar g ds c=.ok %[d|b]:=by
 ext yB;rw[Zd f,e];show(if _ then _ else _)=_;rw[Zd,];rw[Uw.mpr λz h=>?_];let i:jh c z.1≠8:=by rw[Ne,wF];rw[λw=>w<|Ja.mpr (z,h,9)]
 let:=k _ i;induction w:jh b _ with|none=>rw[Zn w this]|some d=>rfl
def Xn:YC->Res YC:=zZ 2 2<|J2 (jp Kf<|J2 014 jb) jb
def Bn:xH:=xf (vA "Draft" "name" (vL<|013)<|vL<|014)<|xf (vA "Draft" "givens" (vL<|013)<|wS yW)<|xf (vA "Draft" "rows" (vL<|013)<|wS yW) XP
def GR:YC->HP->Wr (D×HP):=yB 2 2 Bn
def Xo:YC->Res YC:=zZ 04 04<|J2 014<|J2 (jp Kf<|016)<|J2 (jp Kf<|J2 033 jb) jb
def Bo:FS:=jg (qj (JB<|ji uX 014<|jp jE<|037) (jy<|ji jY 013<|014) JM)<|jy<|040
def Xp:YC->Res D:=jD 2 2 Bo
def O9(a:Yf)(k:5):Xp [.scr a,.int k]=.ok (.int<|XR a k):=by
 ext XR;cases h:k<⇑a
 .let e:qO a k=!a[k]:=by rw[XS h,];simp
  simp_all[Xp,Bo]
 .simp[Xp,Bo,h]
def Ds:FS:=jg (jv 2<|ji qa (ji yd (ji j5 (ji qa 013<|dC<|.int 2147483647)<|014)<|dC<|.int 48271)<|dC<|.int 2147483647)<|jy<|ji qa (ji yd (ja 2)<|ja 2)<|dC<|.int 2147483629
def We:YC->Res D:=jD 03 2 Ds
@[simp]def dW(c s:3):We [.int c,.int s]=.ok (.int<|jU c s):=by let a:Uk (c%2147483647+s) 48271=6:=C7 () ();let b:Uk ((c%2147483647+s)*48271%2147483647) ((c%2147483647+s)*48271%2147483647)=6:=C7 () ();simp[We,Ds,AQ a,AQ b,jU]
def ZY:FS:=jg (jv 2<|J7 We<|J2 013<|J2 014 jb)<|jg (qj (JB<|ji u5 (ji qa (ja 2)<|dC<|.int 04)<|040) (jy<|ji zJ (ji qa (ji QQ (ja 2)<|dC<|.int 04)<|dC<|.int 05)<|dC<|.int 2) JM)<|jg (jv 03<|ji qa (ji yd (ji QQ 013<|dC<|.int 07)<|ji j5 014<|dC<|.int 2)<|ji ze (dC<|.int 10)<|dC<|.int 20)<|jg (qj (JB<|ji x6 (ji qa (ji QQ (ja 2)<|dC<|.int 20)<|dC<|.int 2)<|040) (jy<|033) JM)<|jy<|jO xP<|033
def XX:YC->Res D:=jD 04 2 ZY
def bG(c:3) (g:-1000000<=s)(h:s<=1000000):∃w:3,XX [.int c,.int s]=.ok (.int w)/\-100000000000000000000<=w/\w<=100000000000000000000:=by
 let b:=AQ<|C7 (i:=c/07) (j:=s+2) () ();let e:ze (.int 10) (.int 20)=!_:=9;generalize c/07*(s+2)=y at*;cases a:0<jU c s%04;.rw[(jU c s/04%05-2,by simp[XX,ZY,a],(),())]
 .cases f:jU c s/20%2=0;.rw[(y%100000000000000000000,by simp[XX,ZY,a,f,b,e],(),())]
  .rw[(-(y%100000000000000000000),by simp[XX,ZY,a,f,b,e],(),())]
def Dt:FS:=jg (qr 04<|qy jb)<|jg (jP (zx<|J2 (ji j5 026<|ji qa (J7 We<|J2 (ji jY 013<|ji qa 014<|jp jE<|037)<|J2 (ji j5 (dC<|.int 31)<|014) jb)<|dC<|.int 04) jb) (.one 05)<|jg (jv 06<|ji qa (ji j5 (ji j5 014<|ji yd (dC<|.int 03)<|ja 05)<|026)<|jp jE<|037)<|jg (jv 07<|ji j5 (ji j5 (ji QQ (ji jY 013<|ja 06)<|ji j5 (ja 05)<|026)<|ji yd (dC<|.int 05)<|ja 05)<|014)<|jg (jv 08<|J7 We<|J2 (ja 07)<|J2 (dC<|.int 37) jb)<|jg (jv 09<|ji jY (qy<|J2 (dC<|.str "all")<|J2 (dC<|.str 034) jb)<|ji qa (ja 08)<|dC<|.int 2)<|jg (jv 10<|ji j5 026<|ji qa (ji QQ (ja 08)<|dC<|.int 2)<|dC<|.int 03)<|jg (qj (KJ (JB<|ji xV 033<|qy jb)<|JB<|ji x6 (ji qa (ji QQ (ja 08)<|dC<|.int 06)<|dC<|.int 03)<|040) (jg (jv 09<|ji jY 033<|ji qa (ji QQ (ja 08)<|dC<|.int 18)<|jp jE<|J2 033 jb)<|jv 10<|ja 2) JM)<|jg (qr 11<|qy jb)<|jg (jP (zx<|J2 (ja 10) jb) (.one 12)<|jg (jv 13<|ji qa (J7 We<|J2 (ja 07)<|J2 (ji j5 (dC<|.int 41)<|ja 12) jb)<|ji j5 (ja 2)<|ja 05)<|Ke 11<|qg<|J2 (ja 13)<|J2 (J7 XX<|J2 (ji QQ (ja 07)<|ji j5 (ja 12)<|026)<|J2 (ji j5 (dC<|.int 53)<|ja 12) jb) jb)<|λsd=>(Ke 04<|qg<|J2 (ji j5 (dC<|.str "r")<|jp yr<|J2 (ja 05) jb)<|J2 (ja 09)<|J2 (jp W9<|J2 (ja 11) jb) jb)<|qF [11] sd)<|Kr 04
def Bp:YC->Res D:=qd 14 04 Dt
def nG:FS:=jg (jv 13<|ji qa (J7 We<|J2 (ja 07)<|J2 (ji j5 (dC<|.int 41)<|ja 12) jb)<|ji j5 (ja 2)<|ja 05)<|Ke 11<|qg<|J2 (ja 13)<|J2 (J7 XX<|J2 (ji QQ (ja 07)<|ji j5 (ja 12)<|026)<|J2 (ji j5 (dC<|.int 53)<|ja 12) jb) jb
def sU:FS:=jg (qr 11<|qy jb)<|jg (jP (zx<|J2 (ja 10) jb) (.one 12) nG)<|λsd=>(Ke 04<|qg<|J2 (ji j5 (dC<|.str "r")<|jp yr<|J2 (ja 05) jb)<|J2 (ja 09)<|J2 (jp W9<|J2 (ja 11) jb) jb)<|qF [11] sd
def vO:FS:=qj (KJ (JB<|ji xV 033<|qy jb)<|JB<|ji x6 (ji qa (ji QQ (ja 08)<|dC<|.int 06)<|dC<|.int 03)<|040) (jg (jv 09<|ji jY 033<|ji qa (ji QQ (ja 08)<|dC<|.int 18)<|jp jE<|J2 033 jb)<|jv 10<|ja 2) JM
def nH:FS:=jg (jv 06<|ji qa (ji j5 (ji j5 014<|ji yd (dC<|.int 03)<|ja 05)<|026)<|jp jE<|037)<|jg (jv 07<|ji j5 (ji j5 (ji QQ (ji jY 013<|ja 06)<|ji j5 (ja 05)<|026)<|ji yd (dC<|.int 05)<|ja 05)<|014)<|jg (jv 08<|J7 We<|J2 (ja 07)<|J2 (dC<|.int 37) jb)<|jg (jv 09<|ji jY (qy<|J2 (dC<|.str "all")<|J2 (dC<|.str 034) jb)<|ji qa (ja 08)<|dC<|.int 2)<|jg (jv 10<|ji j5 026<|ji qa (ji QQ (ja 08)<|dC<|.int 2)<|dC<|.int 03)<|jg vO sU
def fE:Dt=(jg (qr 04<|qy jb)<|jg (jP (zx<|J2 (ji j5 026<|ji qa (J7 We<|J2 (ji jY 013<|ji qa 014<|jp jE<|037)<|J2 (ji j5 (dC<|.int 31)<|014) jb)<|dC<|.int 04) jb) (.one 05) nH)<|Kr 04):=rfl
def OA{a:Yf}(h:1<=⇑a)(x:3):∃(k:3)(c:3),qa (.int x) (.int (⇑a:5))=! .int k/\qO (a.map D.int) k=! .int c:=(_,_,Fx (),NZ (Int.emod_nonneg x<|show(⇑a:3)≠0 by lia)<|Int.emod_lt_of_pos x<|show(0:3)<⇑a by lia)
def ai{pool:Yf}{a g k n:5}(Z:1<=g)(G:g<=04)(hk:k<08)(hn:n<=10)(y:D)(how:Str)(h:YC)(la:⇑h<=100)(c:3)(r t B u v:02 SV):∃(f:J0)(l o:02 SV),⇑f=n/\(∀p∈f,(0<=p.1/\p.1<(g:3)+k)/\-100000000000000000000<=p.2/\p.2<=100000000000000000000)/\sU [~~~(.lst<|pool.map .int),~~~.int a,~~~.int g,~~~y,!(.own 7<|.lst h),~~~.int k,r,~~~.int c,t,~~~.str how,~~~.int n,B,u,v]=.ok (.next [~~~(.lst<|pool.map .int),~~~.int a,~~~.int g,~~~y,!(.own 7<|.lst<|h++[jK %["r"++jT k,how|f]]),~~~.int k,r,~~~.int c,t,~~~.str how,~~~.int n,~~~(.lst<|f.map xB),l,o]):=by
 let H:KO [.int (n:5)]=.ok (Qm 0 n):=by rw[WB () (),];rfl
 generalize pool.map D.int=PL;let(-I,e,(f,l,o,C,A,ok)):=Ko (tg:=.one 12) (b:=nG) (ds:=Qm 0 n) (sd:=[~~~.lst PL,~~~.int a,~~~.int g,~~~y,!(.own 7<|.lst h),~~~.int k,r,~~~.int c,t,~~~.str how,~~~.int n,!(.own 7<|.lst []),u,v]) (P:=λi sd=>∃(f:J0)(l o:02 SV),sd=[~~~.lst PL,~~~.int a,~~~.int g,~~~y,!(.own 7<|.lst h),~~~.int k,r,~~~_,t,~~~.str _,~~~_,!(.own _<|.lst<|f.map xB),l,o]/\⇑f=i/\∀p∈f,(0<=p.1/\p.1<g+k)/\-100000000000000000000<=p.2/\p.2<=100000000000000000000) (je [] _ _ (9,9,λp E=>nomatch E)) (by
rintro i x sd J ⟨f,l,o,rfl,A,ok⟩;let(!rfl,hi):=C9 J;rw[Int.zero_add,];let L:=Fx (i:=jU c<|41+i) (j:=g+k) ();let M:=Mc (i:=c) (j:=i+1) () ();let(-w,N,O,Q):=bG (c/(i+1)) (s:=53+i) () ();let R:=Int.emod_nonneg (jU c<|41+i) (show(g:3)+k≠0 by lia);let S:=Int.emod_lt_of_pos (jU c<|41+i) (show(0:3)<g+k by lia);generalize jU c (41+i)%(g+k)=m at*;generalize c/(i+1)=q at*;let F:=JT<|show ⇑f<=1000 from();rw[([~~~.lst _,~~~_,~~~_,~~~_,!(.own _<|.lst _),~~~_,r,~~~_,t,~~~.str _,~~~_,!(.own _<|.lst<|(f++[%[m|w]]).map _),~~~.int i,~~~.int m],?_,_,_,_,9,by rw[Ua,A];rfl,λp E=>?_)]
.rw[Ud,];ext nG;simp[L,M,N,F,xB]
.rcases Jc.mp E with z|z;.rw[ok p z]
 .rw[Jb.mp z,];rw[((R,S),O,Q)]);subst C;rw[Wo]at A;rw[je _ l o (A,ok,?_)];let(!T,U):=Dn (k:=k) ();let X:=GB (Qx (n:=1) (x:="r")<|002) U ();let Y:jK %["r"++jT k,how|f]=.tup [.str ("r"++jT k),.str how,.tup (f.map _)]:=9;let F:=JT<|show ⇑h<=1000 from();rw[Y,];ext sU;generalize nG=b at*;simp[H,e,T,X,F]
def bC{pool:Yf}(G:1<=⇑pool){a g:5}(ha:a<=10)(hg:1<=g)(N:g<=04) (hq:∀q∈ps,asc q.name/\⇑q.givens=g):∃f:List Rw,Bp [.lst (pool.map .int),.int a,.int g,.lst (ps.map λq=>.str q.name)]=.ok (.lst<|f.map jK)/\1<=⇑f/\⇑f<=04/\∀(k:5)r,f[k]?=!r->RwP 100000000000000000000 ps ((g:3)+k) r:=by
 let gl:jE [.lst (pool.map D.int)]=! .int (⇑pool:5):=by rw[Fy,Zql]
 let(k0 c0,gm0,a0):=OA G (a:3);let(n,en):∃n:5,1+jU c0 (31+(a:3))%04=(n:3):=((1+jU c0 (31+(a:3))%04).toNat,());let r1:KO [.int (n:5)]=.ok (Qm 0 n):=by rw[WB () (),];rfl
 let v:xV (.lst<|ps.map λq=>.str q.name) (.lst [])=!(.bl<|not ps.isEmpty):=by
  let pn:plN 12 (.lst<|ps.map λq=>D.str q.name)=6:=by show(ps.map λq=>D.str q.name).all (plN 11)=6;rw[Uw,];intro x O;let(-q,Q,rfl):=Ja.mp O;exact KF (hq q Q).1
  rw[AI pn 9,];induction ps with|nil=>show some (D.bl<|not<|sameD (.lst [])<|.lst [])=_;rw[Wm,];rfl|cons q r=>rw[(v3.mpr λz=>by cases z),];rfl
 let(-sd',e,(f,H,I,F,C,w,u,o,s,t,R,S,ok)):=Ko (tg:=.one 05) (b:=nH) (ds:=Qm 0 n) (sd:=[~~~(.lst<|pool.map .int),~~~.int a,~~~.int g,~~~(.lst<|ps.map λq=>.str q.name),!(.own 7<|.lst []),8,8,8,8,8,8,8,8,8]) (P:=λi sd=>∃(f:List Rw)(H I F C w u o s t:02 SV),sd=[~~~(.lst<|pool.map .int),~~~.int a,~~~.int g,~~~(.lst<|ps.map λq=>.str q.name),!(.own 7<|.lst<|f.map jK),H,I,F,C,w,u,o,s,t]/\⇑f=i/\∀(k:5)r,f[k]?=!r->RwP 100000000000000000000 ps ((g:3)+k) r) (wc [] 8 8 8 8 8 8 (8,8,8,9,9,λk r h=>nomatch h)) (by
rintro i x sd O ⟨f,H,I,F,C,w,u,o,s,t,rfl,S,ok⟩;let(rfl,hi):=C9 O;rw[Int.zero_add,];let m3:yd (.int 03) (.int (i:3))=!(.int<|03*(i:3)):=9;let m5:yd (.int 05) (.int (i:3))=!(.int<|05*(i:3)):=9;let(A T,U,a1):=OA G ((a:3)+03*(i:3)+1);let gf:=Mc (i:=T) (j:=(i:3)+1) () ();let(c,ec):∃c,c=T/((i:3)+1)+05*(i:3)+a:=(_,9);generalize T/((i:3)+1)=q1 at*;let(E,b0,hh):∃E:Str,qO [D.str "all",.str 034] (jU c 37%2)=! .str E/\(E="all"\/E=034):=by
 let:jU c 37%2=0\/jU c 37%2=1:=();obtain e|e:=this;.exact("all",by rw[e,];rfl,006)
 .exact(034,by rw[e,];rfl,.inr 9)
let(J,en0):∃J:5,1+jU c 37/2%03=(J:3):=((1+jU c 37/2%03).toNat,());let nm:asc ("r"++jT i):=by let(_,dt):=Dn (k:=i) ();exact((Qx (n:=1) (x:="r")<|002).app dt).asc
let L:∀(how:Str)(m:5),m<=10->1<=m->(how="all"\/how=034\/∃q∈ps,how=q.name/\m=⇑q.givens)->vO [~~~(.lst<|pool.map .int),~~~.int a,~~~.int g,~~~(.lst<|ps.map λq=>.str q.name),!(.own 7<|.lst<|f.map jK),~~~.int i,~~~.int A,~~~.int c,~~~(.int<|jU c 37),~~~.str E,~~~.int J,o,s,t]=.ok (.next [~~~(.lst<|pool.map .int),~~~.int a,~~~.int g,~~~(.lst<|ps.map λq=>.str q.name),!(.own 7<|.lst<|f.map jK),~~~.int i,~~~.int A,~~~.int c,~~~(.int<|jU c 37),~~~.str how,~~~.int m,o,s,t])->∃sd',(JX (.one 05) (.int (i:3)) [~~~(.lst<|pool.map .int),~~~.int a,~~~.int g,~~~(.lst<|ps.map λq=>.str q.name),!(.own 7<|.lst<|f.map jK),H,I,F,C,w,u,o,s,t]).bind nH=.ok (.next sd')/\∃(f:List Rw)(H I F C w u o s t:02 SV),sd'=[~~~(.lst<|pool.map .int),~~~.int a,~~~.int g,~~~(.lst<|ps.map λq=>.str q.name),!(.own 7<|.lst<|f.map jK),H,I,F,C,w,u,o,s,t]/\⇑f=i+1/\∀(k:5)r,f[k]?=!r->RwP 100000000000000000000 ps ((g:3)+k) r:=λhow m hm h1 hw X=>by
 let(B Y Z,l,M,tl):=ai (pool:=pool) (a:=a) hg N (k:=i) (n:=m) () hm (.lst<|ps.map λq=>.str q.name) how (f.map jK) (by rw[Zql,];lia) c (~~~.int A) (~~~(.int<|jU c 37)) o s t;refine(_,?_,f++[%["r"++jT i,how|B]],~~~.int i,~~~.int A,~~~.int c,~~~(.int<|jU c 37),~~~.str how,~~~.int m,~~~(.lst<|B.map xB),Y,Z,9,by rw[Ua,S];rfl,λk r h=>?_);.rw[iJ,Res.bind_ok,Ud,List.map_singleton];let tl:=tl;generalize hPD:(ps.map λq=>D.str q.name)=PD at*;generalize f.map jK=rd at*;generalize pool.map D.int=PL at*;unfold nH;calc kF (sd':=[~~~.lst PL,~~~.int a,~~~.int g,~~~.lst PD,!(.own 7<|.lst rd),~~~.int i,~~~.int A,F,C,w,u,o,s,t]) (by simp[m3,gl,U]) ?_;calc kF (sd':=[~~~.lst PL,~~~.int a,~~~.int g,~~~.lst PD,!(.own 7<|.lst rd),~~~.int i,~~~.int A,~~~.int c,C,w,u,o,s,t]) (by simp[a1,gf,m5,<-ec]) ?_;calc kF (sd':=[~~~.lst PL,~~~.int a,~~~.int g,~~~.lst PD,!(.own 7<|.lst rd),~~~.int i,~~~.int A,~~~.int c,~~~(.int<|jU c 37),w,u,o,s,t]) () ?_;refine kF (sd':=[~~~.lst PL,~~~.int a,~~~.int g,~~~.lst PD,!(.own 7<|.lst rd),~~~.int i,~~~.int A,~~~.int c,~~~(.int<|jU c 37),~~~.str E,u,o,s,t]) (by simp[b0]) ?_;calc kF (sd':=[~~~.lst PL,~~~.int a,~~~.int g,~~~.lst PD,!(.own 7<|.lst rd),~~~.int i,~~~.int A,~~~.int c,~~~(.int<|jU c 37),~~~.str E,~~~.int J,o,s,t]) (by simp[en0]) ?_;exact kF X tl
 .rcases UO k ⇑f with z|z;.rw[UV z]at h;exact ok k r h
  .rw[UI z]at h;let z0:k-⇑f=0:=by
    rcases Vr (k-⇑f)with y|y;.exact y
    .rw[UA (by rw[Uj,];lia)]at h;cases h
   rw[z0]at h;cases h;rw[show k=i by lia,];refine(nm,?_,λz=>?_,by show ⇑B<=24;lia,λp G=>(M p G).1,λp G=>(M p G).2)
   .rcases hw with y|y|⟨q,y1,y2,y3⟩;.exact .inl y
    .exact .inr<|.inl y
    .exact .inr<|.inr (q,y1,y2,l.trans y3)
   .let z:B=[]:=z;rw[z]at l;let l:0=m:=l;lia
let gl3:jE [.lst (ps.map λq=>D.str q.name)]=! .int (⇑ps:5):=by rw[Fy,Zql]
by_cases cc:ps=[]\/jU c 37/06%03≠0
.calc L E J () () (hh.elim .inl λz=>.inr<|.inl z) ?_;unfold vO;obtain z|z:=cc;.subst z;let g0:xV (.lst []) (.lst [])=! .bl 7:=v;simp[g0]
 .generalize(ps.map λq=>D.str q.name)=PD at*;induction ps.isEmpty<;>simp[v,z]
.let pn:1<=⇑ps:=Jp.mpr λz=>cc<|.inl z;let(q,hqm,k2,gm2,a2):∃q∈ps,∃k:3,qa (.int<|jU c 37/18) (.int (⇑ps:5))=! .int k/\qO (ps.map λq=>D.str q.name) k=! .str q.name:=by let m0:=Int.emod_nonneg (jU c 37/18) (show(⇑ps:3)≠0 by lia);let m1:=Int.emod_lt_of_pos (jU c 37/18) (show(0:3)<⇑ps by lia);let(j,hj):∃j:5,jU c 37/18%⇑ps=j:=((jU c 37/18%⇑ps).toNat,());let jl:j<⇑ps:=();calc(ps[j],Uv jl,j,by rw[Fx (),hj],?_);rw[XS (by rw[Zql,];calc jl),Zv,Zqg jl];rfl
 let c3:jU c _/06%03=0:=Decidable.byContradiction λz=>cc<|.inr z;calc L _ g () hg (.inr<|.inr (q,hqm,9,(hq q hqm).2.symm)) ?_;let ne:ps.isEmpty=7:=by induction ps with|nil=>cases hqm|cons _ _=>rfl
 rw[ne]at v;generalize(ps.map λq=>D.str _)=PD at*;unfold vO;simp[v,c3,gl3,gm2,a2]);subst R;rw[Wo]at S;refine(_,?_,(),(),ok);simp_all[Bp,fE]
def Du:FS:=jg (jv 03<|jp C0<|J2 (ja 2)<|J2 (jp XC<|J2 040<|J2 (ji zJ (jp jE<|037)<|014) jb) jb)<|jy<|Qc [8,!0,!1,!2] (zx<|J2 033 jb) 031<|jp zI<|J2 (kb 014 (V9<|ji j5 (ja 2)<|013) KP<|V9<|033) jb
def Dv:YC->Res D:=qd 04 03 Du
def zjt(h:⇑b<=63) (g:0<=a)(j:a<=100)(l:1<=most)(n:most<=60):∃e:Yf,(⇑e:3)<=most/\Dv [.scr b,.int a,.int most]=.ok (.lst<|e.map .int):=by
 let(m,hm,em):∃m:5,m<=most/\(if(if a<⇑b then ⇑b-a else 0)<most then if a<⇑b then ⇑b-a else 0 else most)=m:=by rw[((if(if a<⇑b then ⇑b-a else 0)<most then if a<⇑b then ⇑b-a else 0 else most).toNat,?_,?_)]<;>(lia)<;>lia
 let o:KO [.int m]=.ok (Qm 0 m):=by rw[WB () (),Vu]
 let f:jQ 031 (jp zI<|J2 (kb 014 (V9<|ji j5 (ja 2)<|013) KP<|V9<|033) jb) [8,~~~.scr b,~~~.int a,~~~.int most] (Qm 0 m)=.ok ((List.range m).map λk:5=>.int (QU b (! a+k) 8<|!most).sum):=Z8 λi p=>by simp[pP (c:=most) ()]
 rw[((List.range m).map λk:5=>(QU b (! a+k) 8<|!most).sum,(),?_)];let q:=JT<|show m<=1000 from();simp_all[Dv,Du,Wo]
def Bq:FS:=jg (jv 2<|J7 Dv<|J2 013<|J2 014<|J2 (dC<|035) jb)<|jg (qj (JB<|ji x6 (ja 2)<|qy jb) (jy<|qy<|J2 (jp jE<|037) jb) JM)<|jy<|ja 2
def Br:YC->Res D:=jD 03 2 Bq
def bD(h:⇑g<=63):∃b:Yf,Br [.scr g,.int 1]=.ok (.lst<|b.map .int)/\1<=⇑b/\⇑b<=24:=by let(-f,j,i):=zjt h (a:=1) (most:=24) () () () ();let e:=lZ<|pX f;induction c:f.isEmpty with|true=>rw[c]at e;rw[([⇑g],by simp[Br,Bq,i,e],(),())]|false=>
rw[c]at e;rw[(f,by simp[Br,Bq,i,e],?_,())]
grind
def Dw:FS:=jg (jv 1<|J7 Br<|J2 013<|J2 026 jb)<|jg (jv 2<|ji j5 026<|ji qa (J7 Xp<|J2 013<|J2 040 jb)<|dC<|.int 04)<|jg (jv 03<|Qc [8] (zx<|016) 031<|ji j5 (dC<|.str "g")<|jp yr<|037)<|jg (qr 04<|qy jb)<|jg (jP (zx<|J2 (dC<|.int 03) jb) (.one 05)<|jg (jv 06<|Qc [8] (zx<|J2 (ja 05) jb) 031<|ji j5 (dC<|.str "a")<|jp yr<|037)<|Ke 04<|Wq "Plan" 008 Xo<|J2 (ji j5 (dC<|.str "a")<|jp yr<|J2 (ja 05) jb)<|J2 033<|J2 (J7 Bp<|J2 014<|J2 (ja 05)<|J2 (ja 2)<|J2 (ja 06) jb) jb)<|λsd=>(jy<|Wq "Book" ["plans"] Xn<|J2 (ja 04) jb)<|qF [04] sd
def Bt:YC->Res D:=qd 07 1 Dw
structure BkT(ps:List Pl)(g:5):4 where
bk:BkP 100000000000000000000 ps
nm:∀(i:5)p,ps[i]?=!p->p.name="a"++jT i/\⇑p.givens=g
def tW:∀i:Fin 03,wr (("a":Str)++jT i.1)=6/\(("a":Str)++jT i.1).cps.toList≠("all":Str).cps.toList/\(("a":Str)++jT i.1).cps.toList≠(034:Str).cps.toList/\∀k:Fin 03,k.1<i.1->(("a":Str)++jT k.1).cps.toList≠(("a":Str)++jT i.1).cps.toList:=002
def bB(h:⇑t<=63):∃(ps:List Pl)(g:5),Bt [.scr t]=.ok (JJ ps)/\BkT ps g/\⇑ps=03/\1<=g/\g<=04:=by
 let N:Xp [.scr t,.int 0]=.ok (.int<|XR t 0):=O9 t 0;generalize XR t 0=c at N;let(-o,S,U,p2):=bD h;let(g,eg):∃g:5,1+c%04=(g:3):=((1+c%04).toNat,());let B:1<=g/\g<=04:=();let C:∀n:5,n<=60->KO [.int (n:5)]=.ok (Qm 0 n):=λn X=>by rw[WB () (),];rfl
 let Y:=C g ();let Z:KO [.int 03]=.ok (Qm 0 03):=C 03 ();let z1:=JT<|show g<=1000 from();let(s,egs):∃s:Yi,s=(List.range g).map λk=>"g"++jT k:=(_,9);let O:⇑s=g:=by rw[egs,Zql,ZB]
 let v:∀(x:Str)(n:5),TxtOk 1 x->n<=60->jQ 031 (ji j5 (dC<|036)<|jp yr<|037) [8] (Qm 0 n)=.ok (((List.range n).map λk=>x++jT k).map .str):=λx n E X=>by rw[Zw,];rw[Z8 λk u=>by let(F,G):=Dn (k:=k) ();let H:=GB E G ();simp[F,H]]
 let Q:=v "g" g (Qx<|002) ();rw[<-egs]at Q;let mp:∀(x:Str)(l r:YC),Xo [036,.lst l,.lst r]=.ok [036,.lst l,.lst r]:=λ_ _ _=>9;let(-sd',e,(ps,I,J,L,T,y)):=Ko (tg:=.one 05) (b:=jg (jv 06<|Qc [8] (zx<|J2 (ja 05) jb) 031<|ji j5 (dC<|.str "a")<|jp yr<|037)<|Ke 04<|Wq "Plan" 008 Xo<|J2 (ji j5 (dC<|.str "a")<|jp yr<|J2 (ja 05) jb)<|J2 033<|J2 (J7 Bp<|J2 014<|J2 (ja 05)<|J2 (ja 2)<|J2 (ja 06) jb) jb) (ds:=Qm 0 03) (sd:=[~~~.scr t,~~~(.lst<|o.map .int),~~~.int g,~~~(.lst<|s.map .str),!(.own 7<|.lst []),8,8]) (P:=λi sd=>∃(ps:List Pl)(I J:02 SV),sd=[~~~.scr t,~~~(.lst<|o.map .int),~~~.int g,~~~(.lst<|s.map .str),!(.own 7<|.lst<|ps.map JN),I,J]/\BkT ps g/\⇑ps=i) ([],8,8,9,(O0,()),9) (by
rintro i x sd E ⟨ps,I,J,rfl,T,y⟩;let(!rfl,hi):=C9 E;rw[Int.zero_add,];let M:(ps.map λq=>D.str q.name)=((List.range i).map λk=>("a":Str)++jT k).map .str:=by
 apply Va;intro k;rw[Zw,Zv,Zv];obtain z|z:=UO k i;.rw[Zqg (),VL z];show some (D.str ps[k].name)=_;rw[(T.nm k _ ()).1,];rfl
 .rw[UA (),UA (by rw[ZB,];lia)];rfl
let(!n1,n2,n3,n4):=tW (i,hi);let(-f,m,b1,b2,R):=bC U (a:=i) (g:=g) (ps:=ps) () B.1 B.2 λq A=>by let(k,u):=Jk.mp A;rw[(T.bk.ascs q A,(T.nm k q u).2)]
rw[M]at m;let k6:=v "a" i (Qx<|002) ();let(F,G):=Dn (k:=i) ();let H:=GB (Qx (n:=1) (x:="a")<|002) G ();let r2:=C i ();let z2:=JT<|show i<=1000 from();let z3:=JT (show(ps.map JN).length<=1000 by rw[Zql,];lia);rw[([~~~.scr t,~~~(.lst<|o.map .int),~~~.int g,~~~(.lst<|s.map .str),!(.own 7<|.lst<|(ps++[((("a":Str)++jT i,s,f):Pl)]).map JN),~~~.int i,!(.val<|.lst<|((List.range i).map λk=>("a":Str)++jT k).map .str)],?_,ps++[((("a":Str)++jT i,s,f):Pl)],_,_,9,(T.bk.snoc () (by show 1<=⇑s;lia,by show ⇑s<=04;lia,b1,by show ⇑f<=26;lia,λk r u=>by show RwP 100000000000000000000 _ ((⇑s:3)+k) r;rw[O,];rw[R k r u]) ((ZX n1).1.asc,λz=>n2<|Zt (λx:Str=>x.cps.toList) z,λz=>n3<|Zt (λx:Str=>x.cps.toList) z) λq A z=>?_,λj p w=>?_),by rw[Ua,y];rfl)]
.rw[Ud,List.map_singleton];let pe:JN (("a":Str)++jT i,s,f)=.ins "Plan" 008 [.str ("a"++jT i),.lst (s.map .str),.lst (f.map jK)]:=9;rw[pe,];generalize ps.map JN=pd at*;generalize o.map D.int=PL at*;generalize s.map D.str=gd at*;generalize f.map jK=rd at*;generalize((List.range i).map λk=>("a":Str)++jT k).map D.str=nd at*;simp[r2,k6,Wo,z2,F,H,m,mp,z3]
.let(k,u):=Jk.mp A;let kl:=(Jd.mp u).1;rw[(T.nm k q u).1]at z;rw[n4 (k,()) (by show k<i;lia)<|Zt (λx:Str=>x.cps.toList) z]
.rcases UO j ⇑ps with z|z;.rw[UV z]at w;rw[T.nm j p w]
 .let jl:=(Jd.mp w).1;rw[Ua,Uj]at jl;rw[UI z,show j-⇑ps=0 by lia]at w;cases w;rw[(by show("a":Str)++jT i=_;rw[show j=i by lia,],O)]);subst L;rw[Wo]at y;rw[(ps,g,?_,T,y,B)];let eb:JJ _=.ins _ _ [.lst (ps.map _)]:=9;let mb:∀l:YC,Xn [.lst l]=.ok [.lst l]:=λb=>9;rw[eb,];generalize ps.map _=pd at*;generalize o.map D.int=PL at*;generalize s.map D.str=gd at*;simp[Bt,Dw,S,N,eg,Y,Wo,z1,Q,Z,e,mb]
def ku:FS:=jg (jP (iS<|013) (.tup [2,03])<|qj (z7 (JB<|ji (xQ 6) (ja 2)<|014)<|JB<|ji u5 033<|ji jY 014<|ja 2) (jy<|dC<|.bl 7) JM)<|jy<|dC<|.bl 6
def ky:YC->Res D:=jD 04 2 ku
def tH(e:jF o):ky [jA r,zz o]=.ok (.bl<|JQ r o):=by
 rw[CA (R:=λz=>(z.bind<|yk<|jy<|dC<|.bl _).bind yC=.ok (.bl _)) (P:=λi sd=>(∃u v,sd=[~~~_,~~~_,u,v])/\JQ (r.take i) o=6) (qE _ _ 9,9) ?_ ?_];.simp
 .rintro i x sd f ⟨⟨u,v,rfl⟩,hu⟩;let(p,b,rfl):=Kg f;let a:=C8 e p.1;induction q:JE o _ with
|none=>
rw[q]at a;let z:zb o p=7:=by ext zb;rw[q,]
rw[IG b z,];rw[.inr<|.inr (.bl 7,by simp[zz,a],())]|some w=>
rw[q]at a;cases c:w<p.2
.let z:zb o p=7:=by ext zb;rw[018]
 rw[IG b z,];rw[.inr<|.inr (.bl 7,by simp[zz,a,c],())]
.let z:zb o p=6:=by ext zb;rw[018]
 rw[.inl ([!_,!_,~~~.int p.1,~~~.int p.2],.inl<|by simp[zz,a,c],qE _ _ 9,by
rw[WM b,]
simp_all[JQ])]
def uq:FS:=jg (jv 2<|jp WZ<|037)<|jg (jP (iS<|014) (.one 03)<|qj (JB<|J7 ky<|J2 033<|016) (jy<|dC<|.bl 6) JM)<|jy<|dC<|.bl 7
def xG:YC->Res D:=jD 04 2 uq
def bN(a:jF r)(c:⇑r<=100):xG [jA r,jr ks]=.ok (.bl<|ks.any λo=>JQ o r):=by
 simp[xG,uq,Fz c a];rw[CA (R:=λz=>(z.bind<|yk<|jy _).bind _=.ok _) (P:=λi sd=>(∃u,sd=[~~~jA r,~~~jr ks,~~~zz r,u])/\∀o∈ks.take i,JQ o r=7) () ?_ ?_];.simp
 .rintro i x sd f ⟨⟨u,rfl⟩,hu⟩;let(-o,g,rfl):=Kg f;let b:=tH (r:=o) a;induction q:JQ o r with
|true=>
let e:ks.any (λo=>JQ o r)=6:=018
ext|false=>
rw[q]at b;rw[.inl ([!_,!_,!_,~~~jA o],.inl<|by simp[b],(_,9),λy h=>?_)];rw[WM g]at h
grind
def uu:FS:=jg (qr 2<|jp WZ<|037)<|jg (jP (iS<|014) (.tup [03,04])<|XE 2 033<|jp XC<|J2 (ja 04)<|J2 (zl [2]<|Z5 (ja 2) 033<|ja 04) jb)<|λsd=>(jy<|jp W9<|J2 (LS<|ja 2) jb)<|qF [2] sd
def wA:YC->Res D:=jD 05 2 uu
def QY(r o:J0):J0:=Ql qu<|Kl r o
def tG(c:r ≠[])(or:jF r)(f:jF o)(y:⇑r<=20)(lo:⇑o<=20):wA [jA r,jA o]=.ok (jA<|QY r o):=by let g:WZ [.tup (r.map _)]=!_:=Fz () or;simp[wA,uu,g,jA];generalize h:XE 2 _ _=b;let(-j,e,(u,v,a)):=Ko (tg:=.tup [03,04]) (b:=b) (ds:=o.map xB) (sd:=[~~~(.tup<|r.map xB),~~~(.tup<|o.map xB),!(.own 7<|zz r),8,8]) (P:=λi sd=>∃u v,sd=[~~~(.tup<|r.map _),~~~(.tup<|o.map _),!(.own _<|zz<|Kl r<|o.take i),u,v]) (qE _ _ 9) (by
rintro i x sd l ⟨u,v,rfl⟩;let(-p,m,rfl):=Kg l;let n:Kl r (o.take<|i+1)=X5 (Kl r<|o.take i) p:=by rw[WM m,];ext Kl;rw[VJ,];rfl
let q:=ET (o.take i) r;let z:⇑(o.take i)<=⇑o:=by rw[Uy,];lia
let s:=JT (show(Kl r<|o.take i).length<=1000 by lia);let t:=C8 (Cm (o.take i) r or) p.1;subst h;let w:X5 (Kl r<|o.take i) p=qP _ _ (if(JE _ _).getD _>p.2 then(JE _ _).getD _ else p.2):=9;rw[n,w,<-pR _ _<|if(JE _ _).getD _>p.2 then(JE _ _).getD _ else p.2];simp[zz,t,s]);rw[e,];subst a;let q:=ET o r;simp[zgI (Lw c f) (),QY]
def Dx:FS:=jg (qr 2<|ji AZ (WA [8,!1] (iS<|013) 031 (JB<|J7 xG<|J2 013<|J2 014 jb)<|013)<|WA [8,!0] (iS<|014) 031 (JB<|J7 xG<|J2 013<|J2 014 jb)<|013)<|jg (jv 03<|WA [8,!0] (iS<|014) 031 (QP<|JB<|J7 xG<|J2 013<|J2 014 jb)<|013)<|jg (jP (iS<|013) (.one 04)<|qj (QP<|JB<|J7 xG<|J2 (ja 04)<|J2 014 jb) (XA 2<|Qc [8,!04] (iS<|033) 031<|J7 wA<|J2 014<|037) JM)<|Kr 2
def Bu:YC->Res D:=qd 05 2 Dx
def XY(f g:J1):J1:=f.flatMap λr=>g.map<|QY r
def v4:q∈XY f g↔∃r∈f,∃o∈g,QY r o=q:=by simp_all[XY]
def oh(f g:J1):⇑(XY f g)=⇑f*⇑g:=by ext XY;cases(f)with|nil=>simp|cons r f a=>grind
def iY(c:jF a)(p:b.Perm a)(t:3):JE b t=JE a t:=by induction h:JE a t with|some w=>rw[(Lx<|((p.map _).nodup_iff).mpr c).mp<|p.mem_iff.mpr<|Q0 h]|none=>induction h2:JE b t with|none=>rfl|some w=>
let:=(Lx c).mp<|p.mem_iff.mp<|Q0 h2
ext
def Dy(or:jF r)(a:jF o)(t:3):JE (QY r o) t=jw (JE r t) (JE o t):=by rw[<-Ck t o r a];rw[iY (Cm o r or) (QL _) t]
theorem ZZ(a:JRow r)(b:JRow o):JRow (QY r o):=by
 let e:=Cm o r a.once;rw[(λz=>(Lw a.ne b.once) ?_,?_,λp f=>?_)];.let:=(QL (ltb:=qu)<|Kl r o).length_eq;grind[QY,List.length_nil]
 .ext qS QY;let g:(Ql qu<|Kl r o).Pairwise λx y=>x.1≠y.1:=by grind[jF,List.Nodup,List.pairwise_map,QL]
  rw[U9,];rw[(List.Pairwise.and (ziI e) g).imp λ{x y}h=>?_];grind[X3]
 .let c:=e.look<|(QL _).mem_iff.mp f;rw[Ck _ o r b.once]at c;induction q1:JE r _ with|some w=>rw[a.bnd %[p.1|w]<|Q0 q1]|none=>induction q2:JE o _ with|some w=>rw[b.bnd %[p.1|w]<|Q0 q2]|none=>rw[q1,q2]at c;cases c
def OB(a:JRow r)(b:JRow o):JQ r (QY r o)=6:=by rw[zT,];intro p c;rw[Dy a.once b.once,a.once.look c];cases(JE o _)with|none=>rw[(_,9,UW _)]|some y=>rw[(_,9,by split<;>lia)]
def OC(b:JRow r)(a:JRow o):JQ o (QY r o)=6:=by rw[zT,];intro p c;rw[Dy b.once a.once,a.once.look c];cases(JE r _)with|none=>rw[(_,9,UW _)]|some y=>rw[(_,9,by split<;>lia)]
def GS(h:JRow r)(i:JRow o)(f:JQ r q=6)(g:JQ o q=6):JQ (QY r o) q=6:=by rw[zT]at f g ⊢;intro p j;let c:=(ZZ h i).once.look j;rw[Dy h.once i.once]at c;induction q1:JE r _ with|none=>rw[q1]at c;rw[g p<|Q0 c]|some x=>induction q2:JE o _ with|none=>rw[q1,q2]at c;cases c;rw[f _<|Q0 q1]|some y=>
rw[q1,q2]at c;let(w,m,a):=f _ (Q0 q1);let(n,l,b):=g _ (Q0 q2);let e:=Zqi c
grind
def qb(g:J1)(r:J0):Bool:=g.any λo=>JQ o r
def dj:qb g r=6↔∃o∈g,JQ o r=6:=VW
def Kx(f g:J1)(l:J1):J1:=(l.filter λr=>not<|qb g r).flatMap λr=>(g.filter λo=>not<|qb f o).map<|QY r
def WD(f g:J1):J1:=f.filter (qb g)++g.filter (qb f)++Kx f g f
def OD(f g l:J1):⇑(Kx f g l)=⇑(l.filter λr=>not<|qb g r)*⇑(g.filter λo=>not<|qb f o):=by ext Kx;generalize l.filter _=a;cases(a)with|nil=>simp|cons r a b=>grind
theorem Dz{α:Type}(p:α->Bool):∀l:List α,⇑(l.filter p)+⇑(l.filter λx=>not<|p x)=⇑l|[]=>9|x::l=>by let:=Dz p l;grind
def OE(a:∀r∈f,JRow r)(b:∀r∈g,JRow r):∀q∈WD f g,JRow q:=λq hq=>by
 obtain hq|hq:=Jc.mp hq;.grind
 .let(-r,c,hq):=List.mem_flatMap.mp hq;grind[ZZ]
def mf(l:∀r∈f,JRow r)(t:∀r∈g,JRow r)(G:⇑f+⇑g+⇑f*⇑g<=1000):Bu [jr f,jr g]=.ok (jr<|WD f g):=by
 let m:∀(u:J1)(r:J0),JRow r->xG [jA r,jr u]=.ok (.bl<|qb u r):=λu r h=>bN h.once (by let:=h.len;lia);let B:V8 031 (JB<|J7 xG<|J2 013<|J2 014 jb) 013 [8,~~~jr g] (f.map jA)=.ok ((f.filter<|qb g).map jA):=CB (s:=λr=>[~~~jA r,~~~jr g]) (λr b=>9) λr j=>by simp[m g r (l r j)] ();let m2:V8 031 (JB<|J7 xG<|J2 013<|J2 014 jb) 013 [8,~~~jr f] (g.map jA)=.ok ((g.filter<|qb f).map jA):=CB (s:=λr=>[~~~jA r,~~~jr f]) (λr b=>9) λr j=>by simp[m f r (t r j)] ();let v:V8 031 (QP<|JB<|J7 xG<|J2 013<|J2 014 jb) 013 [8,~~~jr f] (g.map jA)=.ok ((g.filter λo=>not<|qb f o).map jA):=CB (s:=λr=>[~~~jA r,~~~jr f]) (λr b=>9) λr j=>by simp[m f r (t r j)] ();let U:=Dz (qb g) f;let H:=Dz (qb f) g;let a:∀o∈g.filter λo=>not<|qb f o,JRow o:=λo n=>t o (Jf.mp n).1;let C:WD f g=f.filter (qb g)++g.filter (qb f)++Kx f g f:=9;let bl:∀i,⇑(Kx f g<|f.take i)<=min i ⇑f*⇑g:=λi=>by rw[OD,];rw[VN ?_<|VO _ _];let:=VO (λr=>not<|qb g r)<|f.take i;rw[Uy]at this;rw[this]
 let E:∀(i:5)(r:J0),f[i]?=!r->Kx f g (f.take<|i+1)=Kx f g (f.take i)++if qb g r=6 then[]else(g.filter λo=>not<|qb f o).map (QY r):=λi r j=>by ext Kx;rw[WM j,List.filter_append,List.flatMap_append];induction c:qb g r with|true=>rw[List.filter_cons_of_neg (by rw[c,];simp),Zd 9];rfl|false=>rw[List.filter_cons_of_pos (by rw[c,];rfl),Ze Zj];simp
 generalize X:(g.filter λo=>not<|qb f o)=rest at v a E H;let Y:⇑rest<=⇑g:=();generalize F:f.filter (qb g)++g.filter (qb f)=A at C;let Z:⇑A<=⇑f+⇑g:=by rw[<-F,Ua];lia
 let I:⇑(f.filter<|qb g)+⇑(g.filter<|qb f)<=00:=Q8 ();let J:(f.filter<|qb g).map jA++(g.filter<|qb f).map jA=A.map jA:=by rw[<-F,Ud]
 let(-L,e,(w,y)):=Ko (tg:=.one 04) (b:=qj (QP<|JB<|J7 xG<|J2 (ja 04)<|J2 014 jb) (XA 2<|Qc [8,!04] (iS<|033) 031<|J7 wA<|J2 014<|037) JM) (ds:=f.map jA) (sd:=[~~~jr f,~~~jr g,!(.own 7<|.lst<|A.map jA),~~~(.lst<|rest.map jA),8]) (P:=λi sd=>∃(w:02 SV),sd=[~~~jr f,~~~jr g,!(.own 7<|.lst<|(A++Kx f g (f.take i)).map jA),~~~(.lst<|rest.map jA),w]) (8,by rw[List.take_zero,];simp[Kx]) (by
rintro i x sd M ⟨w,rfl⟩;let(-r,j,rfl):=Kg M;let hi:=(Jd.mp j).1;let p:=Ug j;let q:=m g r<|l r p;let b0:=bl i;let N:(min i ⇑f+1)*⇑g<=⇑f*⇑g:=VN ()<|Zf _;rw[Nat.succ_mul]at N;rw[E i r j,]
induction c:qb g r with|true=>rw[c]at q;rw[Zd 9,ZA];rw[([~~~jr f,~~~jr g,!(.own 7<|.lst<|(A++Kx f g (f.take i)).map _),~~~(.lst<|rest.map _),~~~jA r],by simp[q],_,9)]|false=>
rw[c]at q;rw[Ze Zj,];let z:jQ 031 (J7 wA<|J2 014<|037) [8,~~~jA r] (rest.map jA)=.ok (rest.map λo=>jA<|QY r o):=Q9 λo n=>by let G:=(l r p).len;let l2:=(a o n).len;simp[tG (l r p).ne (l r p).once (a o n).once () ()]
let O:(rest.map<|QY r).map jA=rest.map λo=>jA<|QY r o:=by rw[Zw,];rfl
let sz:⇑(A++Kx f g (f.take i))+⇑rest<=00:=Q8 (by rw[Ua,];lia);let Q:=JT<|show ⇑rest<=1000 from();rw[([~~~_,~~~_,!(.own _<|.lst<|(A++(Kx f g _++rest.map _)).map _),~~~(.lst<|rest.map _),~~~jA r],?_,_,9)];rw[<-Uf];generalize A++Kx f g _=R at sz ⊢;rw[Ud,O];simp[q,z,Q,sz]);subst y;rw[Zql,Vv]at e;let S:=JT<|show ⇑f<=1000 from();let T:=JT<|show ⇑g<=1000 from();rw[C,];simp[jr]at B m2 v e ⊢;simp[Bu,Dx,B,m2,v,S,T,I,J,e]
def ur:FS:=jg (qr 2<|qy jb)<|jg (jP (iS<|jp AU<|J2 (jp AT<|037) jb) (.one 03)<|jg (qj (JB<|ji x6 (zl [2]<|jp jE<|016)<|014) gE JM)<|qj (QP<|JB<|zl [2]<|J7 xG<|J2 033<|016) (Ke 2<|033) JM)<|Kr 2
def uw:YC->Res D:=qd 04 2 ur
def ziY(ne:∀r∈c,r ≠[])(n:∀r∈c,qS r)(p:∀r∈c,⇑r<=100)(w:⇑c<1000)(M:0<=en):uw [jr c,.int en]=.ok (jr<|(xy c).take en.toNat):=by
 let dl:=Nf c;let y:AT [jr c]=!(.lst<|(Ql jL<|x9 c).map jA):=zhB ne () ();let N:⇑(Ql jL<|x9 c)=⇑(x9 c):=(QL (ltb:=jL) _).length_eq;let A:AU [.lst ((Ql jL<|x9 c).map jA)]=!(.lst<|(xo c).map jA):=zhz (Bk y9<|Nd _) () λr B=>by let:=p r<|rG.mp<|(QL (ltb:=jL) _).mem_iff.mp B;lia
 let e:=Oo n;let s:∀r,r∈xo c->r∈c:=λr h=>nc.mp h;let C:=Om c;let E:xy c=(xo c).filter (qC c):=9;rw[E,];simp[uw,ur,y,A];generalize xo c=L at e s C;rw[CA (R:=λz=>(z.bind<|yk<|Kr 2).bind za=.ok (jr<|(L.filter<|qC c).take en.toNat)) (P:=λi sd=>i<=⇑L/\(⇑((L.take i).filter<|qC c):3)<=en/\∃u,sd=[~~~jr c,~~~.int en,!(.own 7<|.lst<|((L.take i).filter<|qC c).map jA),u]) (Ub _,(),8,9) ?_ ?_];.rintro sd ⟨_,le,u,rfl⟩;rw[Zql,Vv]at le ⊢;rw[UG (),];rfl
 .rintro i x sd F ⟨_,le,u,rfl⟩;let(-r,l,rfl):=Kg F;let O:=(Jd.mp l).1;let m:=e (i+1) ();rw[WM l,VJ,e i (),<-WM l]at m;let m:wf ((L.take i).filter<|qC c) r=(L.take<|i+1).filter (qC c):=m;let G:⇑((L.take i).filter<|qC c)<=i:=by let a:=VO (qC c)<|L.take i;rw[Uy]at a;lia
  rw[<-m];let t:=s r<|Ug l;let g:=bN (r:=r) (ks:=(L.take i).filter<|qC c) (Dl<|n r t)<|p r t;let f:L.filter (qC c)=(L.take i).filter (qC c)++(L.drop i).filter (qC c):=by rw[<-List.filter_append,UT]
  generalize(L.take i).filter (qC c)=ks at G g le f;let g:xG [jA r,.lst (ks.map jA)]=.ok (.bl<|ks.any λo=>JQ o r):=g;let H:=JT<|show ⇑ks<=1000 from();cases j:(⇑ks:3)=en
  .let I:(L.filter<|qC c).take en.toNat=ks:=by rw[f,List.take_left' ()]
   rw[.inr<|.inl ([~~~jr c,~~~.int en,!(.own 7<|.lst<|ks.map jA),~~~jA r],by simp[j],?_)];rw[I,];simp[jr]
  .let v:∀b,ks.any _=b->wf _ r=if b=6 then ks else ks++[r]:=λb J=>by ext wf;rw[J,]
   induction q:ks.any _ with|true=>rw[q]at g;rw[v _ q,Zd 9];rw[.inl ([~~~jr _,~~~.int _,!(.own _<|.lst _),~~~jA r],.inl<|by simp[j,g],(),le,_,9)]|false=>rw[q]at g;rw[v _ q,Ze Zj];rw[.inl ([~~~jr _,~~~_,!(.own 7<|.lst _),~~~jA r],.inl<|by simp[j,g,H],(),by rw[Ua,Uj];lia,_,9)]
def Bv:FS:=jg (jv 2<|K8 uw<|J2 013<|J2 (ji j5 014<|026) jb)<|jg (qj (JB<|ji u5 (jp jE<|016)<|014) (Gc "TooMany"<|jO (yI "more than ")<|014) JM)<|jy<|jp ZD<|016
def Kb:YC->Res D:=qd 03 2 Bv
def az(a:J1):⇑(xy a)=⇑(Qi a):=by rw[<-Op,(QL _).length_eq]
noncomputable def qi(a:3)(t:J1):02 J1:=if(⇑t:3)<=a then !t else 8
def xL:02 J1->Res D|some t=>.ok (jr t)|none=>.ex "TooMany" []
def GT(ne:∀r∈rs,r ≠[])(j:∀r∈rs,qS r)(l:∀r∈rs,⇑r<=100)(i:⇑rs<1000)(p:0<=most)(m:most<=1000):Kb [jr rs,.int most]=xL (qi most<|Qi rs):=by
 let e:=ziY (en:=most+1) ne j l i ();let q:⇑(xy rs)<=⇑rs:=Zh (VO _ _)<|Om rs;let s:=az rs;let b:∀k:J1,jE [jr k]=! .int ⇑k:=λk=>by show some (D.int ⇑(k.map jA))=_;rw[Zql,]
 ext qi;cases c:(⇑(Qi rs):3)<=most;.rw[Zd c,];rw[UG ()]at e;let f:ZD [jr (xy rs)]=!(.lst<|(Ql jL<|xy rs).map jA):=zgL (λr n=>ne r<|nc.mp (Jf.mp n).1) ();rw[Op]at f;let f:ZD [jr (xy rs)]=!(jr<|Qi rs):=f;let g:=b<|xy rs;let h:¬most<(⇑(xy rs):3):=();show _=Res.ok (jr<|Qi rs);simp[Kb,Bv,e,g,h,f]
 .rw[Ze c,];let g:=b<|(xy rs).take (most+1).toNat;let h:most<(⇑((xy rs).take (most+1).toNat):3):=by rw[Uy,];lia
  generalize(xy rs).take (most+1).toNat=k at e g h;let(z,o):=eh (x:="more than ") (a:=most) () ();show _=Res.ex "TooMany" [];simp[Kb,Bv,e,g,h,o]
def vm:FS:=jg (jv 2<|J7 Kb<|J2 (ji jY 013<|040)<|J2 014 jb)<|jg (jP (iS<|kb 013 (V9<|026) KP KP) (.one 03)<|jv 2<|J7 Kb<|J2 (K8 Bu<|J2 (ja 2)<|J2 033 jb)<|J2 014 jb)<|jy<|ja 2
def yg:YC->Res D:=jD 04 2 vm
def Wx(t f:J1):J1:=Qi<|XY t f
structure AllOk(fs:List J1)(t:J1):4 where
row:∀r∈t,JRow r
abv:∀r∈t,∀f∈fs,∃s∈f,JQ s r=6
least:∀q:J0,(∀f∈fs,∃s∈f,JQ s q=6)->∃r∈t,JQ r q=6
anti:∀r∈t,∀s∈t,JQ r s=6->r=s
strict:t.Pairwise λa b=>jL a b=6
def GU(o:jF r):JQ r r=6:=zT.mpr λp a=>(_,o.look a,UW _)
def GV:∀r∈Qi rs,∀s∈Qi rs,JQ r s=6->r=s:=λr a s b c=>vt.mp (xK.mp b).2 r (xK.mp a).1 c
def OF(h:∀r∈f,JRow r):AllOk [f] (Qi f):=by
 rw[(λr a=>h r (xK.mp a).1,λr a g c=>?_,λq e=>?_,GV,WC f)];.rw[Jb.mp c,];rw[(r,(xK.mp a).1,GU (h r (xK.mp a).1).once)]
 .let(s,i,j):=e f ();let(-r,a,b):=ZW (λr a=>((h r a).once,(h r a).rise)) i;rw[(r,a,KE b j)]
def OG(A:AllOk fs t)(h:∀r∈f,JRow r):AllOk (fs++[f]) (Wx t f):=by
 let b:∀q∈XY t f,JRow q:=λq e=>by let(r,a,o,c,rfl):=v4.mp e;rw[ZZ (A.row r a)<|h o c]
 rw[(λr a=>b r (xK.mp a).1,λq e g n=>?_,λq e=>?_,GV,WC _)]
 .let(r,a,o,c,rfl):=v4.mp (xK.mp e).1;obtain z|z:=Jc.mp n;.let(-s,i,j):=A.abv r a g z;rw[(s,i,KE j<|OB (A.row r a)<|h o c)]
  .rw[Jb.mp z,];rw[(o,c,OC (A.row r a)<|h o c)]
 .let(r,a,j):=A.least q λg n=>e g ();let(-o,c,l):=e f ();let(-s,i,m):=ZW (λr a=>((b r a).once,(b r a).rise)) (v4.mpr (r,a,o,c,9));rw[(s,i,KE m<|GS (A.row r a) (h o c) j l)]
def GW(h:∀r∈a,JRow r)(c:a ≠[]):Qi a ≠[]:=λz=>by cases(a)with|nil=>rw[c 9]|cons r a=>
let(-s,e,_):=ZW (λr b=>((h r b).once,(h r b).rise)) Zqs
ext
def OH(i:∀r∈a,JRow r)(e:∀r∈b,JRow r)(h:∀q,(∃x∈a,JQ x q=6)↔∃x∈b,JQ x q=6):Qi a=Qi b:=by
 let f:∀{a b:List _},(∀r∈a,JRow r)->(∀r∈b,JRow r)->(∀q,(∃x∈a,JQ x q=6)↔∃x∈b,JQ x q=6)->∀r,r∈Qi a->r∈Qi b:=by intro a b i e h r j;let(l,p):=xK.mp j;let(y,s,t):=(h r).mp (r,l,GU (i r l).once);let(-v,m,n):=ZW (λr j=>((e r j).once,(e r j).rise)) s;let c:=(xK.mp m).1;let o:=KE n t;let(-x,u,g):=(h _).mpr (_,c,GU (e _ c).once);rw[vt.mp p x u<|KE g o]at g;rwa[Og (i r l).once (e _ c).once (i r l).rise (e _ c).rise g o,]
 rw[WR y9 (WC a) (WC b) λr=>(f i e h r,f e i (λq=>(h q).symm) r)]
def OI(a:∀r∈f,JRow r)(b:∀r∈g,JRow r):∀q∈XY f g,JRow q:=λq c=>by let(-r,e,(o,h,rfl)):=v4.mp c;rw[ZZ (a r e)<|b o h]
def eV(e:∀r∈t,JRow r)(f:∀r∈g,JRow r):Qi (WD t g)=Wx t g:=OH (OE e f) (OI e f)<|λq=>by
 constructor
 .rintro⟨x,hx,a⟩;obtain hx|hx:=Jc.mp hx
  .rcases Jc.mp hx with hx|hx;.let(hx,h):=Jf.mp hx;let(o,b,c):=dj.mp h;rw[(_,v4.mpr (),GS (e x hx) (f o b) a<|KE c a)]
   .let(hx,h):=Jf.mp hx;let(o,b,c):=dj.mp h;rw[(_,v4.mpr (o,b,x,hx,9),GS (e o b) (f x hx) (KE c a) a)]
  .let(-r,i,hx):=List.mem_flatMap.mp hx;rw[(_,v4.mpr (),a)]
 .rintro⟨x,hx,a⟩;let(r,i,o,b,rfl):=v4.mp hx;let j:=KE (OB (e r i)<|f o b) a;let l:=KE (OC (e r i)<|f o b) a;grind[WD,Kx]
def xD(a:3):J1->List J1->02 J1|t,[]=>!t|t,g::b=>(qi a<|Wx t g).bind λc=>xD a c b
def GX(a)(t g)(b):xD a t (g::b)=(qi a<|Wx t g).bind λc=>xD a c b:=rfl
def ye(a:3)(f:J1)(fs:List J1):02 J1:=(qi a<|Qi f).bind λt=>xD a t fs
def XZ(h:qi a t=!b):b=t/\(⇑t:3)<=a:=by grind[qi]
theorem OJ:∀{c fs:List J1}{t b:J1},AllOk fs t->(⇑t:3)<=a->t ≠[]->(∀g∈c,g ≠[]/\∀r∈g,JRow r)->xD a t c=!b->AllOk (fs++c) b/\(⇑b:3)<=a/\b ≠[]|[],fs,t,b,A,hl,hn,_,h=>by cases h;ext|g::c,fs,t,b,A,hl,hn,hg,h=>by unfold xD at h;induction q:qi a (Wx t g)with|none=>ext|some l=>
rw[q]at h;let(e,i):=XZ q;let f:=hg g Zqs;let:=OJ (OG A f.2) i (GW (OI A.row f.2)<|λz=>by let:=oh t g;rw[z,ZC]at this;let:=Nat.mul_pos (Jp.mpr hn)<|Jp.mpr f.1;lia) (λx j=>hg x<|Zqm _ j)<|by rwa[<-e]
ext
def NG(b:f ≠[]/\∀r∈f,JRow r)(c:∀g∈fs,g ≠[]/\∀r∈g,JRow r)(h:ye a f fs=!t):AllOk (f::fs) t/\(⇑t:3)<=a/\t ≠[]:=by unfold ye at h;induction q:qi a (Qi f)with|none=>ext|some j=>rw[q]at h;let(e,i):=XZ q;rw[OJ (OF b.2) i (GW b.2 b.1) c<|by rwa[<-e]]
def OK(o:f ≠[]/\∀r∈f,JRow r)(c:∀g∈fs,g ≠[]/\∀r∈g,JRow r)(u:⇑f<1000)(w:0<=most)(m2:most<=1000)(N:⇑fs<=900)(sz:∀(i:5)(t g:J1),AllOk (f::fs.take i) t->(⇑t:3)<=most->fs[i]?=!g->⇑(WD t g)<1000/\⇑t+⇑g+⇑t*⇑g<=1000):yg [.lst ((f::fs).map jr),.int most]=xL (ye most f fs):=by
 let h:=GT (rs:=f) (most:=most) (λr a=>(o.2 r a).ne) (λr a=>(o.2 r a).rise) λr a=>by let:=(o.2 r a).len;lia u w m2;let p:qO ((f::fs).map jr) 0=! jr f:=by rw[show(0:3)=((0:5):3)from 9,XS ()];rfl
 let G:QU (jr f::fs.map jr) (!1) 8 8=fs.map jr:=by rw[G9 _ (),];rfl
 ext ye;induction q:qi most (Qi f)with|none=>rw[q]at h;let h:Kb [jr f,.int most]=.ex "TooMany" []:=h;show _=Res.ex "TooMany" [];simp[yg,vm]at p ⊢;simp[p,h]|some l=>
rw[q]at h;let(!H,O):=XZ q;let h:Kb [jr f,.int most]=.ok (jr l):=h;show _=xL (xD most l fs);let Q:AllOk [f] l:=by rw[H,];rw[OF o.2]
let n:((xb (.one 03) (jv 2<|J7 Kb<|J2 (K8 Bu<|J2 (ja 2)<|J2 033 jb)<|J2 014 jb) (fs.map jr) [~~~(.lst<|(f::fs).map jr),~~~.int most,~~~jr l,8]).bind<|yk<|jy<|ja 2).bind yC=xL (xD most l fs):=by
 rw[Nq (R:=λz=>(z.bind<|yk<|jy<|ja 2).bind yC=xL (xD most l fs)) (P:=λi sd=>∃(t:J1)(v:02 SV),sd=[~~~(.lst<|(f::fs).map jr),~~~.int most,~~~jr t,v]/\AllOk (f::fs.take i) t/\(⇑t:3)<=most/\xD most t (fs.drop i)=xD most l fs) () ?_ ?_];.rintro sd ⟨t,v,rfl,A,lt,j⟩;rw[Zql,Vi]at j;rw[<-j];simp[xL,xD]
 .rintro i x sd I ⟨t,v,rfl,A,lt,j⟩;let(-g,m,rfl):=Kg I;let B:=(Jd.mp m).1;let s:=Ug m;let(!J,L):=sz i t g A lt m;let C:=mf (f:=t) (g:=g) A.row (c g s).2 L;let b:=OE A.row (c g s).2;let e:=GT (rs:=WD t g) (most:=most) (λr a=>(b r a).ne) (λr a=>(b r a).rise) λr a=>by let:=(b r a).len;lia J w m2;rw[eV A.row (c g s).2]at e;let M:fs.drop i=g::fs.drop (i+1):=by rw[Uq B,];rw[Zqg B]at m;rw[Zqi m,]
  rw[M,GX]at j;induction y:qi most _ with|none=>rw[y]at e j;let e:Kb [jr _,.int _]=.ex _ _:=e;rw[.inr ("TooMany",[],by simp[C,e],?_)];rw[<-j];rfl|some E=>rw[y]at e j;let(!F,u):=XZ y;let e:Kb [jr _,.int most]=.ok (jr E):=e;rw[.inl ([~~~(.lst<|(f::fs).map _),~~~.int most,~~~_,~~~jr g],by simp[C,e],E,_,9,?_,by rw[F,];rw[u],j)];rw[WM m,F];rw[OG A (c g s).2]
simp[yg,vm]at p n ⊢;simp[p,h,G,n]
def OL(b:g ≠[]):⇑(WD f g)<=⇑f*⇑g+⇑g:=by ext WD;rw[Ua,Ua,OD];let a:=Dz (qb g) f;let p:0<⇑g:=018;let d:=VN (Zf ⇑(f.filter λr=>not<|qb g r))<|VO (λo=>not<|qb f o) g;let e:=Nat.le_mul_of_pos_right ⇑(f.filter<|qb g) p;grind[Nat.add_mul]
def vn:FS:=jg (qr 2<|J7 Kb<|J2 (ji jY 013<|040)<|J2 014 jb)<|jg (jP (iS<|kb 013 (V9<|026) KP KP) (.one 03)<|λsd=>(qr 2<|J7 Kb<|J2 (ji j5 (ja 2)<|033)<|J2 014 jb)<|qF [2] sd)<|Kr 2
def yy:YC->Res D:=qd 04 2 vn
def zM(a:3):J1->List J1->02 J1|t,[]=>qi a t|t,g::b=>(qi a t).bind λd=>zM a (yP t g) b
def OM(h:qi a t=8)(b):zM a t b=8:=by cases b with|nil=>rw[h]|cons g b=>show(qi _ t).bind _=8;rw[h,];rfl
def Xq(h:(⇑t:3)<=a):qi a t=!t:=Zd h
def ON(h:a<(⇑t:3)):qi a t=8:=Ze ()
def ut:FS:=jy<|jp W9<|J2 (Qc [8,8,!1] (iS<|013) (.tup [0,1])<|qg<|J2 013<|J2 (ji j5 014<|ja 2) jb) jb
def vo:YC->Res D:=jD 2 2 ut
noncomputable def QH(r:J0)(w:3):J0:=r.map λp=>%[p.1|p.2+w]
def tF(b:⇑r<=1000):vo [jA r,.int w]=.ok (jA<|QH r w):=by
 let a:jQ (.tup [0,1]) (qg<|J2 013<|J2 (ji j5 014<|ja 2) jb) [8,8,~~~.int w] (r.map xB)=.ok (r.map λp=>xB %[p.1|p.2+w]):=Q9 λp c=>by rfl
 simp[vo,ut,jA,a,JT b,QH]
def uj:FS:=jy<|Qc [8,!1] (iS<|013) 031<|J7 vo<|J2 013<|J2 014 jb
def zB:YC->Res D:=qd 2 2 uj
def Q4(f:J1)(w:3):J1:=f.map λr=>QH r w
def b9(b:⇑f<=1000)(c:∀r∈f,⇑r<=1000):zB [jr f,.int w]=.ok (jr<|Q4 f w):=by
 let a:jQ 031 (J7 vo<|J2 013<|J2 014 jb) [8,~~~.int w] (f.map jA)=.ok (f.map λr=>jA<|QH r w):=Q9 λr h=>by simp[tF (c r h)]
 let e:(Q4 f w).map jA=f.map λr=>jA<|QH r w:=by ext Q4;simp
 simp[zB,uj,jr,a,JT b,e]
def D0:FS:=jy<|J7 yg<|J2 (Qc [8,8,!1] (iS<|013) (.tup [0,1])<|K8 zB<|J2 (ji jY (ja 2)<|013)<|J2 014 jb)<|016
def K2:YC->Res D:=jD 03 03 D0
def ql(fs:List J1)(t:3):J1:=fs.getD t.toNat []
def D1(a:0<=t)(b:t<(⇑fs:3)):ql fs t∈fs:=by simp_all[ql]
def OO(a:0<=t)(b:t<(⇑fs:3)):qO (fs.map jr) t=!(jr<|ql fs t):=by grind[Zql,List.getElem?_map,ql,XS]
def zk2{r:J0} (c:∀p∈r,0<=p.1/\p.1<(⇑fs:3))(e:∀f∈fs,⇑f<=1000/\∀r∈f,⇑r<=1000):jQ (.tup [0,1]) (K8 zB<|J2 (ji jY (ja 2)<|013)<|J2 014 jb) [8,8,~~~(.lst<|fs.map jr)] (r.map xB)=.ok ((r.map λp=>Q4 (ql fs p.1) p.2).map jr):=by rw[Zw,];rw[Q9 λp g=>by let(a,b):=c p g;let(h,i):=e _ (D1 a b);simp[OO a b,b9 h i]]
def w6:FS:=jy<|J7 yy<|J2 (Qc [8,!1,!2] (iS<|013) 031<|J7 K2<|J2 013<|J2 014<|016)<|016
def yf:YC->Res D:=qd 03 03 w6
def tE{fs:List J1} (e:⇑a<=100)(f:∀r∈a,K2 [jA r,.lst (fs.map jr),.int b]=.ok (jr<|g r))(h:yy [.lst ((a.map g).map jr),.int b]=.ok d):yf [jr a,.lst (fs.map jr),.int b]=.ok d:=by
 let c:jQ 031 (J7 K2<|J2 013<|J2 014<|016) [8,~~~(.lst<|fs.map jr),~~~.int b] (a.map jA)=.ok ((a.map g).map jr):=by rw[Zw,];rw[Q9 λr h=>by ext]
 let i:=JT<|show ⇑a<=1000 from();simp_all[yf,w6]
def WE(a:YC->HP->Res (D×HP)):xT:=wJ (wP<|JB<|ji x6 014<|dC<|.str "all") (wQ<|J7 yg<|J2 (ja 2)<|J2 033 jb)<|wJ (wP<|JB<|ji x6 014<|dC<|.str 034) (wQ<|J7 yy<|J2 (ja 2)<|J2 033 jb)<|zy (zY (vF [04]<|JB<|ji (xQ 6) 014<|ja 04) (CZ (ja 04) 014<|uL vT (Xd a<|J2 013<|J2 014<|J2 033<|J2 (ja 04) jb)<|wQ<|jO xP<|026) NC)<|CY yf<|Xb (wR (ja 04)<|014)<|Xb (wQ<|ja 2)<|Xb (wQ<|033) Go
def D3:FS:=jg (jP (iS<|jO (j0 "Book" "plans")<|013) (.one 2)<|qj (JB<|ji x6 (jO (j0 "Plan" "name")<|ja 2)<|014) (jy<|ja 2) JM) y8
def Bw:YC->Res D:=jD 03 2 D3
def OP(l:asc x)(m:∀p∈a,asc p.name)(h:a.find? λp=>decide<|p.name=x=!p):Bw [JJ a,036]=.ok (JN p):=by
 let n:xb (.one 2) (qj (JB<|ji x6 (jO (j0 "Plan" "name")<|ja 2)<|014) (jy<|ja 2) JM) (a.map JN) [~~~JJ a,~~~036,8]=.ok (.ret<|JN p):=by
  rw[CA (R:=λr=>r=.ok _) (P:=λi sd=>(∀q∈a.take i,decide (q.name=x)=7)/\∃u,sd=[~~~JJ a,~~~036,u]) () (λsd z9=>?_) λi d sd o(f,u,g)=>?_];let(f,g):=z9;.grind
  .let(-q,b,rfl):=Kg o;let s:q∈a:=018;let e:=(λp t=>KR (m p t) l) q s;let v:a.take (i+1)=a.take i++[q]:=by rw[Vn,b];rfl
   induction c:decide (q.name=x)with
|true=>
rw[c]at e;rw[.inr<|.inr (JN q,?_,?_)]
.subst g;simp[e]
.rw[Oh f b c]at h;cases h;rfl|false=>
  rw[c]at e;rw[.inl ([~~~_,!_,~~~JN q],.inl ?_,λy j=>?_,_,9)];.subst g;simp[e]
  .rw[v]at j;obtain z|z:=Jc.mp j;.rw[f y z]
   .rwa[Jb.mp z,]
 simp[Bw,D3,n]
def kt:FS:=jy<|qy<|J2 (qg<|J2 (qg<|J2 013<|J2 040 jb) jb) jb
def uv:YC->Res D:=qd 1 1 kt
@[simp]def f_z5(t:3):uv [.int t]=.ok (jr [[%[t|0]]]):=by rfl
def D4(a:YC->HP->Res (D×HP)):xT:=zy (kG<|jv 04<|K8 Bw<|J2 013<|J2 014 jb)<|zy (kG<|qr 05<|Qc [8] (zx<|J2 (jp jE<|J2 (jO (j0 "Plan" "givens")<|ja 04) jb) jb) 031<|K8 uv<|037)<|zy (Bc (iS<|jO (j0 "Plan" "rows")<|ja 04) (.tup [06,07,08])<|Bb (kG<|jv 09<|CW [8,8,!05] 2 (iS<|ja 08) (.tup [0,1])<|K8 zB<|J2 (XG 2<|013)<|J2 014 jb)<|Xc 05<|Xd a<|J2 013<|J2 (ja 07)<|J2 (ja 09)<|J2 (ja 2)<|J2 033 jb)<|ka 05<|wQ<|ja 05
def Kh:5->YC->HP->Res (D×HP)|0=>λb b=>.no|n+1=>KB 10 04 (D4<|KB 05 05<|WE<|Kh n)
def QB(n:5):YC->HP->Res (D×HP):=KB 05 05<|WE<|Kh n
def upF(f:J1)(q:J0):4:=∃x∈f,JQ x q=6
structure Cn(f:J1):4 where
ne:f ≠[]rows:∀r∈f,JRow r
thin:Qi f=f
def Cn.anti(C:Cn f):∀r∈f,∀s∈f,JQ r s=6->r=s:=by let h:=GV (rs:=f);rwa[C.thin]at h
def Cn.strict(C:Cn f):f.Pairwise λa b=>jL a b=6:=by let h:=WC f;rwa[C.thin]at h
theorem GY(w:3):∀(r:J0)(t:3),JE (QH r w) t=(JE r t).map (·+w)|[],_=>9|p::r,t=>by let a:=GY w r t;show(match JE (QH r w) t with|some v=>!v|none=>if p.1=t then !_ else 8)=Option.map _ (match JE r t with|some v=>!v|none=>if p.1=t then !_ else 8);grind
def oQ(r:J0)(w:3):QH (QH r w) (-w)=r:=by ext QH;rw[Zw,];rw[(UJ λp _=>?_).trans<|List.map_id r];grind
def zkH:JQ (QH r w) q=6↔JQ r (QH q<|-w)=6:=by
 rw[zT,zT];constructor;.intro h p a;let(-u,c,l):=h _ (Ja.mpr (p,a,9));grind[GY]
 .intro h p a;let(-f,b,rfl):=Ja.mp a;let(-u,c,l):=h _ b;rw[GY]at c;induction e:JE q f.1 with|none=>ext|some v=>grind
theorem OQ(w:3):∀a b:J0,jL (QH a w) (QH b w)=jL a b
|[],[]=>9|[],_::_=>9|_::_,[]=>9|p::a,q::b=>by
 show jL (%[p.1|p.2+w]::QH a w) (%[q.1|q.2+w]::QH b w)=_;rw[W3,W3,OQ];cases h:p=q;.rw[Zd h,h,Zd 9]
 .rw[Ze h,Ze];.simp_all[qu]
  grind
def zmY(h:r ≠[])(w:3)(a:Yf):QX (QH r w) a=QX r a+w:=by ext QX QH;rw[<-aZ λz=>h<|Jg.mp z,Zw,Zw];congr 1;rw[UJ λp _=>?_];grind
def ip{n:3} (A:AllOk fs t)(F:t ≠[])(G:fs ≠[])(v:∀f∈fs,f ≠[]/\∀r∈f,r ≠[]/\jF r/\∀p∈r,0<=p.1/\p.1<12):JG t hs=xx (fs.map λf=>JG f hs):=by
 let i:∀{r:J0},r ≠[]->∀p∈r,qQ hs p.1+p.2<=QX r hs:=λ{r}j p g=>(X2 (l:=r.map λp=>qQ hs p.1+p.2)<|λz=>j<|Jg.mp z).2 _<|Ja.mpr (p,g,9);let o:∀{r:J0}{M:3},r ≠[]->(∀p∈r,qQ hs p.1+p.2<=M)->QX r hs<=M:=λ{r M}j h=>by let(m,_):=X2 (l:=r.map λp=>qQ hs p.1+p.2) λz=>j<|Jg.mp z;let(-p,g,e):=Ja.mp m;let:=h p g;let e:qQ hs p.1+p.2=QX r hs:=e;lia
 let(H,m2):=X2 (l:=fs.map λf=>JG f hs) λz=>G<|Jg.mp z;let m2:∀f∈fs,JG f hs<=xx (fs.map λf=>JG f hs):=λf h=>m2 _<|Ja.mpr (f,h,9);let(-C,u,x):=Ja.mp H;let x:JG C hs=xx (fs.map λf=>JG f hs):=x;generalize xx (fs.map λf=>JG f hs)=M at m2 x;let(-r,j,Q):=XT (hs:=hs) F;let lo:M<=JG t hs:=by
  let(-s,c,y):=A.abv r j C u;let I:=Xh (hs:=hs) c;let J:QX s hs<=QX r hs:=o ((v _ u).2 s c).1 λp g=>by let(-w,B,L):=zT.mp y p g;let:=i (A.row r j).ne _<|Q0 B;let this:qQ _ p.1+w<=QX r _:=this;lia
  lia
 let(-q,E,y):=A.least ((List.range _).map λk:5=>%[k|M-qQ _ k]) λf h=>by
  let(-s,c,R):=XT (hs:=hs) (v f h).1;let(!N,S,O):=(v f h).2 s c;rw[(s,c,zT.mpr λp g=>(M-qQ hs p.1,?_,?_))]
  .let P:jF ((List.range 12).map λk:5=>%[k|M-qQ hs k]):=by ext jF;rw[Zw,];ext List.Nodup;rw[U9,];rw[List.nodup_range (n:=12).imp λ{a b}h e=>h<|by let e:(a:3)=b:=e;lia]
   let b:=O p g;rw[P.look<|Ja.mpr (p.1.toNat,Ji.mpr (),by rw[show(p.1.toNat:5)=p.1 by lia,])]
  .let a:=i N p g;let b:=m2 f h;lia
 let I:=Xh (hs:=hs) E;let J:QX q hs<=M:=o (A.row q E).ne λp g=>by let(-w,B,L):=zT.mp y p g;let(-k,T,U):=Ja.mp (Q0 B);grind
 lia
theorem OR{α:Type} {f:FE} {k:α->D} :∀{a:List α},(∀x∈a,(∃v,(JX b (k x) c).bind f=.ok v)\/(JX b (k x) c).bind f=.ex n g)->(∃x∈a,(JX b (k x) c).bind f=.ex n g)->jQ b f c (a.map k)=.ex n g
|[],_,(_,h,_)=>nomatch h|x::a,h,(y,hy,e)=>by
 let i:jQ b f c ((x::a).map k)=((JX _ _ c).bind f).bind λv=>(jQ _ f c _).bind _:=9;rw[i,];obtain⟨v,q⟩|q:=h x Zqs
 .rw[q,OR λz j=>h z<|Zqm _ j];.rfl
  grind
 ext
def OS(p:Cn f/\⇑f<=64)(q:∀g∈fs,Cn g/\⇑g<=64)(B:0<=most)(m2:most<=60)(H:⇑fs<=900):yy [.lst ((f::fs).map jr),.int most]=xL (zM most f fs):=by
 let u:∀{rs:J1},(∀r∈rs,JRow r)->⇑rs<=200->Kb [jr rs,.int most]=xL (qi most<|Qi rs):=λ{rs}h l=>GT (λr e=>(h r e).ne) (λr e=>(h r e).rise) λr e=>by let:=(h r e).len;lia () B ();let j:=u (rs:=f) p.1.rows ();rw[p.1.thin]at j;let n:qO ((f::fs).map jr) 0=! jr f:=by rw[show(0:3)=((0:5):3)from 9,XS ()];rfl
 let C:QU (jr f::fs.map jr) (!1) 8 8=fs.map jr:=by rw[G9 _ (),];rfl
 cases v:(⇑f:3)<=most
 .rw[Xq v]at j;let j:Kb [jr f,.int most]=.ok (jr f):=j;let m:((xb (.one 03) (λsd=>(qr 2<|J7 Kb<|J2 (ji j5 (ja 2)<|033)<|J2 014 jb)<|qF [2] sd) (fs.map jr) [~~~(.lst<|(f::fs).map jr),~~~.int most,!(.own 7<|jr f),8]).bind<|yk<|Kr 2).bind za=xL (zM most f fs):=by
   rw[Nq (R:=λz=>(z.bind<|yk<|Kr 2).bind za=xL (zM most f fs)) (P:=λi sd=>∃(t:J1)(s:02 SV),sd=[~~~(.lst<|(f::fs).map jr),~~~.int most,!(.own 7<|jr t),s]/\(∀r∈t,JRow r)/\(⇑t:3)<=most/\zM most t (fs.drop i)=zM most f fs) (f,8,9,p.1.rows,v,9) ?_ ?_];.rintro sd ⟨t,s,rfl,T,lt,b⟩;rw[Zql,Vi]at b;rw[<-b];show _=xL (qi most t);rw[Xq lt,];rfl
   .rintro i x sd E ⟨t,s,rfl,T,lt,b⟩;let(-g,o,rfl):=Kg E;let w:=(Jd.mp o).1;let(!G,I):=q g (Ug o);let y:=pO (f:=t) (g:=g) ();let A:∀r∈t++g,JRow r:=λr e=>(Jc.mp e).elim (λz=>T r z) λz=>G.rows r z;let a:=u (rs:=t++g) A (by rw[Ua,];lia);let F:fs.drop i=g::fs.drop (i+1):=by rw[Uq w,];rw[Zqg w]at o;rw[Zqi o,]
    rw[F]at b;let b:(qi most t).bind (λb=>zM most (yP t g)<|fs.drop<|i+1)=zM most f fs:=b;rw[Xq lt]at b;let b:zM _ _ _=zM _ f _:=b;cases c:⇑(yP t g)<=most
    .let a:Kb [jr (t++g),.int most]=.ok (jr<|yP t g):=by rw[a,];show xL (qi _<|yP t g)=_;rw[Xq c,];rfl
     rw[.inl ([~~~.lst _,~~~.int _,!(.own _<|jr<|yP t g),~~~jr g],by simp[y,a],_,_,9,λr e=>A r (xK.mp e).1,c,b)]
    .let no:qi _ _=8:=Ze c;let a:Kb [jr (t++g),.int most]=.ex "TooMany" []:=by rw[a,];show xL (qi _<|yP t g)=_;rw[no,];rfl
     rw[.inr ("TooMany",[],by simp[y,a],?_)];rw[<-b,OM no];rfl
  simp[yy,vn]at n m ⊢;simp[n,j,C,m]
 .rw[ON ()]at j;let j:Kb [jr f,.int _]=.ex _ _:=j;rw[OM (ON ()),];show _=Res.ex _ _;simp[yy,vn]at n ⊢;simp[n,j]
def aC(A:Cn a)(B:Cn b)(hs:Yf):Cn (yP a b)/\JG (yP a b) hs<=JG a hs/\JG (yP a b) hs<=JG b hs/\(JG (yP a b) hs=JG a hs\/JG (yP a b) hs=JG b hs):=by
 let c:=λr g=>(Jc.mp g).elim (A.rows r)<|B.rows r;let ne:a++b ≠[]:=λz=>A.ne (Jz.mp z).1;rw[((GW c ne,λr g=>c r (xK.mp g).1,OH (λr g=>c r (xK.mp g).1) c<|λq=>by
constructor
.rintro⟨x,h,i⟩;rw[(x,(xK.mp h).1,i)]
.rintro⟨x,h,i⟩;let(-s,hs,j):=ZW (λr g=>((c r g).once,(c r g).rise)) h;rw[(s,hs,KE j i)]),?_)];ext yP;rw[zmX ne λr g=>((c r g).ne,(c r g).once,(c r g).rise),];let(-r,g,e):=XT (hs:=hs) A.ne;let(-s,l,n):=XT (hs:=hs) B.ne;let o:=Xh (hs:=hs)<|Vd b g;let p:=Xh (hs:=hs)<|Uo a l;let(-q,m,t):=XT (f:=a++b) (hs:=hs) λz=>A.ne (Jz.mp z).1;rw[((),(),?_)];obtain z|z:=Jc.mp m;.let:=Xh (hs:=hs) z;rw[.inl ()]
 .let:=Xh (hs:=hs) z;lia
theorem OT(a:Yf):∀(b:List J1)(t:J1),Cn t->(∀g∈b,Cn g)->Cn (b.foldl yP t)/\(JG (b.foldl yP t) a=JG t a\/∃g∈b,JG (b.foldl yP t) a=JG g a)/\JG (b.foldl yP t) a<=JG t a/\∀g∈b,JG (b.foldl yP t) a<=JG g a|[],t,T,_=>(T,006,UW _,λb h=>nomatch h)|g::b,t,T,G=>by let(!e,f,i,j):=aC T (G g Zqs) a;let(!c,l,m,n):=OT a b _ e ();grind
theorem OU{P:J0->4}:∀(a:List J1)(t:J1),(∀r∈t,P r)->(∀g∈a,∀r∈g,P r)->∀r∈a.foldl yP t,P r|[],_,h,_=>h|g::a,t,h,k=>OU a _ (λr b=>(Jc.mp (xK.mp b).1).elim (h r) ()) ()
theorem OV:∀(b:List J1)(t c:J1),xD a t b=!c->c=b.foldl Wx t|[],_,_,h=>(Zqi h).symm|g::b,t,c,h=>by rw[GX]at h;induction q:qi a (Wx t g)with|none=>ext|some e=>rw[q]at h;rw[Ve,<-(XZ q).1];rw[OV _ _ _ h]
def lM(h:ye a f fs=!t):t=fs.foldl Wx (Qi f):=by unfold ye at h;induction q:qi a (Qi f)with|none=>ext|some b=>rw[q]at h;rw[<-(XZ q).1];rw[OV _ _ t h]
theorem OW:∀(c:List J1)(t b:J1),zM a t c=!b->b=c.foldl yP t/\(⇑b:3)<=a|[],t,b,h=>by let(e,l):=XZ h;ext|g::c,t,b,h=>by let h:(qi _ t).bind _=!_:=h;induction q:qi a t with|none=>ext|some f=>rw[q]at h;rw[OW c _ _ h]
def aV(f:JRow a)(g:JRow b):∀p∈QY a b,p∈a\/p∈b:=λp i=>by let c:=(ZZ f g).once.look i;rw[Dy f.once g.once]at c;induction q1:JE a _ with
|some w=>induction e:JE b _ with
 |some v=>
rw[q1,e]at c;let h:=Q0 q1;let m2:=Q0 e;let c:some _=!_:=c
grind|none=>
rw[q1,e]at c;let h:=Q0 q1;rw[Zqi c]at h
ext
|none=>cases e:JE b _ with
|some v=>
rw[q1,e]at c;let m2:=Q0 e;rw[Zqi c]at m2
ext|none=>rw[q1,e]at c;cases c
theorem OX{Q:3×3->4}:∀(c:List J1)t,(∀r∈t,JRow r/\∀p∈r,Q p)->(∀g∈c,∀r∈g,JRow r/\∀p∈r,Q p)->∀r∈c.foldl Wx t,∀p∈r,Q p|[],t,ht,_=>λr e=>(ht r e).2|g::c,t,ht,hg=>OX c _ (λr e=>by let(-a,i,(b,j,rfl)):=v4.mp (xK.mp e).1;let(f,l):=ht a i;let(h,m):=hg g Zqs b j;rw[(ZZ f h,λp n=>(aV f h p n).elim (l p)<|m p)]) λx o=>hg x<|Zqm _ o
structure Tf(n:5)(W:3)(t:J1):4 where
cn:Cn t
len:⇑t<=24
th:∀r∈t,∀p∈r,p.1<(n:3)/\-W<=p.2/\p.2<=W
def Tf.row(T:Tf n W t):∀r∈t,JRow r/\∀p∈r,p.1<(n:3)/\-W<=p.2/\p.2<=W:=λr c=>(T.cn.rows r c,T.th r c)
def Tf.mono{W V:3} (T:Tf n W t)(h:W<=V):Tf n V t:=(T.cn,T.len,λr c p e=>by let:=T.th r c p e;lia)
def Tf.wait{W V:3} (T:Tf n W t) (x:-V<=w/\w<=V):Tf n (W+V) (Q4 t w):=by
 rw[(by
rw[(λz=>T.cn.ne<|Jg.mp z,λr l=>?_,WR y9 (WC _) ?_ λr=>(λh=>(xK.mp h).1,λh=>xK.mpr (h,vt.mpr λo v i=>?_)))]
.let(j,c,rfl):=Ja.mp l;let h:=T.cn.rows _ c;rw[(λz=>h.ne<|Jg.mp z,?_,λp q=>?_)]
 .let e:(QH j w).map (·.1)=j.map (·.1):=by ext QH;simp
  ext qS;rw[e,];rw[h.rise]
 .let(-u,f,rfl):=Ja.mp q;rw[h.bnd u f]
.ext Q4;rw[U9,];rw[T.cn.strict.imp λ{a b}h=>by rwa[OQ,]]
.let(-y,s,rfl):=Ja.mp v;let(-j,c,rfl):=Ja.mp h;let i:=zkH.mp i;rw[oQ]at i;rw[T.cn.anti _ s _ c i,],?_,λr l p q=>?_)];.ext Q4;rw[Zql,];rw[T.len]
 .let(j,c,rfl):=Ja.mp l;let(-u,f,rfl):=Ja.mp q;let:=T.th _ c _ f;lia
def Tf.comes(T:Tf n W t)(w)(e):JG (Q4 t w) e=JG t e+w:=by ext JG Q4;rw[<-eG λz=>T.cn.ne<|Jg.mp z,Zw,Zw];congr 1;rw[UJ λr c=>zmY ((λr c=>(T.cn.rows r c).ne) r c) w _]
def KU:Res D:=.ex "TooMany" []
def OY(ne:fs ≠[])(h:∀g∈fs,Tf n W g)(l:⇑fs<=100):yg [.lst (fs.map jr),035]=KU\/∃t,yg [.lst (fs.map jr),035]=.ok (jr t)/\Tf n W t/\∀j,JG t j=xx (fs.map λg=>JG g j):=by cases(fs)with|nil=>rw[Zn 9 ne]|cons f fs=>
let c:=h f Zqs;let b:=λg a=>h g<|Zqm _ a;let l:⇑fs+1<=100:=l;let x:=c.len;let A:=OK (most:=24) (c.cn.ne,c.cn.rows) (λg a=>((b g a).cn.ne,(b g a).cn.rows)) () () () () λi t g _ lt a=>by let G:=b g<|Ug a;let u:=G.len;let e:=OL (f:=t) G.cn.ne;let lt:⇑t<=24:=();let m:=VN lt u;lia
rw[A,]
induction q:ye _ f _ with|none=>rw[006]|some t=>rw[.inr (t,9,?_)];let(!A,lt,s):=NG (c.cn.ne,c.cn.rows) (λg a=>((b g a).cn.ne,(b g a).cn.rows)) q;let e:=lM q;rw[c.cn.thin]at e;rw[(((s,A.row,WR y9 (WC _) A.strict λr=>(λh=>(xK.mp h).1,λh=>xK.mpr (h,vt.mpr λo v w=>A.anti o v r h w))),(),?_),λj=>ip (n:=0) A s () λg a=>((h g a).cn.ne,λr p=>(((h g a).cn.rows r p).ne,((h g a).cn.rows r p).once,((h g a).cn.rows r p).bnd)))];rw[e,];rw[OX _ f c.row λg a=>(b g a).row]
def OZ(ne:fs ≠[])(h:∀g∈fs,Tf n W g)(l:⇑fs<=100):yy [.lst (fs.map jr),035]=KU\/∃t,yy [.lst (fs.map jr),035]=.ok (jr t)/\Tf n W t/\∀c,JG t c=yp (fs.map λg=>JG g c):=by cases(fs)with|nil=>rw[Zn 9 ne]|cons f fs=>
let i:=h f Zqs;let b:=λg a=>h g<|Zqm _ a;let l:⇑fs+1<=100:=l;let p:=i.len;rw[OS (i.cn,()) (λg a=>((b g a).cn,by let:=(b g a).len;lia)) () () (),]
induction q:zM _ f _ with|none=>rw[006]|some t=>
rw[.inr (t,9,?_)];let(!e,lt):=OW _ f t q;let C:=λc=>OT c _ f i.cn λg a=>(b g a).cn;rw[<-e]at C;rw[(((C []).1,(),?_),λc=>?_)]
.rw[e,];rw[OU _ f i.th λg a=>(b g a).th]
.let(!_,j,r,m):=C c;rw[EB ?_ λy o=>?_]
 .rcases j with z|⟨g,a,z⟩;.rw[Ja.mpr (f,Zqs,z.symm)]
  .rw[Ja.mpr (g,Zqm _ a,z.symm)]
 .let(-g,a,rfl):=Ja.mp o;obtain z|z:=UN.mp a;.rwa[z,]
  .rw[m g z]
def er(b:0<=t)(c:t<(⇑fs:3))(a:Yf):qQ (fs.map λg=>JG g a) t=JG (ql fs t) a:=by simp_all[qQ,ql]
def Pa{W V:3} (f:∀g∈T,Tf n W g) (h:∀p∈its,0<=p.1/\p.1<(⇑T:3))(i:∀p∈its,-V<=p.2/\p.2<=V):(∀g∈its.map λp=>Q4 (ql T p.1) p.2,Tf n (W+V) g)/\∀e,(its.map λp=>Q4 (ql T p.1) p.2).map (λg=>JG g e)=yi (T.map λg=>JG g e) its:=by
 rw[(λg j=>?_,λe=>?_)];.let(-p,a,rfl):=Ja.mp j;let(b,c):=h p a;rw[(f _<|D1 b c).wait<|i p a]
 .rw[Zw,];rw[UJ λp a=>?_];let(b,c):=h p a;show JG _ _=_;rw[(f _<|D1 b c).comes,er b c]
def zlj{W V:3}{fs:List J1} (a:JRow r)(b:∀p∈r,p.1<(⇑fs:3)/\-V<=p.2/\p.2<=V)(h:∀g∈fs,Tf n W g):K2 [jA r,.lst (fs.map jr),035]=KU\/∃t,K2 [jA r,.lst (fs.map jr),035]=.ok (jr t)/\Tf n (W+V) t/\∀j,JG t j=QX r (fs.map λg=>JG g j):=by
 let m:=λp i=>(b p i).2;let b:∀p∈r,0<=p.1/\p.1<⇑fs:=λp i=>((a.bnd p i).1,(b p i).1);let u:=a.len;let(o,q):=Pa h b m;let s:∀f∈fs,⇑f<=1000/\∀r∈f,⇑r<=1000:=λf l=>(by let:=(h f l).len;lia,λr a=>by let:=((h f l).cn.rows r a).len;lia);let c:=zk2 b s;let e:K2 [jA r,.lst (fs.map jr),035]=yg [.lst ((r.map λp=>Q4 (ql fs p.1) p.2).map jr),035]:=by generalize(r.map _).map _=ds at c;simp[K2,D0,c,JT<|show ⇑r<=1000 from()];cases(yg _)<;>rfl
 rw[e,];rcases OY (λz=>a.ne<|Jg.mp z) o ()with z|⟨t,z1,z2,z3⟩;.rw[.inl z]
 .rw[.inr (t,z1,z2,λj=>?_)];rw[z3,q];rfl
def Pb{W V:3} {fs:List J1}(F:Tf m V a)(l:⇑fs=m)(h:∀g∈fs,Tf n W g):yf [jr a,.lst (fs.map jr),035]=KU\/∃t,yf [jr a,.lst (fs.map jr),035]=.ok (jr t)/\Tf n (W+V) t/\∀f,JG t f=JG a (fs.map λg=>JG g f):=by
 let R:∀r∈a,_:=λr b=>zlj (n:=n) (fs:=fs) (V:=V) (F.cn.rows r b) (by rw[l,];rw[F.th r b]) h;let v:=F.len;let j:∀r,(JX 031 (jA r) [8,~~~(.lst<|fs.map jr),~~~035]).bind (J7 K2<|J2 013<|J2 014<|016)=K2 [jA r,.lst (fs.map jr),035]:=λr=>by simp
 cases c:∃r∈a,K2 [jA r,.lst (fs.map jr),035]=KU
 .left;let e:jQ 031 (J7 K2<|J2 013<|J2 014<|016) [8,~~~(.lst<|fs.map jr),~~~035] (a.map jA)=.ex "TooMany" []:=by
   rw[OR (λr b=>?_) ?_]
   .rw[j,];obtain z|⟨t,z,_⟩:=R r b;.rw[.inr z]
    .rw[.inl (_,z)]
   .let(r,b,z):=c;rw[(r,b,by rw[j,];rw[z])]
  let o:=JT<|show ⇑a<=1000 from();simp[yf,w6,e,o,KU]
 .let q:∀r,∃t,r∈a->K2 [jA r,.lst (fs.map _),.int _]=.ok _/\Tf n _ t/\∀f,JG t _=QX r (fs.map λg=>JG g _):=λr=>by
   cases b:r∈a
   .rcases R r b with z|⟨t,z⟩;.rw[Zn (r,b,z) c]
    .rw[(t,λb=>z)]
   .rw[([],λz=>Zn z b)]
  let(-G,i):=Classical.axiomOfChoice q;let p:=λd=>tE (d:=d) () λr b=>(i r b).1;let s:∀g∈a.map G,Tf n _ g:=λg u=>by let(-r,b,rfl):=Ja.mp u;rw[(i r b).2.1]
  let e:jQ 031 (J7 K2<|J2 013<|J2 014<|016) [8,~~~(.lst<|fs.map jr),~~~035] (a.map jA)=.ok ((a.map G).map jr):=by rw[Zw,];rw[Q9 λr h=>by rw[(i r h).1]]
  rcases OZ (λz=>F.cn.ne<|Jg.mp z) s (by rw[Zql,];lia)with z|⟨t,z1,z2,z3⟩;.left;generalize(a.map G).map _=ds at e z;simp[yf,w6,e,JT<|show ⇑a<=1000 from(),z,KU]
  .rw[.inr (t,p _ z1,z2,λf=>?_)];rw[z3,Zw];congr 1;rw[UJ λr b=>(i r b).2.2 _]
def WF(h:f sd=.ok b):wP f sd a=.ok %[b|a]:=by simp_all[wP]
def D5{n ar:5}{g:xT} {x:Res D} (h:⇑ds=ar)(b:g (Qr n ds) [%[a|d]]=x.bind λt=>.ok %[t|[%[a|e]]]):KB n ar g ds [%[a|d]]=x.bind λt=>.ok %[t|[%[a|e]]]:=by ext KB;rw[Zd h,b];cases(x)with|ok t=>rw[Zd 9]|ex c f=>rfl|no=>rfl
def Pc{n ar:5} (h:⇑ds=ar)(e:g (Qr n ds) a=.ex c b):KB n ar g ds a=.ex c b:=by simp_all[KB]
def vG(a b c d e):Qr 05 [a,b,c,d,e]=[~~~a,~~~b,~~~c,~~~d,~~~e]:=rfl
def GZ(bk d e:D)(a:Addr):QB n [bk,.str "all",d,035,.adr a] [%[a|e]]=(yg [d,035]).bind λt=>.ok %[t|[%[a|e]]]:=by rw[D5 9 ?_];rw[vG,];ext WE;rw[wJ,WF (b:=6) (by simp[Ou]),Res.bind_ok,Zd 9];simp
def Ha(bk d e:D)(a:Addr):QB n [bk,.str 034,d,035,.adr a] [%[a|e]]=(yy [d,035]).bind λt=>.ok %[t|[%[a|e]]]:=by rw[D5 9 ?_];rw[vG,];ext WE;rw[wJ,WF (b:=7) (by simp[Ov]),Res.bind_ok,Ze (),wJ,WF (b:=6) (by simp[Ow]),Res.bind_ok,Zd 9];simp
theorem Pd:∀{a:List jI},q∉a->yH q a=7|[],_=>9|k::a,h=>by show(decide _||yH q _)=7;rw[Pd λz=>h<|Zqm _ z,Zo λz=>h ()];rfl
theorem Pe:∀{a:List jI}{ds:YC},⇑a=⇑ds->q∉a->jH (a++[q]) (ds++[d]) q=!d|[],[],_,_=>Zd 9|[],_::_,h,_=>by cases h|_::_,[],h,_=>by cases h|k::a,e::ds,h,hq=>by show(if k=q then !e else jH _ _ q)=_;rw[Ze λz=>hq (),];rw[Pe (UU h) ()]
def lu(f:c sd=.ok (.adr a))(g:e sd=.ok (.str how))(h:jH b ds (.inr how)=!z):wR c e sd [%[a|.dct b ds]]=.ok %[z|[%[a|.dct b ds]]]:=by simp_all[wR,GD]
def Pg(c:jH b ds (.inr how)=!z):CY yf (Xb (wR (ja 04)<|014)<|Xb (wQ<|ja 2)<|Xb (wQ<|033) Go) [~~~bk,~~~.str how,~~~d,~~~035,~~~.adr a] [%[a|.dct b ds]]=(yf [z,d,035]).bind λt=>.ok %[t|[%[a|.dct b ds]]]:=by ext CY;rw[Xb,lu 9 9 c,Res.bind_ok];simp
def Hb:vF [04] (JB<|ji (xQ 6) 014<|ja 04) [~~~bk,~~~.str how,~~~d,~~~035,~~~.adr a] [%[a|.dct b ds]]=.ok (not<|(jH b ds<|.inr how).isSome):=by
 let e:derI [%[a|.dct b ds]] [04] [~~~bk,~~~.str how,~~~d,~~~035,~~~.adr a]=[~~~bk,~~~.str how,~~~d,~~~035,~~~.dct b ds]:=by
  show[! SV.val _,!_,!_,!_,~~~_]=_;let q:der [%[a|D.dct b ds]] (.adr a)=.dct b ds:=by ext der;rw[GD,]
  rw[q,]
 ext vF;rw[e,];rfl
def fG(c:asc how)(g:how ≠"all")(h:how ≠ 034) (e:jH f ds (.inr how)=!z):QB n [bk,.str how,d,035,.adr a] [%[a|.dct f ds]]=(yf [z,d,035]).bind λt=>.ok %[t|[%[a|.dct f ds]]]:=by rw[D5 9 ?_];rw[vG,];ext WE;rw[wJ,WF (b:=7) (by simp[KR c Xi,g]),Res.bind_ok,Ze (),wJ,WF (b:=7) (by simp[KR c Xj,h]),Res.bind_ok,Ze ()];rw[n9 (fS (by rw[Hb,e];rfl) 9)<|Pg e]
def z0e(h:asc how)(m:how ≠"all")(o:how ≠ 034) (p:jH e ds (.inr how)=8) (i:Kh n [bk,.str how,035,.adr a] [%[a|.dct e ds]]=.ok %[.lst ((ys++[t]).map jr)|[%[a|.dct ks' ds']]])(q:⇑ks'=⇑ds')(j:.inr how∉ks')(l:⇑ks'<=1000):QB n [bk,.str how,d,035,.adr a] [%[a|.dct e ds]]=(yf [jr t,d,035]).bind λz=>.ok %[z|[%[a|.dct (ks'++[.inr how]) (ds'++[jr t])]]]:=by
 let r:=KR h Xi;let s:=KR h Xj;let c:=GE (f:=jr) ys t;let g:=Pe (d:=jr t) q j;let v:=JT l;let w:=Pd j;rw[D5 9 ?_];rw[vG,];ext WE;rw[wJ,WF (b:=7) (by simp[r,m]),Res.bind_ok,Ze (),wJ,WF (b:=7) (by simp[s,o]),Res.bind_ok,Ze ()];rw[n9 (sd':=[~~~bk,~~~.str how,~~~d,~~~035,~~~.adr a]) (fR (by rw[Hb,p];rfl) ?_)<|Pg g];ext CZ;let x:uL vT (Xd (Kh n)<|J2 013<|J2 014<|J2 033<|J2 (ja 04) jb) (wQ<|jO xP<|026) [~~~bk,~~~.str how,~~~d,~~~035,~~~.adr a] [%[a|.dct e ds]]=.ok %[jr t|[%[a|.dct ks' ds']]]:=by generalize(ys++[t]).map jr=u at i c;let c:vT (.lst u) (.int<|-1)=! jr t:=c;simp[i,c]
 simp_all[NK,KN,Um,Res.bind_ok,GD,lQ]
def fH(e:asc how)(g:how ≠"all")(h:how ≠ 034) (j:jH f ds (.inr how)=8) (l:Kh n [bk,.str how,035,.adr a] [%[a|.dct f ds]]=.ex c i):QB n [bk,.str how,d,035,.adr a] [%[a|.dct f ds]]=.ex c i:=by rw[Pc 9 ?_];rw[vG,];ext WE;rw[wJ,WF (b:=7) (by simp[KR e Xi,g]),Res.bind_ok,Ze (),wJ,WF (b:=7) (by simp[KR e Xj,h]),Res.bind_ok,Ze (),Dq];simp_all[CZ,Hb]
theorem Ph:∀{a:List Rw},(∀r∈a,∀f,ya rc f r=ya c f r)->∀b,qs rc a b=qs c a b|[],_,_=>9|r::a,h,b=>by show qs _ _ (b++[ya _ _ r])=qs _ _ _;rw[h r Zqs,];rw[Ph () _]
def BkP.fuel(B:BkP V c):∀(j n:5)(q:Pl),c[j]?=!q->j<n->∀e,xm c n q e=xm c (j+1) q e:=by intro j;induction j using Nat.strongRecOn with|ind j i=>
intro n q o u e;let(l,rfl):∃l,n=l+1:=(n-1,());rw[GH,GH];rw[Ph (λr p f=>?_) _];let(k,s):=Jk.mp p;ext ya;obtain z|z|⟨_,z1,z2,j2,q2,z3,z4,z5,_⟩:=B.how o s
.rw[Zd z,Zd z]
.rw[Zd z,Zd z]
.rw[Ze z1,Ze z2,Ze z1,Ze z2,z5];ext xJ;rw[B.find z4,];show(xm _ _ q2 _).getLastD 0=(xm _ j q2 _).getLastD 0;rw[i _ z3 _ _ z4 (),i _ z3 j _ z4 ()]
def BkP.rc(B:BkP V c) (e:c[j]?=!q)(h:j<n)(f:Yf):xJ c n q.name f=xJ c (j+1) q.name f:=by ext xJ;rw[B.find e,];show(xm _ n q _).getLastD 0=(xm _ _ q _).getLastD 0;rw[B.fuel j n q e h,]
abbrev Kn:=List<|Str×J1
def kD(K:Kn):D:=.dct (K.map λx=>.inr x.1)<|K.map λx=>jr x.2
theorem fM(x:Str):∀K:Kn,jH (K.map λx=>.inr x.1) (K.map λx=>jr x.2) (.inr x)=8/\x∉K.map (·.1)\/∃f,%[x|f]∈K/\jH (K.map λx=>.inr x.1) (K.map λx=>jr x.2) (.inr x)=! jr f
|[]=>.inl (9,λz=>nomatch z)|y::K=>by
 rw[Zl,Zl,Fc];cases c:y.1=x;.grind
 .rcases fM x K with ⟨a,b⟩|⟨f,a,b⟩;.grind
  grind
noncomputable def wB(V:5):5->3|0=>V|j+1=>52*wB V j
theorem Bx:∀j,(V:3)<=wB V j|0=>UW _|j+1=>by let:=Bx j;show _<=52*wB V j;lia
theorem Hc:∀{i j:5},i<=j->wB V i<=wB V j
|i,0,h=>by rw[Nat.le_zero.mp h,];rw[UW _]|i,j+1,h=>by
 let p:=Bx (V:=V) j;obtain z|z:=UO j i;.rw[show i=j+1 by lia,];rw[UW _]
 .let:=Hc z;show _<=52*wB V j;lia
structure KOk(V:5)(ps:List Pl)(K:Kn):4 where
nd:(K.map (·.1)).Nodup
ok:∀x∈K,∃j q,ps[j]?=!q/\x.1=q.name/\Tf ⇑q.givens (wB V<|j+1) x.2/\∀hs:Yf,⇑hs=⇑q.givens->JG x.2 hs=xJ ps (j+1) q.name hs
def vi(b:List Pl)(j:5)(K c:Kn):4:=∀x∈c.map (·.1),x∈K.map (·.1)\/∃a q,a<j/\b[a]?=!q/\x=q.name
theorem Pi:∀(a:List Pl)(l:Yi),l.Nodup->(∀x∈l,∃q∈a,x=q.name)->⇑l<=⇑a
|[],l,_,h=>by cases(l)with|nil=>rw[Zf _]|cons x l=>let(-q,b,_):=h x Zqs;cases b
|p::a,l,nd,h=>by
 let c:=Pi a (l.erase p.name) (nd.erase _) λx e=>by grind
 grind
theorem KOk.len{K:Kn}(h:KOk V c K)(B:BkP V c):⇑K<=04:=by
 let:=Pi _ _ h.nd λx e=>by let(-y,f,rfl):=Ja.mp e;let(j q,i,l,_):=h.ok y f;rw[(q,Ug i,l)]
 rw[Zql]at this;let:=B.len;lia
def km(V:5)(b:List Pl)(n:5)(p:Pl)(j:5)(K:Kn):4:=(∀a,Kh n [JJ b,039,035,.adr a] [%[a|kD K]]=.ex "TooMany" [])\/∃T c,KOk V b c/\vi b j K c/\(∀g∈T,Tf ⇑p.givens (wB V<|j+1) g)/\(∀e:Yf,⇑e=⇑p.givens->(T.map λg=>JG g e)=xm b (j+1) p e)/\T ≠[]/\∀a,Kh n [JJ b,039,035,.adr a] [%[a|kD K]]=.ok %[.lst (T.map jr)|[%[a|kD c]]]
def vJ{f:D->Res (D×HP)}(h:x=KU):x.bind f=.ex "TooMany" []:=by rw[h,];rfl
def e5(B:BkP V i) {p:Pl}(O:i[j]?=!p)(IH:∀o q K,o<j->i[o]?=!q->KOk V i K->km V i n q o K){k:5}{r:Rw}(P:p.rows[k]?=!r) (hT:∀g∈T,Tf ⇑p.givens W g)(lT:⇑T=⇑p.givens+k){K:Kn}(C:KOk V i K):(∀a,QB n [JJ i,.str r.2.1,.lst ((r.2.2.map λp=>Q4 (ql T p.1) p.2).map jr),035,.adr a] [%[a|kD K]]=.ex "TooMany" [])\/∃t m,KOk V i m/\vi i j K m/\Tf ⇑p.givens (W+2*wB V j) t/\(∀c:Yf,JG t c=ya (xJ i j) (T.map λg=>JG g c) r)/\∀a,QB n [JJ i,.str r.2.1,.lst ((r.2.2.map λp=>Q4 (ql T p.1) p.2).map jr),035,.adr a] [%[a|kD K]]=.ok %[jr t|[%[a|kD m]]]:=by
 let R:=(B.ok j p O).row k r P;let sh:=R.sh;let(E,F):=Pa hT (its:=r.2.2) (V:=V) λy hy=>by let:=R.rng y hy;lia R.wt;let pj:=Bx (V:=V) j;let ne:(r.2.2.map λp=>Q4 (ql T p.1) p.2)≠[]:=λz=>R.ne<|Jg.mp z;let Q:⇑(r.2.2.map λp=>Q4 (ql T p.1) p.2)=⇑r.2.2:=Zql _;let same:vi i j K K:=λx A=>.inl A;ext ya;generalize(r.2.2.map λp=>Q4 (ql T p.1) p.2)=fs at E F ne Q;obtain z|z|⟨z0,z1,z2,o,q,z3,z4,z5,z6⟩:=B.how O P
 .rw[z,];simp only[if_true];rcases OY ne E ()with y|⟨t,s,v,w⟩;.rw[.inl λa=>by rw[GZ,];rw[vJ y]]
  .rw[.inr (t,K,C,same,v.mono (),λc=>?_,λa=>?_)];.rw[w,F]
   .rw[GZ,s];rfl
 .rw[z,];let d:¬(034:Str)="all":=002;simp only[if_true,Ze d];rcases OZ ne E ()with y|⟨t,s,v,w⟩;.rw[.inl λa=>by rw[Ha,];rw[vJ y]]
  .rw[.inr (t,K,C,same,v.mono (),λc=>?_,λa=>?_)];.rw[w,F]
   .rw[Ha,s];rfl
 .simp only[Ze z1,Ze z2];let rc:∀I,xJ i j r.2.1 I=xJ i (o+1) q.name I:=λI=>by rw[z5,];rw[B.rc z4 z3 I]
  let L:⇑fs=⇑q.givens:=Q.trans z6;let wj:=Hc (V:=V)<|show o+1<=j from();let S:∀c,⇑(fs.map λg=>JG g c)=⇑q.givens:=λc=>(Zql _).trans L;obtain⟨J,M⟩|⟨f,J,M⟩:=fM r.2.1 K
  .rcases IH o q K z3 z4 C with y|⟨U,m,k1,k2,k3,k4,k5,k6⟩;.rw[.inl λa=>fH z0 z1 z2 J<|by let:=y a;rw[<-z5]at this;rw[this]]
   .let(ys t,rfl):=GF k5;let X:Tf ⇑q.givens (wB V<|o+1) t:=k3 t<|Uo _ Zqs;let Y:∀c:Yf,⇑c=⇑q.givens->JG t c=xJ i (o+1) q.name c:=λc h=>by let e:=k4 c h;let(zs,ez):=B.part (n:=o) z4 c;rw[ez,Ud]at e;let e:=Zt (λl=>l.getLastD 0) e;let e:((ys.map λg=>JG g c)++[JG t c]).getLastD 0=(zs++[xJ i (o+1) q.name c]).getLastD 0:=e;rw[VM,VM]at e;rw[e]
    let Z:r.2.1∉m.map (·.1):=λy=>by
     obtain y|⟨N,G,s,v,w⟩:=k2 _ y;.rw[M y]
     .let e:q.name=G.name:=z5.symm.trans w;let:=B.inj o N q G z4 v e;lia
    let nk:(UB r.2.1:jI)∉m.map λx=>UB x.1:=λy=>by let(x,A,e):=Ja.mp y;injection e with e;rw[Z<|Ja.mpr (x,A,e)]
    let l4:=k1.len B;let H:=λa=>z0e (n:=n) (bk:=JJ i) (d:=.lst<|fs.map jr) z0 z1 z2 (a:=a) J (ys:=ys) (t:=t) (ks':=m.map λx=>.inr _) (ds':=m.map λx=>jr _) (by let:=k6 a;rw[<-z5]at this;rw[this]) (by rw[Zql,Zql]) nk (by rw[Zql,];lia);let kd:∀a:Addr,[%[a|D.dct ((m.map λx=>UB _)++[.inr r.2.1]) ((m.map λx=>jr _)++[jr t])]]=[%[a|kD (m++[%[r.2.1|t]])]]:=λa=>by ext kD;rw[Ud,Ud];rfl
    let ko:KOk V _ (m++[%[r.2.1|t]]):=(by rw[Ud,];rw[List.nodup_append.mpr (k1.nd,VH _ _,λa ha b hb e=>?_)];rw[e,Jb.mp hb]at ha;rw[Z ha],λx A=>by
obtain y|y:=Jc.mp A
.rw[k1.ok x y]
.rw[Jb.mp y,];rw[(_,q,z4,z5,X,Y)]);let nw:vi _ j K (m++[%[r.2.1|t]]):=λx A=>by
     rw[Ud]at A;obtain y|y:=Jc.mp A
     .rcases k2 x y with y|⟨N,G,s,v,w⟩;.rw[.inl y]
      .rw[.inr (_,_,(),v,w)]
     .rw[.inr (_,q,z3,z4,(Jb.mp y).trans z5)]
    obtain y|⟨u,s,v,w⟩:=Pb X L E;.rw[.inl λa=>by show QB n _ [%[a|D.dct _ _]]=_;rw[H,];rw[vJ y]]
    .rw[.inr (u,_,ko,nw,v.mono (),λc=>?_,λa=>?_)];.rw[w,Y _ (S _),rc,F]
     .show QB n _ [%[a|D.dct _ _]]=_;rw[H,s,kd];rfl
  .let(N G,s,v,w,y4):=C.ok _ J;let e:q.name=G.name:=z5.symm.trans v;let e:=B.inj _ _ q _ z4 s e;subst e;rw[z4]at s;cases s;let H:=λa=>fG (n:=n) (bk:=JJ i) (d:=.lst<|fs.map jr) z0 z1 z2 (a:=a) M;obtain y|⟨u,x1,x2,x3⟩:=Pb w L E;.rw[.inl λa=>by show QB n _ [%[a|D.dct _ _]]=_;rw[H,];rw[vJ y]]
   .rw[.inr (u,K,C,same,x2.mono (),λc=>?_,λa=>?_)];.rw[x3,y4 _ (S _),rc,F]
    .show QB n _ [%[a|D.dct _ _]]=_;rw[H a,x1];rfl
def iP{b:J0}(h:∀p∈b,0<=p.1/\p.1<(⇑T:3))(f:∀g∈T,⇑g<=1000/\∀r∈g,⇑r<=1000):jQ (.tup [0,1]) (K8 zB<|J2 (XG 2<|013)<|J2 014 jb) [8,8,!(.own 7<|.lst<|T.map jr)] (b.map xB)=.ok ((b.map λp=>Q4 (ql T p.1) p.2).map jr):=by rw[Zw,];rw[Q9 λp i=>by
let(c,e):=h p i;let a:=OO c e;let(j,l):=f _ (D1 c e);let m:=b9 (w:=p.2) j l
ext]
def WG(n:5):yh:=Bb (kG<|jv 09<|CW [8,8,!05] 2 (iS<|ja 08) (.tup [0,1])<|K8 zB<|J2 (XG 2<|013)<|J2 014 jb)<|Xc 05<|Xd (QB n)<|J2 013<|J2 (ja 07)<|J2 (ja 09)<|J2 (ja 2)<|J2 033 jb
noncomputable def y7(bk b c:D)(a:Addr)(T:YC)(e f g h:02 SV):SD:=[~~~bk,~~~b,~~~035,~~~.adr a,~~~c,!(.own 7<|.lst T),e,f,g,h]
def Pj{r:Rw}(f:∀p∈r.2.2,0<=p.1/\p.1<(⇑T:3))(h:∀g∈T,⇑g<=1000/\∀r∈g,⇑r<=1000)(l:⇑r.2.2<=1000):Wu (.tup [06,07,08]) (WG n) (jK r) (y7 bk nm pl a (T.map jr) u6 u7 u8 u9) hp=Xc 05 (Xd (QB n)<|J2 013<|J2 (ja 07)<|J2 (ja 09)<|J2 (ja 2)<|J2 033 jb) (y7 bk nm pl a (T.map jr) (~~~.str r.1) (~~~.str r.2.1) (~~~jA r.2.2)<|~~~(.lst<|(r.2.2.map λp=>Q4 (ql T p.1) p.2).map jr)) hp:=by let i:=iP f h;let j:=JT l;let m:∀a b c d e u6 u7 u8 u9,capO [8,8,!05] 2 [a,b,c,d,e,!(.own 7<|.lst<|T.map jr),u6,u7,u8,u9]=[8,8,! .own _ _]:=λb b b b b b b b b=>9;simp_all[y7,WG]
def Pk(h:QB n [bk,how,fs,035,.adr a] c=.ok %[d|b])(l:⇑T<=1000):Xc 05 (Xd (QB n)<|J2 013<|J2 (ja 07)<|J2 (ja 09)<|J2 (ja 2)<|J2 033 jb) (y7 bk e f a T g (~~~how) i<|~~~fs) c=.ok (.next (y7 bk e f a (T++[d]) g (~~~how) i<|~~~fs) b):=by let z:=JT l;simp_all[y7,Xc]
def pG(h:b x sd a=.ex c e):xC b (x::f) sd a=.ex c e:=by simp_all[xC]
def D6(h:b x sd e=.ok (.next a c)):xC b (x::f) sd e=xC b f a c:=by rw[xC,h];rfl
theorem Pm(B:BkP V c) {p:Pl}(hp:c[j]?=!p)(I:∀A q K,A<j->c[A]?=!q->KOk V c K->km V c n q A K):∀(b:List Rw)(i:5),p.rows.drop i=b->i<=⇑p.rows->∀(T:List J1)(K:Kn),(∀g∈T,Tf ⇑p.givens ((i:3)*(2*wB V j)) g)->⇑T=⇑p.givens+i->(∀f:Yf,⇑f=⇑p.givens->(T.map λg=>JG g f)=qs (xJ c j) (p.rows.take i) f)->KOk V c K->(∀(nm pl:D)(a:Addr)u6 u7 u8 u9,xC (Wu (.tup [06,07,08])<|WG n) (b.map jK) (y7 (JJ c) nm pl a (T.map jr) u6 u7 u8 u9) [%[a|kD K]]=.ex "TooMany" [])\/∃(m:List J1)(o:Kn),KOk V c o/\vi c j K o/\(∀g∈m,Tf ⇑p.givens ((⇑p.rows:3)*(2*wB V j)) g)/\⇑m=⇑p.givens+⇑p.rows/\(∀f:Yf,⇑f=⇑p.givens->(m.map λg=>JG g f)=qs (xJ c j) p.rows f)/\∀(nm pl:D)(a:Addr)u6 u7 u8 u9,∃C E F G,xC (Wu (.tup [06,07,08])<|WG n) (b.map jK) (y7 (JJ c) nm pl a (T.map jr) u6 u7 u8 u9) [%[a|kD K]]=.ok (.next (y7 (JJ c) nm pl a (m.map jr) C E F G) [%[a|kD o]])
|[],i,hd,M,T,K,hT,lT,cT,hK=>by
 let e:i=⇑p.rows:=by let:=Jx.mp hd;lia
 subst e;rw[Vv]at cT;rw[.inr<|qE T K (hK,λx s=>.inl s,hT,lT,cT,λnm pl a u6 u7 u8 u9=>jS u6 u7 u8 u9 9)]|r::b,i,hd,M,T,K,hT,lT,cT,hK=>by
 let l:i<⇑p.rows:=by
  obtain z|z:=UO i ⇑p.rows;.rw[z]
  .rw[Jx.mpr z]at hd;cases hd
 rw[Uq l]at hd;injection hd with N h2;let H:p.rows[i]?=!r:=by rw[Zqg l,N]
 let P:=B.ok j p hp;let R:=P.row i r H;let S:=P.g2;let U:=P.r2;let X:=R.sh;let J:=λ(nm pl:D)(a:Addr)u6 u7 u8 u9=>Pj (n:=n) (bk:=JJ c) (nm:=nm) (pl:=pl) (a:=a) (T:=T) (u6:=u6) (u7:=u7) (u8:=u8) (u9:=u9) (hp:=[%[a|kD K]]) (r:=r) λy O=>by let:=R.rng y O;lia (λg v=>(by let:=(hT g v).len;lia,λx s=>by let:=((hT g v).cn.rows x s).len;lia)) ();obtain z|⟨t,K1,k1,k2,k3,k4,k5⟩:=e5 B hp I H hT lT hK;.rw[.inl λnm pl a u6 u7 u8 u9=>pG<|by rw[J,];(simp_all[y7,Xc])]
 .let L:∀(nm pl:D)(a:Addr)u6 u7 u8 u9,Wu (.tup [06,07,08]) (WG n) (jK r) (y7 (JJ c) nm pl a (T.map jr) u6 u7 u8 u9) [%[a|kD K]]=.ok (.next (y7 (JJ c) nm pl a ((T++[t]).map jr) (~~~.str r.1) (~~~.str r.2.1) (~~~jA r.2.2)<|~~~(.lst<|(r.2.2.map λp=>Q4 (ql T p.1) p.2).map jr)) [%[a|kD K1]]):=λnm pl a u6 u7 u8 u9=>by rw[J,Pk (k5 a) (by rw[Zql,];lia),Ud];rfl
  let Y:=Bx (V:=V) j;let u:((i+1:5):3)*(2*wB V j)=(i:3)*(2*wB V j)+2*wB V j:=by rw[Int.natCast_add,Int.add_mul];lia
  let Q:=Pm B hp I b (i+1) h2 l (T++[t]) K1 λg v=>by
   obtain y|y:=Jc.mp v;.rw[(hT g y).mono<|by rw[u,];lia]
   .rw[Jb.mp y,];rw[k3.mono<|by rw[u,];lia] (by rw[Ua,Uj];lia) λf h=>by rw[Ud,cT f h,Oz H,<-cT f h];show _++[JG t f]=_;rw[k4,] k1;obtain y|⟨m,o,y1,y2,y3,y4,y5,y6⟩:=Q;.rw[.inl λnm pl a u6 u7 u8 u9=>(D6<|L nm pl a u6 u7 u8 u9).trans<|y nm pl a _ _ _ _]
  .rw[.inr<|qE m o (y1,λx s=>?_,y3,y4,y5,λnm pl a u6 u7 u8 u9=>?_)]
   .rcases y2 x s with w|w;.rw[k2 x w]
    .rw[.inr w]
   .let(C,E,F,G,e):=y6 nm pl a _ _ _ _;rw[jS C E F G<|(D6<|L nm pl a u6 u7 u8 u9).trans e]
def D7(r:J0):Qi [r]=[r]:=WR y9 (WC _) (VH _ _) λx=>(λh=>(xK.mp h).1,λh=>xK.mpr (h,vt.mpr λo a _=>by rw[Jb.mp a,Jb.mp h]))
theorem pK(h:t<g)(c:g<=12):Tf g 0 [[%[(t:3)|0]]]:=by rw[((VP _ _,λr b=>by rw[Jb.mp b,];rw[(VP _ _,VH _ _,λp a=>by rw[Jb.mp a,];rw[(by show(0:3)<=t;lia,by show(t:3)<12;lia)])],D7 _),(),λr b p a=>?_)];rw[Jb.mp b]at a;rw[Jb.mp a,];rw[(?_,UW _,UW _)];show(t:3)<g;lia
noncomputable def xO(g:5):List J1:=(List.range g).map λt:5=>[[%[(t:3)|(0:3)]]]
def iV(h:⇑a=g):((xO g).map λf=>JG f a)=a:=by
 ext xO;apply Va;intro i;obtain z|z:=UO i g;.let e:JG [[%[i|0]]] a=qQ _ _+0:=9;simp_all[qQ]
 ext
def Pn(B:BkP V b){n j:5} (c:b[j]?=!p) {K:Kn} (h:(zy (Bc (iS<|jO (j0 "Plan" "rows")<|ja 04) (.tup [06,07,08])<|WG n)<|ka 05<|wQ<|ja 05) (y7 (JJ b) 039 (JN p) a ((xO ⇑p.givens).map jr) 8 8 8 8) [%[a|kD K]]=X):D4 (QB n) (Qr 10 [JJ b,039,035,.adr a]) [%[a|kD K]]=X:=by
 let g:=(B.ok j p c).g2;let e:=OP (B.at c).2.2.1 B.ascs<|B.find c;let l:KO [.int ⇑p.givens]=.ok (Qm 0 ⇑p.givens):=by rw[WB () (),];rfl
 let m:jQ 031 (K8 uv<|037) [8] (Qm 0 ⇑p.givens)=.ok ((xO ⇑p.givens).map jr):=by ext xO;rw[Zw,];rw[Z8 λi o=>by simp]
 let q:=JT<|show ⇑p.givens<=1000 from();let f:Qr 10 [JJ b,039,035,.adr a]=[!_,!_,!_,!_,8,8,8,8,8,8]:=9;rw[f,];rw[n9 (sd':=[~~~JJ b,~~~039,~~~035,~~~.adr a,~~~JN p,8,8,8,8,8]) (Ot<|by simp[e]) ?_];rw[n9 (Ot ?_) h];simp_all[y7,Wo]
def Po(bk c:D)(p:Pl)(a:Addr)(T:YC)(e f g h:02 SV):iS (jO (j0 "Plan" "rows")<|ja 04) (y7 bk c (JN p) a T e f g h)=.ok (p.rows.map jK):=by let b:j0 "Plan" "rows" (JN p)=!(.lst<|p.rows.map jK):=9;generalize JN p=i at b;ext y7;simp[b]
def Pp(B:BkP V b){n j:5} (f:b[j]?=!p) {K c:Kn}{T:List J1} (e:xC (Wu (.tup [06,07,08])<|WG n) (p.rows.map jK) (y7 (JJ b) 039 (JN p) a ((xO ⇑p.givens).map jr) 8 8 8 8) [%[a|kD K]]=.ok (.next (y7 (JJ b) 039 (JN p) a (T.map jr) v6 v7 v8 v9) [%[a|kD c]])):Kh (n+1) [JJ b,039,035,.adr a] [%[a|kD K]]=.ok %[.lst (T.map jr)|[%[a|kD c]]]:=by rw[ie 9<|Pn B f ?_];rw[Dq,Bc,Po,Res.bind_ok,e,Res.bind_ok];rfl
theorem Pq(B:BkP V c):∀(n j:5)(p:Pl)(K:Kn),c[j]?=!p->j<n->KOk V c K->km V c n p j K
|0,_,_,_,_,h,_=>Zn h (US _)|n+1,j,p,K,b,hj,hK=>by
 let P:=B.ok j p b;let r:=P.g1;let s:=P.g2;let go:=Pm B b (n:=n) (λu q K v l m=>Pq B n _ q K l () m) p.rows 0 9 (Ub _) (xO ⇑p.givens) K λg f=>by let(-t,w,rfl):=Ja.mp f;grind[pK] (by ext xO;rw[Zql,ZB];rfl) λo h=>by rw[iV h,];rfl hK;obtain z|⟨T,K',k1,k2,k3,i,k5,k6⟩:=go;.rw[.inl λa=>?_];show KB _ 04 _ _ _=_;rw[Pc 9<|Pn B b ?_];rw[Dq,Bc,Po,Res.bind_ok,z];rfl
 .rw[.inr<|qE T _ (k1,k2,λg f=>(k3 g f).mono ?_,λo h=>?_,λe=>?_,λa=>?_)];.let x:=Bx (V:=V) j;let y:=P.r2;let:=Int.mul_le_mul_of_nonneg_right (show(⇑p.rows:3)<=26 by lia)<|show 0<=2*wB V j from();show _<=52*wB V j;lia
  .rw[k5 _ h,];rfl
  .rw[e]at i;let i:0=⇑p.givens+⇑p.rows:=i;lia
  .rw[sP (k6 039 (JN p) a 8 8 8 8) λ_ _ _ _ e=>?_];rw[Pp B b e]
def D8:FS:=jy<|Gq (Kh 04) (.dct [] [])<|J2 013<|J2 014<|016
def D9:YC->Res D:=jD 03 03 D8
def Bz:FS:=jy<|ji jY (J7 D9<|J2 013<|J2 014<|016)<|jO xP<|026
def Wf:YC->Res D:=jD 03 03 Bz
def Pr(h:∀a,(Kh 04 [bk,.str b,035,.adr a] [%[a|.dct [] []]]).bind (λq=>.ok q.1)=x):D9 [bk,.str b,035]=x:=by let c:Gq _ _ (J2 013<|J2 014<|016) [~~~_,~~~_,~~~_]=x:=l9 h;simp[D9,D8,c];cases(x)<;>rfl
def Ps{K:Kn}(h:∀a,Kh 04 [bk,.str b,035,.adr a] [%[a|kD []]]=.ok %[.lst ((ys++[t]).map jr)|[%[a|kD K]]]):Wf [bk,.str b,035]=.ok (jr t):=by
 let e:=Pr (x:=.ok _) λa=>by show Res.bind (Kh 04 _ [%[a|kD []]]) _=_;rw[h,];rfl
 let l:=GE (f:=jr) ys t;generalize(ys++[t]).map _=c at e l;simp[Wf,Bz,e,l]
def Pt(B:BkP V b) (f:b[j]?=!p):Wf [JJ b,039,035]=KU\/∃t,Wf [JJ b,039,035]=.ok (jr t)/\Tf ⇑p.givens (wB V<|j+1) t/\∀c:Yf,⇑c=⇑p.givens->JG t c=xJ b (j+1) p.name c:=by
 rcases Pq B 04 j p [] f (B.at f).2.1 (VI,λx h=>nomatch h)with z|⟨T,K',k1,k2,k3,k4,k5,k6⟩
 .left;let e:=Pr (x:=KU) λa=>by show Res.bind (Kh 04 _ [%[a|kD []]]) _=_;rw[z,];rfl
  simp_all[Wf,Bz,KU]
 .let(g t,rfl):=GF k5;rw[.inr (t,Ps k6,k3 t<|Uo _ Zqs,λc h=>?_)];let e:=k4 _ h;let(i,m):=B.part f _;rw[m,Ud]at e;let e:=Zt (λl=>l.getLastD 0) e;let e:(g.map _++[JG t _]).getLastD 0=(i++[xJ _ _ _ _]).getLastD 0:=e;rwa[VM,VM]at e
def B0:FS:=jg (jv 2<|dC .non)<|jg (vH 2 "TooMany" Wf (J2 013<|J2 014<|J2 (dC<|035) jb)<|jv 2<|dC .non)<|jy<|ja 2
def Y0:YC->Res D:=jD 03 2 B0
def Hd:FS:=jg (qr 03<|qy jb)<|jg (jv 04<|jp WZ<|037)<|jg (jP (zx<|016) (.one 05)<|jg (jv 06<|040)<|jg (jP (iS<|014) (.one 07)<|jP (iS<|ja 07) (.tup [08,09])<|qj (JB<|ji x6 (ja 08)<|ja 05) (jv 06<|jp XC<|J2 (ja 06)<|J2 (ji zJ 026<|ja 09) jb) JM)<|Ke 03<|jO xP<|Z5 (ja 04) (ja 05)<|jO xP<|ja 06)<|Kr 03
def Y1:YC->Res D:=qd 10 03 Hd
def vU:FS:=qj (JB<|ji x6 (ja 08)<|ja 05) (jv 06<|jp XC<|J2 (ja 06)<|J2 (ji zJ 026<|ja 09) jb) JM
def uZ:FS:=jg (jv 06<|040)<|jg (jP (iS<|014) (.one 07)<|jP (iS<|ja 07) (.tup [08,09]) vU)<|Ke 03<|jO xP<|Z5 (ja 04) (ja 05)<|jO xP<|ja 06
def bE(o:jF r)(A:⇑r<=100)(I:0<=n)(J:n<=12):∃h:Yf,⇑h=n.toNat/\Y1 [jA r,jr rs,.int n]=.ok (.lst<|h.map .int):=by let L:KO [.int n]=.ok (Qm 0 n.toNat):=WB () ();let M:=Fz A o;let B:XF (jr rs)=! rs.map jA:=9;generalize jr rs=v at*;generalize C:jA r=rd at*;let(-s,e,(h,w,y,a,f,g,E,m)):=Ko (tg:=.one 05) (b:=uZ) (ds:=Qm 0 n.toNat) (P:=λi sd=>∃(h:Yf)(w y a f g:02 SV),sd=[~~~rd,~~~v,~~~.int n,!(.own 7<|.lst<|h.map .int),~~~zz r,w,y,a,f,g]/\⇑h=i) (wd [] 8 8 8 8 8 (9,9)) (by
intro i x sd u;rw[vM λh w y a f g=>j4 λt m=>?_];subst t;let(rfl,N):=C9 u;let F:=JT<|show ⇑h<=1000 from();let G:=C8 o (i:3);let(-s,e,(l,a,f,g,rfl)):=Ko (tg:=.one 07) (b:=jP (iS<|ja 07) (.tup [08,09]) vU) (ds:=rs.map jA) (P:=λb sd=>∃(l:3)(a f g:02 SV),sd=[~~~rd,~~~v,~~~.int n,!(.own 7<|.lst<|h.map .int),~~~zz r,~~~.int i,~~~.int l,a,f,g]) (jS 0 a f g 9) (by
rintro j x sd u ⟨l,a,f,g,rfl⟩;let(-q,O,rfl):=Kg u;let(-s,e,H):=Ko (tg:=.tup [08,09]) (b:=vU) (ds:=q.map xB) (P:=λb sd=>∃(l:3)(a f g:02 SV),sd=[~~~rd,~~~v,~~~.int n,!(.own 7<|.lst<|h.map .int),~~~zz r,~~~.int i,~~~.int l,a,f,g]) (jS l (~~~jA q) f g 9) (by rintro k x sd u ⟨z,a,f,g,rfl⟩;let(-p,Q,rfl):=Kg u;rw[(_,?_,if p.1=(i:3)then if 1-p.2>z then 1-p.2 else z else z,a,~~~.int p.1,~~~.int p.2,9)];ext vU;cases c:p.1=(i:3)<;>simp[c])
rw[(s,?_,H)];simp[e])
rw[(_,?_,h++[-((JE r (i:3)).getD<|-l)],~~~.int i,~~~.int l,a,f,g,9,by simp[m])];ext uZ;simp[B,e];simp[zz,G,F]);rw[(h,m.trans<|Wo _ _,?_)];show qd 10 03 (jg (qr 03<|qy jb)<|jg (jv 04<|jp WZ<|037)<|jg (jP (zx<|016) (.one 05) uZ)<|Kr 03) _=_;ext
def DA:FS:=jy<|Qc [8] (iS<|jO (j0 "Book" "plans")<|013) 031<|qg<|J2 (jO (j0 "Plan" "name")<|013)<|J2 (jO (j0 "Plan" "givens")<|013)<|J2 (jO (j0 "Plan" "rows")<|013) jb
def Y2:YC->Res D:=qd 1 1 DA
def bA(h:⇑ps<=60):Y2 [JJ ps]=.ok (.lst<|ps.map XU):=by
 let a:jQ 031 (qg<|J2 (jO (j0 "Plan" "name")<|013)<|J2 (jO (j0 "Plan" "givens")<|013)<|J2 (jO (j0 "Plan" "rows")<|013) jb) [8] (ps.map JN)=.ok (ps.map XU):=Q9 λp d=>by simp[XU]
 let b:=JT<|show ⇑ps<=1000 from();simp[Y2,DA,a,b]
def Xr:FS:=jg (qj (z7 (QP<|JB<|K9 zf zf 026 (jp jE<|037)<|dC<|.int 12)<|z7 (JB<|ji (xQ 7) 013<|dC<|.tup<|List.map .str ["plan","given","all",034,"part"])<|JB<|ji (x5 6) (ji jY 013<|040)<|dC<|.str "abcdefghijklmnopqrstuvwxyz") (jy<|dC<|.bl 7) JM)<|jy<|jp wn<|J2 (Qc [8] (vR<|013) 031<|kc (ji (x5 7) 013<|dC<|.str "abcdefghijklmnopqrstuvwxyz")<|ji (x5 7) 013<|dC<|.str "0123456789") jb
def Ki:YC->Res D:=jD 1 1 Xr
def kB(x:Str):Bool:=(List.map D.str ["plan","given","all",034,"part"]).any λe=>sameD e<|036
def LT:Yh:=("abcdefghijklmnopqrstuvwxyz":Str).cps.toList
def FG:Yh:=("0123456789":Str).cps.toList
def B4(x:Str):Bool:=decide (1<=⇑x/\⇑x<=12)&&((not<|kB x)&&(decide (x.cps.toList.headD 0∈LT)&&x.cps.toList.all λc=>decide (c∈LT)||decide (c∈FG)))
def eI(h:TxtOk n x):xQ 7 036 (.tup<|List.map D.str ["plan","given","all",034,"part"])=!(.bl<|kB x):=by
 let p:plN 12 036=6:=by show PyData.strOk x=6;ext PyData.strOk;rw[<-V0,Uw];rw[λc a=>Zp<|Uh (v0.mp h.asc c a) ()]
 let q:(List.map D.str ["plan","given","all",034,"part"]).all (plN 12)=6:=002;show(if plN 12 036&&(List.map D.str ["plan","given","all",034,"part"]).all (plN 12)then !(D.bl<|if 7=6 then _ else kB x)else 8)=_;rw[p,q];rfl
def He(h:TxtOk n x)(u:n<=1000):Ki [036]=.ok (.bl<|B4 x):=by
 let j:=Dm h u;let b:=eI h;let v:ve x=6:=h.asc;ext B4;cases c:1<=⇑x/\⇑x<=12;.rw[Zp c,Bool.true_and];let e:(1:3)<=(⇑x:3):=();let m:(⇑x:3)<=12:=();induction k:kB x with|true=>rw[k]at b;simp[Ki,Xr,j,e,m]at b ⊢;simp[b]|false=>
rw[k]at b;let(-o,r,f,_):=Os (k:=0) h u () ();let w:x.cps.toList.headD 0=o:=by let f:x.cps.toList[0]?=!o:=f;induction l:x.cps.toList with|nil=>rw[l]at f;cases f|cons a A=>rw[l]at f;rw[Zqi f]
let g:=CM 6 o "abcdefghijklmnopqrstuvwxyz";rw[w,];let q:jQ 031 (kc (ji (x5 7) 013<|dC<|.str "abcdefghijklmnopqrstuvwxyz")<|ji (x5 7) 013<|dC<|.str "0123456789") [8] (uA x)=.ok ((x.cps.toList.map λc=>decide (c∈LT)||decide (c∈FG)).map .bl):=by rw[Zw,];rw[Q9 λc _=>?_];let i:=CM 7 c "abcdefghijklmnopqrstuvwxyz";let s:=CM 7 c "0123456789";let i:x5 _ (.str ⟨_⟩) (.str _)=!(.bl<|decide<|c∈LT):=i;let s:x5 _ (.str ⟨_⟩) (.str _)=!(.bl<|decide<|c∈FG):=s;induction p:decide (c∈LT)with|true=>rw[p]at i;simp[i,p]|false=>rw[p]at i;simp[i,s,p]
let t:=F8<|x.cps.toList.map λc=>decide (c∈LT)||decide (c∈FG);let y:(x.cps.toList.map λc=>decide (c∈LT)||decide (c∈FG)).all id=x.cps.toList.all λc=>decide (c∈LT)||decide (c∈FG):=by rw[Vw,];rfl
rw[y]at t;generalize(x.cps.toList.map _).map _=bs at q t;let z:⇑(uA x)<00:=JT (by ext uA;rw[Zql,Ue];let:⇑x=x.cps.size:=9;lia);let g:x5 _ (.str ⟨_⟩) (.str _)=!(.bl<|not<|decide<|o∈LT):=g;induction p:decide (o∈LT)with|true=>rw[p]at g;simp[Ki,Xr,j,e,m]at b r ⊢;simp[b,r,g,v,z,q,t]|false=>rw[p]at g;simp[Ki,Xr,j,e,m]at b r ⊢;simp[b,r,g]
 .rw[Zo c,Bool.false_and];let B:¬(1<=⇑x/\⇑x<=12):=();cases e:(1:3)<=⇑x;.let m:¬(⇑x:3)<=12:=();simp[Ki,Xr,j,e,m]
  .simp[Ki,Xr,j,e]
def DB:FS:=jy<|Cp (jp wn<|J2 (Qc [8] (iS<|013) 031<|J7 Ki<|037) jb)<|ji x6 (jp CS<|037)<|jp jE<|037
def B6:YC->Res D:=jD 1 1 DB
def pt:∀k:Fin 10,FG[k.val]?=! 48+k.val:=002
theorem Pu(h:uV c=6):c∈LT:=by unfold uV at h;rw[Uc,decide_eq_true_eq,decide_eq_true_eq]at h;let:=zn0 (c-97,());rw[show 97+(c-97)=c by lia]at this;rw[Ug this]
def Pv(h:vQ c=6):c∈FG:=by unfold vQ at h;rw[Uc,decide_eq_true_eq,decide_eq_true_eq]at h;let:=pt (c-48,());rw[show 48+(c-48)=c by lia]at this;rw[Ug this]
def Pw(h:XV x=6):B4 x=6:=by
 unfold XV at h;rw[Uc,Uc,Uc,Uc,decide_eq_true_eq,decide_eq_true_eq]at h;let(j,l,e,m,b):=h;let k:kB x=7:=by ext kB;rw[Vx,];intro d f;let(-w,g,rfl):=Ja.mp f;let:=Uw.mp e w g;rw[Bool.not_eq_true',decide_eq_false_iff_not]at this;rw[Bool.not_eq_true,v3];intro z;injection z with z;rw[this z]
 let a:(x.cps.toList.all λc=>decide (c∈LT)||decide (c∈FG))=6:=by
  rw[Uw]at b ⊢;intro c i;rcases Bool.or_eq_true_iff.mp (b c i)with z|z;.rw[Zp (Pu z),];rfl
  .rw[Zp (Pv z),Bool.or_true]
 grind[B4,decide_eq_true,Pu]
def iO{a:Yi}(h:a.Nodup)(b:⇑a<=999):CS [.lst (a.map .str)]=! .int ⇑a:=by
 let e:Q6 Qw (a.map .str)=! a.map UB:=YX (f:=Qw) (λb=>9) a;let c:(a.map (UB:Str->jI)).Nodup:=by grind
 show(Q6 Qw<|a.map .str).bind _=_;rw[e,];show(if(a.map (UB:Str->jI)).length<=999 then _ else _)=_;rw[Zql,Zd b,L2.ST.dedL_nodup c,Zql]
def Px{xs:Yi}(a:∀x∈xs,qU x)(c:xs.Nodup)(f:⇑xs<=60):B6 [.lst (xs.map .str)]=.ok (.bl 6):=by
 let e:jQ 031 (J7 Ki<|037) [8] (xs.map .str)=.ok ((xs.map λb=>6).map .bl):=by rw[Zw,];rw[Q9 λx b=>by let:=He (a x b).1 ();rw[Pw (a x b).2]at this;simp[this]]
 let g:=F8<|xs.map λb=>6;let h:=iO c ();let i:⇑(xs.map D.str)<00:=JT<|by rw[Zql,];lia
 simp_all[B6,DB]
def DC:FS:=jg (qj (QP<|JB<|J7 B6<|J2 (Qc [8] (iS<|jO (j0 "Book" "plans")<|013) 031<|jO (j0 "Plan" "name")<|013) jb) y8 JM)<|jP (iS<|jO (j0 "Book" "plans")<|013) (.one 1)<|qj (QP<|JB<|J7 B6<|J2 (ji j5 (jO (j0 "Plan" "givens")<|014)<|Qc [8,8,8] (iS<|jO (j0 "Plan" "rows")<|014) (.tup [0,1,2])<|013) jb) y8 JM
def DD:YC->Res D:=jD 2 1 DC
def Aa(c:Tg)(b:FS)(x:D)(sd:SD):xb c b [x] sd=((JX c x sd).bind b).bind λo=>match o with|.next a|.cont a|.brk a=>.ok (.next a)|.ret d=>.ok (.ret d):=by rfl
structure PlN(p:Pl):4 where
nm:qU p.name
tn:∀x∈p.givens++p.rows.map (·.1),qU x
td:(p.givens++p.rows.map (·.1)).Nodup
g1:1<=⇑p.givens
g2:⇑p.givens<=12
r1:1<=⇑p.rows
r2:⇑p.rows<=32
its:∀(k:5)(r:Str×Str×J0),p.rows[k]?=!r->ItOk ((⇑p.givens:3)+k) r.2.2/\1<=⇑r.2.2/\⇑r.2.2<=40
how:∀r∈p.rows,r.2.1="all"\/r.2.1=034
def ma(P:PlN p):DD [JJ [p]]=.ok .non:=by
 let b:=P.g2;let a:=P.r2;let c:=Px (xs:=[p.name]) (by simpa using P.nm) () ();let e:=JT<|show ⇑p.rows<=1000 from();let f:jQ (.tup [0,1,2]) 013 [8,8,8] (p.rows.map jK)=.ok ((p.rows.map (·.1)).map .str):=by rw[Zw,];rw[Q9 λr b=>by simp]
 let g:j5 (.lst<|p.givens.map .str) (.lst<|(p.rows.map (·.1)).map .str)=!(.lst<|(p.givens++p.rows.map (·.1)).map .str):=by rw[Ud,];rw[Zd<|Q8<|by simp;lia]
 let h:=Px P.tn P.td (by simp;lia);let i:jQ 031 (jO (j0 "Plan" "name")<|013) [8] [JN p]=.ok [039]:=9;let j:=JT<|show 1<=1000 from();simp_all[DD,DC,Aa]
def DE:FS:=jy<|ji (xQ 6) 013<|qg<|J2 (dC<|.str "all")<|J2 (dC<|.str 034) jb
def Xs:YC->Res D:=jD 1 1 DE
def bU(h:asc how):Xs [.str how]=.ok (.bl<|uU how):=by
 let p:plN 12 _=6:=KF h;let q:[D.str "all",D.str 034].all (plN 12)=6:=002;let g:xQ 6 (.str how) (.tup [.str "all",.str 034])=!(.bl<|uU how):=by show(if plN _ _&&[D.str _,D.str _].all _ then !(D.bl<|if 6=6 then not<|[D.str _,D.str _].any _ else _)else 8)=_;rw[p,q];ext uU sameD;let a:decide ("all"=how)=decide _:=decide_eq_decide.mpr eq_comm;let b:decide (034=how)=decide _:=decide_eq_decide.mpr eq_comm;simp[a,b]
 simp[Xs,DE,g]
def DF:FS:=jg (qr 1 C4)<|jP (iS<|jO (j0 "Book" "plans")<|013) (.one 2)<|jg (jP (iS<|jO (j0 "Plan" "rows")<|ja 2) (.tup [03,04,05])<|qj (KJ (JB<|J7 Xs<|J2 (ja 04) jb)<|JB<|ji xV (zl [1]<|Ba 014<|ja 04)<|jp jE<|J2 (ja 05) jb) y8 JM)<|XE 1 (jO (j0 "Plan" "name")<|ja 2)<|jp jE<|J2 (jO (j0 "Plan" "givens")<|ja 2) jb
def DG:YC->Res D:=jD 06 1 DF
def Py(P:PlN p){r:Rw}(h:r∈p.rows):Xs [.str r.2.1]=.ok (.bl 7):=by let e:=bU (how:=r.2.1);obtain z|z:=P.how r h<;>rw[z]at e ⊢<;>rw[e<|by ext asc;decide]
def bX(P:PlN p):DG [JJ [p]]=.ok .non:=by let(-sd,e,(a,c,f,g)):=Ko (tg:=.tup [03,04,05]) (b:=qj (KJ (JB<|J7 Xs<|J2 (ja 04) jb)<|JB<|ji xV (zl [1]<|Ba 014<|ja 04)<|jp jE<|J2 (ja 05) jb) y8 JM) (ds:=p.rows.map jK) (sd:=[~~~JJ [p],!(.own 7<|.dct [] []),~~~JN p,8,8,8]) (P:=λb sd=>∃a c f,sd=[~~~JJ [p],!(.own 7<|.dct [] []),~~~JN p,a,c,f]) (je _ _ _ 9) (by rintro j y _ h ⟨a,c,f,rfl⟩;let(-r,i,rfl):=Kg h;rw[(_,by simp[Py P (Ug i)];rw[(9,9,9)],_,_,_,9)]);subst g;simp[DG,DF,Aa,e,JT<|show 0<=1000 from()]
def DH:FS:=jg (jv 1<|jp jE<|J2 (jO (j0 "Plan" "givens")<|013) jb)<|jP (iS<|jO (j0 "Plan" "rows")<|013) (.tup [2,03,04])<|jg (qj (QP<|JB<|K9 zf zf 026 (jp jE<|J2 (ja 04) jb)<|dC<|.int 40) y8 JM)<|jg (jP (iS<|ja 04) (.tup [05,06])<|jg (qj (QP<|JB<|K9 zf uX 040 (ja 05)<|014) y8 JM)<|qj (JB<|ji bg (jp wo<|J2 (ja 06) jb)<|ji ze (dC<|.int 10)<|dC<|.int 30) y8 JM)<|vI 1<|026
def DI:YC->Res D:=jD 07 1 DH
def bY(P:PlN p):DI [JN p]=.ok .non:=by
 let o:ze (.int 10) (.int 30)=! .int 1000000000000000000000000000000:=9;let(-s,t,(h,l,m,a,c,e)):=Ko (tg:=.tup [2,03,04]) (b:=jg (qj (QP<|JB<|K9 zf zf 026 (jp jE<|J2 (ja 04) jb)<|dC<|.int 40) y8 JM)<|jg (jP (iS<|ja 04) (.tup [05,06])<|jg (qj (QP<|JB<|K9 zf uX 040 (ja 05)<|014) y8 JM)<|qj (JB<|ji bg (jp wo<|J2 (ja 06) jb)<|ji ze (dC<|.int 10)<|dC<|.int 30) y8 JM)<|vI 1<|026) (ds:=p.rows.map jK) (sd:=[~~~JN p,~~~.int ⇑p.givens,8,8,8,8,8]) (P:=λi sd=>∃h l m a c:02 SV,sd=[~~~JN p,~~~(.int<|(⇑p.givens:3)+i),h,l,m,a,c]) (j8 8 8 8 8 8 ()) (by
rintro i x sd u ⟨h,l,m,a,c,rfl⟩;let(-r,v,rfl):=Kg u;let(!I,O,Q):=P.its i r v;let(g,hg):∃g:3,(⇑p.givens:3)+i=g:=(_,9);rw[hg]at I;let(-w,z,(A,B,f)):=Ko (tg:=.tup [05,06]) (b:=jg (qj (QP<|JB<|K9 zf uX 040 (ja 05)<|014) y8 JM)<|qj (JB<|ji bg (jp wo<|J2 (ja 06) jb)<|ji ze (dC<|.int 10)<|dC<|.int 30) y8 JM) (ds:=r.2.2.map xB) (sd:=[~~~JN p,~~~.int g,~~~.str r.1,~~~.str r.2.1,~~~jA r.2.2,a,c]) (P:=λb sd=>∃a c:02 SV,sd=[~~~JN p,~~~.int g,~~~.str r.1,~~~.str r.2.1,~~~jA r.2.2,a,c]) (a,c,9) (by
rintro j y sd C ⟨a,c,rfl⟩;let(-q,E,rfl):=Kg C;let n:q∈r.2.2:=Ug E;let(!F,G):=I.rng q n;let(!R,S):=I.far q n;let H:¬(1000000000000000000000000000000:3)<=if q.2<0 then-q.2 else q.2:=by split<;>lia
rw[([~~~JN p,~~~.int g,~~~.str r.1,~~~.str r.2.1,~~~jA r.2.2,~~~.int q.1,~~~.int q.2],?_,_,_,9)];simp[F,G,o,H])
subst f;let J:(1:3)<=(⇑r.2.2:3):=()
let L:(⇑r.2.2:3)<=40:=()
let M:g+1=(⇑p.givens:3)+((i+1:5):3):=()
rw[([~~~JN p,~~~(.int<|g+1),~~~.str r.1,~~~.str r.2.1,~~~jA r.2.2,A,B],?_,_,_,_,_,_,by rw[M,])];let N:jE [jA r.2.2]=! .int ⇑r.2.2:=by show some (D.int ⇑(r.2.2.map xB))=_;rw[Zql,]
rw[hg,];simp[N,J,L,z]);subst e;simp[DI,DH,t]
def DJ:FS:=jg (qj (QP<|JB<|K9 zf zf 026 (jp jE<|J2 (jO (j0 "Book" "plans")<|013) jb)<|dC<|.int 20) y8 JM)<|jP (iS<|jO (j0 "Book" "plans")<|013) (.one 1)<|jg (qj (QP<|JB<|K9 zf zf 026 (jp jE<|J2 (jO (j0 "Plan" "givens")<|014) jb)<|dC<|.int 12) y8 JM)<|jg (qj (QP<|JB<|K9 zf zf 026 (jp jE<|J2 (jO (j0 "Plan" "rows")<|014) jb)<|dC<|.int 40) y8 JM)<|X9<|J7 DI<|J2 014 jb
def DK:YC->Res D:=jD 2 1 DJ
def bZ(P:PlN p):DK [JJ [p]]=.ok .non:=by let f:=P.g1;let g:=P.g2;let h:=P.r1;let i:=P.r2;let a:(1:3)<=(⇑p.givens:3):=();let b:(⇑p.givens:3)<=12:=();let c:(1:3)<=(⇑p.rows:3):=();let e:(⇑p.rows:3)<=40:=();simp[DK,DJ,Aa,a,b,c,e,bY P]
def DM:FS:=jg (qr 1 C4)<|jg (jP (iS<|jO (j0 "Book" "plans")<|013) (.one 2)<|jg (qr 03<|Nz [1]<|WA [8,8,8,!1] (iS<|jO (j0 "Plan" "rows")<|ja 2) (.tup [0,1,2]) (JB<|J7 Xs<|J2 014 jb)<|ji jY 033<|014)<|XE 1 (jO (j0 "Plan" "name")<|ja 2)<|ji j5 (jp jE<|J2 (jO (j0 "Plan" "rows")<|ja 2) jb)<|zl [03]<|jp zI<|J2 033 jb)<|Kr 1
def DN:YC->Res D:=qd 04 1 DM
def bV(P:PlN p):DN [JJ [p]]=.ok (.dct [.inr p.name] [.int ⇑p.rows]):=by let a:V8 (.tup [0,1,2]) (JB<|J7 Xs<|J2 014 jb) (ji jY 033<|014) [8,8,8,~~~.dct [] []] (p.rows.map jK)=.ok []:=(CB (p:=λb=>7) (g:=λb=>D.non) λr d=>by simp;rfl λr b=>by simp[Py P b] ()).trans ();simp[DN,DM,Aa,JT<|show ⇑p.rows<=1000 by let:=P.r2;lia,a,JT<|show 0<=1000 from(),show Ny (.lst [])=6 from 9,show zI [.lst []]=! .int 0 from 9];rw[(9,9)]
def DO:FS:=jP (dO<|J7 DN<|037) (.tup [1,2])<|qj (JB<|ji u5 (ja 2)<|dC<|.int 2000) y8 JM
def DP:YC->Res D:=jD 03 1 DO
def bW(P:PlN p):DP [JJ [p]]=.ok .non:=by
 let c:¬(2000:3)<⇑p.rows:=by let:=P.r2;lia
 simp[DP,DO,Aa,bV P,XM,c]
def DQ:FS:=jg (X9<|J7 DD<|037)<|jg (X9<|J7 DK<|037)<|jg (X9<|J7 DG<|037)<|X9<|J7 DP<|037
def Ab:YC->Res D:=jD 1 1 DQ
def Pz(P:PlN p):Ab [JJ [p]]=.ok .non:=by simp[Ab,DQ,ma P,bZ P,bX P,bW P]
def DR:FS:=jg (qr 03<|Qc [8,8] (uW 0<|016) (.tup [0,1])<|qg<|J2 (jO (yI "r")<|013)<|J2 (dC<|.str "all")<|J2 014 jb)<|jg (Ke 03<|qg<|J2 (dC<|.str "end")<|J2 (dC<|.str 034)<|J2 (jp W9<|J2 (Qc [8,!1] (zx<|J2 (jp jE<|016) jb) 031<|qg<|J2 (ji j5 014<|013)<|J2 040 jb) jb) jb)<|λsd=>(jy<|Wq "Plan" 008 Xo<|J2 013<|J2 (Qc [8] (zx<|J2 014 jb) 031<|jO (yI "g")<|013)<|J2 033 jb)<|qF [03] sd
def Ac:YC->Res D:=qd 04 03 DR
def me{many:5} (e:many<=12)(h:⇑f<=40):Ac [.str a,.int many,jr f]=.ok (JN<|vu a many f):=by
 let j:KO [.int many]=.ok (Qm 0 many):=by rw[WB () (),];rfl
 let l:KO [.int ⇑f]=.ok (Qm 0 ⇑f):=by rw[WB () (),];rfl
 let m:jQ (.tup [0,1]) (qg<|J2 (jO (yI "r")<|013)<|J2 (dC<|.str "all")<|J2 014 jb) [8,8] (KQ 0<|f.map jA)=.ok ((List.range ⇑f).map λk=>jK<|yY k<|f.getD k []):=by rw[Oy,];rw[Q9 λk b=>by
let b:=Ji.mp b;let g:=Ox "r" (k:=k) ()
simp_all[jK,yY]]
 let n:jQ 031 (qg<|J2 (ji j5 014<|013)<|J2 040 jb) [8,~~~.int many] (Qm 0 ⇑f)=.ok ((List.range _).map λk:5=>xB %[many+k|0]):=Z8 λi c=>by simp[xB]
 let o:jQ 031 (jO (yI "g")<|013) [8] (Qm 0 many)=.ok ((List.range _).map λk:5=>.str<|"g"++jT k):=Z8 λi c=>by simp[Ox "g" (k:=i) ()]
 let p:=JT<|show ⇑f<=1000 from();let q:=JT<|show many<=1000 from();let le:⇑(KQ 0<|f.map jA)=⇑f:=by rw[Oy,Zql,ZB]
 let r:JN (vu a many f)=.ins "Plan" 008 [.str a,.lst ((List.range many).map λk:5=>.str<|"g"++jT k),.lst (((List.range ⇑f).map λk=>jK<|yY k<|f.getD k [])++[.tup [.str "end",.str 034,.tup ((List.range ⇑f).map λk:5=>xB %[many+k|0])]])]:=by ext JN vu;simp_all[jK,jA,yZ,Zl]
 let s:jr f=.lst (f.map _):=9;simp_all[Ac,DR,Wo,Xo,zZ,Qr]
def B7:FS:=jg (jv 2<|mt 014 (V9<|jp jE<|037) KP)<|jy<|kI (KJ (JB<|qM Dg 014<|013)<|JB<|J7 Ki<|016) (ja 2)<|dC .non
def Y3:YC->Res D:=jD 03 2 B7
def DS:FS:=jy<|Cp (K9 zf zf 026 (jp jE<|037)<|dC<|.int 30)<|Cp (ji xV (ji jY 013<|040)<|dC<|.str "0")<|jp wn<|J2 (Qc [8] (vR<|013) 031<|ji (x5 7) 013<|dC<|.str "0123456789") jb
def DT:YC->Res D:=jD 1 1 DS
def Ad:FS:=jg (qj (JB<|J7 Ki<|037) (jy<|qg<|J2 013<|J2 040 jb) JM)<|jg (jP (iS<|qg<|J2 (dC<|.str "+")<|J2 (dC<|.str "-") jb) (.one 1)<|jg (jv 2<|qM Wv 013<|014)<|qj (KJ (JB<|ji x6 (jp jE<|016)<|dC<|.int 2)<|KJ (JB<|J7 Ki<|J2 (ji jY (ja 2)<|040) jb)<|JB<|J7 DT<|J2 (ji jY (ja 2)<|026) jb) (jy<|qg<|J2 (ji jY (ja 2)<|040)<|J2 (jp Bh<|J2 (ji j5 014<|ji jY (ja 2)<|026) jb) jb) JM)<|jy<|dC .non
def Xt:YC->Res D:=jD 03 1 Ad
def DU:FS:=jg (jv 03<|Qc [8] (iS<|qM Wv (qM ZT (dC<|.str " ")<|ja 2)<|dC<|.str ", ") 031<|J7 Xt<|037)<|jy<|kI (JB<|ji (xQ 7) (dC .non)<|033) (dC .non)<|qg<|J2 013<|J2 014<|J2 033 jb
def B8:YC->Res D:=jD 04 03 DU
def B9:FS:=jg (jv 1<|qM Wv 013<|dC<|.str " ")<|jg (qj (z7 (JB<|ji uX (jp jE<|J2 014 jb)<|dC<|.int 04)<|z7 (JB<|ji xV (ji jY 014<|040)<|dC<|.str "")<|QP<|JB<|J7 Ki<|J2 (ji jY 014<|026) jb) (jy<|dC .non) JM)<|jg (qj (JB<|ji (xQ 7) (ji jY 014<|dC<|.int 2)<|qg<|J2 (dC<|.str "all")<|J2 (dC<|.str 034) jb) (jy<|J7 B8<|J2 (ji jY 014<|026)<|J2 (ji jY 014<|dC<|.int 2)<|J2 (kb 014 (V9<|dC<|.int 03) KP KP) jb) JM)<|jg (qj (KJ (JB<|ji x6 (ji jY 014<|dC<|.int 2)<|dC<|.str "part")<|JB<|J7 Ki<|J2 (ji jY 014<|dC<|.int 03) jb) (jy<|J7 B8<|J2 (ji jY 014<|026)<|J2 (ji jY 014<|dC<|.int 03)<|J2 (kb 014 (V9<|dC<|.int 04) KP KP) jb) JM)<|jy<|dC .non
def Ae:YC->Res D:=jD 2 1 B9
def Y4:xH:=xf (zL<|jv 03<|J7 Y3<|J2 (dC<|.str " given ")<|016)<|xf (zL<|jv 04<|J7 Ae<|016)<|xf (ZQ (kX 06 [0]<|KJ (JB<|jO (qW 6)<|033)<|JB<|ji x6 (jO (j0 "Draft" "rows")<|013)<|qy jb) (xf (vB (uM "Draft" "givens"<|vL<|013)<|vL<|033)<|zq<|vL<|dC<|.bl 6) XP)<|xf (ZQ (rJ<|JB<|jO (qW 6)<|ja 04) (xf (vB (uM "Draft" "rows"<|vL<|013)<|vL<|qg<|J2 014<|J2 (ja 04) jb)<|zq<|vL<|dC<|.bl 6) XP)<|zq<|vL<|dC<|.bl 7
def BA:YC->HP->Wr (D×HP):=yB 05 03 Y4
def Y5:xH:=xf (zL<|jv 03<|J7 Y3<|J2 (dC<|.str "plan ")<|016)<|xf (ZQ (rJ<|JB<|jO (qW 6)<|033) (xf (vB (vL<|013)<|G1 "Draft" GR<|Wd (vL<|033) yW)<|zq<|vL<|dC<|.bl 6) XP)<|zq<|kY (dk 06 [0]<|ji vS 013<|qy jb)<|Bd BA<|Wd (dm (vL<|013)<|vL<|jO xP<|026)<|Wd (vL<|014)<|Wd (vL<|ja 2) yW
def Af:YC->HP->Wr (D×HP):=yB 04 03 Y5
def DV:xH:=xf (uK 1<|wS yW)<|xf (v5 (uW 1<|J2 (qM Wv 013<|dC<|.str "\n") jb) (.tup [2,03])<|ZQ (G2<|Bg<|Bd Af<|Wd (vL<|014)<|Wd (vL<|ja 2)<|Wd (vL<|033) yW) (zL y8) XP)<|zq<|vL<|014
def dh(ds:YC)(d:D):4:=⇑ds=1/\((DV (Qr 04 ds) []).bind xM).need (λp=>dr p.2 06 p.1=d) λb b=>False
open Classical in
def Xu:YC->Res D:=λds=>if h:∃d,dh ds d then .ok (choose h)else .no
def kW:∀ds d,Xu ds=.ok d->⇑ds=1/\((DV (Qr 04 ds) []).bind xM).need (λp=>dr p.2 06 p.1=d) λ_ _=>False:=λds d h=>by
 unfold Xu at h;split at h;.rename_i e;let:=Classical.choose_spec e;cases h;rw[this]
 .cases h
def kR:∀ds,∀c fs,Xu ds ≠ .ex c fs:=λds c fs h=>by unfold Xu at h;split at h<;>cases h
def DW:FS:=jg (jP (iS<|013) (.tup [03,04])<|qj (JB<|ji (xQ 6) 033<|014) y8 JM)<|jy<|jp W9<|J2 (Qc [8,8,!1] (iS<|013) (.tup [0,1])<|qg<|J2 (ji jY (ja 2)<|013)<|J2 014 jb) jb
def Ag:YC->Res D:=jD 05 03 DW
def DX:FS:=jg (qr 1 C4)<|jg (jP (uW 0<|037) (.tup [2,03])<|Dj 1 033<|ja 2)<|Kr 1
def DY:YC->Res D:=qd 04 1 DX
def DZ:FS:=jg (jv 1<|J7 DY<|J2 (ji j5 (jO (j0 "Draft" "givens")<|013)<|Qc [8,8] (iS<|jO (j0 "Draft" "rows")<|013) (.tup [0,1])<|ji jY 014<|040) jb)<|jg (qr 2<|qy jb)<|jg (jP (iS<|jO (j0 "Draft" "rows")<|013) (.tup [03,04])<|Ke 2<|qg<|J2 (ji jY (ja 04)<|040)<|J2 (ji jY (ja 04)<|026)<|J2 (J7 Ag<|J2 (ji jY (ja 04)<|dC<|.int 2)<|J2 014<|J2 033 jb) jb)<|λsd=>(jy<|Wq "Plan" 008 Xo<|J2 (jO (j0 "Draft" "name")<|013)<|J2 (jO (j0 "Draft" "givens")<|013)<|016)<|qF [2] sd
def BB:YC->Res D:=qd 05 1 DZ
def Ea:FS:=jg (jv 1<|Wq "Book" ["plans"] Xn<|J2 (Qc [8] (iS<|J7 Xu<|037) 031<|J7 BB<|037) jb)<|jg (X9<|J7 Ab<|J2 014 jb)<|jy<|014
def BC:YC->Res D:=jD 2 1 Ea
def rB:StrLaws.At x s ⇑x i↔i+⇑s<=⇑x/\(x.cps.toList.drop i).take ⇑s=s.cps.toList:=by ext StrLaws.At;rw[StrLaws.subAt_eq,Yp]
theorem P0(n:s.cps.toList=c::t):∀(j:Yi)(r:Str)(a:5)(g:Yh)(f:5),a<=⇑x->x.cps.toList.drop a=(Txt.join s<|r::j).cps.toList->(∀p∈r::j,c∉p.cps.toList)->StrLaws.ChainG x s ⇑x a g f->(∀k,f<=k->¬StrLaws.At x s ⇑x k)->StrLaws.partsFrom x ⇑s a g=r::j
|[],r,a,[],f,ha,hx,m,hG,hn=>by show[Builtin.Str.strSub x a _]=[r];congr 1;apply Ww;rw[StrLaws.strSub_toList,hx,Xm];apply UG;let:=Zt List.length hx;rw[Xm,VB]at this;rw[<-this];rw[Zf _]|[],r,a,d::u,f,ha,hx,m,hG,hn=>by
 exfalso;let v:=(rB.mp hG.2.1).2;let e:x.cps.toList.drop d=r.cps.toList.drop (d-a):=by rw[<-Xm s r,<-hx,U5];congr 1;let:=hG.1;lia
 grind|r2::j,r,a,g,f,ha,hx,m,hG,hn=>by
 rw[Xl,Qq,Qq]at hx;let w:⇑s=⇑t+1:=by show s.cps.size=_;rw[<-Ue,n];rfl
 let y:⇑r=⇑r.cps.toList:=9;let A:=Zt List.length hx;let B:⇑x.cps.toList=⇑x:=Ue;let i:⇑s.cps.toList=⇑s:=Ue;rw[VB,Ua,Ua,B,i]at A;let q:x.cps.toList.drop (a+⇑r)=s.cps.toList++(Txt.join s<|r2::j).cps.toList:=by rw[<-U5,hx,y,Uf,List.drop_left]
 let M:StrLaws.At x s ⇑x (a+⇑r):=by rw[rB.mpr ((),?_)];rw[q,<-i,List.take_left]
 let no:∀k,a<=k->k<a+⇑r->¬StrLaws.At x s _ k:=λk N v C=>by
  let o:=(rB.mp C).2;let e:x.cps.toList.drop k=(r.cps.toList++(s.cps.toList++(Txt.join s<|r2::j).cps.toList)).drop (k-a):=by rw[<-Uf,<-hx,U5];congr 1;lia
  rw[e,List.drop_append_of_le_length (),n,w]at o;let(b,l,hl):∃b l,r.cps.toList.drop (k-a)=b::l:=by cases E:r.cps.toList.drop _ with|nil=>let z:=Zt List.length E;rw[VB,ZC]at z;lia|cons b l=>rw[qE b l 9]
  rw[hl,List.cons_append,List.take_succ_cons]at o;injection o with h4 _;rw[m r Zqs<|List.mem_of_mem_drop<|by rw[hl,h4];rw[Zqs]]
 cases(g)with|nil=>let O:f=a:=hG;rw[()]|cons d u=>
let(!F,G,P,H):=hG;let I:d=a+⇑r:=by
 obtain h|h|h:=U8 d _;.rw[Zn G<|no d F h]
 .rw[h]
 .rw[()]
subst I;let J:Builtin.Str.strSub x a (a+⇑r)=r:=by apply Ww;rw[StrLaws.strSub_toList,hx,show a+⇑r-a=⇑r.cps.toList by lia,Uf,List.take_left]
show Builtin.Str.strSub x a _::StrLaws.partsFrom x _ _ _=_;rw[J,P0 n _ _ _ _ f () (by rw[<-U5,q,<-i,List.drop_left]) (λp L=>m p<|Zqm _ L) H hn]
def Y6(e:s.cps.toList=c::t)(m:s.cps.all (·<256)=6) (g:∀p∈r::rs,c∉p.cps.toList):Txt.split (Txt.join s<|r::rs) s=r::rs:=by
 let n:⇑s=⇑t+1:=by show s.cps.size=_;rw[<-Ue,e];rfl
 let(-f,i,j):=StrLaws.occ_tight (Txt.join s<|r::rs) s ();let a:=P0 e rs r 0 _ f (Ub _) 9 g i j;ext Txt.split;split;.rename_i b;cases(rs)with|nil=>rw[Xm,]|cons o rs=>
  rw[Xl]at b;simp[Q3]at b;obtain h|h:=b;.omega
  .exfalso;unfold Builtin.Str.strKind at h;split at h;.omega
   .split at h<;>lia
 .split;.rename_i l;rw[List.isEmpty_iff.mp l]at a;rw[Eq.trans ?_ a];show[_]=[_];rw[StrLaws.sub_whole,]
  .rwa[StrLaws.partsBetween_eq,]
def oX(a b:Str):Txt.startswith (a++b) a=6:=by show(decide _&&Builtin.Str.subAt _ a 0)=6;rw[StrLaws.subAt_eq,Q3,Zp (),Bool.true_and,Yp,Qq,List.drop_zero];rw[rfl.trans<|by rw[show ⇑a=⇑a.cps.toList from(Ue).symm,List.take_left]]
def P1(h:(x.cps.toList).take ⇑y≠y.cps.toList):Txt.startswith x y=7:=by show(decide _&&Builtin.Str.subAt x y 0)=7;simp_all[StrLaws.subAt_eq]
def P3(a:asc x)(b:asc y):xV 036 (.str y)=!(.bl<|not<|decide<|x=y):=by
 rw[AI (KF a) (KF b),];cases z:x=y;.simp_all[Wm]
 .rw[Zo z,v3.mpr λq=>z<|D.str.inj q]
def znK(a b:Str):Txt.slice (a++b) (!(⇑a:3)) 8=b:=by let l:(a++b).cps.toList.length=⇑a+⇑b:=Q3 a b;let e:Txt.slice (a++b) (!⇑a) 8=StrLaws.sliceText _ _ _:=9;rw[e,StrLaws.sliceText_from ()];apply Ww;rw[l,Qq,Vu,show ⇑a=⇑a.cps.toList from 9,List.drop_left];rw[UG ?_];let:⇑b=⇑b.cps.toList:=(Ue).symm;lia
def oH(e:x.cps.toList=43::y.cps.toList)(a:NumText.AllDigits y.cps.toList):intText? x=intText? y:=by
 let j:∀c∈x.cps.toList,43<=c/\c<58:=by
  rw[e,];intro c b;obtain z|z:=UN.mp b;.omega
  .let:=a c z;lia
 let f:numTextOf x=x.cps.toList:=Zd<|by rw[<-V0,Uw];grind
 let l:numSeenOf x=x.cps.toList:=by show(numTextOf x).takeWhile _=_;rw[f,];rw[NumText.takeWhile_all ()]
 let(!m,m2):=numText_signs λc b=>.inr<|a c b;let g:NumText.sign (x.cps.toList.dropWhile NumText.blank)=%[7|y.cps.toList]:=by rw[e,NumText.dropWhile_of 004];rfl
 let i:(NumText.sign<|y.cps.toList.dropWhile NumText.blank)=%[7|y.cps.toList]:=by rw[NumText.dropWhile_digits a,];induction h:y.cps.toList with|nil=>rfl|cons c n=>let:=(h ▸ a).head;rw[NumText.sign_of () ()]
 ext intText?;rw[f,l,m,m2,show NumText.core x.cps.toList=NumText.core y.cps.toList by ext NumText.core;rw[g,i],g,i,beq_self_eq_true,beq_self_eq_true]
theorem P4:∀m:5,1<=m->((Nat.toDigits 10 m).map Char.toNat).headD 0≠48
|m,h=>by
 cases g:m<10;.rw[V7 g,];let:∀k:Fin 10,1<=k.val->([Nat.digitChar k.val].map Char.toNat).headD 0≠48:=004;rw[this (m,g) h]
 .rw[Nat.toDigits_of_base_le () (),Ud];let a:=P4 (m/10) ();cases e:(Nat.toDigits _ _).map _ with|nil=>ext|cons c b=>ext
termination_by m=>m
theorem P5:∀(k m:5),m<10^(k+1)->⇑(Nat.toDigits 10 m)<=k+1
|0,m,h=>by rw[V7 (),];rw[Zf _]|k+1,m,h=>by
 cases g:m<10;.rw[V7 g,];simp
 .rw[Nat.toDigits_of_base_le () (),Ua];let:=P5 k (m/10) ();ext
def pU(m:5):1<=⇑((Nat.toDigits 10 m).map Char.toNat):=by rw[Zql,];rw[Nat.length_toDigits_pos]
def P6(m:5):NumText.AllDigits (jZ (m:3)).cps.toList:=by rw[Bl,];intro c a;let(-d,b,rfl):=Ja.mp a;let:=Nat.isDigit_of_mem_toDigits 004 004 b;simp only[Char.isDigit,Uc,decide_eq_true_eq]at this;rw[(this.1,this.2)]
structure FigT(d:Str)(m:5):4 where
lo:1<=⇑d
hi:⇑d<=30
hd:d.cps.toList.headD 0≠48
all:NumText.AllDigits d.cps.toList
val:NumText.digitsVal d.cps.toList=m
def P7{m:5}(a:1<=m)(b:m<1000000000000000000000000000000):FigT (jZ (m:3)) m:=by
 let l:⇑(jZ m)=⇑(Nat.toDigits 10 m):=by show(jZ _).cps.size=_;rw[<-Ue,Bl,Zql]
 let p:=pU m;rw[Zql]at p;rw[((),by rw[l,];rw[P5 _ m b],by rw[Bl,];rw[P4 m a],P6 m,by rw[Bl,];rw[W.KIN.val_back m])]
def FigT.ok(h:FigT d m):TxtOk 30 d:=(h.hi,v0.mpr λc e=>by let:=h.all c e;lia)
def FigT.plus(h:FigT d m):intText? (("+":Str)++d)=!(m:3):=by let:=h.lo;rw[oH (by rw[Qq,];rfl) h.all,intText_digits h.all λz=>by let:⇑d=⇑d.cps.toList:=(Ue).symm;simp_all (by let:=h.hi;lia),h.val]
def FigT.minus(h:FigT d m):intText? (("-":Str)++d)=!-(m:3):=by let:=h.lo;let:=h.hi;rw[intText_neg (by rw[Qq,];rfl) h.all λz=>by let:⇑d=⇑d.cps.toList:=(Ue).symm;simp_all (by rw[Q3,];show 1+⇑d<=_;lia),h.val]
def P8(h:FigT d m):DT [.str d]=.ok (.bl 6):=by
 let p:=Dm h.ok ();let q:(1:3)<=⇑d:=by let:=h.lo;lia
 let r:(⇑d:3)<=30:=by let:=h.hi;lia
 let(-e,s,b,t):=Os (k:=0) h.ok () () ();let g:e≠48:=λz=>h.hd<|by let b:=b;induction l:d.cps.toList with|nil=>rw[l]at b;cases b|cons a u=>rw[l]at b;rw[<-z];rw[Zqi b]
 let i:e<128:=();let v:xV (.str ⟨#[e]⟩) (.str "0")=! .bl 6:=by
  rw[P3 (z06 i).asc (Qx (n:=1)<|002).asc,Zo λz=>g ?_];.rfl
  .let:(⟨#[e]⟩:Str).cps.toList=("0":Str).cps.toList:=by rw[z,]
   let:=this;injection this
 let w:ve d=6:=h.ok.asc;let j:jQ 031 (ji (x5 7) 013<|dC<|.str "0123456789") [8] (uA d)=.ok ((d.cps.toList.map λc=>decide<|c∈FG).map .bl):=by rw[Zw,];rw[Q9 λc _=>?_];let f:=CM 7 c "0123456789";let f:x5 7 (.str ⟨_⟩) (.str _)=!(.bl<|decide<|c∈FG):=f;simp[f]
 let x:=F8<|d.cps.toList.map λc=>decide<|c∈FG;let y:(d.cps.toList.map λc=>decide<|c∈FG).all id=6:=by rw[Vw,Uw];intro c o;let z:=h.all c o;rw[Zp<|Pv<|by ext vQ;rw[Zp z.1,Zp ()];rfl]
 let A:⇑(uA d)<00:=JT<|by ext uA;rw[Zql,Ue];let:⇑d=d.cps.size:=9;lia
 simp_all[DT,DS]
def pZ(h:qU x) (a:c∈x.cps.toList):(uV c||vQ c)=6:=by let z:=h.2;unfold XV at z;simp only[Uc]at z;rw[Uw.mp z.2.2.2.2 c a]
def Wy(h:qU x) (a:(uV c||vQ c)=7):c∉x.cps.toList:=λz=>by rw[pZ h z]at a;cases a
def Hf(h:qU x):Ki [036]=.ok (.bl 6):=by rw[He h.1 (),Pw h.2]
def P9(h:TxtOk n x)(a:n<=1000)(b:c∈x.cps.toList)(e:c∉LT)(f:c∉FG):Ki [036]=.ok (.bl 7):=by rw[He h a,];let:(x.cps.toList.all λc=>decide (c∈LT)||decide (c∈FG))=7:=018;ext B4;rw[this,Vl,Vl,Vl]
def Hg(h:FigT d m)(a:c<48\/57<c):c∉d.cps.toList:=λz=>by let:=h.all c z;lia
def Y7(h:TxtOk n x)(b:n<=4000000)(a:(⇑s==0)=7):Wv x (.str s)=!(.lst<|(Txt.split x s).map .str):=by rw[Zd (a,?_)];let:=h.len;rw[Zh (show ⇑x+2<=4000002 from())<|002]
def kh{d:D}(a:0<=k)(h:l[k.toNat]?=!d):qO l k=!d:=by let b:=(Jd.mp h).1;ext qO wH;rw[Zd a,Zd ()];rw[h]
def vd(a:D)(l:YC):qO (a::l) 0=!a:=kh () 9
def vW(a b:D)(l:YC):qO (a::b::l) 1=!b:=kh () 9
def mH(a b c:D)(l:YC):qO (a::b::c::l) 2=!c:=kh () 9
def Eb(s a b:Str):Txt.join s [a,b]=a++s++b:=by rw[Xl,Xm]
def bQ(e:qU x)(v:-1000000000000000000000000000000<w)(y:w<1000000000000000000000000000000):Xt [.str (zU x w)]=.ok (.tup [036,.int w]):=by
 let r:=Hf e;ext zU;cases u:w=0;.simp_all[Xt,Ad]
 .rw[Ze u,];cases h:0<w
  .rw[Zd h,];let(-m,rfl):=VZ (Int.le_of_lt h);let f:=P7 (m:=m) () ();let k:TxtOk 44 (x++"+"++jZ (m:3)):=((e.1.app<|Qx (n:=1)<|002).app f.ok).mono ();let i:Ki [.str (x++"+"++jZ (m:3))]=.ok (.bl 7):=P9 (c:=43) k () (by rw[Qq,Qq];simp;rw[.inr<|.inl<|002]) 002 002;let b:=Y7 (s:="+") k () 002;rw[<-Eb "+",Y6 (c:=43) (t:=[]) 9 002 λp hp=>by
obtain rfl|hp:=UN.mp hp
.rw[Wy e<|004]
.rw[Jb.mp hp,];rw[Hg f ()],Eb]at b;let b:Wv (x++"+"++jZ (m:3)) (.str "+")=! .lst [036,.str (jZ (m:3))]:=b;let j:=P8 f;let l:=O4 (a:="+") (Qx (n:=1)<|002) f.ok ();let o:Bh [.str (("+":Str)++jZ (m:3))]=! .int (m:3):=by show(if(("+":Str)++jZ (m:3)).length<=640 then(intText? _).map D.int else 8)=_;rw[Zd (by rw[Q3,];let:=f.hi;show 1+_<=_;lia),f.plus];rfl
   simp_all[Xt,Ad,O2,GI,vd,vW,qM]
  .rw[Ze h,];let(m,rfl):∃m:5,w=-((m+1:5):3):=((-w).toNat-1,());rw[GJ,<-Xk];let f:=P7 (m:=m+1) () ();let k:TxtOk 44 (x++"-"++jZ ((m+1:5):3)):=((e.1.app<|Qx (n:=1)<|002).app f.ok).mono ();let i:Ki [.str (x++"-"++jZ ((m+1:5):3))]=.ok (.bl 7):=P9 (c:=45) k () (by rw[Qq,Qq];simp;rw[.inr<|.inl<|002]) 002 002;let g:=Y7 (s:="+") k () 002;rw[<-Xm "+" (x++"-"++jZ ((m+1:5):3)),Y6 (c:=43) (t:=[]) 9 002 λp hp=>by
rw[Jb.mp hp,Qq,Qq];intro z;obtain z|z:=Jc.mp z
.rcases Jc.mp z with z|z;.rw[Wy e 004 z]
 .revert z;decide
.rw[Hg f () z],Xm]at g;let g:Wv (x++"-"++jZ ((m+1:5):3)) (.str "+")=! .lst [.str (x++"-"++jZ ((m+1:5):3))]:=g;let b:=Y7 (s:="-") k () 002;rw[<-Eb "-",Y6 (c:=45) (t:=[]) 9 002 λp hp=>by
obtain rfl|hp:=UN.mp hp
.rw[Wy e<|004]
.rw[Jb.mp hp,];rw[Hg f ()],Eb]at b;let b:Wv (x++"-"++jZ (m+1:5)) (.str "-")=! .lst [036,.str (jZ<|(m+1:5))]:=b;let j:=P8 f;let l:=O4 (a:="-") (Qx (n:=1)<|002) f.ok ();let o:Bh [.str ("-"++jZ (m+1:5))]=!(.int<|-(m+1:5)):=by show(if("-"++jZ (m+1:5)).length<=640 then(intText? _).map _ else 8)=_;rw[Zd (by rw[Q3,];let:=f.hi;show 1+_<=_;lia),f.minus];rfl
   generalize(m+1:5)=q at*;simp[Xt,Ad,O2,GI,vd,vW,i,qM,g,b,r,j,l,o]
noncomputable def rI(i:Str×3):D:=.tup [.str i.1,.int i.2]
def kr(i:Str×3):4:=qU i.1/\-1000000000000000000000000000000<i.2/\i.2<1000000000000000000000000000000
def yq(i:Str×3):Str:=zU i.1 i.2
noncomputable def WH:Yi->List Str|[]=>[]|[x]=>[x]|x::y::r=>(x++",")::WH (y::r)
def PB(x:Str)(r:Yi):∃y l,WH (x::r)=y::l:=by cases r with|nil=>rw[(_,_,9)]|cons y r=>rw[(_,_,9)]
theorem Hh:∀(x:Str)(r:Yi),Txt.join " " (WH<|x::r)=Txt.join ", " (x::r)|x,[]=>by rfl|x,y::r=>by let a:=Hh y r;let(z l,e):=PB y r;show Txt.join " " ((x++",")::WH (y::r))=_;rw[e]at a ⊢;rw[Xl,a,Xl,Xk x,Xk x,Xk x];congr 1
theorem Hi:∀l:Yi,⇑(WH l)=⇑l|[]=>9|[_]=>9|x::y::r=>Zt (·+1) (Hi _)
theorem Hj:∀(l:Yi),∀w∈WH l,∃x∈l,w=x\/w=x++","
|[],w,h=>nomatch h|[x],w,h=>(x,Zqs,.inl<|Jb.mp h)|x::y::r,w,h=>by
 obtain z|z:=UN.mp h;.rw[()]
 .let(-a,b,c):=Hj (y::r) w z;grind
def Hk(h:kr i):TxtOk 44 (yq i):=O3 h.1.1 h.2.1 h.2.2
def Hl(h:kr i) (f:(uV c||vQ c)=7)(g:c≠43)(j:c≠45):c∉(yq i).cps.toList:=by
 let a:=Wy h.1 f;let b:∀m:5,c∉(jZ m).cps.toList:=λm z=>by
  let:=P6 m c z;let:vQ c=6:=by ext vQ;rw[Zp (),Zp ()];rfl
  ext
 ext yq zU;split;.rw[a]
 .split
  .let(-m,e):=VZ (show 0<=i.2 from());rw[e,Qq,Qq];intro z;obtain z|z:=Jc.mp z
   .rcases Jc.mp z with z|z;.rw[a z]
    .rw[g<|Jb.mp z]
   .rw[b m z]
  .let(m,e):∃m:5,i.2=-(m+1:5):=((-i.2).toNat-1,());rw[e,GJ,Qq,Qq];intro z;obtain z|z:=Jc.mp z;.rw[a z]
   .rcases Jc.mp z with z|z;.rw[j<|Jb.mp z]
    .rw[b _ z]
def oI{a:List (Str×3)}(h:∀i∈a,kr i):∀w∈WH (a.map yq),32∉w.cps.toList:=λw b=>by
 let(-x,g,e):=Hj _ w b;let(-i,j,rfl):=Ja.mp g;let f:=Hl (h i j) (c:=32) 004 () ();obtain rfl|rfl:=e;.rw[f]
 .rw[Qq,];intro z;obtain z|z:=Jc.mp z;.rw[f z]
  .rw[Zn (Jb.mp z)<|004]
def eO{a:List (Str×3)}(h:∀i∈a,kr i):∀w∈WH (a.map yq),TxtOk 45 w:=λw b=>by
 let(-x,c,e):=Hj _ w b;let(-i,g,rfl):=Ja.mp c;let f:=Hk<|h i g;obtain rfl|rfl:=e;.rw[f.mono ()]
 .rw[f.app<|Qx (n:=1)<|002]
def gK(h:kr i):plN 12 (rI i)=6:=by show[D.str _,D.int _].all _=6;rw[Us,KF h.1.1.asc];rfl
def bR(h:∀j∈i::a,kr j)(v:⇑a<=43):B8 [.str n,.str how,.lst ((WH<|(i::a).map yq).map .str)]=.ok (.tup [.str n,.str how,.lst ((i::a).map rI)]):=by
 let l:=Hi<|(i::a).map yq;rw[Zql,Zu]at l;let g:=GM (sep:=" ")<|GL (m:=1) (n:=45) (k:=44) 002 (λw o=>(eO h w o).len) () ();rw[Zl]at g;rw[Hh,<-Zl]at g;let k:TxtOk 2024 (Txt.join ", "<|(i::a).map yq):=(Bm (m:=2) (k:=44) (Qx<|002) (λx r=>by let(-j,b,rfl):=Ja.mp r;calc Hk<|h j b)<|by rw[Zql,Zu];lia).mono ();let y:=Y7 (s:=", ") k () 002;let A:Txt.split (Txt.join ", "<|(i::a).map yq) ", "=(i::a).map yq:=Y6 (c:=44) 9 002 λp t=>by let(-j,b,rfl):=Ja.mp (show p∈(i::a).map yq from t);exact Hl (h j b) 004 () ()
 let u:jQ 031 (J7 Xt<|037) [8] ((i::a).map<|D.str ∘ yq)=.ok ((i::a).map rI):=Q9 λj b=>by let e:=bQ (h j b).1 (h j b).2.1 (h j b).2.2;let e:Xt [.str (yq j)]=.ok (rI j):=e;simp[e]
 let B:xQ 7 .non (.lst<|(i::a).map rI)=! .bl 7:=by
  let p:=Uw.mpr λd f=>by let(j,b,rfl):=Ja.mp f;exact gK<|h j b
  show(if plN 12 D.non&&((i::a).map rI).all (plN 12)then !(D.bl<|if 7=6 then _ else((i::a).map rI).any λe=>sameD e .non)else 8)=_;rw[p,];let q:(((i::a).map rI).any λe=>sameD e .non)=7:=Vx.mpr λd f=>by let(-j,b,rfl):=Ja.mp f;rw[(v3.mpr λz=>by cases z),];exact Zj
  rw[q,];rfl
 let C:⇑((i::a).map<|D.str ∘ yq)<00:=JT<|by rw[Zql,Zu];lia
 simp_all[B8,DU,qM]
structure RowR(n how:Str)(its:List (Str×3)):4 where
nm:qU n
hw:how="all"\/how=034
is:∀i∈its,kr i
lo:1<=⇑its
hi:⇑its<=44
def ym(n how:Str)(a:List (Str×3)):Str:=" "++n++" "++how++" "++Txt.join ", " (a.map yq)
def Xv(n how:Str)(a:List (Str×3)):D:=.tup [.str n,.str how,.lst (a.map rI)]
def RowR.ok(R:RowR n how c):TxtOk 2056 (ym n how c)/\TxtOk 12 how:=by
 let e:TxtOk 12 how:=by obtain rfl|rfl:=R.hw<;>rw[Qx<|002]
 let k:TxtOk 2024 (Txt.join ", "<|c.map yq):=(Bm (m:=2) (n:=44) (k:=44) (Qx<|002) (λx f=>by let(-j,i,rfl):=Ja.mp f;rw[Hk<|R.is j i])<|by rw[Zql,];rw[R.hi]).mono ();rw[((((((k8.app R.nm.1).app k8).app e).app k8).app k).mono (),e)]
def av(a:Str):("":Str)++a=a:=Ww<|by rw[Qq,];rfl
def Hm(x y:Str)(r:Yi):Txt.join " " (x::y::r)=x++" "++Txt.join " " (y::r):=Xl _ _ _ _
def lE(a:asc x):xQ 7 036 (.tup [.str "all",.str 034])=!(.bl<|not<|uU x):=by
 let e:=O1 (neg:=7) a (xs:=["all",034])<|λy hy=>by
  obtain rfl|hy:=UN.mp hy;· ext asc;decide
  .rw[Jb.mp hy,];ext asc;decide
 simp_all[uU]
def bS(R:RowR n how b):Ae [.str (ym n how b)]=.ok (Xv n how b):=by
 let(k,t):=R.ok;let lo:=R.lo;let u:=R.hi;let v:=Hf R.nm;let(i,r,rfl):∃i r,b=i::r:=by cases(b)with|nil=>let:=R.lo;simp at this|cons i r=>rw[(i,r,9)]
 let(w f,h):=PB (yq i) (r.map yq);let jw:=Hh (yq i)<|r.map yq;rw[h]at jw;let l:=Hi<|yq i::r.map yq;rw[h]at l;rw[Zu,Zu,Zql]at l;rw[Zu]at lo u;let j:=bR (n:=n) (how:=how) R.is ();rw[Zl,h]at j;let x:=oI R.is;rw[Zl,h]at x;let g:=Y7 (s:=" ") k () 002;let y:xV (.str "") (.str "")=! .bl 7:=by
  let a:asc ("":Str):=by ext asc;decide
  rw[P3 a a,Zp 9];rfl
 let E:(32:5)∉("":Str).cps.toList:=002;let F:(32:5)∉n.cps.toList:=Wy R.nm 004;let c:=R.hw;let A:uU how=7:=by grind[uU]
 let e:ym n how (i::r)=Txt.join " " (""::n::how::w::f):=by ext ym;rw[Hm,Hm,Hm,jw,Zl];simp only[Xk,av]
 let G:(32:5)∉how.cps.toList:=by obtain rfl|rfl:=c<;>decide
 let B:=Y6 (s:=" ") 9 002 (r:="") (rs:=n::how::w::f) λp H=>by grind
 rw[e,B]at g;rw[e,];let m:=lE t.asc;rw[A]at m;let(z,hz):∃z:3,z=((⇑f+1+1+1+1:5):3):=(_,9);let o:jE [.lst ((("":Str)::n::how::w::f).map .str)]=! .int z:=by ext
 let q:nL (.lst<|(("":Str)::n::how::w::f).map .str) (!03) 8 8=!(.lst<|(w::f).map .str):=by show some (D.lst<|QU _ (!03) 8 8)=_;rw[G9 _ (),];rfl
 let C:¬z<04:=();simp only[Zl]at g o q j;simp[Ae,B9,qM,g,o,q,vd,vW,mH,y,v,m,j,Xv,C]
structure Dr where
name:Str
givens:Yi
rows:List (3×Str×Str×List (Str×3))
def zN(r:3×Str×Str×List (Str×3)):D:=.tup [.int r.1,Xv r.2.1 r.2.2.1 r.2.2.2]
def BD(q:Dr):D:=.ins "Draft" 008 [.str q.name,.lst (q.givens.map .str),.lst (q.rows.map zN)]
def PF(b:TxtOk n a)(h:n<=1000000)(l u:02 3):hU (.str a) l u=!(.str<|Txt.slice a l u):=Zd<|by let:=b.len;rw[Zh (show ⇑a<=1000000 from())<|002]
def PH{a row:Str}(b:TxtOk m a)(c:m<=1000)(e:TxtOk n row)(f:n<=1000000)(h:Txt.startswith row a=7):Y3 [.str a,.str row]=.ok .non:=by
 let g:=Dm b c;let i:=PF e f (!(⇑a:3)) 8;let j:Dg row (.str a)=! .bl 7:=by show some (D.bl<|Txt.startswith row a)=_;rw[h,]
 simp[Y3,B7,g,i,qM,j]
def PJ{a x:Str}(b:TxtOk m a)(g:m<=900)(c:qU x):Y3 [.str a,.str (a++x)]=.ok 036:=by
 let e:=PF (b.app c.1) () (!⇑a) 8;rw[znK]at e;let f:Dg (a++x) (.str a)=! .bl 6:=by show some _=_;rw[oX,]
 simp[Y3,B7,Dm b (),e,qM,f,Hf c]
def PK:TxtOk 05 ("plan ":Str):=Qx<|002
def ng:TxtOk 07 (" given ":Str):=Qx<|002
def PM(y:Str):Txt.startswith (" "++y) "plan "=7:=P1 λh=>by rw[Qq]at h;let h:(32::y.cps.toList).take 05=[112,108,97,110,32]:=h;rw[List.take_succ_cons]at h;injection h with h;cases h
def e9(x:Str):(" given ":Str)++x=" "++("given "++x):=by rw[<-Xk];rw[Zt (·++x)<|Ww<|002]
def oO(a:qU x):Ae [.str (" given "++x)]=.ok .non:=by
 let g:=Y7 (s:=" ") (ng.app a.1) () 002;let e:" given "++x=Txt.join " " ["","given",x]:=9;let b:=Y6 (s:=" ") 9 002 (r:="") (rs:=["given",x]) λp hp=>by
  obtain rfl|hp:=UN.mp hp;.decide+kernel
  obtain rfl|hp:=UN.mp hp;.decide+kernel
  .rw[Jb.mp hp,];rw[Wy a<|004]
 simp_all[Ae,B9,qM]
noncomputable def dH(p a g r:Addr)(b:Str)(c:Yi)(R:YC):HP:=[%[r|.lst R],%[g|.lst (c.map .str)],%[a|.ins "Draft" 008 [.str b,.adr g,.adr r]],%[p|.lst [.adr a]]]
section
variable {p a g r:Addr}
def N4(p a g r:Addr):4:=g≠r/\a≠r/\a≠g/\p≠r/\p≠g/\p≠a
def Ec(n:N4 p a g r):jh (dH p a g r nm gs R) r=! .lst R/\jh (dH p a g r nm gs R) g=!(.lst<|gs.map .str)/\jh (dH p a g r nm gs R) a=! .ins "Draft" 008 [.str nm,.adr g,.adr r]/\jh (dH p a g r nm gs R) p=! .lst [.adr a]:=by let(!b,c,e,f,h,i):=n;simp_all[dH,Kv]
def tP(n:N4 p a g r)(b:Yi):QD (dH p a g r nm gs R) g (.lst<|b.map .str)=dH p a g r nm b R:=by simp[dH,QD,n.1]
def tO(S:YC):QD (dH p a g r b c R) r (.lst S)=dH p a g r b c S:=by simp[dH,QD]
def Hn(n:N4 p a g r) (b:Addr)(h:jh (dH p a g r c e R) b≠8):jh (dH p a g r c f S) b≠8:=by rwa[Ne,wF]at h ⊢
def a9(h:qU c)(p:Addr):(Af [.adr p,.int 1,.str ("plan "++c)] [%[p|.lst []]]).need (λo=>o.1=.bl 6/\∃a g r,N4 p a g r/\o.2=dH p a g r c [] []) λ_ _=>False:=by
 let m:=PJ PK () h;ext Af;rw[NV 9 ?_];generalize("plan ":Str)++c=row at*;show((Y5 [~~~.adr p,~~~.int 1,~~~.str row,8] [%[p|.lst []]]).bind xM).need _ _;ext Y5;simp[m,show qW 6 (D.str c)=! .bl 6 from 9,Gx (show jh [%[p|D.lst []]] p=! .lst []by simp[Kv])];intro a q;rw[Wr.need_bind.mpr<|Wr.need_bind.mpr<|Wr.need_bind.mpr<|Wr.need_bind.mpr<|Wr.need_bind.mpr ?_];ext GR;rw[NV 9 ?_];show((Bn [~~~.adr a,~~~.str c] _).bind xM).need _ _;let j:a≠p:=by simpa using wF.mp q
 let F:∀{f:Str}{d:D}{H H':HP}{fs:Yi}{ds:YC},jh H a=! .ins "Draft" fs ds->f∉fs->⇑fs<900->QD H a (.ins "Draft" (fs++[f])<|ds++[d])=H'->Bf "Draft" f [~~~.adr a,~~~.str c] d %[.adr a|H]=.ok (.next [~~~.adr a,~~~.str c] H'):=λs t u v=>by rw[eN s t u,v]
 ext Bn;simp[F (H:=[%[a|D.ins "Draft" [] []],%[p|.lst []]]) (H':=[%[a|D.ins "Draft" ["name"] [.str c]],%[p|.lst []]]) (f:="name") (d:=.str c) (Zd 9) (λz=>nomatch z) () (by simp[QD])];intro g w;let(ga,gp):g≠a/\g≠p:=by simpa using wF.mp w
 let e:=ga.symm;simp[F (H:=[%[g|D.lst []],%[a|D.ins "Draft" ["name"] [.str c]],%[p|.lst []]]) (H':=[%[g|D.lst []],%[a|D.ins "Draft" ["name","givens"] [.str c,.adr g]],%[p|.lst []]]) (f:="givens") (d:=.adr g) (by simp[Kv,e];rw[(9,9)]) (by decide) () (by simp[QD,e])];intro r x;let(rg,ra,rp):r≠g/\r≠a/\r≠p:=by simpa using wF.mp x
 let i:=ra.symm;rw[F (H:=[%[r|D.lst []],%[g|D.lst []],%[a|D.ins "Draft" ["name","givens"] [.str c,.adr g]],%[p|.lst []]]) (H':=[%[r|D.lst []],%[g|D.lst []],%[a|D.ins "Draft" 008 [.str c,.adr g,.adr r]],%[p|.lst []]]) (f:="rows") (d:=.adr r) (by simp[Kv,e,i];rw[(9,9)]) 002 () (by simp[QD,e,i]),];let n:N4 p a g r:=(rg.symm,i,e,rp.symm,gp.symm,j.symm);let y:QD [%[r|D.lst []],%[g|.lst []],%[a|.ins "Draft" 008 [.str c,.adr g,.adr r]],%[p|.lst []]] p (.lst [.adr a])=dH p a g r c [] []:=by simp[dH,QD,rp.symm,gp.symm,j.symm]
 rw[(λb l=>?_,?_)];.rw[wF]at l ⊢;simp at l ⊢;grind
 .show Wr.need (ZR _ p %[.adr a|_]) _ _;rw[Gy (es:=[]) (by simp[Kv,rp.symm,gp.symm,j.symm]) 002,];show(∀b,jh [%[p|D.lst []]] b≠8->jh (QD _ p<|.lst [.adr a]) b≠8)/\D.bl 6=.bl 6/\∃A B C,N4 p A B C/\QD _ p (.lst [.adr a])=_;rw[y,];rw[(λb l=>by simp_all[Ne,wF,dH],9,a,g,r,n,9)]
def mu(n:N4 p a g r):dr (dH p a g r b c R) 06 (.adr p)=.lst [.ins "Draft" 008 [.str b,.lst (c.map .str),.lst R]]:=by let(e,f,h,i):=Ec n;rw[XQ _ i,];show D.lst [dr _ 04 (.adr a)]=_;rw[XQ _ h,];show D.lst [.ins "Draft" 008 [dr _ 2 (.str b),dr _ 2 (.adr g),dr _ 2 (.adr r)]]=_;rw[GP,XQ _ f,XQ _ e,O8];show D.lst [.ins "Draft" 008 [.str b,.lst (c.map .str),.lst (R.map<|dr _ 0)]]=_;rw[show dr (dH p a g r b c R) 0=id from funext λb=>9,List.map_id]
def zlh(n:N4 p a g r)(e:qU x)(i:⇑gs<=1000)(k:3):BA [.adr a,.int k,.str (" given "++x)] (dH p a g r nm gs [])=.ok %[.bl 6|dH p a g r nm (gs++[x]) []]:=by
 let(!j,c,f,v):=Ec (nm:=nm) (gs:=gs) (R:=[]) n;let l:=PJ ng () e;let m:=oO e;let o:⇑(gs.map D.str)<00:=by rw[Zql,];rw[JT i]
 let q:dr (dH p a g r nm gs []) 06 (.adr a)=.ins "Draft" 008 [.str nm,.lst (gs.map .str),.lst []]:=by rw[XQ _ f,];show D.ins "Draft" 008 [dr _ 04 (.str nm),dr _ 04 (.adr g),dr _ 04 (.adr r)]=_;rw[GP,XQ _ c,XQ _ j,O8];rfl
 let s:x6 (.lst []) (.lst [])=! .bl 6:=by rw[Cy 9 9,Wm]
 let t:∀d,j0 "Draft" "rows" (.ins "Draft" 008 [.str nm,d,.lst []])=! .lst []:=λ_=>9;let h:=tP (nm:=nm) (gs:=gs) (R:=[]) n<|gs++[x];rw[Ud]at h;rw[GQ 9 ?_ λb u=>Hn n b u];generalize(" given ":Str)++x=row at*;show(Y4 [~~~.adr a,~~~.int k,~~~.str row,8,8] _).bind xM=_;simp[Y4,l,m,q,t,s,show qW 6 (D.str x)=! .bl 6 from 9,NX f (show j0 "Draft" "givens" _=! .adr g from 9),Gx c,Gy c o];rw[h]
def oN(N:N4 p a g r)(W:RowR n how f)(l:⇑R<=1000)(k:3):BA [.adr a,.int k,.str (ym n how f)] (dH p a g r nm gs R)=.ok %[.bl 6|dH p a g r nm gs (R++[.tup [.int k,Xv n how f]])]:=by
 let(!i,w,m,x):=Ec (nm:=nm) (gs:=gs) (R:=R) N;let o:=PH ng () W.ok.1 ()<|P1 λh=>by
  unfold ym at h;simp only[Xk]at h;rw[Qq,Qq,Qq]at h;generalize(how++((" ":Str)++Txt.join ", " (f.map yq))).cps.toList=t at h;let h:(32::(n.cps.toList++32::t)).take 07=[32,103,105,118,101,110,32]:=h;injection h with _ h;let e:=UT 06<|n.cps.toList++32::t;rw[h]at e;let j:(n.cps.toList++32::t).takeWhile λc=>c !=32=n.cps.toList:=by rw[List.takeWhile_append_of_pos λc y=>bne_iff_ne.mpr λz=>Wy W.nm (c:=32) 004<|by rwa[<-z],];simp
  rw[<-e]at j;let q:[103,105,118,101,110]=n.cps.toList:=by rw[<-j];rfl
  let s:("given":Str)=n:=Ww (by rw[<-q];decide);let z:=W.nm.2;unfold XV at z;simp only[Uc]at z;let:=Uw.mp z.2.2.1 "given" 002;rw[Zp s]at this;cases this
 let u:=bS W;rw[GQ 9 ?_ λb v=>Hn N b v];generalize ym n how f=row at*;show(Y4 [~~~.adr a,~~~.int k,~~~.str row,8,8] _).bind xM=_;simp[Y4,o,u,Xv,NX m (show j0 "Draft" "rows" _=! .adr r from 9),Gx i,Gy i (JT l),tO]
def wq:xH:=ZQ (G2<|Bg<|Bd Af<|Wd (vL<|014)<|Wd (vL<|ja 2)<|Wd (vL<|033) yW) (zL y8) XP
def PN(N:N4 p a g r)(f:TxtOk m row)(i:m<=1000000)(j:Txt.startswith row "plan "=7)(h:BA [.adr a,.int k,.str row] (dH p a g r nm gs R)=.ok %[.bl 6|dH p a g r nm c e])(u v:02 SV)(ds:YC):xR (Xf (.tup [2,03]) wq) (.tup [.int k,.str row]::ds) [~~~t,~~~.adr p,u,v] (dH p a g r nm gs R)=xR (Xf (.tup [2,03]) wq) ds [~~~t,~~~.adr p,~~~.int k,~~~.str row] (dH p a g r nm c e):=by
 let(w,x,y,l):=Ec (nm:=nm) (gs:=gs) (R:=R) N;let n:Af [.adr p,.int k,.str row] (dH p a g r nm gs R)=.ok %[.bl 6|dH p a g r nm c e]:=by rw[GQ 9 ?_ λb o=>Hn N b o];show(Y5 [~~~.adr p,~~~.int k,~~~.str row,8] _).bind xM=_;ext Y5;simp[PH PK () f i j,show qW 6 D.non=! .bl 7 from 9,mu N,show ∀d,vS (.lst [d]) (.lst [])=! .bl 6 from λb=>9,lx (q:=%[D.int (-1)|dH p a g r nm gs R]) l,show jY (.lst [D.adr a]) (.int<|-1)=! .adr a from cO [] _,h]
 let s:Xf (.tup [2,03]) wq (.tup [.int k,.str row]) [~~~t,~~~.adr p,u,v] (dH p a g r nm gs R)=.ok (.next [~~~t,~~~.adr p,~~~.int k,~~~.str row]<|dH p a g r nm c e):=by show wq [~~~t,~~~.adr p,~~~.int k,~~~.str row] _=_;ext wq;simp[n]
 rw[xR,s];rfl
end
noncomputable def zu:5->List Str->YC|_,[]=>[]|k,x::r=>.tup [.int ((k:3)+1),036]::zu (k+1) r
theorem PP:∀(a:Yi)(k i:5),(zu k a)[i]?=a[i]?.map λx=>D.tup [.int (((k+i:5):3)+1),036]|[],k,i=>by simp[zu]|x::a,k,0=>9|x::a,k,i+1=>by show(zu _ _)[i]?=a[i]?.map _;rw[PP,show k+1+i=k+(i+1)by lia]
def lc(a:Yi):KQ 1 (a.map .str)=zu 0 a:=by apply Va;intro i;rw[CD,PP,Zv,Option.map_map,Vj];rfl
def o6(e:HP):∃a,jh e a=8:=by
 let:∀l:Yh,∃a,∀b∈l,b<a:=λl=>by cases(l)with|nil=>simp|cons c l f=>
let(a,h):=f;rw[(a+c+1,λb g=>?_)]
grind
 let(a,h):=this (e.map (·.1));rw[(a,wF.mpr λz=>())]
theorem PQ:∀{w:Wr α},(w.need p λb b=>False)->(w.need q λb b=>False)->∃a,p a/\q a|.ok a,b,h2=>(a,b,h2)|.ex _ _,b,_=>b.elim|.no,b,_=>b.elim|.new _ k,b,h2=>by let(a,c):=o6 _;rw[PQ (b a c)<|h2 a c]
noncomputable def yG(a:Yi):List (Str×3):=a.zipIdx.map λp=>%[p.1|(p.2:3)]
def PR(a:Yi):(yG a).map (·.1)=a:=by ext yG;rw[Zw,];show a.zipIdx.map Prod.fst=a;simp
def eP(a:Yi)(x:Str):yG (a++[x])=yG a++[%[x|(⇑a:3)]]:=by ext yG;rw[List.zipIdx_append,Ud];simp
def l0(a:Yi):⇑(yG a)=⇑a:=by ext yG;simp
theorem PU:∀{t:List (Str×3)},(t.map (·.1)).Nodup->%[x|v]∈t->vw t x=!v
|[],_,h=>nomatch h|%[y|w]::t,nd,h=>by
 let(b,a):=Jm.mp nd;obtain e|h:=UN.mp h;.cases e;(simp_all[vw])
 .let:y≠x:=018;let e:vw (%[y|w]::t) x=vw t x:=by simp_all[vw]
  rw[e,];rw[PU a h]
def fL(b:a.Nodup) (c:0<=k)(e:k<(⇑a:3)):vw (yG a) (qh a k)=!k:=by rw[PU (by rwa[PR,])<|Ja.mpr (%[qh _ k|k.toNat],?_,by congr 1;lia)];rw[Ug (i:=k.toNat) ?_];rw[List.getElem?_zipIdx,];ext qh;rw[Zqg (),Ui,Zqg ()];simp
def bO(o:a.Nodup)(u:⇑a<=900):DY [.lst (a.map .str)]=.ok (dT<|yG a):=by let(-q,v,(f,g,h)):=Ko (tg:=.tup [2,03]) (b:=Dj 1 033<|ja 2) (ds:=KQ 0<|a.map .str) (sd:=[~~~(.lst<|a.map .str),!(.own 7<|.dct [] []),8,8]) (P:=λi sd=>∃(f g:02 SV),sd=[~~~(.lst<|a.map .str),!(.own 7<|dT<|yG<|a.take i),f,g]) (qE 8 8 9) (by
rintro i d sd c ⟨f,g,rfl⟩;rw[CD,Zv]at c
induction e:a[i]? with|none=>rw[e]at c;cases c|some x=>
rw[e]at c;obtain rfl:=Zqi c;let w:=(Jd.mp e).1;let j:a.take (i+1)=a.take i++[x]:=by rw[Vn,e];rfl
let l:x∉(yG<|a.take i).map (·.1):=by rw[PR,];let:=o.sublist<|List.take_sublist (i+1) a;rw[j]at this;rw[λz=>(List.nodup_append.mp this).2.2 x z x () 9]
let m:⇑(a.take i)=i:=by rw[Uy,];lia
let r:yG (a.take<|i+1)=yG (a.take i)++[%[x|(i:3)]]:=by rw[j,eP,m]
let n:=Dp (yG<|a.take i) x;rw[l8.mpr l]at n;let s:=JT (show(yG<|a.take i).length<=1000 by rw[l0,m];lia);rw[([~~~(.lst<|a.map .str),!(.own 7<|dT<|yG<|a.take<|i+1),~~~.int i,~~~036],?_,_,_,9)];rw[r,<-gU l (i:3)];generalize yG (a.take i)=t at*;show(if(t.map λp:Str×3=>(UB p.1:jI)).length<00 then match jH (t.map λp=>.inr p.1) (t.map λp=>D.int p.2) (.inr x)with|some _=>_|none=>_ else _)=_;rw[Zql,Zd s,n];rfl);simp_all[KQ,DY,DX]
def bM(s:a.Nodup)(y:⇑a<=900) (h:∀i∈c,0<=i.1/\i.1<(⇑a:3))(z:⇑c<=900)(m:3):Ag [.lst ((c.map λi=>%[qh a i.1|i.2]).map rI),dT (yG a),.int m]=.ok (jA c):=by
 let n:=λi o=>fL s (h i o).1 (h i o).2;generalize yG _=t at*;rw[Zw,];let(L,hL):∃L,L=c.map (rI ∘ λi=>%[qh a i.1|i.2]):=(_,9);rw[<-hL];let(-u,v,(A,f,e)):=Ko (tg:=.tup [03,04]) (b:=qj (JB<|ji (xQ 6) 033<|014) y8 JM) (ds:=L) (P:=λi sd=>∃(f q:02 _),sd=[~~~.lst L,~~~dT t,~~~.int m,f,q]) (8,8,9) (by
rintro i d sd r ⟨f,q,rfl⟩;rw[hL]at r;let(-p,j,rfl):=Kg r;let w:=n p<|Ug j;let g:xQ 6 (.str<|qh a p.1) (dT t)=! .bl 7:=by show some (D.bl<|not<|(jH (t.map _) (t.map _)<|.inr _).isSome)=_;rw[Dp,w];rfl
simp[rI,g]);let l:jQ (.tup [0,1]) (qg<|J2 (ji jY (ja 2)<|013)<|J2 014 jb) [8,8,~~~dT t] L=.ok (c.map xB):=by
  rw[hL,];rw[Q9 λp j=>?_];let g:jY (dT t) (.str<|qh a p.1)=! .int p.1:=by show jH (t.map _) (t.map _) (.inr _)=_;rw[Dp,n p j];rfl
  simp[rI,g,xB]
 let x:⇑L<00:=JT (by rw[hL,Zql];lia);subst e;simp[Ag,DW,v,l,x,jA]
def yJ(a:Yi)(z:3×Str×Str×J0):3×Str×Str×List (Str×3):=%[z.1,z.2.1,z.2.2.1|z.2.2.2.map λi=>%[qh a i.1|i.2]]
noncomputable def wU(a:Yi)(R:List (3×Str×Str×J0)):Yi:=a++R.map (·.2.1)
structure DrOk(gs:Yi)(R:List (3×Str×Str×J0)):4 where
nd:(wU gs R).Nodup
gl:⇑gs<=400
rl:⇑R<=400
is:∀z∈R,⇑z.2.2.2<=400/\∀i∈z.2.2.2,0<=i.1/\i.1<(⇑(wU gs R):3)
def lS(c:Str)(a b:YC):Xo [.str c,.lst a,.lst b]=.ok [.str c,.lst a,.lst b]:=rfl
def bP(h:DrOk a R):BB [BD (nm,a,R.map<|yJ<|wU a R)]=.ok (JN (nm,a,R.map (·.2))):=by
 let p:⇑(wU a R)<=900:=by ext wU;rw[Ua,Zql];let:=h.gl;let:=h.rl;lia
 let u:=bO h.nd p;let m:∀z∈R,Ag [.lst ((z.2.2.2.map λi=>%[qh (wU a R) i.1|i.2]).map rI),dT (yG<|wU a R),.int z.1]=.ok (jA z.2.2.2):=λz l=>bM h.nd p (h.is z l).2 (by let:=(h.is z l).1;lia) z.1;let(c,v):∃c,c=wU a R:=(_,9);let th:wU a R=a++R.map (·.2.1):=9;rw[<-v]at u m th ⊢;let(L,hL):∃L,L=(R.map<|yJ c).map zN:=(_,9);let j:L=R.map (zN ∘ yJ c):=by rw[hL,Zw]
 let G:⇑L=⇑R:=by rw[j,Zql]
 let H:=h.rl;let I:=h.gl;let J:jQ (.tup [0,1]) (ji jY 014<|040) [8,8] L=.ok (R.map λz=>.str z.2.1):=by rw[j,];rw[Q9 λz l=>?_];let g:jY (Xv z.2.1 z.2.2.1<|z.2.2.2.map λi=>%[qh c i.1|i.2]) (.int 0)=! .str z.2.1:=vd _ _;simp[zN,yJ,g]
 let M:j5 (.lst<|a.map .str) (.lst<|R.map λz=>.str z.2.1)=!(.lst<|c.map .str):=by show(if(a.map D.str).length+⇑(R.map λz=>D.str z.2.1)<=00 then !(D.lst<|a.map D.str++R.map λz=>D.str z.2.1)else 8)=_;rw[Zd (Q8<|by rw[Zql,Zql];lia),th,Ud,Zw];rfl
 let w:BD (nm,a,R.map<|yJ c)=.ins "Draft" 008 [.str nm,.lst (a.map .str),.lst L]:=by rw[hL,];rfl
 rw[w,];let(f,hdd):∃f,f=D.ins "Draft" 008 [.str nm,.lst (a.map .str),.lst L]:=(_,9);let N:j0 "Draft" "name" f=! .str nm:=by rw[hdd,];rfl
 let O:j0 "Draft" "givens" f=!(.lst<|a.map .str):=by rw[hdd,];rfl
 let Q:j0 "Draft" "rows" f=! .lst L:=by rw[hdd,];rfl
 rw[<-hdd];generalize yG c=t at*;let(-x,S,(n,o,q)):=Ko (tg:=.tup [03,04]) (b:=Ke 2<|qg<|J2 (ji jY (ja 04)<|040)<|J2 (ji jY (ja 04)<|026)<|J2 (J7 Ag<|J2 (ji jY (ja 04)<|dC<|.int 2)<|J2 014<|J2 033 jb) jb) (ds:=L) (sd:=[~~~f,~~~dT t,!(.own 7<|.lst []),8,8]) (P:=λi sd=>∃(n o:02 SV),sd=[~~~f,~~~dT t,!(.own 7<|.lst<|(R.take i).map λz=>jK z.2),n,o]) (qE 8 8 9) (by
rintro i d sd r ⟨n,o,rfl⟩;rw[j]at r;let(-z,l,rfl):=Kg r;let e:=m z<|Ug l;let(md,hmd):∃md,md=Xv z.2.1 z.2.2.1 (z.2.2.2.map λi=>%[qh c i.1|i.2]):=(_,9);let y:jY md (.int 0)=! .str z.2.1:=by rw[hmd,];rw[vd _ _]
let A:jY md (.int 1)=! .str z.2.2.1:=by rw[hmd,];rw[vW _ _ _]
let B:jY md (.int 2)=!(.lst<|(z.2.2.2.map λi=>%[qh c i.1|i.2]).map rI):=by rw[hmd,];rw[mH _ _ _ _]
let C:R.take (i+1)=R.take i++[z]:=by rw[List.take_add_one,l];rfl
let s:=JT (show((R.take i).map λz=>jK z.2).length<=1000 by rw[Zql,Uy];lia);rw[([~~~f,~~~dT t,!(.own 7<|.lst<|(R.take<|i+1).map λz=>jK z.2),~~~.int z.1,~~~md],?_,_,_,9)];rw[C,Ud];generalize(R.take i).map (λz=>jK z.2)=E at*;generalize(z.2.2.2.map λi=>%[qh c i.1|i.2]).map rI=F at*;show(JX (.tup [03,04]) (.tup [.int z.1,Xv z.2.1 z.2.2.1 (z.2.2.2.map λi=>%[qh c i.1|i.2])]) _).bind _=_;rw[<-hmd];simp[y,A,B,e,s,jK]);let s:⇑L<00:=JT ();simp_all[JN,Zw,BB,DZ,lS]
theorem PX(N:N4 p a g r):∀(b c:Yi)(k:5)(rest:Yi)(u v:02 SV),(∀x∈b,qU x)->⇑c+⇑b<=1000->∃f i,xR (Xf (.tup [2,03]) wq) (zu k<|b.map (λx=>(" given ":Str)++x)++rest) [~~~t,~~~.adr p,u,v] (dH p a g r nm c [])=xR (Xf (.tup [2,03]) wq) (zu (k+⇑b) rest) [~~~t,~~~.adr p,f,i] (dH p a g r nm (c++b) [])|[],c,k,rest,u,v,_,_=>qE u v<|by rw[ZA,];rfl|x::b,c,k,rest,u,v,h,l=>by rw[Zu]at l;let j:=h x Zqs;let(f i,e):=PX (t:=t) (nm:=nm) N b (c++[x]) (k+1) rest (~~~(.int<|(k:3)+1)) (!(.val<|.str<|" given "++x)) (λy m=>h y<|Zqm _ m) (by rw[Ua,Uj];lia);rw[qE f i<|((PN N (ng.app j.1) () (by rw[e9,];rw[PM _]) (zlh N j () _) u v _).trans e).trans ?_];rw[Uf,Zu,Nat.add_assoc,Nat.add_comm 1];rfl
noncomputable def WI:5->List Rw->List (3×Rw)|_,[]=>[]|k,r::a=>%[(k:3)+1|r]::WI (k+1) a
theorem BE:∀(a:List Rw)(k:5),(WI k a).map (·.2)=a|[],_=>9|r::a,k=>Zt (r::·) (BE a<|k+1)
def PY(a:Yi){r:Rw}(h:r.2.1="all"\/r.2.1=034):yb a r=ym r.1 r.2.1 (r.2.2.map λi=>%[qh a i.1|i.2]):=by ext yb ym zG;rw[Zw,show yV r.2.1=r.2.1 from Zd h];rfl
theorem PZ(N:N4 p a g r) :∀(b:List Rw)(R:YC)(k:5)(u v:02 SV),(∀z∈b,RowR z.1 z.2.1 (z.2.2.map λi=>%[qh c i.1|i.2]))->⇑R+⇑b<=1000->∃f j,xR (Xf (.tup [2,03]) wq) (zu k<|b.map<|yb c) [~~~t,~~~.adr p,u,v] (dH p a g r nm gs R)=.ok (.next [~~~t,~~~.adr p,f,j]<|dH p a g r nm gs<|R++(WI k b).map (zN ∘ yJ c))|[],R,k,u,v,_,_=>qE u v<|by rw[show(WI k []).map (zN ∘ yJ c)=[]from 9,ZA];rfl|z::b,R,k,u,v,h,l=>by rw[Zu]at l;let W:=h z Zqs;let(f,j,e):=PZ N b (R++[(zN ∘ yJ c) %[(k:3)+1|z]]) (k+1) (~~~(.int<|(k:3)+1)) (~~~(.str<|ym z.1 z.2.1<|z.2.2.map λi=>%[qh c i.1|i.2])) (λy m=>h y<|Zqm _ m) ();rw[Uf]at e;rw[Zl,PY c W.hw];rw[qE f j<|(PN N W.ok.1 () (by ext ym;simp only[Xk];rw[PM _]) (oN N W () _) u v _).trans e]
def WJ{a b:Str}(e:c∉a.cps.toList)(f:c∉b.cps.toList):c∉(a++b).cps.toList:=by simp_all[Qq]
theorem Ra(a:c∉s.cps.toList):∀l:Yi,(∀x∈l,c∉x.cps.toList)->c∉(Txt.join s l).cps.toList|[],_=>λz=>nomatch z|[x],h=>by rw[Xm,];rw[()]|x::y::r,h=>by rw[Xl,];rw[WJ (WJ () a)<|Ra a _ ()]
def PlN.row(P:PlN p):∀z∈p.rows,RowR z.1 z.2.1 (z.2.2.map λi=>%[qh (yj p) i.1|i.2])/\∀i∈z.2.2,0<=i.1/\i.1<(⇑(yj p):3):=λz e=>by
 let r:(⇑(yj p):3)=(⇑p.givens:3)+⇑p.rows:=by rw[GN,];lia
 let(k,f):=List.getElem?_of_mem e;let(!I,s,u):=P.its k z f;let v:=(Jd.mp f).1;let l:∀i∈z.2.2,0<=i.1/\i.1<(⇑(yj p):3):=λi c=>by let:=I.rng i c;lia
 rw[((P.tn z.1<|Uo _<|Ja.mpr (z,e,9),P.how z e,λj n=>?_,(),()),l)];let(-i,c,rfl):=Ja.mp n;let(!o,q):=l i c;rw[(P.tn _ (GO o q).2,I.far i c)]
def iv(P:PlN p):∀x∈Ks p,10∉x.cps.toList:=λx hx=>by
 obtain hx|hx:=Jc.mp hx
 .rcases Jc.mp hx with hx|hx;.rw[Jb.mp hx,];rw[WJ 002<|Wy P.nm<|004]
  .let(-g,c,rfl):=Ja.mp hx;rw[WJ 002<|Wy (P.tn g<|Vd _ c)<|004]
 .let(-z,b,rfl):=Ja.mp hx;rw[PY _ (P.how z b),];let R:=(P.row z b).1;let a:(10:5)∉(" ":Str).cps.toList:=002;rw[WJ (WJ (WJ (WJ (WJ a<|Wy R.nm<|004) a)<|by obtain z|z:=R.hw<;>rw[z,]<;>decide) a)<|Ra 002 _ λx hx=>?_];let(-i,e,rfl):=Ja.mp hx;rw[Hl (R.is i e) 004 () ()]
section
variable {p:Pl}
def oo(h:(b x sd e).need (λo=>∃a c,o=.next a c/\(xR b f a c).need P Q) Q):(xR b (x::f) sd e).need P Q:=by rw[Wr.need_bind.mpr<|h.mono (λo g=>?_) λb b z=>z];grind
def zC(p:Pl):Str:=Txt.join "\n"<|Ks p
def Rb(h:PlT p):TxtOk 92565 (zC p)/\JoinOk "\n" (Ks p)=6:=by let(a,b):=O7 h;let c:TxtOk 1 ("\n":Str):=Qx 002;rw[(Bm c a b,GL c.len (λy e=>(a y e).len) b<|004)]
def PlN.txt(P:PlN p):PlT p:=by rw[(P.nm.1,λg j=>(P.tn g<|Vd _ j).1,P.g2,P.r2,λr c=>?_)];let(k,e):=List.getElem?_of_mem c;let(!I,_,l):=P.its k r e;let n:=(Jd.mp e).1;rw[((P.tn r.1<|Uo _<|Ja.mpr (r,c,9)).1,by obtain z|z:=P.how r c<;>rw[z,]<;>rw[Qx<|002],(),λi f=>by let:=I.rng i f;let:=I.far i f;lia)]
def e7(P:PlN p) (q:Addr):(Xf (.tup [2,03]) wq (.tup [.int 1,.str ("plan "++p.name)]) [~~~t,~~~.adr q,8,8] [%[q|.lst []]]).need (λo=>∃a g r u v,N4 q a g r/\o=.next [~~~t,~~~.adr q,u,v] (dH q a g r p.name [] [])) λ_ _=>False:=by show(wq [~~~t,~~~.adr q,~~~.int 1,!(.val<|.str<|"plan "++p.name)] _).need _ _;ext wq;simp;rw[Wr.need_bind.mpr<|Wr.need_bind.mpr<|Wr.need_bind.mpr<|(a9 P.nm q).mono (λo b=>?_) λb b z=>z];let(d,H):=o;let(rfl,a,g,r,N,rfl):=b;rw[je a g r (N,_,_,9)]
def bT(P:PlN p) (f:TxtOk n x)(h:n<=4000000)(i:Txt.split x "\n"=Ks p):Xu [036]=.ok (.lst [BD (p.name,p.givens,(WI (⇑p.givens+1) p.rows).map<|yJ<|yj p)]):=by
 let c:dh [036] (.lst [BD (p.name,p.givens,(WI (⇑p.givens+1) p.rows).map<|yJ<|yj p)]):=by
  rw[(9,?_)];let g:=Y7 (s:="\n") f h 002;rw[i]at g;show((xf (uK 1<|wS yW) (xf (v5 (uW 1<|J2 (qM Wv 013<|dC<|.str "\n") jb) (.tup [2,03]) wq)<|zq<|vL<|014) [~~~036,8,8,8] []).bind xM).need _ _;let e:Ks p=(("plan ":Str)++p.name)::(p.givens.map (λg=>(" given ":Str)++g)++p.rows.map (yb<|yj p)):=by ext Ks yj;simp
  let j:=λq=>e7 P (t:=036) q;let l:=λq a g r(N:N4 q a g r)u v=>PX (nm:=p.name) (t:=036) N p.givens [] 1 (p.rows.map<|yb<|yj p) u v (λx f=>P.tn x<|Vd _ f) (by let:=P.g2;rw[ZC,];lia);let m:=λq a g r(N:N4 q a g r)u v=>PZ (nm:=p.name) (t:=036) (gs:=[]++p.givens) N p.rows [] (1+⇑p.givens) u v (λz w=>(P.row z w).1) (by let:=P.r2;rw[ZC,];lia);generalize wq=b at*;simp[qM,g,v5];intro q _;rw[lc,e];rw[Wr.need_bind.mpr<|Wr.need_bind.mpr<|oo<|(j q).mono (λo y=>?_) λb b z=>z];let(a g r u v,N,rfl):=y;rw[(_,_,9,?_)];let(A B,C):=l q a g r N u v;let(H I,E):=m q a g r N A B;rw[C,E,Nat.add_comm 1];show dr _ 06 _=_;rw[mu N,<-Zw];rfl
 ext Xu;rw[dif_pos (_,c),];let(-a,F,G):=PQ (Classical.choose_spec ((_,c):∃d,dh [036] d)).2 c.2;rw[<-F,G]
def eS(P:PlN p) (f:TxtOk n (zC p))(h:n<=4000000):BC [.str (zC p)]=.ok (JJ [p]):=by
 let a:wU p.givens (WI (⇑p.givens+1) p.rows)=yj p:=by
  ext wU yj;conv=>rhs;rw[<-BE p.rows (⇑p.givens+1)]
  rw[Zw,];rfl
 let i:Txt.split (zC p) "\n"=Ks p:=by let t:=iv P;ext zC;induction e:Ks p with|nil=>simp[Ks]at e|cons=>rw[Y6 9 002 ()]
 let j:=bT P f h i;let u:⇑(WI (⇑p.givens+1) p.rows)=⇑p.rows:=by let:=Zt List.length<|BE p.rows<|⇑p.givens+1;rwa[Zql]at this
 let b:=bP (nm:=p.name) (by rw[a,];rw[P.td],by let:=P.g2;lia,by let:=P.r2;lia,λz v=>by
let c:z.2∈(WI (⇑p.givens+1) p.rows).map (·.2):=018
rw[BE]at c;let(!m,o):=P.row z.2 c;let q:=m.hi;rw[Zql]at q;rw[a,];rw[((),o)]);rw[a,BE]at b;let w:=JT<|show 1<=1000 from();let x:=Pz P;generalize BD _=d at j b;let r:jQ 031 (J7 BB<|037) [8] [d]=.ok [JN p]:=Q9 (xs:=[d]) (k:=id) (g:=λb=>JN p) λy s=>by rw[Jb.mp s,];simp[b]
 let A:∀l:YC,Xn [.lst l]=.ok [.lst l]:=λb=>9;let B:JJ [p]=.ins "Book" ["plans"] [.lst [JN p]]:=9;simp_all[BC,Ea]
end
def Ah:FS:=jg (qj (JB<|ji x6 014<|040) (jy<|013) JM)<|jy<|kI (JB<|ji u5 014<|040) ((yc Qt 013<|qV "+"<|yc Qt 014 xh) Str.empty)<|(yc Qt 013<|yc Qt 014 xh) Str.empty
def Y8:YC->Res D:=jD 2 2 Ah
def bI(g:TxtOk 12 x)(a:-1000000000000000000000000000000<w)(b:w<1000000000000000000000000000000):Y8 [036,.int w]=.ok (.str<|zU x w):=by
 let h:=GK a b;let i:=g.len;let j:=h.len;let f:Qt (.int w)=! jZ w:=Zd<|Uh (ad a b) ();ext zU;cases c:w=0;.simp[Y8,Ah,c]
 .cases d:0<w
  .let e:(yc Qt 013<|qV "+"<|yc Qt 014 xh) Str.empty [~~~036,~~~.int w]=.ok (.str<|x++"+"++jZ w):=by let l:("+":Str).length=1:=002;rw[vx 9 9 (by rw[KS,];lia),KS,zF (by rw[Q3,];lia),vx 9 f (by grind[Q3]),wh (by grind[Q3])]
   simp[Y8,Ah,c,d,e]
  .let e:(yc Qt 013<|yc Qt 014 xh) Str.empty [~~~036,~~~.int w]=.ok (.str<|x++jZ w):=by rw[vx 9 9 (by rw[KS,];lia),KS,vx 9 f (by rw[Q3,];lia),wh (by rw[Q3,];lia)]
   simp[Y8,Ah,c,d,e]
def Ed:FS:=jg (jv 04<|kI (JB<|ji (xQ 7) 014<|qg<|J2 (dC<|.str "all")<|J2 (dC<|.str 034) jb) 014<|(qV "part "<|yc Qt 014 xh) Str.empty)<|jg (jv 05<|qM ZT (dC<|.str ", ")<|Qc [8,8,!03] (iS<|ja 2) (.tup [0,1])<|J7 Y8<|J2 (ji jY (ja 2)<|013)<|J2 014 jb)<|jy<|(qV " "<|yc Qt 013<|qV " "<|yc Qt (ja 04)<|qV " "<|yc Qt (ja 05) xh) Str.empty
def BF:YC->Res D:=jD 06 04 Ed
def bJ(m:∀x∈xs,TxtOk 12 x)(o:TxtOk 12 r.1)(g:TxtOk 12 r.2.1)(q:⇑r.2.2<=44)(h:∀i∈r.2.2,0<=i.1/\i.1<(⇑xs:3)/\-1000000000000000000000000000000<i.2/\i.2<1000000000000000000000000000000):BF [.str r.1,.str r.2.1,jA r.2.2,.lst (xs.map .str)]=.ok (.str<|yb xs r):=by
 let(!a,b,c):=O6 m q h;let mk:jQ (.tup [0,1]) (J7 Y8<|J2 (ji jY (ja 2)<|013)<|J2 014 jb) [8,8,~~~(.lst<|xs.map .str)] (r.2.2.map xB)=.ok (r.2.2.map λp=>.str<|zU (qh xs p.1) p.2):=Q9 λp s=>by let(!t,u,v,w):=h p s;let(A,B):=GO t u;let C:=bI (m _ B) v w;simp[A,C]
 let j:=GM c;rw[Zw]at j;let j:ZT ", " (.lst<|r.2.2.map λp=>D.str<|zU (qh xs p.1) p.2)=!(.str<|zG xs r.2.2):=j;let F:=JT<|show ⇑r.2.2<=1000 from();let n:xQ 7 (.str r.2.1) (.tup [D.str "all",D.str 034])=!(.bl<|decide<|r.2.1="all"\/r.2.1=034):=by
  let:=O1 (neg:=7) (x:=r.2.1) (xs:=["all",034]) g.asc<|by
   intro y E;let:y="all"\/y=034:=by simpa using E
   obtain rfl|rfl:=this<;>ext asc<;>decide
  rw[show D.tup (List.map D.str ["all",034])=D.tup [D.str "all",D.str 034]from 9]at this;rw[this,];simp
 let G:=o.len;let H:=g.len;let I:=b.len;let J:=(O5 g).len;let L:(" ":Str).length=1:=002;let M:("part ":Str).length=05:=002;let N:∀l:02 SV,kI (JB<|ji (xQ 7) 014<|qg<|J2 (dC<|.str "all")<|J2 (dC<|.str 034) jb) 014 ((qV "part "<|yc Qt 014 xh) Str.empty) [~~~.str r.1,~~~.str r.2.1,~~~jA r.2.2,~~~(.lst<|xs.map .str),8,l]=.ok (.str<|yV r.2.1):=λl=>by
  ext yV;cases f:r.2.1="all"\/r.2.1=034;.rw[Zd f,];simp[n,f]
  .rw[Ze f,];let e:(qV "part "<|yc Qt 014 xh) Str.empty [~~~.str r.1,~~~.str r.2.1,~~~jA r.2.2,~~~(.lst<|xs.map .str),8,l]=.ok (.str<|"part "++r.2.1):=by rw[zF (by rw[KS,];lia),KS,vx (d:=.str r.2.1) (z:=r.2.1) 9 9 (by rw[Q3,];lia),wh (by rw[Q3,];lia)]
   simp[n,f,e]
 let O:(qV " "<|yc Qt 013<|qV " "<|yc Qt (ja 04)<|qV " "<|yc Qt (ja 05) xh) Str.empty [~~~.str r.1,~~~.str r.2.1,~~~jA r.2.2,~~~(.lst<|xs.map .str),~~~(.str<|yV r.2.1),~~~(.str<|zG xs r.2.2)]=.ok (.str<|yb xs r):=by rw[zF (by rw[KS,];lia),KS,vx (d:=.str r.1) (z:=r.1) 9 9 (by rw[Q3,];lia),zF (by simp only[Q3];lia),vx (d:=.str<|yV r.2.1) (z:=yV r.2.1) 9 9 (by simp only[Q3];lia),zF (by simp only[Q3];lia),vx (d:=.str<|zG xs r.2.2) (z:=zG xs r.2.2) 9 9 (by simp only[Q3];lia),wh (by simp only[Q3];lia)];rfl
 simp_all[BF,Ed,jv,qM]
def Ee:FS:=jg (jv 1<|jO (j0 "Plan" "name")<|013)<|jg (jv 2<|ji j5 (jO (j0 "Plan" "givens")<|013)<|Qc [8,8,8] (iS<|jO (j0 "Plan" "rows")<|013) (.tup [0,1,2])<|013)<|jg (jv 03<|ji j5 (qy<|J2 ((qV "plan "<|yc Qt 014 xh) Str.empty) jb)<|Qc [8] (iS<|jO (j0 "Plan" "givens")<|013) 031<|(qV " given "<|yc Qt 013 xh) Str.empty)<|jy<|ji AZ 033<|Qc [8,8,8,!2] (iS<|jO (j0 "Plan" "rows")<|013) (.tup [0,1,2])<|J7 BF<|J2 013<|J2 014<|J2 (ja 2)<|J2 033 jb
def Ef:YC->Res D:=qd 04 1 Ee
def bK(h:PlT p):Ef [JN p]=.ok (.lst<|(Ks p).map .str):=by
 let n:=h.gl;let f:=h.rl;let o:("plan ":Str).length=05:=002;let q:(" given ":Str).length=07:=002;let s:=h.nm.len;let t:jQ (.tup [0,1,2]) 013 [8,8,8] (p.rows.map jK)=.ok (p.rows.map λr=>.str r.1):=Q9 ();let m2:jQ 031 ((qV " given "<|yc Qt 013 xh) Str.empty) [8] (p.givens.map .str)=.ok (p.givens.map λg=>.str<|" given "++g):=Q9 λg j=>by
  let:=(h.gs g j).len;let e:(qV " given "<|yc Qt 013 xh) Str.empty [~~~.str g]=.ok (.str<|" given "++g):=by rw[zF (by rw[KS,];lia),KS,vx (d:=.str g) (z:=g) 9 9 (by rw[Q3,];lia),wh (by rw[Q3,];lia)]
  simp[e]
 let u:jQ (.tup [0,1,2]) (J7 BF<|J2 013<|J2 014<|J2 (ja 2)<|J2 033 jb) [8,8,8,~~~(.lst<|(yj p).map .str)] (p.rows.map jK)=.ok (p.rows.map λr=>.str<|yb (yj p) r):=Q9 λr f=>by
  let(!a,b,c,d):=h.rs r f;let e:=bJ (xs:=yj p) h.th a b c λi l=>by rw[GN,];rw[d i l]
  simp[jK,e]
 let v:=JT<|show ⇑p.rows<=1000 from();let w:=JT<|show ⇑p.givens<=1000 from();let x:∀sd:SD,sd[1]?=!~~~039->(qV "plan "<|yc Qt 014 xh) Str.empty sd=.ok (.str<|"plan "++p.name):=λsd m=>by rw[zF (by rw[KS,];lia),KS,vx (d:=039) (z:=p.name) (by simp[m]) 9 (by rw[Q3,];lia),wh (by rw[Q3,];lia)]
 let y:j5 (.lst<|p.givens.map .str) (.lst<|p.rows.map λr=>.str r.1)=!(.lst<|(yj p).map .str):=by show(if(p.givens.map D.str).length+⇑(p.rows.map λr=>D.str r.1)<=00 then !(D.lst<|p.givens.map D.str++p.rows.map λr=>D.str r.1)else 8)=_;rw[Zd (Q8<|by rw[Zql,Zql];lia),];ext yj;simp
 let A:j5 (.lst [.str ("plan "++p.name)]) (.lst<|p.givens.map λg=>.str<|" given "++g)=!(.lst<|(["plan "++p.name]++p.givens.map λg=>(" given ":Str)++g).map .str):=by show(if 1+⇑(p.givens.map λg=>D.str _)<=00 then !(D.lst<|[.str _]++p.givens.map λg=>D.str _)else 8)=_;rw[Zd (Q8<|by rw[Zql,];lia),];simp
 let B:AZ (.lst<|(["plan "++p.name]++p.givens.map λg=>(" given ":Str)++g).map .str) (.lst<|p.rows.map λr=>.str<|yb (yj p) r)=!(.lst<|(Ks p).map .str):=by show(if((["plan "++p.name]++p.givens.map _).map _).length+⇑(p.rows.map λr=>D.str<|yb _ r)<=00 then !(D.lst<|(["plan "++p.name]++p.givens.map _).map _++p.rows.map λr=>D.str<|yb _ r)else 8)=_;rw[Zd (Q8<|by simp;lia),];ext Ks yj;simp
 simp_all[Ef,Ee,m2]
def Eg:FS:=jg (qr 1<|qy jb)<|jg (jP (iS<|jO (j0 "Book" "plans")<|013) (.one 2)<|XA 1<|J7 Ef<|016)<|λsd=>(jy<|qM ZT (dC<|.str "\n")<|014)<|qF [1] sd
def BG:YC->Res D:=jD 03 1 Eg
def bL(h:PlT p):BG [JJ [p]]=.ok (.str<|zC p):=by let a:⇑(Ks p)<=00:=Q8 (by let:=(O7 h).2;lia);ext BG Eg;simp[Aa,bK h,qM,GM (Rb h).2,a];rfl
def BH(a:YC->Res D):FS:=jy<|ji jY (J7 a<|J2 013<|J2 014<|016)<|jO xP<|026
def Y9(a:YC->Res D):FS:=jg (qj (JB<|ji x6 014<|dC<|.str "all") (jy<|jp AJ<|016) JM)<|jg (qj (JB<|ji x6 014<|dC<|.str 034) (jy<|jp AK<|016) JM)<|jy<|J7 a<|J2 013<|J2 014<|016
def BI(a:YC->Res D):FS:=jg (qr 03<|jp Kf<|016)<|jg (jP (iS<|jO (j0 "Plan" "rows")<|J7 Bw<|J2 013<|J2 014 jb) (.tup [04,05,06])<|Ke 03<|zl [03]<|J7 a<|J2 013<|J2 (ja 05)<|J2 (Qc [8,8,!03] (iS<|ja 06) (.tup [0,1])<|ji j5 (ji jY (ja 2)<|013)<|014) jb)<|λsd=>(jy<|033)<|qF [03] sd
def Xw:5->YC->Res D|0=>λb=>.no|n+1=>jD 07 03 (BI<|jD 03 03<|Y9<|jD 03 03<|BH<|Xw n)
def Kp(n:5):YC->Res D:=jD 03 03<|BH<|Xw n
def Wg(n:5):YC->Res D:=jD 03 03<|Y9<|Kp n
def Rc(h:Xw n [bk,a,b]=.ok (.lst<|(c++[x]).map .int)):Kp n [bk,a,b]=.ok (.int x):=by let l:=GE (f:=D.int) c x;simp_all[Kp,BH]
def zkP(a:asc how)(c:how ≠"all")(e:how ≠ 034)(h:Kp n [b,.str how,d]=.ok z):Wg n [b,.str how,d]=.ok z:=by let f:=KR a Xi;let g:=KR a Xj;simp_all[Wg,Y9]
theorem Re(B:BkP V c):∀(n i:5)(p:Pl)(a:Yf),c[i]?=!p->i<n->⇑a=⇑p.givens->Xw n [JJ c,039,.lst (a.map .int)]=.ok (.lst<|(xm c n p a).map .int)|0,i,p,a,_,h,_=>Zn h (US _)|n+1,i,p,a,m,L,hl=>by let P:=B.ok i p m;let M:=P.g2;let N:=P.r2;let O:=OP (B.at m).2.2.1 B.ascs<|B.find m;show jD 07 03 (BI<|Wg n) _=_;rw[GH,];let(A,e,u,v,w,C):=Ko (tg:=.tup [04,05,06]) (b:=Ke 03<|zl [03]<|J7 (Wg n)<|J2 013<|J2 (ja 05)<|J2 (Qc [8,8,!03] (iS<|ja 06) (.tup [0,1])<|ji j5 (ji jY (ja 2)<|013)<|014) jb) (ds:=p.rows.map jK) (sd:=[~~~JJ c,~~~039,~~~(.lst<|a.map .int),!(.own 7<|.lst<|a.map .int),8,8,8]) (P:=λi sd=>∃u v w,sd=[~~~JJ c,~~~039,~~~(.lst<|a.map .int),!(.own 7<|.lst<|(qs (xJ c n) (p.rows.take i) a).map .int),u,v,w]) (8,8,8,9) (by
rintro k x sd E ⟨u,v,w,rfl⟩;let(-r,f,rfl):=Kg E;let(!F,Q,S):=P.at (rc:=xJ c n) hl f;let R:=P.row k r f;let G:=au F;let H:=R.sh;let g:=pA (found:=qs (xJ c n) (p.rows.take k) a) R.ne;let I:=lD (qs (xJ c n) (p.rows.take k) a) r.2.2;let t:Wg n [JJ c,.str r.2.1,.lst ((yi (qs (xJ c n) (p.rows.take k) a) r.2.2).map .int)]=.ok (.int<|ya (xJ c n) (qs (xJ c n) (p.rows.take k) a) r):=by
 have zy:=Re B n;ext ya;obtain z|z|⟨z0,o,s,j,q,z3,z4,z5,z6⟩:=B.how m f;.rw[z,Zd 9];(simp[Wg,Y9,Ou,zmS g])
 .rw[z,Ze 002,Zd 9];(simp[Wg,Y9,Ov,Ow,zmQ g])
 .rw[Ze o,Ze s];rw[zkP z0 o s ?_];let(l,rfl):∃l,n=l+1:=(n-1,());let(T,J):=B.part (n:=l) z4 (yi (qs (xJ c<|l+1) (p.rows.take k) a) r.2.2);let y:=zy j q _ z4 ()<|I.trans z6;rw[J,<-z5]at y;rw[Rc y]
let o:=JT<|show ⇑r.2.2<=1000 from();let s:=JT (show(qs (xJ c n) (p.rows.take k) a).length<=1000 by lia);rw[([~~~JJ c,~~~039,~~~(.lst<|a.map .int),!(.own 7<|.lst<|(qs _ (p.rows.take<|k+1) a).map .int),~~~.str r.1,~~~.str r.2.1,~~~jA r.2.2],?_,_,_,_,9)];rw[Oz f,];let U:jA r.2.2=.tup _:=9;generalize ya (xJ _ n) (qs (xJ _ n) _ _) r=val at t;generalize JJ _=bk at t;rw[oE,Res.bind_ok];simp[G,t,o,s]);simp_all[BI]
def Eh:FS:=jg (jv 04<|Wq "Book" ["plans"] Xn<|J2 (qy<|J2 (J7 Ac<|J2 (dC<|.str "b1")<|J2 (jp jE<|J2 033 jb)<|J2 (jp Kf<|016) jb) jb) jb)<|jg (qj (JB<|jO (qW 6)<|J7 Ab<|J2 (ja 04) jb) (jy<|dC<|.bl 7) JM)<|jg (jv 05<|J7 BC<|J2 (J7 BG<|J2 (ja 04) jb) jb)<|jg (qj (z7 (JB<|ji xV (J7 Y2<|J2 (ja 05) jb)<|J7 Y2<|J2 (ja 04) jb)<|JB<|ji xV (J7 Wf<|J2 (ja 05)<|J2 (dC<|.str "b1")<|J2 (dC<|035) jb)<|ja 2) (jy<|dC<|.bl 7) JM)<|jg (jv 06<|ji j5 (qy<|J2 033<|J2 (jp AV<|J2 033 jb) jb)<|Qc [8,!2,!03] (iS<|ja 2) 031<|J7 Y1<|J2 013<|J2 014<|J2 (jp jE<|016) jb)<|jg (jP (iS<|ja 06) (.one 07)<|qj (JB<|ji xV (J7 (Kp 04)<|J2 (ja 05)<|J2 (dC<|.str "b1")<|J2 (jp Kf<|J2 (ja 07) jb) jb)<|J7 (Kp 04)<|J2 013<|J2 014<|J2 (jp Kf<|J2 (ja 07) jb) jb) (jy<|dC<|.bl 7) JM)<|jy<|dC<|.bl 6
def Ai:YC->Res D:=jD 08 04 Eh
def Aj:FS:=jg (jv 2<|J7 We<|J2 013<|J2 014 jb)<|jg (qj (JB<|ji u5 (ji qa (ja 2)<|dC<|.int 04)<|040) (jy<|ji zJ (ji qa (ji QQ (ja 2)<|dC<|.int 04)<|dC<|.int 05)<|dC<|.int 2) JM)<|jg (jv 03<|ji qa (ji yd (ji QQ 013<|dC<|.int 07)<|ji j5 014<|dC<|.int 2)<|ji ze (dC<|.int 10)<|dC<|.int 60)<|jg (qj (JB<|ji x6 (ji qa (ji QQ (ja 2)<|dC<|.int 20)<|dC<|.int 2)<|040) (jy<|033) JM)<|jy<|jO xP<|033
def YH:YC->Res D:=jD 04 2 Aj
def bH(g:-1000000<=s)(h:s<=1000000):YH [.int c,.int s]=.ok (.int<|Bi c s):=by
 let b:Uk (c/07) (s+2)=6:=C7 () ();let e:ze (.int 10) (.int 60)=!_:=9;ext Bi;cases a:0<jU c s%04;.simp[YH,Aj,a]
 .cases f:jU c s/20%2=0;.simp[YH,Aj,a,f,AQ b,e]
  .simp[YH,Aj,a,f,AQ b,e]
def Ei:FS:=jy<|Qc [8,!0,!1] (zx<|016) 031<|J7 YH<|J2 (ji j5 (ji QQ (J7 Xp<|J2 014<|037)<|dC<|.int 03)<|013)<|J2 (ji j5 (ja 2)<|013) jb
def Ak:YC->Res D:=qd 03 03 Ei
def bF(a:Yf) (f:0<=s)(g:s<=1000)(h:0<=n)(j:n<=12):Ak [.scr a,.int s,.int n]=.ok (.lst<|(Bj a s n.toNat).map .int):=by
 let c:KO [.int n]=.ok (Qm 0 n.toNat):=WB () ();let b:jQ 031 (J7 YH<|J2 (ji j5 (ji QQ (J7 Xp<|J2 014<|037)<|dC<|.int 03)<|013)<|J2 (ji j5 (ja 2)<|013) jb) [8,~~~.scr a,~~~.int s] (Qm 0 n.toNat)=.ok ((List.range n.toNat).map λk:5=>.int<|Bi (XR a k/03+k)<|s+k):=Z8 λi l=>by simp[O9,bH (s:=s+i) () ()]
 let e:(Bj a s n.toNat).map D.int=(List.range n.toNat).map λk:5=>.int<|Bi (XR a k/03+k)<|s+k:=by simp_all[Bj]
 simp[Ak,Ei,c,b,Wo,JT (show n.toNat<=1000 from()),e]
def Ej:FS:=jg (jv 1<|J7 Bt<|037)<|jg (jv 2<|J7 Ak<|J2 013<|J2 (dC<|.int 83)<|J2 (jp jE<|J2 (jO (j0 "Plan" "givens")<|ji jY (jO (j0 "Book" "plans")<|014)<|040) jb) jb)<|jg (jP (iS<|jO (j0 "Book" "plans")<|014) (.one 03)<|jg (jv 04<|J7 Y0<|J2 014<|J2 (jO (j0 "Plan" "name")<|033) jb)<|qj (KJ (JB<|jO (qW 6)<|ja 04)<|QP<|JB<|J7 Ai<|J2 014<|J2 (jO (j0 "Plan" "name")<|033)<|J2 (ja 04)<|016) (jy<|dC<|.bl 7) JM)<|jy<|dC<|.bl 6
def uI:YC->Res D:=jD 05 1 Ej
def eB(C:Cn f)(s:g.Sublist f):Qi g=g:=WR y9 (WC g) (C.strict.sublist s) λr=>(λh=>(xK.mp h).1,λh=>xK.mpr (h,vt.mpr λo a b=>C.anti o (s.subset a) r (s.subset h) b))
theorem Rf(C:Cn f)(l:⇑f<=24):∀(a t:J1),t++a=f->zM 24 t (a.map λr=>[r])=!f
|[],t,e=>by rw[ZA]at e;rw[e,];rw[Xq ()]|g::a,t,e=>by
 let b:=Zt List.length e;rw[Ua,Zu]at b;show(qi 24 t).bind (λb=>zM 24 (Qi<|t++[g])<|a.map λr=>[r])=_;let e:t++[g]++a=f:=by rw[<-e];simp
 rw[Xq (),eB C ()];rw[Rf C l a (t++[g]) e]
def oa(C:Cn f)(l:⇑f<=24):yy [.lst ((f.map λr=>[r]).map jr),035]=.ok (jr f):=by let b:∀r∈f,Cn [r]/\[r].length<=64:=λr c=>((VP _ _,λx a=>by rw[Jb.mp a,];rw[C.rows r c],D7 r),());cases(f)with|nil=>rw[Zn 9 C.ne]|cons r fs=>
let e:=OS (most:=24) (b r Zqs) (λg h=>by let(x,a,rfl):=Ja.mp h;rw[b x<|Zqm _ a]) () () ()
rwa[Rf C l fs [r] 9]at e
def aQ(h:qS (r++[p])):QY r [p]=r++[p]:=by
 let f:=G4 h;let c:r.any λq=>decide<|q.1=p.1=7:=by rw[Vx,];intro q g z;let h:((r++[p]).map _).Pairwise _:=h;rw[Ud]at h;let:=(VT.mp h).2.2 _ (Ja.mpr (q,g,9)) p.1 Zqs;rw[of_decide_eq_true z]at this;lia
 let e:Kl r [p]=r++[p]:=by
  let i:JE r p.1=8:=by induction q:JE r _ with|none=>rfl|some w=>let:=Vx.mp c _<|Q0 q;simp at this
  show qP r _ _=_;rw[i,];ext qP;rw[c,];simp
 ext QY;rw[e,];rw[AB wG (QL _) (WQ wG _)<|f.imp λ{a b}z=>wG.asy _ _ z]
theorem Rg:∀(a r:J0),qS (r++a)->xD 24 [r] (a.map λq=>[[q]])=![r++a]
|[],r,_=>by rw[ZA,];rfl|q::a,r,h=>by
 let e:r++[q]++a=r++q::a:=by simp
 rw[<-e]at h ⊢;let b:qS (r++[q]):=by let h:((r++[q]++a).map _).Pairwise _:=h;rw[Ud]at h;rw[(VT.mp h).1]
 rw[Zl,GX,show Wx _ _=[r++[q]]by show Qi [QY r _]=_;rw[D7,aQ b],Xq ()];rw[Rg _ _ h]
def pW(J:JRow r):yg [.lst ((r.map λp=>[[p]]).map jr),035]=.ok (jr [r]):=by let m:=J.len;let h:∀p∈r,([[p]]:J1)≠[]/\∀x ∈[[p]],JRow x:=λp j=>(VP _ _,λx a=>by rw[Jb.mp a,];rw[(VP _ _,VH _ _,λy l=>by rw[Jb.mp l,];rw[J.bnd p j])]);cases(r)with|nil=>rw[Zn 9 J.ne]|cons p b=>
let A:=OK (most:=24) (h p Zqs) (λg c=>by let(x,a,rfl):=Ja.mp c;rw[h x<|Zqm _ a]) () () () () λi t g d lt c=>by let(x,a,rfl):=Ja.mp (Ug c);let e:=OL (f:=t) (g:=[[x]]) ();simp at e ⊢;lia
let q:ye 24 [[p]] (b.map λp=>[[p]])=![p::b]:=by ext ye;rw[D7,Xq ()];rw[Rg b [p] J.rise]
rwa[q]at A
structure Pf(n:5)(f:J1):4 where
cn:Cn f
len:⇑f<=24
th:∀r∈f,∀p∈r,p.1<(n:3)/\-1000000000000000000000000000000<p.2/\p.2<1000000000000000000000000000000
n1:1<=n
n4:n<=04
section
variable {n:Nat}{f:J1}
def jN(n:5)(f:J1):Pl:=vu "b1" n f
def mZ:(((List.range 04).map λk=>("g":Str)++jT k)++(((List.range 24).map λk=>("r":Str)++jT k)++[("end":Str)])).all wr=6/\((((List.range 04).map λk=>("g":Str)++jT k)++(((List.range 24).map λk=>("r":Str)++jT k)++[("end":Str)])).map λx=>x.cps.toList).Nodup:=002
def Ek:wr "b1"=6:=002
def El(F:Pf n f):(yj<|jN n f).Sublist (((List.range 04).map λk=>("g":Str)++jT k)++(((List.range 24).map λk=>("r":Str)++jT k)++[("end":Str)])):=by
 let e:(jN n f).rows.map (·.1)=((List.range ⇑f).map λk=>("r":Str)++jT k)++[("end":Str)]:=by ext jN vu;rw[Ud,Zw];rfl
 ext yj;rw[e,];rw[List.Sublist.append ((List.range_sublist.mpr F.n4).map _)<|List.Sublist.append ((List.range_sublist.mpr F.len).map _)<|List.Sublist.refl _]
def Em(F:Pf n f){k:5}{r:Rw}(h:(jN n f).rows[k]?=!r):qU r.1/\(r.2.1="all"\/r.2.1=034)/\1<=⇑r.2.2/\⇑r.2.2<=24/\∀p∈r.2.2,(0<=p.1/\p.1<(n:3)+k)/\-1000000000000000000000000000000<p.2/\p.2<1000000000000000000000000000000:=by
 let e:=F.len;rw[(GC mZ.1 _<|(El F).mem<|Uo _<|Ja.mpr (r,Ug h,9),?_)];obtain⟨x,c,rfl⟩|⟨rfl,rfl⟩:=ak h;.let a:=Ug c;let J:=F.cn.rows x a;let g:=J.len;rw[(006,Jp.mpr J.ne,by show ⇑x<=24;lia,λp b=>(((J.bnd p b).1,by let:=(F.th x a p b).1;lia),(F.th x a p b).2))]
 .let i:=Jp.mpr F.cn.ne;grind[yZ,Zql,List.length_range]
def mY:(jN n f).givens.length=n:=by show((List.range n).map _).length=_;simp
def Ho:(jN n f).rows.length=⇑f+1:=zjB "b1" n f
def Rh(F:Pf n f):BkP 1000000000000000000000000000000 [jN n f]:=by let m:=F.len;let o:=F.n1;let q:=F.n4;let(!_,b,c):=(ZX Ek).ne;let g:(jN n f).givens.length=n:=mY;let s:(jN n f).rows.length=⇑f+1:=Ho;rw[BkP.snoc O0 () ((),(),(),(),λk r h=>?_) ((ZX Ek).1.asc,b,c) ()];let(!i,j,t,l,e):=Em F h;rw[g,];rw[(i.1.asc,j.elim .inl λz=>.inr<|.inl z,λz=>(),l,λp a=>(e p a).1,λp a=>by let:=(e p a).2;lia)]
def sM(F:Pf n f):PlN (jN n f):=by
 let j:(jN n f).givens.length=n:=mY;let s:(jN n f).rows.length=⇑f+1:=Ho;let t:=F.len;let u:=F.n1;let v:=F.n4;let c:=mZ.2;unfold List.Nodup at c;rw[U9]at c;rw[(ZX Ek,λx l=>GC mZ.1 x<|(El F).mem l,List.Pairwise.sublist (El F)<|c.imp λ{a b}q e=>q<|by rw[e,],(),(),(),(),λk r g=>?_,λr m=>?_)];.let(!_,_,o,w,i):=Em F g;rw[j,];rw[((λp h=>(i p h).1,λp h=>(i p h).2),o,())]
 .let(k,g):=Jk.mp m;rw[(Em F g).2.1]
def yA(n:5)(f:J1)(i:5):List J1:=xO n++(f.take i).map λr=>[r]
def cJ(h:i<=⇑f):⇑(yA n f i)=n+i:=by simp_all[yA,xO]
def lj(a:0<=t)(h:t<(n:3)):ql (yA n f i) t=[[%[t|0]]]:=by
 unfold ql yA xO;rw[List.getD_eq_getElem?_getD,List.getElem?_append_left (by simp;lia),List.getElem?_map,List.getElem?_range (by lia)];simp;lia
def z0r(h:k<⇑f):ql (yA n f ⇑f) ((n:3)+k)=[f.getD k []]:=by ext ql yA xO;rw[show((n:3)+k).toNat=n+k by lia,Ui,UI (),Zql,ZB,VG,Vv,Zv,Ui,Zqg h];rfl
def gc(F:Pf n f)(i:5):∀g∈yA n f i,⇑g<=1000/\∀r∈g,⇑r<=1000:=λg a=>by
 obtain z|z:=Jc.mp a;.let(-t,_,rfl):=Ja.mp z;simp
 .let(-r,b,rfl):=Ja.mp z;rw[((),λx c=>by rw[Jb.mp c,];let:=(F.cn.rows r<|List.mem_of_mem_take b).len;lia)]
def lh(F:Pf n f) {K:Kn}:∀(j i:5),i+j=⇑f->∀c h l o,∃t u v w,xC (Wu (.tup [06,07,08])<|WG m) (((jN n f).rows.drop i).map jK) (y7 bk nm pl a ((yA n f i).map jr) c h l o) [%[a|kD K]]=.ok (.next (y7 bk nm pl a ((yA n f ⇑f++[f]).map jr) t u v w) [%[a|kD K]]):=by
 let G:(jN n f).rows.length=⇑f+1:=Ho;let H:=F.len;let I:=F.n4;let step:∀(i:5)(r:Rw)(g:J1),i<=⇑f->(jN n f).rows[i]?=!r->(∀x:HP,QB m [bk,.str r.2.1,.lst ((r.2.2.map λp=>Q4 (ql (yA n f i) p.1) p.2).map jr),035,.adr a] [%[a|kD K]]=.ok %[jr g|[%[a|kD K]]])->∀c h l o,Wu (.tup [06,07,08]) (WG m) (jK r) (y7 bk nm pl a ((yA n f i).map jr) c h l o) [%[a|kD K]]=.ok (.next (y7 bk nm pl a ((yA n f i++[g]).map jr) (~~~.str r.1) (~~~.str r.2.1) (~~~jA r.2.2)<|~~~(.lst<|(r.2.2.map λp=>Q4 (ql (yA n f i) p.1) p.2).map jr)) [%[a|kD K]]):=λi r g y b A c h l o=>by let(!_,_,_,L,M):=Em F b;let N:=cJ (n:=n) y;rw[Pj () (gc F i) (),Pk (A []) (),Ud];rfl
 intro j;cases(j)with|zero=>
intro i y c h l o;obtain rfl:i=⇑f:=()
let b:(jN n f).rows[⇑f]?=! yZ n ⇑f:=by ext jN vu;rw[UI (by rw[Zql,ZB];rw[Zf _]),Zql,ZB,Nat.sub_self];rfl
let dr:(jN n f).rows.drop ⇑f=[yZ n ⇑f]:=by rw[Uq (),Jx.mpr ()];congr 1;rw[Zqg ()]at b;rw[Zqi b]
let eq:((yZ n ⇑f).2.2.map λp=>Q4 (ql (yA n f ⇑f) p.1) p.2)=f.map λr=>[r]:=by
 ext yZ;rw[Zw,];apply Va;intro j;rw[Zv,Zv];obtain z|z:=UO j ⇑f;.rw[VL z,Zqg z];show some (Q4 (ql (yA n f ⇑f)<|(n:3)+j) 0)=![f[j]];rw[z0r z,Ui,Zqg z];show some [QH f[j] 0]=![f[j]];ext QH;rw[(UJ λp b=>by rw[Int.add_zero,];rfl:f[j].map (λp=>%[p.1|p.2+0])=f[j].map id),List.map_id]
 .rw[UA (by rw[ZB,];rw[z]),UA z];rfl
let q:=step ⇑f _ f (Zf _) b λ_=>by rw[eq,];show QB m [bk,.str 034,_,_,_] _=_;rw[Ha,oa F.cn F.len];rfl c h l o
rw[dr,];rw[jS _ _ _ _<|D6 q]|succ j B=>
intro i y c h l o;let s:i<⇑f:=()
let b:(jN n f).rows[i]?=!(yY i<|f.getD i []):=by ext jN vu;rw[UV (by rw[Zql,ZB];rw[s]),Zv,VL s];rfl
let C:f.getD i []=f[i]:=by rw[Ui,Zqg];rfl
let J:=F.cn.rows f[i]<|Uv s;let dr:(jN n f).rows.drop i=yY i (f.getD i [])::(jN n f).rows.drop (i+1):=by rw[Uq (),];congr 1;rw[Zqg ()]at b;rw[Zqi b]
let eq:((yY i<|f.getD i []).2.2.map λp=>Q4 (ql (yA n f i) p.1) p.2)=f[i].map λp=>[[p]]:=by show(f.getD i _).map _=_;rw[C,];rw[UJ λp x=>?_];rw[lj (J.bnd p x).1 (F.th _ (Uv s) p x).1,];show[[%[p.1|0+p.2]]]=_;rw[Int.zero_add,]
let q:=step i _ _ () b λ_=>by rw[eq,];show QB m [bk,.str "all",_,_,_] _=_;rw[GZ,pW J];rfl c h l o
let E:yA n f i++[[f[i]]]=yA n f (i+1):=by ext yA;rw[List.take_add_one,Zqg,Ud,Uf];rfl
rw[E]at q;let(t,u,v,w,e):=B (i+1) () _ _ _ _;rw[jS t u v w ?_];rw[dr,];rw[(D6 q).trans e]
def pV(F:Pf n f):Wf [JJ [jN n f],.str "b1",035]=.ok (jr f):=by let B:=Rh F;rw[Ps (ys:=yA n f ⇑f) (K:=[]) λa=>?_];let(v6 v7 v8 v9,e):=lh F (m:=03) (bk:=JJ [jN n f]) (nm:=.str "b1") (pl:=JN<|jN n f) (a:=a) (K:=[]) ⇑f 0 (Vj _) 8 8 8 8;rw[Pp (n:=03) B (j:=0) 9 (v6:=v6) (v7:=v7) (v8:=v8) (v9:=v9) ?_];rw[mY,];let b:yA n f 0=xO n:=ZA _;rwa[b]at e
end
def qL(a:Yf):D:=.lst<|a.map .int
def Ri(B:BkP V c) (b:c[j]?=!p) (h:Wf [JJ c,039,035]=.ok (jr t)):Tf ⇑p.givens (wB V<|j+1) t/\∀a:Yf,⇑a=⇑p.givens->Kp 04 [JJ c,039,qL a]=.ok (.int<|JG t a):=by
 obtain z|⟨i,z1,z2,z3⟩:=Pt B b;.rw[h]at z;rw[nomatch z]
 .rw[h]at z1;obtain rfl:=Oa (Res.ok.inj z1);rw[(z2,λa l=>?_)];let f:=(B.at b).2.1;let e:=Re B 04 j p a b f l;let(m,g):=B.part b a;rw[g]at e;let e:=Rc e;rwa[B.rc b f,<-z3 a l]at e
def nJ:FS:=qj (JB<|ji xV (J7 (Kp 04)<|J2 (ja 05)<|J2 (dC<|.str "b1")<|J2 (jp Kf<|J2 (ja 07) jb) jb)<|J7 (Kp 04)<|J2 013<|J2 014<|J2 (jp Kf<|J2 (ja 07) jb) jb) (jy<|dC<|.bl 7) JM
def b8(F:Pf n f)(Y:⇑a=n)(H:∀a:Yf,⇑a=n->Kp 04 [bk,036,qL a]=.ok (.int<|JG f a)):Ai [bk,036,jr f,qL a]=.ok (.bl 6):=by
 let fl:=F.len;let n1:=F.n1;let n4:=F.n4;let Z:Ac [.str "b1",.int n,jr f]=.ok (JN<|jN n f):=me () ();let B:=Rh F;let N:=sM F;let o:=Pz N;let q:=bL N.txt;let s:=eS N (Rb N.txt).1 ();let t:=bA (ps:=[jN n f]) ();let h:=pV F;let R:∀a:Yf,⇑a=n->Kp 04 [JJ [jN n f],.str "b1",qL a]=.ok (.int<|JG f a):=λa l=>(Ri B (j:=0) (p:=jN n f) 9 h).2 a<|l.trans mY.symm;let P:=B.ok 0 _ 9;let A:plN 12 (.lst<|[jN n f].map XU)=6:=by
  let pg:((jN n f).givens.map D.str).all (plN 09)=6:=by rw[Uw,];intro y C;let(-g,E,rfl):=Ja.mp C;rw[KF (GC mZ.1 g<|(El F).mem<|Vd _ E).1.asc]
  let pr:=gV P () 04;show([D.str "b1",.lst ((jN n f).givens.map D.str),.lst ((jN n f).rows.map jK)].all (plN 10)&&6)=6;rw[Us,Us,Us,KF (ZX Ek).1.asc,pr,show plN 10 (.lst<|(jN n f).givens.map D.str)=6 from pg];rfl
 let nf:xV (.lst<|[jN n f].map XU) (.lst<|[jN n f].map XU)=! .bl 7:=by rw[AI A A,Wm];rfl
 let nF:xV (jr f) (jr f)=! .bl 7:=by rw[p7,];simp
 let S:JJ [jN n f]=.ins "Book" ["plans"] [.lst [JN (jN n f)]]:=9;let mb:∀l:YC,Xn [.lst l]=.ok [.lst l]:=λ_=>9;let T:jE [qL a]=! .int n:=by show some (D.int ⇑(a.map D.int))=_;rw[Zql,Y]
 let G:Kf [jr f]=! jr f:=9;let I:∀a,Kf [qL a]=! qL a:=λ_=>9;let rv:AV [qL a]=! qL a.reverse:=by show some (D.lst (a.map D.int).reverse)=_;rw[<-List.map_reverse];rfl
 let(-c,hfr):∃c:J0->List 3,∀r∈f,Y1 [jA r,jr f,.int n]=.ok (qL<|c r)/\⇑(c r)=n:=by
  let ex:∀r,∃k,r∈f->Y1 [jA r,jr f,.int n]=.ok (qL k)/\⇑k=n:=λr=>by
   cases u:r∈f;.let J:=F.cn.rows r u;let(-k,K,e):=bE (rs:=f) (n:=(n:3)) J.once (by let:=J.len;lia) () ();rw[(k,λb=>(e,by rw[K,Vu]))]
   .rw[([],λz=>Zn z u)]
  let(-g,E):=Classical.axiomOfChoice ex;rw[(g,E)]
 let L:jQ 031 (J7 Y1<|J2 013<|J2 014<|J2 (jp jE<|016) jb) [8,~~~jr f,~~~qL a] (f.map jA)=.ok (f.map λr=>qL<|c r):=Q9 λr u=>by let e:=(hfr r u).1;generalize jr f=v at*;generalize qL a=hd at*;generalize qL (c r)=kd at*;simp[T,e]
 let ga:j5 (.lst [qL a,qL a.reverse]) (.lst<|f.map λr=>qL<|c r)=!(.lst<|([a,a.reverse]++f.map c).map qL):=by show(if[qL a,qL a.reverse].length+⇑(f.map λr=>qL<|c r)<=00 then !(D.lst<|[qL a,qL a.reverse]++f.map λr=>qL<|c r)else 8)=_;rw[Zql,Zd (Q8<|by show 2+⇑f<=1000;lia),Ud,Zw];rfl
 let U:∀k ∈[a,a.reverse]++f.map c,⇑k=n:=018;let lz:=JT<|show ⇑f<=1000 from();generalize[a,a.reverse]++f.map c=m at*;let ef:XF (jr f)=! f.map jA:=9;let X:∀k∈m,Kp 04 [bk,036,qL k]=.ok (.int<|JG f k)/\Kp 04 [JJ [jN n f],.str "b1",qL k]=.ok (.int<|JG f k):=λk w=>(H k<|U k w,R k<|U k w);simp only[S]at o q s t h X;clear R P A N S B;generalize[jN n f].map XU=pT at*;generalize zC (jN n f)=tx at*;generalize JN (jN n f)=pd at*;generalize f.map (λr=>qL<|c r)=FD at*;let M:⇑(f.map jA)<00:=by rw[Zql,];rw[lz]
 generalize f.map jA=fds at*;generalize hfd:jr f=v at*;generalize qL a.reverse=u at*;generalize qL a=hd at*;let(-sd',e,(O,Q)):=Ko (tg:=.one 07) (b:=nJ) (ds:=m.map qL) (sd:=[~~~bk,~~~036,~~~v,~~~hd,!(.val<|.ins "Book" ["plans"] [.lst [pd]]),!(.val<|.ins "Book" ["plans"] [.lst [pd]]),~~~(.lst<|m.map qL),8]) (P:=λb sd=>∃O:02 SV,sd=[~~~bk,~~~036,~~~v,~~~hd,!(.val<|.ins "Book" ["plans"] [.lst [pd]]),!(.val<|.ins "Book" ["plans"] [.lst [pd]]),~~~(.lst<|m.map qL),O]) (8,9) (by rintro i y sd C ⟨O,rfl⟩;let(-k,w,rfl):=Kg C;let(a1,a2):=X k (Ug w);let gk:=I k;rw[([~~~bk,~~~036,~~~v,~~~hd,!(.val<|.ins "Book" ["plans"] [.lst [pd]]),!(.val<|.ins "Book" ["plans"] [.lst [pd]]),~~~(.lst<|m.map qL),~~~qL k],?_,_,9)];generalize m.map qL=td;generalize qL k=kd at*;ext nJ;simp[gk,a1,a2]);subst Q;generalize m.map qL=td at*;let gj:Eh=(jg (jv 04<|Wq "Book" ["plans"] Xn<|J2 (qy<|J2 (J7 Ac<|J2 (dC<|.str "b1")<|J2 (jp jE<|J2 033 jb)<|J2 (jp Kf<|016) jb) jb) jb)<|jg (qj (JB<|jO (qW 6)<|J7 Ab<|J2 (ja 04) jb) (jy<|dC<|.bl 7) JM)<|jg (jv 05<|J7 BC<|J2 (J7 BG<|J2 (ja 04) jb) jb)<|jg (qj (z7 (JB<|ji xV (J7 Y2<|J2 (ja 05) jb)<|J7 Y2<|J2 (ja 04) jb)<|JB<|ji xV (J7 Wf<|J2 (ja 05)<|J2 (dC<|.str "b1")<|J2 (dC<|035) jb)<|ja 2) (jy<|dC<|.bl 7) JM)<|jg (jv 06<|ji j5 (qy<|J2 033<|J2 (jp AV<|J2 033 jb) jb)<|Qc [8,!2,!03] (iS<|ja 2) 031<|J7 Y1<|J2 013<|J2 014<|J2 (jp jE<|016) jb)<|jg (jP (iS<|ja 06) (.one 07) nJ)<|jy<|dC<|.bl 6):=9;ext Ai;rw[gj,];generalize nJ=b at*;simp[T,G,Z,mb,o,q,s,t,nf,h,nF,rv,ef,L,M,ga,e,qW,LU]
def sZ:FS:=jg (jv 04<|J7 Y0<|J2 014<|J2 (jO (j0 "Plan" "name")<|033) jb)<|qj (KJ (JB<|jO (qW 6)<|ja 04)<|QP<|JB<|J7 Ai<|J2 014<|J2 (jO (j0 "Plan" "name")<|033)<|J2 (ja 04)<|016) (jy<|dC<|.bl 7) JM
def va(c:Yf)(h:⇑c<=63):uI [.scr c]=.ok (.bl 6):=by
 let(a g,O,T,Q,E,F):=bB h;let B:=T.bk;let(p0,i0):∃p,a[0]?=!p:=(a[0],());let v:=bF c (s:=83) (n:=(g:3)) () () () ();let(f,ehs):∃f,f=Bj c 83 (g:3).toNat:=(_,9);let G:⇑f=g:=by rw[ehs,Vu];ext Bj;rw[Zql,ZB]
 rw[<-ehs]at v;let v:Ak [.scr c,.int 83,.int g]=.ok (qL f):=v;let R:j0 "Book" "plans" (JJ a)=!(.lst<|a.map JN):=9;let S:qO (a.map JN) 0=! JN p0:=by let:=XS (l:=a.map JN) (k:=0) (by rw[Zql,];lia);rw[Zv,i0]at this;rw[this]
 let U:j0 "Plan" "givens" (JN p0)=!(.lst<|p0.givens.map .str):=9;let X:jE [.lst (p0.givens.map D.str)]=! .int (g:5):=by rw[Fy,Zql,(T.nm 0 _ i0).2]
 let one:∀(i:5)(p:Pl),a[i]?=!p->Y0 [JJ a,039]=.ok .non\/∃d,Y0 [JJ a,039]=.ok d/\qW 6 d=! .bl 6/\Ai [JJ a,039,d,qL f]=.ok (.bl 6):=λi p m=>by
  obtain z|⟨t,z1,_,_⟩:=Pt B m;.rw[.inl<|by simp_all[KU,Y0,B0]]
  .let Y:i<03:=by let:=(Jd.mp m).1;lia
   let(j,u):=Ri B m z1;rw[(T.nm i p m).2]at j u;let w:=Hc (V:=100000000000000000000)<|show i+1<=03 from();let Z:wB 100000000000000000000 03=14060800000000000000000000:=002;rw[.inr (jr t,by simp[Y0,B0,z1],9,b8 (j.cn,j.len,λr H q I=>by let:=j.th r H q I;lia,E,F) G u)]
 let gj:Ej=(jg (jv 1<|J7 Bt<|037)<|jg (jv 2<|J7 Ak<|J2 013<|J2 (dC<|.int 83)<|J2 (jp jE<|J2 (jO (j0 "Plan" "givens")<|ji jY (jO (j0 _ _) _)<|dC _) _) _)<|jg (jP (iS<|jO (j0 _ _) _) _ sZ)<|jy<|dC<|.bl _):=9;let(-J,e,(x,A,L)):=Ko (tg:=.one 03) (b:=sZ) (ds:=a.map JN) (sd:=[~~~.scr c,~~~JJ a,~~~qL f,8,8]) (P:=λb sd=>∃x A:02 _,sd=[~~~.scr _,~~~JJ _,~~~qL _,x,A]) (_,_,9) (by
rintro i y sd M ⟨x,A,rfl⟩;let(-p,N,rfl):=Kg M;let C:j0 "Plan" "name" (JN p)=! .str _:=9;let o:=one i p N;generalize JN p=pd at*;generalize JJ _=bk at*;generalize qL _=hd at*;ext sZ;obtain z|⟨d,z1,j,u⟩:=o
.rw[([~~~.scr _,~~~_,~~~_,~~~pd,~~~.non],by simp[C,z,qW],_,_,9)]
.rw[([~~~.scr _,~~~_,~~~_,~~~pd,~~~d],by simp[C,z1,j,u],_,_,9)]);simp_all[uI]
end My
set_option maxHeartbeats 4000000
namespace My
open PySem L2 L2.DL
noncomputable def wT(i:5):Stmt:=PySem.Challenge.pw_allfirst_k67_whole_form_to_text_and_back.main.body.getD i<|.Pass (0,0,0,0)
noncomputable abbrev tbl:List (Str×5):=List.zip (List.map Str.ofString ["_law_cell_at","_law_mixed","_law_near_wait","_law_made_rows","_law_turns","_law_pool","_law_book","fits_in","is_covered","joined","each_joined","lowest","form_within","all_of","first_of","shifted","waited","put_into_row","put_into","made_form","plan_by","thing_form","forms_knowing","forms_of","told_form","_law_form","_law_far","_law_fields","is_name","are_names","look_at_names","is_part","look_at_parts","look_at_items","look_at_plans","weights","look_at_weights","looked","planned","name_behind","are_figures","item_of","with_items","made_thing","takes_thing","takes_row","drafts_of","numbered","numbers_of","plan_of","read","item_text","made_row","plan_rows","shown","told_hour","made_hour","hours_of","_law_good","_law_wait","_law_hours"]) [73,74,77,81,75,80,82,11,15,12,23,14,24,20,19,13,18,22,21,34,28,17,33,30,31,83,79,84,39,42,41,48,45,44,43,47,46,40,32,55,59,58,57,56,54,53,52,62,61,60,51,71,70,69,68,65,66,64,85,76,78]
noncomputable abbrev bl:Yi:=List.map Str.ofString ["abs","all","dict","enumerate","int","len","list","max","min","range","reversed","set","sorted","str","sum","tuple"]
structure All(e:Ev):4 extends Al e wT tbl bl where
x_TooMany:Exc e.K e.mg "TooMany" (e.C 0)w_FIGURES:e.mg "FIGURES"=!(.str "0123456789"<|e.t 0)y_KEPT_WORDS:KTup e.K e.mg "KEPT_WORDS" ["plan","given","all",034,"part"]w_LETTERS:e.mg "LETTERS"=!(.str "abcdefghijklmnopqrstuvwxyz"<|e.t 1)k_Book:ClsD e.K e.mg "Book" (e.C 1) ["plans"]l_Book:∃f fd,Mk e.K (e.C 1) f/\Fun e.K "__init__" "Book.__init__" (YM (wT 27) 0) f fd
k_Draft:ClsD e.K e.mg "Draft" (e.C 2) 008
l_Draft:∃f fd,Mk e.K (e.C 2) f/\Fun e.K "__init__" "Draft.__init__" (YM (wT 50) 0) f fd
k_Plan:ClsD e.K e.mg "Plan" (e.C 03) 008
l_Plan:∃f fd,Mk e.K (e.C 03) f/\Fun e.K "__init__" "Plan.__init__" (YM (wT 26) 0) f fd
def Hq(a:All e):db e.P e.w e.K e.mg e.base "Book" ["plans"] 1 ["self","plans"] Xn:=by let(f,h,c,b):=a.l_Book;let m:=a.m;let k:=a.k_Book;rw[(_,_,_,k,c,bu (k:=0) (N:=["plans"]) (g:=J2 (jp Kf<|J2 014 jb) jb) b (JH (N:=["self","plans"])) 004 004 λd d d d d d i=>CP k 004 (pv 0) (jm<|Wj (x:="list") XD 9 029 WL<|J3 024 J5) Nv,b.binds λb b b b b b=>nq 009)]
def aw(a:All e):cj e.P e.w e.K e.mg e.base "Draft" 008 1 ["self","name"] GR:=by let(f,h,c,b):=a.l_Draft;let m:=a.m;let k:=a.k_Draft;rw[(_,_,_,k,c,uY (k:=0) (N:=["self","name"]) (g:=Bn) b (JH (N:=["self","name"])) λd d d d d d i=>by ext Bn;rw[K0 (Gz k 004 (QF<|025)<|QF<|024)<|K0 (Gz k 004 (QF<|025)<|Gu ZO)<|K0 (Gz k 004 (QF<|025)<|Gu ZO) Be],b.binds λb b b b b b=>nq 009)]
def Hr(a:All e):db e.P e.w e.K e.mg e.base "Plan" 008 1 ["self","name","givens","rows"] Xo:=by let(f,h,c,b):=a.l_Plan;let m:=a.m;let k:=a.k_Plan;rw[(_,_,_,k,c,bu (k:=0) (N:=008) (g:=J2 014<|J2 (jp Kf<|016)<|J2 (jp Kf<|J2 033 jb) jb) b (JH (N:=["self","name","givens","rows"])) 004 004 λd d d d d d i=>CP k 004 (pv 0) 024<|CP k 004 (pv 0) (jm<|Wj (x:="list") XD 9 029 WL<|032)<|CP k 004 (pv 0) (jm<|Wj (x:="list") XD 9 029 WL<|J3 (qv 03) J5) Nv,b.binds λb b b b b b=>rK λb b b b=>9)]
def Rj(a:All e):Ca e "_law_cell_at" 1 ["script","k"] (q0 e.K Xp):=qp a.toAl 0 73 λF=>jV (N:=["script","k"]) (g:=Bo) F JH λd d d d d d b=>by let m:=a.m;ext Bo;rw[JA (Qb (Qn uT 024 (JZ (x:="len") Qs 9 029 Qp<|J3 025 J5)<|Qj _) (J8<|JO<|Qh (JW b) 025 024 009<|009) Qa)<|J8<|JO J9]
def Hs(a:All e):Ca e "_law_mixed" 1 ["cell","salt"] (q0 e.K We):=qp a.toAl 1 74 λF=>jV (N:=["cell","salt","mixed"]) (g:=Ds) F JH λd d d d d d b=>by ext Ds;rw[JA (JU jt 9 006<|ju QR (ju YY (ju Qg (ju QR 025 J9)<|024) J9) J9)<|J8<|JO<|ju QR (ju YY (qv 2)<|qv 2) J9]
def cR(a:All e):Ca e "_law_near_wait" 2 ["cell","salt"] (q0 e.K XX):=qp a.toAl 2 77 λF=>jV (N:=["cell","salt","mixed","size"]) (g:=ZY) F JH λd d d d d d b=>by ext ZY;rw[JA (JU jt 9 006<|jC ((Hs a).mono ()) b 9<|J3 025<|J3 024 J5)<|JA (Qb (Qn we (ju QR (qv 2) J9) J9<|Qj _) (J8<|JO<|ju Cw (ju QR (ju KM (qv 2) J9) J9) J9) Qa)<|JA (JU jt 9 006<|ju QR (ju YY (ju KM 025 J9)<|ju Qg 024 J9)<|ju Fa J9 J9)<|JA (Qb (Qn (xp b.units) (ju QR (ju KM (qv 2) J9) J9) J9<|Qj _) (J8<|JO<|qv 03) Qa)<|J8<|JO<|zr WW<|qv 03]
def pz(a:All e):Ca e "_law_made_rows" 03 ["pool","at","given","parts"] (yQ e.K Bp):=qp a.toAl 03 81 λF=>x8 (N:=["pool","at","given","parts","rows","k","spot","cell","mixed","how","count","items","j","thing"]) (g:=Dt) F JH λd d d d d d c=>by let m:=a.m;let b:=(Hs a).mono (k:=2) ();ext Dt;rw[JA (Kq jt 9 006<|Km J5)<|JA (Qo PassesOwn.never 9 (Ux 9 029<|J3 (ju Qg J9<|ju QR (jC b c 9<|J3 (Qh (JW c) 025 (ju QR 024<|JZ (x:="len") Qs 9 029 Qp<|J3 025 J5) 009<|009)<|J3 (ju Qg J9<|024) J5) J9) J5) (JY<|010)<|JA (JU jt 9 006<|ju QR (ju Qg (ju Qg 024<|ju YY J9<|qv 05) J9)<|JZ (x:="len") Qs 9 029 Qp<|J3 025 J5)<|JA (JU jt 9 006<|ju Qg (ju Qg (ju KM (Qh (JW c) 025 (qv 06) 009<|009)<|ju Qg (qv 05) J9)<|ju YY J9<|qv 05)<|024)<|JA (JU jt 9 006<|jC b c 9<|J3 (qv 07)<|J3 J9 J5)<|JA (JU jt 9 006<|Qh (JW c) (jm<|Km<|J3 Qf<|J3 Qf J5) (ju QR (qv 08) J9) 009<|009)<|JA (JU jt 9 006<|ju Qg J9<|ju QR (ju KM (qv 08) J9) J9)<|JA (Qb (xi<|WT (Qn (zE c.units) (qv 03) (jm<|Km J5)<|Qj _)<|X7<|Qn (xp c.units) (ju QR (ju KM (qv 08) J9) J9) J9<|Qj _) (JA (JU jt 9 006<|Qh (JW c) (qv 03) (ju QR (ju KM (qv 08) J9)<|JZ (x:="len") Qs 9 029 Qp<|J3 (qv 03) J5) 009<|009)<|J8<|JU jt 9 006<|qv 2) Qa)<|JA (Kq jt 9 006<|Km J5)<|JA (Qo PassesOwn.never 9 (Ux 9 029<|J3 (qv 10) J5) (JY<|010)<|JA (JU jt 9 006<|ju QR (jC b c 9<|J3 (qv 07)<|J3 (ju Qg J9<|qv 12) J5)<|ju Qg (qv 2)<|qv 05)<|J8<|WV (pv 11) (Ka<|J3 (qv 13)<|J3 (jC ((cR a).mono ()) c 9<|J3 (ju KM (qv 07)<|ju Qg (qv 12) J9)<|J3 (ju Qg J9<|qv 12) J5) J5)<|λf h=>Q7 Yv Yw Yx KH f h)<|J8<|WU [11]<|WV (pv 04) (Ka<|J3 (ju Qg Qf<|Wi (x:="str") CN 9 029 BX<|J3 (qv 05) J5)<|J3 (qv 09)<|J3 (Wi (x:="tuple") AL 9 029 A3<|J3 (qv 11) J5) J5)<|λf h=>Q7 Yv Yw Yx KH f h)<|J8<|X8<|pv 04]
def p6(a:All e):Ca e "_law_turns" 1 ["script","start","most"] (yQ e.K Dv):=qp a.toAl 04 75 λF=>x8 (N:=["script","start","most","many"]) (g:=Du) F JH λd d d d d d b=>by let m:=a.m;ext Du;rw[JA (JU jt 9 006<|JZ (x:="min") (pH 9) 9 029 IB<|J3 (qv 2)<|J3 (JZ (x:="max") (Fl 9) 9 029 BW<|J3 J9<|J3 (ju Cw (JZ (x:="len") Qs 9 029 Qp<|J3 025 J5)<|024) J5) J5)<|J8<|KZ<|Q5 ["k","script","start","most"] [8,!0,!1,!2] 9 9 (Ux 9 029<|J3 (qv 03) J5) 012<|λb b b b b=>JZ (x:="sum") (Mh 9) 9 029 IC<|J3 (jm<|AR 024 (XH<|ju Qg (qv 2)<|025) Wp<|XH<|qv 03) J5]
def cI(a:All e):Ca e "_law_pool" 2 ["script","start"] (q0 e.K Br):=qp a.toAl 05 80 λF=>jV (N:=["script","start","pool"]) (g:=Bq) F JH λd d d d d d b=>by let m:=a.m;ext Bq;rw[JA (JU jt 9 006<|jm<|KL ((p6 a).mono ()) b 9<|J3 025<|J3 024<|J3 J9 J5)<|JA (Qb (Qn (xp b.units) (qv 2) (jm<|Km J5)<|Qj _) (J8<|JO<|jm<|Km<|J3 (JZ (x:="len") Qs 9 029 Qp<|J3 025 J5) J5) Qa)<|J8<|JO<|qv 2]
def z0q(a:All e):Ca e "_law_book" 04 ["script"] (yQ e.K Bt):=qp a.toAl 06 82 λF=>x8 (N:=["script","pool","given","names","plans","at","ahead"]) (g:=Dw) F JH λd d d d d d i=>by let m:=a.m;let f:=(pz a).mono (k:=03) ();let h:=(cI a).mono (k:=03) ();let b:=Hq a;let c:=Hr a;ext Dw;rw[JA (JU jt 9 006<|jC h i 9<|J3 025<|J3 J9 J5)<|JA (JU jt 9 006<|ju Qg J9<|ju QR (jC ((Rj a).mono ()) i 9<|J3 025<|J3 J9 J5) J9)<|JA (Fw ["k"] [8] jt 9 006 9 9 (Ux 9 029<|032) 012<|λb b b b b=>ju Qg Qf<|Wi (x:="str") CN 9 029 BX<|J3 025 J5)<|JA (Kq jt 9 006<|Km J5)<|JA (Qo PassesOwn.never 9 (Ux 9 029<|J3 J9 J5) (JY<|010)<|JA (Fw ["k"] [8] jt 9 006 9 9 (Ux 9 029<|J3 (qv 05) J5) 012<|λb b b b b=>ju Qg Qf<|Wi (x:="str") CN 9 029 BX<|J3 025 J5)<|J8<|WV (pv 04) (jm<|ZK c (i.mono ()) 9<|J3 (ju Qg Qf<|Wi (x:="str") CN 9 029 BX<|J3 (qv 05) J5)<|J3 (qv 03)<|J3 (jm<|KL f i 9<|J3 024<|J3 (qv 05)<|J3 (qv 2)<|J3 (qv 06) J5) J5)<|λj l=>Q7 Yv Yw Yx KH j l)<|J8<|WU [04]<|KZ<|ZK b (i.mono ()) 9<|J3 (qv 04) J5]
def f7(a:All e):Ca e "fits_in" 1 ["row","waits"] (q0 e.K ky):=qp a.toAl 07 11 λF=>jV (N:=["row","waits","thing","wait"]) (g:=ku) F JH λd d d d d d b=>by ext ku;rw[JA (Qo PassesOwn.never 9 (JS<|025) (Q2 [2,03]<|Qz 9<|JK 010<|JK 010 Qy)<|J8<|Qb (xi<|YU (Fj b.units (qv 2)<|024)<|Co<|Qn we (qv 03) (Qh (JW b) 024 (qv 2) 009<|009)<|Qj _) (J8<|JO Ku) Qa)<|J8<|JO Ku]
def Rk(a:All e):Ca e "is_covered" 2 ["row","kept"] (q0 e.K xG):=qp a.toAl 08 15 λF=>jV (N:=["row","kept","waits","other"]) (g:=uq) F JH λd d d d d d b=>by let m:=a.m;ext uq;rw[JA (JU jt 9 006<|jm<|Wj (x:="dict") (Fo 9) 9 029 EE<|J3 025 J5)<|JA (Qo PassesOwn.never 9 (JS<|024) (JY<|010)<|J8<|Qb (Kd<|jC ((f7 a).mono ()) b 9<|J3 (qv 03)<|032) (J8<|JO Ku) Qa)<|J8<|JO Ku]
def f6(a:All e):Ca e "joined" 1 ["row","other"] (q0 e.K wA):=qp a.toAl 09 12 λF=>jV (N:=["row","other","waits","thing","wait"]) (g:=uu) F JH λd d d d d d b=>by let m:=a.m;ext uu;rw[JA (Kq jt 9 006<|Wj (x:="dict") (Fo 9) 9 029 EE<|J3 025 J5)<|JA (Qo PassesOwn.never 9 (JS<|024) (Q2 [03,04]<|Qz 9<|JK 010<|JK 010 Qy)<|J8<|Fp (JW b) (pv 2) (qv 03)<|JZ (x:="max") (Fl 9) 9 029 BW<|J3 (qv 04)<|J3 (YV [2]<|LM (JW b) (qv 2) (qv 03) (qv 04) (9,9,9,9)) J5)<|J8<|WU [2]<|JO<|Wi (x:="tuple") AL 9 029 A3<|J3 (zlc (λh=>Av (TU 9) 9 029 ED<|Kz (Ic PySem.F.plainAttrs_dict PySem.F.slot_dict_items PySem.F.type_dict_items Ls h) K3)<|qv 2) J5]
def z0E(a:All e):Ca e "each_joined" 03 ["form","other"] (yQ e.K Bu):=qp a.toAl 10 23 λF=>x8 (N:=["form","other","rows","rest","row"]) (g:=Dx) F JH λd d d d d d c=>by let m:=a.m;let b:=(Rk a).mono (k:=2) ();ext Dx;rw[JA (Kq jt 9 006<|L0 Nr (jm<|LQ ["row","other"] [8,!1] 9 9 (JS<|025) 012 (λd d d d d=>Kd<|jC b c 9<|J3 025<|J3 024 J5)<|λb b b b b=>025)<|jm<|LQ ["row","form"] [8,!0] 9 9 (JS<|024) 012 (λd d d d d=>Kd<|jC b c 9<|J3 025<|J3 024 J5)<|λb b b b b=>025)<|JA (zjC ["row","form"] [8,!0] jt 9 006 9 9 (JS<|024) 012 (λd d d d d=>K4<|Kd<|jC b c 9<|J3 025<|J3 024 J5)<|λb b b b b=>025)<|JA (Qo PassesOwn.never 9 (JS<|025) (JY<|JR jt 9<|.inr 9)<|J8<|Qb (K4<|Kd<|jC b c 9<|J3 (qv 04)<|J3 024 J5) (J8<|L4 (pv 2) (Q5 ["other_row","row"] [8,!04] 9 9 (JS<|qv 03) 012<|λb b b b b=>jC ((f6 a).mono ()) c 9<|J3 024<|J3 025 J5)<|λf h=>Q7 Yv PySem.F.slot_list_extend PySem.F.type_list_extend Ig f h) Qa)<|J8<|X8<|pv 2]
def fz(a:All e):Ca e "lowest" 03 ["rows","enough"] (yQ e.K uw):=qp a.toAl 11 14 λF=>x8 (N:=["rows","enough","kept","row"]) (g:=ur) F JH λd d d d d d b=>by let m:=a.m;ext ur;rw[JA (Kq jt 9 006<|Km J5)<|JA (Qo PassesOwn.never 9 (JS<|jm<|o7 (λh=>L2.ST.pe_sortLen 9 029 9 029 h)<|J3 (jm<|ir (λh=>Av (L2.ST.call_sortedSet 9 b.units) 9 029 ED<|Kz (YL (L2.ST.call_setRows 9 b.units) 9 029 L2.bt_set h) K3)<|J3 025 J5) J5) (JY<|010)<|JA (Qb (Qn (xp b.units) (YV [2]<|JZ (x:="len") Qs 9 029 Qp<|032) 024<|Qj _) (J8 eU) Qa)<|J8<|Qb (K4<|Kd<|YV [2]<|jC ((Rk a).mono ()) b 9<|J3 (qv 03)<|032) (J8<|WV (pv 2) (qv 03)<|λc f=>Q7 Yv Yw Yx KH c f) Qa)<|J8<|X8<|pv 2]
def Rl(a:All e):zS e "form_within" 04 ["rows","most"] (yL e.K Kb):=yE a.toAl 12 24 λF=>Gb (N:=["rows","most","kept"]) (g:=Bv) F JH λd d d d d d c=>by let m:=a.m;let b:=a.x_TooMany;ext Bv;rw[JA (JU jt 9 006<|jm<|AY ((fz a).mono ()) c 9<|J3 025<|J3 (ju Qg 024 J9) J5)<|JA (Qb (Qn we (JZ (x:="len") Qs 9 029 Qp<|032) 024<|Qj _) (J8<|eT zmZ b 9 9<|Gd 004<|024) Qa)<|J8<|KZ<|aS (x:="sorted") (o3 c.units) 9 029 ED<|032]
def Rm(a:All e):zS e "all_of" 05 ["forms","most"] (xS e.K yg):=yE a.toAl 13 20 λF=>CL (N:=["forms","most","told","form"]) (g:=vm) F JH λd d d d d d c=>by let b:=(Rl a).mono (k:=04) ();ext vm;rw[JA (JU jt 9 006<|jm<|ZI b K7 c 9<|J3 (Qh (JW c) 025 J9 009<|009)<|J3 024 J5)<|JA (Qo Ge 9 (JS<|jm<|AR 025 (XH J9) Wp Wp) (JY<|010)<|J8<|JU jt 9 006<|jm<|ZI b K7 c 9<|J3 (jm<|AY ((z0E a).mono ()) c 9<|J3 (qv 2)<|J3 (qv 03) J5)<|J3 024 J5)<|J8<|JO<|qv 2]
def Rn(a:All e):zS e "first_of" 05 ["forms","most"] (yL e.K yy):=yE a.toAl 14 19 λF=>Gb (N:=["forms","most","told","form"]) (g:=vn) F JH λd d d d d d c=>by let b:=(Rl a).mono (k:=04) ();ext vn;rw[JA (Kq jt 9 006<|ZI b K7 c 9<|J3 (Qh (JW c) 025 J9 009<|009)<|J3 024 J5)<|JA (Qo Ge 9 (JS<|jm<|AR 025 (XH J9) Wp Wp) (JY<|010)<|J8<|WU [2]<|Kq jt 9 006<|ZI b K7 c 9<|J3 (ju Qg (qv 2)<|qv 03)<|J3 024 J5)<|J8<|X8<|pv 2]
def f5(a:All e):Ca e "shifted" 1 ["row","wait"] (q0 e.K vo):=qp a.toAl 15 13 λF=>jV (N:=["row","wait"]) (g:=ut) F JH λd d d d d d b=>by let m:=a.m;ext ut;rw[J8<|JO<|Wi (x:="tuple") AL 9 029 A3<|J3 (jm<|Q5 ["thing","own","wait"] [8,8,!1] 9 9 (JS<|025) (λb b b b b=>Q2 [0,1]<|Qz 9<|JK (qz 0 jt)<|JK (qz 1 jt) Qy)<|λb b b b b=>Ka<|J3 025<|J3 (ju Qg 024<|qv 2) J5) J5]
def Ro(a:All e):Ca e "waited" 2 ["form","wait"] (yQ e.K zB):=qp a.toAl 16 18 λF=>x8 (N:=["form","wait"]) (g:=uj) F JH λd d d d d d b=>by ext uj;rw[J8<|KZ<|Q5 ["row","wait"] [8,!1] 9 9 (JS<|025) 012<|λd d d d d=>jC ((f5 a).mono ()) b 9<|J3 025<|J3 024 J5]
def z08(a:All e):zS e "put_into_row" 06 ["row","forms","most"] (xS e.K K2):=yE a.toAl 17 22 λF=>CL (N:=["row","forms","most"]) (g:=D0) F JH λd d d d d d c=>by let b:=(Ro a).mono (k:=05) ();ext D0;rw[J8<|JO<|AX ((Rm a).mono ()) K7 c 9<|J3 (jm<|Q5 ["thing","wait","forms"] [8,8,!1] 9 9 (JS<|025) (λb b b b b=>Q2 [0,1]<|Qz 9<|JK (qz 0 jt)<|JK (qz 1 jt) Qy)<|λd d d d d=>jm<|AY b c 9<|J3 (Qh (JW c) (qv 2) 025 009<|009)<|J3 024 J5)<|032]
def fw(a:All e):zS e "put_into" 07 ["form","forms","most"] (yL e.K yf):=yE a.toAl 18 21 λF=>Gb (N:=["form","forms","most"]) (g:=w6) F JH λd d d d d d c=>by let b:=(z08 a).mono (k:=06) ();ext w6;rw[J8<|KZ<|ZI ((Rn a).mono ()) K7 c 9<|J3 (jm<|ae ["row","forms","most"] [8,!1,!2] 9 9 (JS<|025) 012<|λd d d d d f=>AX b (zkw 9 9 9 zkO f) c 9<|J3 025<|J3 024<|032)<|032]
def Rp(a:All e):Ca e "plan_by" 1 ["book","name"] (q0 e.K Bw):=qp a.toAl 20 28 λF=>jV (N:=["book","name","plan"]) (g:=D3) F JH λd d d d d d f=>by let b:=a.k_Book;let c:=a.k_Plan;ext D3;rw[JA (Qo PassesOwn.never 9 (JS<|JV b 004<|025) (JY<|010)<|J8<|Qb (Qn (xp f.units) (JV c 004<|qv 2) 024<|Qj _) (J8<|JO<|qv 2) Qa)<|J8 KC]
def fy(a:All e):Ca e "thing_form" 1 ["thing"] (yQ e.K uv):=qp a.toAl 21 17 λF=>x8 (N:=["thing"]) (g:=kt) F JH λd d d d d d b=>by ext kt;rw[J8<|KZ<|Km<|J3 (Ka<|J3 (Ka<|J3 025<|J3 J9 J5) J5) J5]
def Rq(a:All e)(c:zS e "forms_knowing" (07+k) ["book","name","most","known"] (KD e.K<|Kh j)):zS e "made_form" (07+k+1) ["book","how","forms","most","known"] (KD e.K<|QB j):=yE a.toAl 19 34 λF=>NH (N:=["book","how","forms","most","known"]) (g:=WE<|Kh j) F JH λd d d d d d b=>by let f:=(Rm a).mono (k:=07+k) ();let h:=(Rn a).mono (k:=07+k) ();let i:=(fw a).mono (k:=07+k) ();ext WE;rw[NF (NJ<|Qn (xp b.units) 024 Qf<|Qj _) (CT<|ZN<|AX f K7 b 9<|J3 (qv 2)<|J3 (qv 03) J5)<|NF (NJ<|Qn (xp b.units) 024 Qf<|Qj _) (CT<|ZN<|jm<|ZI h K7 b 9<|J3 (qv 2)<|J3 (qv 03) J5)<|CU (m:=8) (gR (cu [04]<|Fj b.units 024<|qv 04) (ND<|lN (JW b) (qv 04) 024<|pY fP (NI c K7 b 9<|J3 025<|J3 024<|J3 (qv 03)<|J3 (qv 04) J5) (ZN<|zr WW J9)<|009) z0a)<|CT<|lb (zp.d i) K7 b 9<|Gp (z0i (JW b) (qv 04) 024<|009)<|Gp (ZN<|qv 2)<|Gp (ZN<|qv 03) aX]
def lG(a:All e)(c:zS e "made_form" (07+k) ["book","how","forms","most","known"] (KD e.K<|QB j)):zS e "forms_knowing" (07+k+1) ["book","name","most","known"] (KD e.K<|Kh<|j+1):=yE a.toAl 22 33 λF=>NH (N:=["book","name","most","known","plan","told","made","how","items","forms"]) (g:=D4<|QB j) F JH λd d d d d d h=>by let m:=a.m;let f:=(Rp a).mono (k:=07+k) ();let i:=(fy a).mono (k:=07+k) ();let l:=(Ro a).mono (k:=07+k) ();let b:=a.k_Plan;ext D4;rw[CU (m:=8) (Gn<|JU jt 9 006<|gQ f h 9<|J3 025<|J3 024 J5)<|CU (m:=8) (Gn<|Kq jt 9 (.inr 9)<|Q5 ["thing"] [8] 9 9 (Ux 9 029<|J3 (JZ (x:="len") Qs 9 029 Qp<|J3 (JV b 004<|qv 04) J5) J5) 012<|λb b b b b=>jm<|AY i h 9<|J3 025 J5)<|CU (m:=8) (cD Ge 9 (JS<|JV b 004<|qv 04) (Q2 [06,07,08]<|Qz 9<|JK 010<|JK 010<|JK 010 Qy)<|lI (Gn<|zkx ["thing","wait","told"] [8,8,!05] 2 jt 9 006 9 9 (JS<|qv 08) (λb b b b b=>Q2 [0,1]<|Qz 9<|JK (qz 0 jt)<|JK (qz 1 jt) Qy)<|λb b b b b=>jm<|AY l h 9<|J3 (pS (JW h) (pv 2) 025 009<|009)<|J3 024 J5)<|ND<|ls (pv 05) (NI c K7 h 9<|J3 025<|J3 (qv 07)<|J3 (qv 09)<|J3 (qv 2)<|J3 (qv 03) J5)<|λn o=>Q7 Yv Yw Yx KH n o)<|cG<|CT<|ZN<|qv 05]
theorem Rr(a:All e):∀j,zS e "forms_knowing" (07+2*j) ["book","name","most","known"] (KD e.K<|Kh j)|0=>yE a.toAl 22 33 λb=>cH|j+1=>lG (k:=2*j+1) a (Rq (k:=2*j+0) a<|Rr a j)
def Rs(a:All e):zS e "forms_knowing" 15 ["book","name","most","known"] (KD e.K<|Kh 04):=Rr a 04
def sO(a:All e):zS e "made_form" 16 ["book","how","forms","most","known"] (KD e.K<|QB 04):=Rq (k:=08) a<|Rs a
def p3(a:All e):zS e "forms_of" 16 ["book","name","most"] (xS e.K D9):=yE a.toAl 23 30 λF=>CL (N:=["book","name","most"]) (g:=D8) F JH λd d d d d d b=>by ext D8;rw[J8<|JO<|gP ((Rs a).mono ()) K7 b 9<|Gr 025<|Gr 024<|Gr (qv 2)<|eQ (d0:=.dct [] []) C5]
def Rt(a:All e):zS e "told_form" 17 ["book","name","most"] (xS e.K Wf):=yE a.toAl 24 31 λF=>CL (N:=["book","name","most"]) (g:=Bz) F JH λd d d d d d b=>by ext Bz;rw[J8<|JO<|Qh (JW b) (AX ((p3 a).mono ()) K7 b 9<|J3 025<|J3 024<|032) (zr WW J9) 009<|009]
def cy(a:All e):Ca e "_law_form" 18 ["book","name"] (q0 e.K Y0):=qp a.toAl 25 83 λF=>jV (N:=["book","name","found"]) (g:=B0) F JH λd d d d d d c=>by let b:=a.x_TooMany;ext B0;rw[JA (JU jt 9 006 WS)<|JA (cC 9 9 jt 9 006 ((Rt a).mono ()) c 9 (J3 025<|J3 024<|J3 J9 J5) b 9<|λb=>J8<|JU jt 9 006 WS)<|J8<|JO<|qv 2]
def z0W(a:All e):Ca e "_law_far" 1 ["row","rows","things"] (yQ e.K Y1):=qp a.toAl 26 79 λF=>x8 (N:=["row","rows","things","hours","waits","thing","late","other","also","wait"]) (g:=Hd) F JH λd d d d d d b=>by let m:=a.m;ext Hd;rw[JA (Kq jt 9 006<|Km J5)<|JA (JU jt 9 006<|jm<|Wj (x:="dict") (Fo 9) 9 029 EE<|J3 025 J5)<|JA (Qo PassesOwn.never 9 (Ux 9 029<|032) (JY<|010)<|JA (JU jt 9 006 J9)<|JA (Qo PassesOwn.never 9 (JS<|024) (JY<|010)<|J8<|Qo PassesOwn.never 9 (JS<|qv 07) (Q2 [08,09]<|Qz 9<|JK 010<|JK 010 Qy)<|J8<|Qb (Qn (xp b.units) (qv 08) (qv 05)<|Qj _) (J8<|JU jt 9 006<|JZ (x:="max") (Fl 9) 9 029 BW<|J3 (qv 06)<|J3 (ju Cw J9<|qv 09) J5) Qa)<|J8<|WV (pv 03) (zr WW<|LM (JW b) (qv 04) (qv 05) (zr WW<|qv 06) (9,9,9,9))<|λc f=>Q7 Yv Yw Yx KH c f)<|J8<|X8<|pv 03]
def z1b(a:All e):Ca e "_law_fields" 1 ["book"] (yQ e.K Y2):=qp a.toAl 27 84 λF=>x8 (N:=["book"]) (g:=DA) F JH λd d d d d d f=>by let c:=a.k_Book;let b:=a.k_Plan;ext DA;rw[J8<|KZ<|Q5 ["plan"] [8] 9 9 (JS<|JV c 004<|025) 012<|λd d d d d=>Ka<|J3 (JV b 004<|025)<|J3 (JV b 004<|025)<|J3 (JV b 004<|025) J5]
def En(a:All e):Ca e "is_name" 1 ["text"] (q0 e.K Ki):=qp a.toAl 28 39 λF=>jV (N:=["text"]) (g:=Xr) F JH λd d d d d d h=>by let m:=a.m;let f:=a.w_FIGURES;let c:=a.y_KEPT_WORDS;let b:=a.w_LETTERS;ext Xr;rw[JA (Qb (xi<|YU (K4<|ZJ xN xN J9 (JZ (x:="len") Qs 9 029 Qp<|J3 025 J5) J9)<|YU (z0F (ws:=["plan","given","all",034,"part"]) h.units c 9<|025)<|Co<|Qn z0I (Qh (JW h) 025 J9 009<|009) (CO b 9) 9) (J8<|JO Ku) Qa)<|J8<|JO<|JZ (x:="all") (F7 9) 9 029 F9<|J3 (jm<|Q5 ["sign"] [8] 9 9 (Nt<|025) 012<|λd d d d d=>sK (YT Gg 025 (CO b 9) 9)<|EV<|YT Gg 025 (CO f 9) 9) J5]
def pq(a:All e):Ca e "are_names" 2 ["texts"] (q0 e.K B6):=qp a.toAl 29 42 λF=>jV (N:=["texts"]) (g:=DB) F JH λd d d d d d b=>by let m:=a.m;ext DB;rw[J8<|JO<|EW (JZ (x:="all") (F7 9) 9 029 F9<|J3 (jm<|Q5 ["text"] [8] 9 9 (JS<|025) 012<|λd d d d d=>jC ((En a).mono ()) b 9<|J3 025 J5) J5)<|EV<|YT (xp b.units) (cA (λh=>Av L2.ST.call_lenK 9 029 Qp<|Kz (YL (L2.ST.call_setK 9) 9 029 L2.bt_set h) K3)<|J3 025 J5) (JZ (x:="len") Qs 9 029 Qp<|J3 025 J5)<|Qj _]
def cW(a:All e):Ca e "look_at_names" 03 ["book"] (q0 e.K DD):=qp a.toAl 30 41 λF=>jV (N:=["book","plan"]) (g:=DC) F JH λd d d d d d h=>by let f:=(pq a).mono (k:=2) ();let c:=a.k_Book;let b:=a.k_Plan;ext DC;rw[JA (Qb (K4<|Kd<|jC f h 9<|J3 (jm<|Q5 ["plan"] [8] 9 9 (JS<|JV c 004<|025) 012<|λd d d d d=>JV b 004<|025) J5) (J8 KC) Qa)<|J8<|Qo PassesOwn.never 9 (JS<|JV c 004<|025) (JY<|010)<|J8<|Qb (K4<|Kd<|jC f h 9<|J3 (ju Qg (JV b 004<|024)<|jm<|Q5 ["name","how","items"] [8,8,8] 9 9 (JS<|JV b 004<|024) (λb b b b b=>Q2 [0,1,2]<|Qz 9<|JK (qz 0 jt)<|JK (qz 1 jt)<|JK (qz 2 jt) Qy)<|λb b b b b=>025) J5) (J8 KC) Qa]
def Ru(a:All e):Ca e "is_part" 1 ["how"] (q0 e.K Xs):=qp a.toAl 31 48 λF=>jV (N:=["how"]) (g:=DE) F JH λd d d d d d b=>by ext DE;rw[J8<|JO<|ao b.units 025<|Ka<|J3 Qf<|J3 Qf J5]
def cw(a:All e):Ca e "look_at_parts" 2 ["book"] (q0 e.K DG):=qp a.toAl 32 45 λF=>jV (N:=["book","givens","plan","name","how","items"]) (g:=DF) F JH λd d d d d d f=>by let m:=a.m;let c:=a.k_Book;let b:=a.k_Plan;ext DF;rw[JA (Kq jt 9 006 C5)<|J8<|Qo PassesOwn.never 9 (JS<|JV c 004<|025) (JY<|010)<|JA (Qo PassesOwn.never 9 (JS<|JV b 004<|qv 2) (Q2 [03,04,05]<|Qz 9<|JK 010<|JK 010<|JK 010 Qy)<|J8<|Qb (xi<|WT (Kd<|jC ((Ru a).mono ()) f 9<|J3 (qv 04) J5)<|X7<|Qn (zE f.units) (YV [1]<|c9 (JW f) 024 (qv 04) (9,9,9,9)) (JZ (x:="len") Qs 9 029 Qp<|J3 (qv 05) J5)<|Qj _) (J8 KC) Qa)<|J8<|Fp (JW f) (pv 1) (JV b 004<|qv 2)<|JZ (x:="len") Qs 9 029 Qp<|J3 (JV b 004<|qv 2) J5]
def cV(a:All e):Ca e "look_at_items" 1 ["plan"] (q0 e.K DI):=qp a.toAl 33 44 λF=>jV (N:=["plan","ahead","name","how","items","thing","wait"]) (g:=DH) F JH λd d d d d d c=>by let m:=a.m;let b:=a.k_Plan;ext DH;rw[JA (JU jt 9 006<|JZ (x:="len") Qs 9 029 Qp<|J3 (JV b 004<|025) J5)<|J8<|Qo PassesOwn.never 9 (JS<|JV b 004<|025) (Q2 [2,03,04]<|Qz 9<|JK 010<|JK 010<|JK 010 Qy)<|JA (Qb (K4<|ZJ xN xN J9 (JZ (x:="len") Qs 9 029 Qp<|J3 (qv 04) J5) J9) (J8 KC) Qa)<|JA (Qo PassesOwn.never 9 (JS<|qv 04) (Q2 [05,06]<|Qz 9<|JK 010<|JK 010 Qy)<|JA (Qb (K4<|ZJ xN uT J9 (qv 05)<|024) (J8 KC) Qa)<|J8<|Qb (Qn sT (JZ (x:="abs") mE 9 029 z0L<|J3 (qv 06) J5) (ju Fa J9 J9)<|Qj _) (J8 KC) Qa)<|J8<|pC jt 9 006 J9]
def cK(a:All e):Ca e "look_at_plans" 2 ["book"] (q0 e.K DK):=qp a.toAl 34 43 λF=>jV (N:=["book","plan"]) (g:=DJ) F JH λd d d d d d f=>by let m:=a.m;let b:=a.k_Book;let c:=a.k_Plan;ext DJ;rw[JA (Qb (K4<|ZJ xN xN J9 (JZ (x:="len") Qs 9 029 Qp<|J3 (JV b 004<|025) J5) J9) (J8 KC) Qa)<|J8<|Qo PassesOwn.never 9 (JS<|JV b 004<|025) (JY<|010)<|JA (Qb (K4<|ZJ xN xN J9 (JZ (x:="len") Qs 9 029 Qp<|J3 (JV c 004<|024) J5) J9) (J8 KC) Qa)<|JA (Qb (K4<|ZJ xN xN J9 (JZ (x:="len") Qs 9 029 Qp<|J3 (JV c 004<|024) J5) J9) (J8 KC) Qa)<|J8<|YW<|jC ((cV a).mono ()) f 9<|J3 024 J5]
def pM(a:All e):Ca e "weights" 2 ["book"] (yQ e.K DN):=qp a.toAl 35 47 λF=>x8 (N:=["book","told","plan","parts"]) (g:=DM) F JH λd d d d d d f=>by let m:=a.m;let c:=a.k_Book;let b:=a.k_Plan;ext DM;rw[JA (Kq jt 9 (.inr 9) C5)<|JA (Qo PassesOwn.never 9 (JS<|JV c 004<|025) (JY<|010)<|JA (ziz [1] ["name","how","items","told"] [8,8,8,!1] jt 9 006 9 9 (JS<|JV b 004<|qv 2) (λb b b b b=>Q2 [0,1,2]<|Qz 9<|JK (qz 0 jt)<|JK (qz 1 jt)<|JK (qz 2 jt) Qy) (λb b b b b=>Kd<|jC ((Ru a).mono ()) f 9<|J3 024 J5)<|λb b b b b=>Qh (JW f) (qv 03) 024 009<|009)<|J8<|Fp (JW f) (pv 1) (JV b 004<|qv 2)<|ju Qg (JZ (x:="len") Qs 9 029 Qp<|J3 (JV b 004<|qv 2) J5)<|YV [03]<|JZ (x:="sum") (Mh 9) 9 029 IC<|J3 (qv 03) J5)<|J8<|X8<|pv 1]
def pi(a:All e):Ca e "look_at_weights" 03 ["book"] (q0 e.K DP):=qp a.toAl 36 46 λF=>jV (N:=["book","name","own"]) (g:=DO) F JH λd d d d d d b=>by ext DO;rw[J8<|Qo PassesOwn.never 9 (eX<|KL ((pM a).mono ()) b 9<|J3 025 J5) (Q2 [1,2]<|Qz 9<|JK 010<|JK 010 Qy)<|J8<|Qb (Qn we (qv 2) J9<|Qj _) (J8 KC) Qa]
def Rv(a:All e):Ca e "looked" 04 ["book"] (q0 e.K Ab):=qp a.toAl 37 40 λF=>jV (N:=["book"]) (g:=DQ) F JH λd d d d d d h=>by let b:=(cw a).mono (k:=03) ();let c:=(cK a).mono (k:=03) ();let f:=(pi a).mono (k:=03) ();ext DQ;rw[JA (YW<|jC ((cW a).mono ()) h 9<|J3 025 J5)<|JA (YW<|jC c h 9<|J3 025 J5)<|JA (YW<|jC b h 9<|J3 025 J5)<|J8<|YW<|jC f h 9<|J3 025 J5]
def cS(a:All e):Ca e "planned" 03 ["name","many","form"] (yQ e.K Ac):=qp a.toAl 38 32 λF=>x8 (N:=["name","many","form","rows"]) (g:=DR) F JH λd d d d d d c=>by let m:=a.m;let b:=Hr a;ext DR;rw[JA (oR ["number","row"] [8,8] jt 9 006 9 9 (Ml 9 029<|032) (λb b b b b=>Q2 [0,1]<|Qz 9<|JK (qz 0 jt)<|JK (qz 1 jt) Qy)<|λb b b b b=>Ka<|J3 (Gd 004<|025)<|J3 Qf<|J3 024 J5)<|JA (WV (pv 03) (Ka<|J3 Qf<|J3 Qf<|J3 (Wi (x:="tuple") AL 9 029 A3<|J3 (jm<|Q5 ["number","many"] [8,!1] 9 9 (Ux 9 029<|J3 (JZ (x:="len") Qs 9 029 Qp<|032) J5) 012<|λb b b b b=>Ka<|J3 (ju Qg 024<|025)<|J3 J9 J5) J5) J5)<|λf h=>Q7 Yv Yw Yx KH f h)<|J8<|WU [03]<|KZ<|ZK b (c.mono ()) 9<|J3 025<|J3 (jm<|Q5 ["thing"] [8] 9 9 (Ux 9 029<|J3 024 J5) 012<|λb b b b b=>Gd 004<|025)<|J3 (qv 03) J5]
def Rx(a:All e):Ca e "name_behind" 2 ["start","row"] (q0 e.K Y3):=qp a.toAl 39 55 λF=>jV (N:=["start","row","name"]) (g:=B7) F JH λd d d d d d b=>by let m:=a.m;ext B7;rw[JA (JU jt 9 006<|aD 024 (XH<|JZ (x:="len") Qs 9 029 Qp<|J3 025 J5) Wp)<|J8<|JO<|Cq (xi<|WT (Kd<|De (id:="str.startswith") 024 025<|λc f=>Q7 PySem.F.plainAttrs_str PySem.F.slot_str_startswith PySem.F.type_str_startswith oj c f)<|X7<|Kd<|jC ((En a).mono ()) b 9<|032) (qv 2) WS]
def z0y(a:All e):Ca e "are_figures" 1 ["text"] (q0 e.K DT):=qp a.toAl 40 59 λF=>jV (N:=["text"]) (g:=DS) F JH λd d d d d d c=>by let m:=a.m;let b:=a.w_FIGURES;ext DS;rw[J8<|JO<|EW (lR xN xN J9 (JZ (x:="len") Qs 9 029 Qp<|J3 025 J5) J9)<|EW (YT (zE c.units) (Qh (JW c) 025 J9 009<|009) Qf<|Qj _)<|EV<|JZ (x:="all") (F7 9) 9 029 F9<|J3 (jm<|Q5 ["sign"] [8] 9 9 (Nt<|025) 012<|λd d d d d=>YT Gg 025 (CO b 9) 9) J5]
def pI(a:All e):Ca e "item_of" 2 ["text"] (q0 e.K Xt):=qp a.toAl 41 58 λF=>jV (N:=["text","sign","sides"]) (g:=Ad) F JH λd d d d d d c=>by let m:=a.m;let b:=(En a).mono (k:=1) ();ext Ad;rw[JA (Qb (Kd<|jC b c 9<|J3 025 J5) (J8<|JO<|Ka<|J3 025<|J3 J9 J5) Qa)<|JA (Qo PassesOwn.never 9 (JS<|Ka<|J3 Qf<|J3 Qf J5) (JY<|010)<|JA (JU jt 9 006<|jm<|Df (id:="str.split") 025 024<|λf h=>Q7 PySem.F.plainAttrs_str PySem.F.slot_str_split PySem.F.type_str_split Dh f h)<|J8<|Qb (xi<|WT (Qn (xp c.units) (JZ (x:="len") Qs 9 029 Qp<|032) J9<|Qj _)<|WT (Kd<|jC b c 9<|J3 (Qh (JW c) (qv 2) J9 009<|009) J5)<|X7<|Kd<|jC ((z0y a).mono ()) c 9<|J3 (Qh (JW c) (qv 2) J9 009<|009) J5) (J8<|JO<|Ka<|J3 (Qh (JW c) (qv 2) J9 009<|009)<|J3 (Wi (x:="int") c7 9 029 Tk<|J3 (ju Qg 024<|Qh (JW c) (qv 2) J9 009<|009) J5) J5) Qa)<|J8<|JO WS]
def z01(a:All e):Ca e "with_items" 03 ["name","how","words"] (q0 e.K B8):=qp a.toAl 42 57 λF=>jV (N:=["name","how","words","items"]) (g:=DU) F JH λd d d d d d f=>by let m:=a.m;ext DU;rw[JA (Fw ["text"] [8] jt 9 006 9 9 (JS<|jm<|Df (id:="str.split") (De (id:="str.join") Qf (qv 2)<|λb c=>Q7 PySem.F.plainAttrs_str PySem.F.slot_str_join PySem.F.type_str_join Gw b c) Qf<|λb c=>Q7 PySem.F.plainAttrs_str PySem.F.slot_str_split PySem.F.type_str_split Dh b c) 012<|λb b b b b=>jC ((pI a).mono ()) f 9<|J3 025 J5)<|J8<|JO<|Cq (Fi f.units WS<|qv 03) WS<|Ka<|J3 025<|J3 024<|J3 (qv 03) J5]
def z0x(a:All e):Ca e "made_thing" 04 ["row"] (q0 e.K Ae):=qp a.toAl 43 56 λF=>jV (N:=["row","words"]) (g:=B9) F JH λd d d d d d b=>by let m:=a.m;let c:=(En a).mono (k:=03) ();let f:=(z01 a).mono (k:=03) ();ext B9;rw[JA (JU jt 9 006<|jm<|Df (id:="str.split") 025 Qf<|λh i=>Q7 PySem.F.plainAttrs_str PySem.F.slot_str_split PySem.F.type_str_split Dh h i)<|JA (Qb (xi<|YU (Qn uT (JZ (x:="len") Qs 9 029 Qp<|J3 024 J5) J9<|Qj _)<|YU (Qn (zE b.units) (Qh (JW b) 024 J9 009<|009) Qf<|Qj _)<|Co<|K4<|Kd<|jC c b 9<|J3 (Qh (JW b) 024 J9 009<|009) J5) (J8<|JO WS) Qa)<|JA (Qb (Fi b.units (Qh (JW b) 024 J9 009<|009)<|Ka<|J3 Qf<|J3 Qf J5) (J8<|JO<|jC f b 9<|J3 (Qh (JW b) 024 J9 009<|009)<|J3 (Qh (JW b) 024 J9 009<|009)<|J3 (jm<|AR 024 (XH J9) Wp Wp) J5) Qa)<|JA (Qb (xi<|WT (Qn (xp b.units) (Qh (JW b) 024 J9 009<|009) Qf<|Qj _)<|X7<|Kd<|jC c b 9<|J3 (Qh (JW b) 024 J9 009<|009) J5) (J8<|JO<|jC f b 9<|J3 (Qh (JW b) 024 J9 009<|009)<|J3 (Qh (JW b) 024 J9 009<|009)<|J3 (jm<|AR 024 (XH J9) Wp Wp) J5) Qa)<|J8<|JO WS]
def pb(a:All e):Ca e "takes_thing" 05 ["draft","number","row"] (kK e.K BA):=qp a.toAl 44 54 λF=>uY (N:=["draft","number","row","given","made"]) (g:=Y4) F JH λd d d d d d f=>by let m:=a.m;let c:=(Rx a).mono (k:=04) ();let b:=a.k_Draft;ext Y4;rw[K0 (Db (m:=!7)<|JU jt 9 006<|jC c f 9<|J3 Qf<|032)<|K0 (Db (m:=!7)<|JU jt 9 006<|jC ((z0x a).mono ()) f 9<|032)<|K0 (Dc (z1d 06 [0]<|xi<|WT (AO<|qv 03)<|X7<|Qn (xp f.units) (JV b 004<|025) (jm<|Km J5)<|Qj _) (K0 (Gv (NO b 004<|QF<|025) (QF<|qv 03)<|λh i=>Q7 Yv Yw Yx KH h i)<|Xe<|ZP<|QF Ku) Be)<|K0 (Dc (NN<|AO<|qv 04) (K0 (Gv (NO b 004<|QF<|025) (QF<|Ka<|J3 024<|J3 (qv 04) J5)<|λh i=>Q7 Yv Yw Yx KH h i)<|Xe<|ZP<|QF Ku) Be)<|Xe<|ZP<|QF Ku]
def pN(a:All e):Ca e "takes_row" 06 ["drafts","number","row"] (kK e.K Af):=qp a.toAl 45 53 λF=>uY (N:=["drafts","number","row","name"]) (g:=Y5) F JH λd d d d d d f=>by let m:=a.m;let c:=(pb a).mono (k:=05) ();let b:=aw a;ext Y5;rw[K0 (Db (m:=!7)<|JU jt 9 006<|jC ((Rx a).mono ()) f 9<|J3 Qf<|032)<|K0 (Dc (NN<|AO<|qv 03) (K0 (Gv (QF<|025) (lF b (f.mono ()) 9<|XO (QF<|qv 03) ZO)<|λh i=>Q7 Yv Yw Yx KH h i)<|Xe<|ZP<|QF Ku) Be)<|Xe<|ZP<|pc (gN 06 [0]<|YT (fA f.units) 025 (jm<|Km J5)<|Qj _)<|pL<|NP c f 9<|XO (gO (QF<|025) (QF<|zr WW J9)<|009)<|XO (QF<|024)<|XO (QF<|qv 2) ZO]
def cY(a:All e):Ca e "drafts_of" 07 ["text"] (q0 e.K Xu):=qp a.toAl 46 52 λF=>br (kk:=06) (hw:=kW) (hx:=kR) (N:=["text","drafts","number","row"]) (g:=DV) F JH λd d d d d d b=>by let m:=a.m;ext DV;rw[K0 (z0u jt 9 006<|Gu ZO)<|K0 (cN PassesOwn.never 9 (a7 9 029<|J3 (jm<|Df (id:="str.split") 025 Qf<|λc f=>Q7 PySem.F.plainAttrs_str PySem.F.slot_str_split PySem.F.type_str_split Dh c f) J5) (Q2 [2,03]<|Qz 9<|JK 010<|JK 010 Qy)<|Xe<|Dc (lU<|ap<|NP ((pN a).mono ()) b 9<|XO (QF<|024)<|XO (QF<|qv 2)<|XO (QF<|qv 03) ZO) (Xe<|Db (m:=!7) KC) Be)<|Xe<|ZP<|QF<|024]
def z0d(a:All e):Ca e "numbered" 1 ["items","numbers","row"] (q0 e.K Ag):=qp a.toAl 47 62 λF=>jV (N:=["items","numbers","row","name","wait"]) (g:=DW) F JH λd d d d d d b=>by let m:=a.m;ext DW;rw[JA (Qo PassesOwn.never 9 (JS<|025) (Q2 [03,04]<|Qz 9<|JK 010<|JK 010 Qy)<|J8<|Qb (Fj b.units (qv 03)<|024) (J8 KC) Qa)<|J8<|JO<|Wi (x:="tuple") AL 9 029 A3<|J3 (jm<|Q5 ["name","wait","numbers"] [8,8,!1] 9 9 (JS<|025) (λb b b b b=>Q2 [0,1]<|Qz 9<|JK (qz 0 jt)<|JK (qz 1 jt) Qy)<|λd d d d d=>Ka<|J3 (Qh (JW b) (qv 2) 025 009<|009)<|J3 024 J5) J5]
def cx(a:All e):Ca e "numbers_of" 1 ["names"] (yQ e.K DY):=qp a.toAl 48 61 λF=>x8 (N:=["names","numbers","number","name"]) (g:=DX) F JH λd d d d d d f=>by let m:=a.m;ext DX;rw[JA (Kq jt 9 006 C5)<|JA (Qo PassesOwn.never 9 (Ml 9 029<|J3 025 J5) (Q2 [2,03]<|Qz 9<|JK 010<|JK 010 Qy)<|J8<|oD (pv 1) (qv 03) (qv 2)<|λb c=>Q7 PySem.F.plainAttrs_dict PySem.F.slot_dict_setdefault PySem.F.type_dict_setdefault oB b c)<|J8<|X8<|pv 1]
def cs(a:All e):Ca e "plan_of" 03 ["draft"] (yQ e.K BB):=qp a.toAl 49 60 λF=>x8 (N:=["draft","numbers","rows","number","made"]) (g:=DZ) F JH λd d d d d d f=>by let m:=a.m;let h:=(cx a).mono (k:=2) ();let b:=a.k_Draft;let c:=Hr a;ext DZ;rw[JA (JU jt 9 006<|jm<|KL h f 9<|J3 (ju Qg (JV b 004<|025)<|jm<|Q5 ["number","made"] [8,8] 9 9 (JS<|JV b 004<|025) (λb b b b b=>Q2 [0,1]<|Qz 9<|JK (qz 0 jt)<|JK (qz 1 jt) Qy)<|λb b b b b=>Qh (JW f) 024 J9 009<|009) J5)<|JA (Kq jt 9 006<|Km J5)<|JA (Qo PassesOwn.never 9 (JS<|JV b 004<|025) (Q2 [03,04]<|Qz 9<|JK 010<|JK 010 Qy)<|J8<|WV (pv 2) (Ka<|J3 (Qh (JW f) (qv 04) J9 009<|009)<|J3 (Qh (JW f) (qv 04) J9 009<|009)<|J3 (jC ((z0d a).mono ()) f 9<|J3 (Qh (JW f) (qv 04) J9 009<|009)<|J3 024<|J3 (qv 03) J5) J5)<|λi j=>Q7 Yv Yw Yx KH i j)<|J8<|WU [2]<|KZ<|ZK c (f.mono ()) 9<|J3 (JV b 004<|025)<|J3 (JV b 004<|025)<|032]
def lm(a:All e):Ca e "read" 08 ["text"] (q0 e.K BC):=qp a.toAl 50 51 λF=>jV (N:=["text","book"]) (g:=Ea) F JH λd d d d d d h=>by let c:=(Rv a).mono (k:=07) ();let f:=(cs a).mono (k:=07) ();let b:=Hq a;ext Ea;rw[JA (JU jt 9 006<|jm<|ZK b (h.mono ()) 9<|J3 (jm<|Q5 ["draft"] [8] 9 9 (JS<|jC ((cY a).mono ()) h 9<|J3 025 J5) 012<|λb b b b b=>jm<|KL f h 9<|J3 025 J5) J5)<|JA (YW<|jC c h 9<|J3 024 J5)<|J8<|JO<|024]
def pJ(a:All e):Ca e "item_text" 1 ["name","wait"] (q0 e.K Y8):=qp a.toAl 51 71 λF=>jV (N:=["name","wait"]) (g:=Ah) F JH λd d d d d d b=>by ext Ah;rw[JA (Qb (Qn (xp b.units) 024 J9<|Qj _) (J8<|JO<|025) Qa)<|J8<|JO<|Cq (Qn we 024 J9<|Qj _) (ZM<|Ws 025<|XL<|Ws 024 ZL)<|ZM<|Ws 025<|Ws 024 ZL]
def z0m(a:All e):Ca e "made_row" 2 ["made","how","items","things"] (q0 e.K BF):=qp a.toAl 52 70 λF=>jV (N:=["made","how","items","things","way","texts"]) (g:=Ed) F JH λd d d d d d b=>by let m:=a.m;ext Ed;rw[JA (JU jt 9 006<|Cq (Fi b.units 024<|Ka<|J3 Qf<|J3 Qf J5) 024<|ZM<|XL<|Ws 024 ZL)<|JA (JU jt 9 006<|De (id:="str.join") Qf (jm<|Q5 ["thing","wait","things"] [8,8,!03] 9 9 (JS<|qv 2) (λb b b b b=>Q2 [0,1]<|Qz 9<|JK (qz 0 jt)<|JK (qz 1 jt) Qy)<|λd d d d d=>jC ((pJ a).mono ()) b 9<|J3 (Qh (JW b) (qv 2) 025 009<|009)<|J3 024 J5)<|λc f=>Q7 PySem.F.plainAttrs_str PySem.F.slot_str_join PySem.F.type_str_join Gw c f)<|J8<|JO<|ZM<|XL<|Ws 025<|XL<|Ws (qv 04)<|XL<|Ws (qv 05) ZL]
def cM(a:All e):Ca e "plan_rows" 03 ["plan"] (yQ e.K Ef):=qp a.toAl 53 69 λF=>x8 (N:=["plan","name","things","told"]) (g:=Ee) F JH λd d d d d d c=>by let b:=a.k_Plan;ext Ee;rw[JA (JU jt 9 006<|JV b 004<|025)<|JA (JU jt 9 (.inr 9)<|ju Qg (JV b 004<|025)<|jm<|Q5 ["made","how","items"] [8,8,8] 9 9 (JS<|JV b 004<|025) (λb b b b b=>Q2 [0,1,2]<|Qz 9<|JK (qz 0 jt)<|JK (qz 1 jt)<|JK (qz 2 jt) Qy)<|λb b b b b=>025)<|JA (JU jt 9 006<|ju Qg (jm<|Km<|J3 (ZM<|XL<|Ws 024 ZL) J5)<|jm<|Q5 ["given"] [8] 9 9 (JS<|JV b 004<|025) 012<|λb b b b b=>ZM<|XL<|Ws 025 ZL)<|J8<|KZ<|L0 Nr (qv 03)<|jm<|Q5 ["made","how","items","things"] [8,8,8,!2] 9 9 (JS<|JV b 004<|025) (λb b b b b=>Q2 [0,1,2]<|Qz 9<|JK (qz 0 jt)<|JK (qz 1 jt)<|JK (qz 2 jt) Qy)<|λb b b b b=>jC ((z0m a).mono ()) c 9<|J3 025<|J3 024<|J3 (qv 2)<|J3 (qv 03) J5]
def z0U(a:All e):Ca e "shown" 04 ["book"] (q0 e.K BG):=qp a.toAl 54 68 λF=>jV (N:=["book","rows","plan"]) (g:=Eg) F JH λd d d d d d h=>by let m:=a.m;let b:=a.k_Book;ext Eg;rw[JA (Kq jt 9 006<|Km J5)<|JA (Qo PassesOwn.never 9 (JS<|JV b 004<|025) (JY<|010)<|J8<|L4 (pv 1) (KL ((cM a).mono ()) h 9<|032)<|λc f=>Q7 Yv PySem.F.slot_list_extend PySem.F.type_list_extend Ig c f)<|J8<|WU [1]<|JO<|De (id:="str.join") Qf 024<|λc f=>Q7 PySem.F.plainAttrs_str PySem.F.slot_str_join PySem.F.type_str_join Gw c f]
def Ry(a:All e)(b:Ca e "hours_of" (1+k) ["book","name","hours"] (q0 e.K<|Xw j)):Ca e "told_hour" (1+k+1) ["book","name","hours"] (q0 e.K<|Kp j):=qp a.toAl 55 65 λF=>jV (N:=["book","name","hours"]) (g:=BH<|Xw j) F JH λd d d d d d c=>by ext BH;rw[J8<|JO<|Qh (JW c) (jC b c 9<|J3 025<|J3 024<|032) (zr WW J9) 009<|009]
def Rz(a:All e)(b:Ca e "told_hour" (1+k) ["book","name","hours"] (q0 e.K<|Kp j)):Ca e "made_hour" (1+k+1) ["book","how","hours"] (q0 e.K<|Wg j):=qp a.toAl 56 66 λF=>jV (N:=["book","how","hours"]) (g:=Y9<|Kp j) F JH λd d d d d d c=>by let m:=a.m;ext Y9;rw[JA (Qb (Qn (xp c.units) 024 Qf<|Qj _) (J8<|JO<|JZ (x:="max") (z0H 9) 9 029 BW<|032) Qa)<|JA (Qb (Qn (xp c.units) 024 Qf<|Qj _) (J8<|JO<|JZ (x:="min") (cU 9) 9 029 IB<|032) Qa)<|J8<|JO<|jC b c 9<|J3 025<|J3 024<|032]
def lX(a:All e)(c:Ca e "made_hour" (1+k) ["book","how","hours"] (q0 e.K<|Wg j)):Ca e "hours_of" (1+k+1) ["book","name","hours"] (q0 e.K<|Xw<|j+1):=qp a.toAl 57 64 λF=>jV (N:=["book","name","hours","told","made","how","items"]) (g:=BI<|Wg j) F JH λd d d d d d h=>by let m:=a.m;let f:=(Rp a).mono (k:=1+k) ();let b:=a.k_Plan;ext BI;rw[JA (Kq jt 9 (.inr 9)<|Wj (x:="list") XD 9 029 WL<|032)<|JA (Qo PassesOwn.never 9 (JS<|JV b 004<|jC f h 9<|J3 025<|J3 024 J5) (Q2 [04,05,06]<|Qz 9<|JK 010<|JK 010<|JK 010 Qy)<|J8<|WV (pv 03) (YV [03]<|jC c h 9<|J3 025<|J3 (qv 05)<|J3 (jm<|Q5 ["thing","wait","told"] [8,8,!03] 9 9 (JS<|qv 06) (λb b b b b=>Q2 [0,1]<|Qz 9<|JK (qz 0 jt)<|JK (qz 1 jt) Qy)<|λb b b b b=>ju Qg (Qh (JW h) (qv 2) 025 009<|009)<|024) J5)<|λi l=>Q7 Yv Yw Yx KH i l)<|J8<|WU [03]<|JO<|qv 03]
theorem R0(a:All e):∀j,Ca e "hours_of" (1+03*j) ["book","name","hours"] (q0 e.K<|Xw j)|0=>qp a.toAl 57 64 λb=>bt|j+1=>lX (k:=03*j+2) a (Rz (k:=03*j+1) a<|Ry (k:=03*j+0) a<|R0 a j)
def R1(a:All e):Ca e "told_hour" 14 ["book","name","hours"] (q0 e.K<|Kp 04):=Ry (k:=12) a<|R0 a 04
def sN(a:All e):Ca e "made_hour" 15 ["book","how","hours"] (q0 e.K<|Wg 04):=Rz (k:=13) a<|R1 a
def cE(a:All e):Ca e "_law_good" 18 ["book","name","form","hours"] (q0 e.K Ai):=qp a.toAl 58 85 λF=>jV (N:=["book","name","form","hours","plain","again","tried","one"]) (g:=Eh) F JH λd d d d d d b=>by let m:=a.m;let c:=(z1b a).mono (k:=17) ();let j:=(Rv a).mono (k:=17) ();let l:=(cS a).mono (k:=17) ();let n:=(lm a).mono (k:=17) ();let o:=(z0U a).mono (k:=17) ();let p:=(Rt a).mono (k:=17) ();let f:=(R1 a).mono (k:=17) ();let i:=Hq a;ext Eh;rw[JA (JU jt 9 006<|jm<|ZK i (b.mono ()) 9<|J3 (jm<|Km<|J3 (jm<|KL l b 9<|J3 Qf<|J3 (JZ (x:="len") Qs 9 029 Qp<|J3 (qv 03) J5)<|J3 (jm<|Wj (x:="list") XD 9 029 WL<|032) J5) J5) J5)<|JA (Qb (AO<|jC j b 9<|J3 (qv 04) J5) (J8<|JO Ku) Qa)<|JA (JU jt 9 006<|jC n b 9<|J3 (jC o b 9<|J3 (qv 04) J5) J5)<|JA (Qb (xi<|YU (Qn (zE b.units) (jm<|KL c b 9<|J3 (qv 05) J5) (jm<|KL c b 9<|J3 (qv 04) J5)<|Qj _)<|Co<|Qn (zE b.units) (AX p lB b 9<|J3 (qv 05)<|J3 Qf<|J3 J9 J5) (qv 2)<|Qj _) (J8<|JO Ku) Qa)<|JA (JU jt 9 006<|ju Qg (jm<|Km<|J3 (qv 03)<|J3 (jm<|iI (λh=>YL (L2.call_listRev 9) 9 029 WL<|Kz (YL L2.call_reversed 9 029 zkU h) K3)<|J3 (qv 03) J5) J5)<|jm<|Q5 ["row","form","hours"] [8,!2,!03] 9 9 (JS<|qv 2) 012<|λd d d d d=>jm<|KL ((z0W a).mono ()) b 9<|J3 025<|J3 024<|J3 (JZ (x:="len") Qs 9 029 Qp<|032) J5)<|JA (Qo PassesOwn.never 9 (JS<|qv 06) (JY<|010)<|J8<|Qb (Qn (zE b.units) (jC f b 9<|J3 (qv 05)<|J3 Qf<|J3 (jm<|Wj (x:="list") XD 9 029 WL<|J3 (qv 07) J5) J5) (jC f b 9<|J3 025<|J3 024<|J3 (jm<|Wj (x:="list") XD 9 029 WL<|J3 (qv 07) J5) J5)<|Qj _) (J8<|JO Ku) Qa)<|J8<|JO Ku]
def z0j(a:All e):Ca e "_law_wait" 2 ["cell","salt"] (q0 e.K YH):=qp a.toAl 59 76 λF=>jV (N:=["cell","salt","mixed","size"]) (g:=Aj) F JH λd d d d d d b=>by ext Aj;rw[JA (JU jt 9 006<|jC ((Hs a).mono ()) b 9<|J3 025<|J3 024 J5)<|JA (Qb (Qn we (ju QR (qv 2) J9) J9<|Qj _) (J8<|JO<|ju Cw (ju QR (ju KM (qv 2) J9) J9) J9) Qa)<|JA (JU jt 9 006<|ju QR (ju YY (ju KM 025 J9)<|ju Qg 024 J9)<|ju Fa J9 J9)<|JA (Qb (Qn (xp b.units) (ju QR (ju KM (qv 2) J9) J9) J9<|Qj _) (J8<|JO<|qv 03) Qa)<|J8<|JO<|zr WW<|qv 03]
def pf(a:All e):Ca e "_law_hours" 03 ["script","salt","things"] (yQ e.K Ak):=qp a.toAl 60 78 λF=>x8 (N:=["script","salt","things"]) (g:=Ei) F JH λd d d d d d c=>by let m:=a.m;let b:=(z0j a).mono (k:=2) ();ext Ei;rw[J8<|KZ<|Q5 ["k","script","salt"] [8,!0,!1] 9 9 (Ux 9 029<|032) 012<|λd d d d d=>jC b c 9<|J3 (ju Qg (ju KM (jC ((Rj a).mono ()) c 9<|J3 024<|J3 025 J5) J9)<|025)<|J3 (ju Qg (qv 2)<|025) J5]
def cF(a:All e) (F:Fun e.K "law" "law" (wT 86) f n):FnOk e.P e.w e.K e.mg e.base yz 19 f n ["script"] (q0 e.K uI):=jV (N:=["script","book","hours","plan","form"]) (g:=Ej) F JH λd d d d d d l=>by let m:=a.m;let h:=(cy a).mono (k:=18) ();let i:=(cE a).mono (k:=18) ();let j:=(pf a).mono (k:=18) ();let c:=a.k_Book;let b:=a.k_Plan;ext Ej;rw[JA (JU jt 9 006<|jm<|KL ((z0q a).mono ()) l 9<|J3 025 J5)<|JA (JU jt 9 006<|jm<|KL j l 9<|J3 025<|J3 J9<|J3 (JZ (x:="len") Qs 9 029 Qp<|J3 (JV b 004<|Qh (JW l) (JV c 004<|024) J9 009<|009) J5) J5)<|JA (Qo PassesOwn.never 9 (JS<|JV c 004<|024) (JY<|010)<|JA (JU jt 9 006<|jC h l 9<|J3 024<|J3 (JV b 004<|qv 03) J5)<|J8<|Qb (xi<|WT (AO<|qv 04)<|X7<|K4<|Kd<|jC i l 9<|J3 024<|J3 (JV b 004<|qv 03)<|J3 (qv 04)<|032) (J8<|JO Ku) Qa)<|J8<|JO Ku]
def Eo(K:f'):Sp:=λc H Q d=>∃(a:Addr)(b:Yf),c=[022]/\qR K H a (b.map V.int)/\⇑b<=63/\∀e,Q (.bl 6) e
def lH(K:f')(b:YB)(H:Hp)(Q:VK)(E:XK)(h:Eo K b H Q E):q0 K uI b H Q E:=by let(a c,rfl,f,g,q):=h;rw[(H,[.scr c],jk.refl _,IsDs.mk (qG.mpr (a,9,f)) .nil,?_)];rw[va c g,];intro v l j e i;rw[jo.mp i,];rw[q j]
def all_mk{l:W.OpenLaw} {K:f'} (X:K.In h)(G:h.Ns 000 mg)(hfa:mg "law"=! .ref fa)(d:kO K wT tbl)(z:Nn K bl)(dl:uy K "law" (wT 86))(a:W.nsIn K 000 "TooMany"=! ! .ref b)(q:W.excIn K b [.type "ValueError",.type "Exception",.type "BaseException",.type "object"] "ValueError.__new__"=6)(r:W.nsIn K 000 "FIGURES"=! ! .str "0123456789" c)(f:W.nsIn K 000 "KEPT_WORDS"=! ! .ref g)(i:K.lookup g=!(.type "tuple",C,.seq #[.str "plan" E,.str "given" F,.str "all" I,.str 034 J,.str "part" L] n_KEPT_WORDS,M))(t:W.nsIn K 000 "LETTERS"=! ! .str "abcdefghijklmnopqrstuvwxyz" u)(l_Book:Gj K "Book" "Book.__init__" ["plans"] (YM (wT 27) 0))(N:Gj K "Draft" "Draft.__init__" 008 (YM (wT 50) 0))(l_Plan:Gj K "Plan" "Plan.__init__" 008 (YM (wT 26) 0)):∃fd:FuncData,(∀(s:Shared)(v:Value),BindsTo s fd ([v],[]) [%["script"|v]])/\∀m:Heap,K.In m->m.Ns 000 mg->FnOk l.prog w K mg m yz 19 fa fd ["script"] (Eo K):=by let(f_law,fd_law,a_law,uI):=dl;cases hfa.symm.trans (W.mg_of X G a_law);let(D_Book,fI_Book,fdI_Book,o,O,P,Q,R):=l_Book;let(S,fI_Draft,fdI_Draft,j,x,y,A,B):=N;let(D_Plan,fI_Plan,fdI_Plan,p,T,U,Y,Z):=l_Plan;rw[(fd_law,by let(_,_,_,_,_,_,_,_,_,rfl,_,_):=id uI.ex;rw[λs v=>.of_eq 9],λm k k=>(cF (e:=(l.prog,w,K,mg,m,λn=>[b,D_Book,S,D_Plan].getD n 0,λn=>[c,u].getD n c)) (((h,X,G),d,NL X G z),(a,W.mg_of X G a,q),W.mg_of X G r,(_,W.mg_of X G f,λH=>.inr (_,_,_,i,9,9,by show 05<=00;decide,.cons (_,9)<|.cons (_,9)<|.cons (_,9)<|.cons (_,9)<|.cons (_,9) .nil)),W.mg_of X G t,(o,W.mg_of X G o,O,P),(_,_,Q,R),(j,W.mg_of X G j,x,y),(_,_,A,B),(p,W.mg_of X G p,T,U),(_,_,Y,Z)) uI).imp<|lH K)]
def walk{l:W.OpenLaw} {K:Params->f'}(m:l.most=!63)(e:d.params.defaults=[])(o:∀(w:World)(h:Heap),p w h->(K w.params).In h)(F:∀(w:World)(c:Yd)(i:Addr)(h:Heap),(K w.params).In h->h.Ns 000 c->c d.name=! .ref i->∃j:FuncData,(∀(s:Shared)(u:Value),BindsTo s j ([u],[]) [%["script"|u]])/\∀b:Heap,(K w.params).In b->b.Ns 000 c->FnOk l.prog w (K w.params) c b yz 19 i j ["script"] (Eo<|K w.params)):W.WalkO q g A p l.row.toRowW d [] λf r=>PySem.call f r:=L2.walk_of (n:=63) (k:=19) (x:="script") (CX:=λb=>yz) (sp:=λw=>Eo<|K w.params) m 004 e (9,004,004) o F (λb b a t v b y=>(a,t,9,y,v,λb=>9)) λb b b b b z=>z
end My
end
open PySem PySem.W PyProof.Rows
structure PySem.W.Fast:Prop where(tw6927633710238336094 tw17815157877767161228 tw8526428838865452324 tw2833477027908724033 tw4339425315808336773 tw8262563160336520049 tw6546558233927585945 tw13633023924854619162 tw17956427075621224071 tw1719821346617505815 tw11614671649292767379 tw16126790145732969511 tw16015681647669457630 tw8147934741511020748 tw12514520381154294649 tw6230887288116943348 tw598151938269218943 tw4254571647807948384 tw9606833504965840175 tw8798193138627558298 tw11593377398667624204 tw4736420244249942438 tw4846515804423132971 tw3010748485902137921 tw10007551981040786882 tw18277233091064230712 tw8455124792102397821 tw12187055241334329714 tw4605673454160281125 tw12815224933335785159 tw10864081090499931892 tw17765355906747230556 tw13155670843591448282 tw12910217924412998017 tw9805539108990438752 tw10254969584735503952 tw13981601400704746172 tw9013154440822596471 tw18132843167966691193 tw9487822699203762456 tw12019705212078487320 tw7635683449137361626 tw14488922187614250004 tw3795506939412846184 tw5013652034629800691 tw10872437463100656894 tw782993238703062205 tw42900048883528921 tw11180475086393341330 tw17972010555384578286 tw16107781824166221193 tw4250244840018669812 tw6212603529667529328 tw13232931868868984357 tw8698719977583936563 tw10300068297927190903 tw16821798814088928791 tw12988750441246670015 tw13251468245386627756 tw7056533486019306214 tw14851689002891848302 tw9195076478873336617 tw191811117396218173 tw7715081388169830680 tw6987367591149253575 tw13048922291534063081 tw12301493282240620580 tw13077055672887039991 tw15601481085659105528 tw6081159457401448380 tw10848351631082632634 tw4445429766729579375 tw18179042085601709508 tw11500953628410325657 tw12022878671382492616 tw13215308723332347788 tw11892285612048132612 tw11325521623535810328 tw4992929438534543612 tw11897745535007765548 tw2835282882391517647 tw2984229163145718603 tw6562021306991673806 tw2297472077197346150 tw5625359472015722802 tw4341672191235343696 tw14236311138046892384 tw13417892477401531270 tw1785697888874823234 tw12840560761325853038 tw13386464543519049308 tw8219708988693580838 tw11907921958991579752 tw14886268891056695174 tw2974170745191967785 tw7645259490165617638 tw6215990040210546463 tw18413051493173850132 tw16214133677499033123 tw3380888288958831548 tw13585562281493194579 tw1387155058624956432 tw5521403155176147625 tw149632786469960430 tw5780051437457931642 tw8514103759262691538 tw4371432588631421325 tw8165373931985654486 tw1258015822132938210 tw15220025112253055869 tw10621153883877250553 tw7791595820795209567 tw3340973299442051506 tw17463232080845407403 tw2687589162658482317 tw15058281699091699480 tw17300438861796555766 tw296978291329253665 tw8738252361860592705 tw14281026333845352295 tw1258645152642732383 tw7711503463171870453 tw14245449034195979899 tw10542682051468682636 tw9704311328192033062 tw4208293187050393793 tw8860214657308751079 tw7007136036960194391 tw9732827539664904728 tw14059160214771088618 tw6229066756121156192 tw2718575647345044761 tw5599217111705469675 tw15809096992466839583 tw4965900321287493767 tw13132756165451913118 tw7667963334691346280 tw9713300949892886142 tw5168737875144165188 tw17920425518611898728 tw9410622405581187582 tw16652173652751672408 tw7120896380343091420 tw16927428083475592559 tw11211448256288546445 tw7699877326926879168 tw6776674683968918804 tw7052136001747003206 tw16381427965429452195 tw6921921653938973394 tw6260226221158742657 tw18307372081150525788 tw4989184013963396435 tw6439003565614818894 tw1514285402783808915 tw1281519265432063406 tw12282321483214649177 tw16662504880390593805 tw9302967379188198865 tw9800775730512806526 tw12738681054325772497 tw18236744555365751607 tw2791498174547280179 tw8128336841910838957 tw5013837434535550724 tw6056635636152984800 tw9757197684994157240 tw1742232390720478474 tw15648290911980791691 tw14413008631383709672 tw7993424168404480400 tw2441914789847425398 tw16194387336535024056 tw7845911827560433484 tw6481829150536481704 tw10435117084063646307 tw9745697607889056965 tw13131561434200539998 tw18150814366247123465 tw3559035638437758492 tw4292975078619623630 tw13128157441239770530 tw2266886213336241209 tw2875567986348117370 tw17155456811116694023 tw16454782001267419852 tw3633472557422475961 tw7237725364868347431 tw13019522699972448162 tw18337971623933859882 tw14914398655308311736 tw3958572103978999596 tw10152842120683603592 tw17696852776357985060 tw14336339015771952796 tw8119549065743920826 tw2376819002455428019 tw9181900451694761089 tw17421065602379880801 tw6761139578379104200 tw7947001430840225831 tw150051262243103708 tw2842955245902926608 tw4828463687601614439 tw8471427119591949264 tw12244263055928181377 tw10048987229479457055 tw12329754245100405705 tw3693809746688059093 tw14318949431164658683 tw13182976489058343499 tw5032048015670034791 tw18151488407612043650 tw14946161927719631525 tw18168529895463632021 tw10415360298805037520 tw1414500962202831809 tw912529790573860796 tw17747587592579041917 tw977867706772354929 tw18262723635574983167 tw17389434825051577115 tw719396107608044417 tw12568084893359171025 tw4263695604102324663 tw137068409712243245 tw16705801311467084730 tw7196424123358168689 tw12966015222603428301 tw6278600754074950867 tw5298267379680847394 tw1194788064407550602 tw4894935259377030146 tw908022863994209410 tw12263949939551466769 tw8325336298067454143 tw14384550230147316171 tw5363275976778840417 tw2039857932818674620 tw17719057373788766166 tw691363665581810439 tw11074795783402307953 tw8752052372774139261 tw5126518994886802849 tw8934607808118191250 tw5294303504259314882 tw6816307224901256545 tw9753375369129788358 tw16788170660941458701 tw5087693621461028654 tw18183161321884346604 tw3876219055091155105 tw3796647322603284241 tw15455249460883623754 tw18016980243452741251 tw7036853691407911484 tw18094592300627449575 tw7049275804348047478 tw16983825998670626596 tw14254185943580515338 tw4037519831741020339 tw225502966313076851 tw10320933922662895658 tw16645445681812696911 tw14362392850156282841 tw6799159732799853736 tw12804039996451020247 tw14695581732812584842 tw5741712800676366507 tw862529505014528106 tw13467549430944950464 tw12221648932945194909 tw18020148737704818545 tw18050266177758657548 tw11189662564396996486 tw13429445484814397263 tw5469246888889923929 tw4848732004407208196 tw5291968319661958764 tw15195773496544734390 tw3004439938196310620 tw13331951108280576247 tw18337979851901028787 tw4168759408931207618 tw7860660257351894939 tw12631185063303252293 tw18147812176873632419 tw12826152230038268525 tw9749764177049361313 tw9154153845260493886 tw9707059611427652743 tw8450237109099197278 tw14571374444228098732 tw1913614587853291119 tw1057526449746883599 tw11008596503877838880 tw8295873695721226293 tw10126962774360273023 tw14495668872328557859 tw3390604201681972599 tw12738113205859149262 tw1812138523207138506 tw4025956515135023660 tw2372082363362122902 tw5710237218276320029 tw9908331634995226643 tw5508811653180841447 tw17984285142363090291 tw16036595251844107693 tw2731658570823001988 tw12344039700646355772 tw9932693907655907699 tw7897227823557976471 tw18096459648628658096 tw17837854178639755930 tw4714071053300206921 tw1387532479932958084 tw13202528002011087518 tw14423691238159922868 tw17956215648647353219 tw3939897849776321869 tw4387373229540786045 tw15648943982322017979 tw617266219298970424 tw18028896777152618094 tw14176687497272003848 tw17956564458016513895:True)
set_option maxRecDepth 100000 in
set_option maxHeartbeats 0 in
theorem PySem.Challenge.cw_allfirst_k67_whole_form_to_text_and_back_holds : PySem.Challenge.rw_allfirst_k67_whole_form_to_text_and_back.Holds := by
 w_on;o_law;k_head;(case hw=>w_witness2)
 k_fill
 refine My.walk (l:=PySem.Challenge.rw_allfirst_k67_whole_form_to_text_and_back) rfl rfl (fun w h Y=>PySem.W.kIn_of Y) ?F
 case F =>
  intro w mg fa h KX G hmg;refine' My.all_mk KX G hmg ?d ?z ?dl ?a_TooMany ?q_TooMany ?g_FIGURES ?g_KEPT_WORDS ?h_KEPT_WORDS ?g_LETTERS ?l_Book ?l_Draft ?l_Plan
  (case d =>
   repeat (apply L2.DL.dfs_cons;focus (refine' ⟨_,_,?a,L2.fun_mk ?l ?c ?k⟩;(case a=>k_is);(case l=>k_is);(case c=>k_is);(case k=>k_is)))
   exact True.intro)
  (case z =>
   repeat (apply L2.DL.nn_cons;focus k_is)
   exact True.intro)
  (case dl=>refine' ⟨_,_,?a,L2.fun_mk ?l ?c ?k⟩;(case a=>k_is);(case l=>k_is);(case c=>k_is);(case k=>k_is))
  (case a_TooMany=>k_is)
  (case q_TooMany=>k_exc)
  (case g_FIGURES|g_KEPT_WORDS|h_KEPT_WORDS|g_LETTERS=>k_is)
  (case l_Book=>refine' ⟨_,_,_,?ua,⟨?up,?uh,?uo,?us⟩,List.forall_mem_cons.mpr ⟨?uf0,List.forall_mem_nil _⟩,⟨?um,?ui,?un,?ue⟩,L2.fun_mk ?ul ?uc ?uk⟩;(case ua=>k_is);(case ui=>k_is);(case ul=>k_is);(case uc=>k_is);(case uk=>k_is);(case up=>k_is);(case uh=>k_is);(case uo=>k_is);(case us=>k_is);(case um=>k_is);(case un=>k_is);(case ue=>k_is);(case uf0=>show PySem.W.findIn _ _ _=_;k_is))
  (case l_Draft=>refine' ⟨_,_,_,?ua,⟨?up,?uh,?uo,?us⟩,List.forall_mem_cons.mpr ⟨?uf0,List.forall_mem_cons.mpr ⟨?uf1,List.forall_mem_cons.mpr ⟨?uf2,List.forall_mem_nil _⟩⟩⟩,⟨?um,?ui,?un,?ue⟩,L2.fun_mk ?ul ?uc ?uk⟩;(case ua=>k_is);(case ui=>k_is);(case ul=>k_is);(case uc=>k_is);(case uk=>k_is);(case up=>k_is);(case uh=>k_is);(case uo=>k_is);(case us=>k_is);(case um=>k_is);(case un=>k_is);(case ue=>k_is);(case uf0=>show PySem.W.findIn _ _ _=_;k_is);(case uf1=>show PySem.W.findIn _ _ _=_;k_is);(case uf2=>show PySem.W.findIn _ _ _=_;k_is))
  (case l_Plan=>refine' ⟨_,_,_,?ua,⟨?up,?uh,?uo,?us⟩,List.forall_mem_cons.mpr ⟨?uf0,List.forall_mem_cons.mpr ⟨?uf1,List.forall_mem_cons.mpr ⟨?uf2,List.forall_mem_nil _⟩⟩⟩,⟨?um,?ui,?un,?ue⟩,L2.fun_mk ?ul ?uc ?uk⟩;(case ua=>k_is);(case ui=>k_is);(case ul=>k_is);(case uc=>k_is);(case uk=>k_is);(case up=>k_is);(case uh=>k_is);(case uo=>k_is);(case us=>k_is);(case um=>k_is);(case un=>k_is);(case ue=>k_is);(case uf0=>show PySem.W.findIn _ _ _=_;k_is);(case uf1=>show PySem.W.findIn _ _ _=_;k_is);(case uf2=>show PySem.W.findIn _ _ _=_;k_is))
