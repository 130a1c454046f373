import PyProof.Rows.All
import Wide.All
import OpenK.AllK
import Wide.FinOn
import Lean
import PyProof.EqAt
import PyProof.EqKinds
import PyProof.TupleCall
import PyProof.P3Eq
import PyProof.NeData
import PySem.Challenge.RW_allfirst_k10_forms_put_in
set_option autoImplicit true
set_option relaxedAutoImplicit true
set_option Elab.async false
set_option linter.all false
set_option maxRecDepth 100000
set_option bootstrap.genMatcherCode false
set_option compiler.extract_closed false
set_option genSizeOf false
noncomputable section
local macro_rules | `(tactic| omega) => `(tactic| lia)
theorem zau (_:True=True:=by rfl):True:=trivial
theorem zav (_:True:=by decide):True:=trivial
theorem zaw (_:Nat->True=True:=by intro _;rfl):True:=trivial
theorem wG {p0 p1:Prop}{P:Prop}(h:p0/\p1)(k:p0->p1->P):P:=by
 obtain ⟨h0,h1⟩:=h;exact k h0 h1
theorem xF {p0 p1 p2:Prop}{P:Prop}(h:p0/\p1/\p2)(k:p0->p1->p2->P):P:=by
 obtain ⟨h0,h1,h2⟩:=h;exact k h0 h1 h2
theorem pR {p0 p1 p2 p3:Prop}{P:Prop}(h:p0/\p1/\p2/\p3)(k:p0->p1->p2->p3->P):P:=by
 obtain ⟨h0,h1,h2,h3⟩:=h;exact k h0 h1 h2 h3
theorem xk {p0 p1 p2 p3 p4:Prop}{P:Prop}(h:p0/\p1/\p2/\p3/\p4)(k:p0->p1->p2->p3->p4->P):P:=by
 obtain ⟨h0,h1,h2,h3,h4⟩:=h;exact k h0 h1 h2 h3 h4
theorem zc1a.{u0}{α0:Sort u0}{p0:α0->Prop}{P:Prop}(h:∃ a0,p0 a0)(k:∀ a0,p0 a0->P):P:=by
 obtain ⟨a0,h0⟩:=h;exact k a0 h0
theorem zc1b.{u0}{α0:Sort u0}{p0 p1:α0->Prop}{P:Prop}(h:∃ a0,p0 a0/\p1 a0)(k:∀ a0,p0 a0->p1 a0->P):P:=by
 obtain ⟨a0,h0,h1⟩:=h;exact k a0 h0 h1
theorem zc1c.{u0}{α0:Sort u0}{p0 p1 p2:α0->Prop}{P:Prop}(h:∃ a0,p0 a0/\p1 a0/\p2 a0)(k:∀ a0,p0 a0->p1 a0->p2 a0->P):P:=by
 obtain ⟨a0,h0,h1,h2⟩:=h;exact k a0 h0 h1 h2
theorem zc1d.{u0}{α0:Sort u0}{p0 p1 p2 p3:α0->Prop}{P:Prop}(h:∃ a0,p0 a0/\p1 a0/\p2 a0/\p3 a0)(k:∀ a0,p0 a0->p1 a0->p2 a0->p3 a0->P):P:=by
 obtain ⟨a0,h0,h1,h2,h3⟩:=h;exact k a0 h0 h1 h2 h3
theorem zc1e.{u0}{α0:Sort u0}{p0 p1 p2 p3 p4:α0->Prop}{P:Prop}(h:∃ a0,p0 a0/\p1 a0/\p2 a0/\p3 a0/\p4 a0)(k:∀ a0,p0 a0->p1 a0->p2 a0->p3 a0->p4 a0->P):P:=by
 obtain ⟨a0,h0,h1,h2,h3,h4⟩:=h;exact k a0 h0 h1 h2 h3 h4
theorem zc2a.{u0,u1}{α0:Sort u0}{α1:Sort u1}{p0:α0 -> α1->Prop}{P:Prop}(h:∃ a0 a1,p0 a0 a1)(k:∀ a0 a1,p0 a0 a1->P):P:=by
 obtain ⟨a0,a1,h0⟩:=h;exact k a0 a1 h0
theorem zc2b.{u0,u1}{α0:Sort u0}{α1:Sort u1}{p0 p1:α0 -> α1->Prop}{P:Prop}(h:∃ a0 a1,p0 a0 a1/\p1 a0 a1)(k:∀ a0 a1,p0 a0 a1->p1 a0 a1->P):P:=by
 obtain ⟨a0,a1,h0,h1⟩:=h;exact k a0 a1 h0 h1
theorem zc2c.{u0,u1}{α0:Sort u0}{α1:Sort u1}{p0 p1 p2:α0 -> α1->Prop}{P:Prop}(h:∃ a0 a1,p0 a0 a1/\p1 a0 a1/\p2 a0 a1)(k:∀ a0 a1,p0 a0 a1->p1 a0 a1->p2 a0 a1->P):P:=by
 obtain ⟨a0,a1,h0,h1,h2⟩:=h;exact k a0 a1 h0 h1 h2
theorem zc2d.{u0,u1}{α0:Sort u0}{α1:Sort u1}{p0 p1 p2 p3:α0 -> α1->Prop}{P:Prop}(h:∃ a0 a1,p0 a0 a1/\p1 a0 a1/\p2 a0 a1/\p3 a0 a1)(k:∀ a0 a1,p0 a0 a1->p1 a0 a1->p2 a0 a1->p3 a0 a1->P):P:=by
 obtain ⟨a0,a1,h0,h1,h2,h3⟩:=h;exact k a0 a1 h0 h1 h2 h3
theorem zc3a.{u0,u1,u2}{α0:Sort u0}{α1:Sort u1}{α2:Sort u2}{p0:α0 -> α1 -> α2->Prop}{P:Prop}(h:∃ a0 a1 a2,p0 a0 a1 a2)(k:∀ a0 a1 a2,p0 a0 a1 a2->P):P:=by
 obtain ⟨a0,a1,a2,h0⟩:=h;exact k a0 a1 a2 h0
theorem zc3b.{u0,u1,u2}{α0:Sort u0}{α1:Sort u1}{α2:Sort u2}{p0 p1:α0 -> α1 -> α2->Prop}{P:Prop}(h:∃ a0 a1 a2,p0 a0 a1 a2/\p1 a0 a1 a2)(k:∀ a0 a1 a2,p0 a0 a1 a2->p1 a0 a1 a2->P):P:=by
 obtain ⟨a0,a1,a2,h0,h1⟩:=h;exact k a0 a1 a2 h0 h1
theorem zc3c.{u0,u1,u2}{α0:Sort u0}{α1:Sort u1}{α2:Sort u2}{p0 p1 p2:α0 -> α1 -> α2->Prop}{P:Prop}(h:∃ a0 a1 a2,p0 a0 a1 a2/\p1 a0 a1 a2/\p2 a0 a1 a2)(k:∀ a0 a1 a2,p0 a0 a1 a2->p1 a0 a1 a2->p2 a0 a1 a2->P):P:=by
 obtain ⟨a0,a1,a2,h0,h1,h2⟩:=h;exact k a0 a1 a2 h0 h1 h2
theorem zc4a.{u0,u1,u2,u3}{α0:Sort u0}{α1:Sort u1}{α2:Sort u2}{α3:Sort u3}{p0:α0 -> α1 -> α2 -> α3->Prop}{P:Prop}(h:∃ a0 a1 a2 a3,p0 a0 a1 a2 a3)(k:∀ a0 a1 a2 a3,p0 a0 a1 a2 a3->P):P:=by
 obtain ⟨a0,a1,a2,a3,h0⟩:=h;exact k a0 a1 a2 a3 h0
open PySem PySem.Spec PyProof.Rows
theorem Zqi.{u} {α:Type u}{a b:α}(h:some a=some b):a=b:=Option.some.inj h
theorem Zqg.{u} {α:Type u}{l:List α}{i:Nat}(h:i<l.length):l[i]? = some l[i]:=List.getElem?_eq_getElem h
theorem Zqs.{u} {α:Type u}{a:α}{l:List α}:a∈a::l:=List.mem_cons_self
theorem Zqm.{u} {α:Type u}(y:α){a:α}{l:List α}(h:a∈l):a∈y::l:=List.mem_cons_of_mem y h
theorem Zql.{u,v} {α:Type u}{β:Type v}{l:List α}(f:α->β):(l.map f).length=l.length:=List.length_map f
abbrev Za:=@wpAny_bind
abbrev Zb:=@wpAny_pure
abbrev Zc:=@wpAny_mono
abbrev Zd:=@if_pos
abbrev Ze:=@if_neg
abbrev Zf:=@Nat.le_refl
abbrev Zg:=@Nat.lt_of_lt_of_le
abbrev Zh:=@Nat.le_trans
abbrev Zi:=@Nat.ne_of_lt
abbrev Zj:=@Bool.false_ne_true
abbrev Zk:=@Heap.lt_size
abbrev Zl:=@List.map_cons
abbrev Zm:=@List.size_toArray
abbrev Zn:=@absurd
abbrev Zo:=@decide_eq_false
abbrev Zp:=@decide_eq_true
abbrev Zq:=@Heap.get?_push_of_some
abbrev Zr:=@Heap.get?_push_size
abbrev Zs:=@iff_of_false
abbrev Zt:=@congrArg
abbrev Zu:=@List.length_cons
abbrev Zv:=@List.getElem?_map
abbrev Zw:=@List.map_map
abbrev Zx:=@Nat.lt_irrefl
abbrev Zy:=@Nat.le_of_lt
abbrev Zz:=@List.append_nil
abbrev ZA:=@List.length_range
abbrev ZB:=@List.length_nil
abbrev ZC:=@List.length_append
abbrev ZD:=@List.mem_cons
abbrev ZE:=@List.mem_map
abbrev ZF:=@List.mem_singleton
abbrev ZG:=@List.getD_eq_getElem?_getD
abbrev ZH:=@List.getElem?_eq_some_iff
abbrev ZI:=@Array.getElem?_eq_getElem
abbrev ZJ:=@List.append_assoc
abbrev ZK:=@List.mem_append_right
abbrev ZL:=@List.mem_append
abbrev ZM:=@Array.length_toList
abbrev ZN:=@List.mem_filter
abbrev ZO:=@Bool.false_eq_true
abbrev ZP:=@List.mem_of_getElem?
abbrev ZQ:=@Bool.and_eq_true
abbrev ZR:=@List.map_append
abbrev ZS:=@List.length_eq_zero_iff
abbrev ZT:=@List.length_singleton
abbrev ZU:=@List.drop_eq_getElem_cons
abbrev ZV:=@List.length_take
abbrev ZW:=@List.map_eq_nil_iff
abbrev ZX:=@Nat.le_add_right
abbrev ZY:=@List.mem_append_left
abbrev ZZ:=@List.pairwise_iff_getElem
abbrev Z0:=@Array.size_map
abbrev Z1:=@Array.getD_eq_getD_getElem?
abbrev Z2:=@List.filterMap_cons
abbrev Z3:=@Option.map_eq_some_iff
abbrev Z4:=@List.take_of_length_le
abbrev Z5:=@List.pairwise_cons
abbrev Z6:=@List.getElem_mem
abbrev Z7:=@Nat.lt_succ_of_lt
abbrev Z8:=@Nat.le_of_succ_le
abbrev Z9:=@Nat.le_of_lt_succ
abbrev Xa:=@Nat.not_lt_zero
abbrev Xb:=@List.any_eq_true
abbrev Xc:=@List.mem_range
abbrev Xd:=@List.pairwise_append
abbrev Xe:=@List.take_append_drop
abbrev Xf:=@List.getElem_of_mem
abbrev Xg:=@List.foldl_cons
abbrev Xh:=@List.getElem?_append_right
abbrev Xi:=@Nat.lt_succ_self
abbrev Xj:=@List.getElem?_set_self
abbrev Xk:=@List.all_eq_true
abbrev Xl:=@Nat.lt_trans
abbrev Xm:=@Nat.lt_trichotomy
abbrev Xn:=@Array.getElem?_map
abbrev Xo:=@Nat.lt_of_le_of_ne
abbrev Xp:=@Array.getElem?_eq_none
abbrev Xq:=@List.getElem?_append_left
abbrev Xr:=@Nat.lt_of_succ_lt
abbrev Xs:=@List.foldl_append
abbrev Xt:=@Bool.eq_iff_iff
abbrev Xu:=@List.pairwise_singleton
abbrev Xv:=@List.mem_of_mem_take
abbrev Xw:=@List.all_cons
abbrev Xx:=@List.map_nil
abbrev Xy:=@List.drop_eq_nil_of_le
abbrev Xz:=@Bool.eq_false_iff
abbrev XA:=@Array.getElem?_eq_some_iff
abbrev XB:=@List.pairwise_map
abbrev XC:=@List.length_pos_iff
abbrev XD:=@List.map_congr_left
abbrev XE:=@List.length_set
abbrev XF:=@Nat.lt_of_add_lt_add_left
abbrev XG:=@Array.getElem?_toList
abbrev XH:=@List.length_filter_le
abbrev XI:=@List.mem_filterMap
abbrev XJ:=@List.zip_cons_cons
abbrev XL:=@Nat.lt_of_le_of_lt
abbrev XM:=@List.drop_length
abbrev XN:=@List.take_length
abbrev XO:=@Nat.le_of_eq
abbrev XQ:=@Array.mem_toList_iff
abbrev XR:=@Bool.and_eq_true_iff
abbrev XS:=@Nat.min_eq_left
abbrev XT:=@Bool.not_true
abbrev XU:=@Nat.lt_of_not_le
abbrev XV:=@List.getElem?_eq_none_iff
abbrev XX:=@Nat.le_succ_of_le
abbrev XY:=@Array.getElem?_range
abbrev XZ:=@List.all_map
abbrev X0:=@List.length_drop
abbrev X1:=@Nat.add_sub_cancel_left
abbrev X2:=@List.not_mem_nil
abbrev X3:=@List.filter_cons_of_pos
abbrev X4:=@List.filter_cons_of_neg
abbrev X5:=@Array.size_extract
abbrev X6:=@Bool.or_eq_true
abbrev X7:=@Nat.lt_succ_iff
abbrev X8:=List (Int×Int)
abbrev X9:=List X8
set_option maxHeartbeats 4000000
abbrev Ya:=PySem.Value->PySem.Shared->Prop
abbrev Yb:=List (PySem.Addr×PySem.Obj)
abbrev Yc:=List (Nat×Nat×Nat)
abbrev Yd:=Nat->Nat->Bool
abbrev Ye:=PySem.Str->Option PySem.Value
abbrev Yf:=List PySem.Value
abbrev Yg:=Option PySem.Value
abbrev Yh:=List Int
abbrev Yi:=Array Nat
abbrev Yj:=List Nat
abbrev Yk:=List PySem.Str
abbrev Yl:=List PySem.Addr
abbrev Ym:=List PySem.Expr
abbrev Yn:=Array PySem.Value
abbrev Yo:=@PyProof.Rows.wpS_bind
abbrev Yp:=@PyProof.Rows.wpS_pure
abbrev Yq:=@PyProof.Rows.wpS_mono
abbrev Yr:=@PyProof.Rows.wpS_forRange
abbrev Ys:=@beq_iff_eq
abbrev Yt:=@Unit.unit
abbrev Yu:=@Nat.one_pos
abbrev Yv:=@PySem.F.plainAttrs_list
abbrev Yw:=@PySem.F.slot_list_append
abbrev Yx:=@PySem.F.type_list_append
abbrev Yy:=PyProof.Rows.SortSt->Prop
abbrev Yz:=PySem.Shared->Prop
abbrev YA:=PySem.SetTable
section
local macro_rules | `(tactic| trivial) => `(tactic| first|exact .inl rfl|exact .inr rfl|assumption)
local macro_rules | `(()) => `(by omega)
local macro_rules | `(tactic| omega) => `(tactic| first|(with_reducible first|assumption|exact Nat.le_trans ‹_› ‹_›|exact Nat.lt_of_lt_of_le ‹_› ‹_›|exact Nat.lt_of_le_of_lt ‹_› ‹_›|exact Nat.le_of_lt ‹_›|exact Nat.le_succ_of_le ‹_›|exact Nat.sub_one_lt_of_lt ‹_›|exact Nat.le_of_not_lt ‹_›|exact Nat.lt_trans ‹_› ‹_›)|lia)
namespace L2
abbrev Key:=Sum Int Str
noncomputable def mj:Key->Value->Bool
 | .inl k,v=>Value.isInt k v
 | .inr x,v=>Value.isStrOf x v
noncomputable def keyH (w:World):Key->Int
 | .inl k=>hashInt k
 | .inr x=>hashStr w x
def zX:∀{k:Key} {v:Value},mj k v=true->(∃i t,k=Sum.inl i/\v=Value.int i t)\/(∃x t,k=Sum.inr x/\v=Value.str x t)
 | .inl i,v,h=>by
  obtain⟨t,e⟩:=Value.isInt_shape (k:=i) (v:=v) h;exact .inl ⟨i,t,rfl,e⟩
 | .inr x,v,h=>by
  obtain⟨t,e⟩:=Value.isStrOf_shape (x:=x) (v:=v) h;exact .inr ⟨x,t,rfl,e⟩
def o8 (i:Int)(t:Tok):mj (.inl i) (.int i t)=true:=by simp[mj,Value.isInt]
def keyIs_str (x:Str)(t:Tok):mj (.inr x) (.str x t)=true:=by simp[mj,Value.isStrOf]
def key_ll (a b:Int):decide ((Sum.inl a:Key)=Sum.inl b)=(a == b):=by
 by_cases e:a=b
 .subst e;simp -iota
 .have h:¬(Sum.inl a:Key)=Sum.inl b:=λq=>e (Sum.inl.inj q);rw[Zo h];exact(beq_eq_false_iff_ne.mpr e).symm
def key_rr (a b:Str):decide ((Sum.inr a:Key)=Sum.inr b)=decide (a=b):=by
 by_cases e:a=b
 .subst e;simp -iota
 .have h:¬(Sum.inr a:Key)=Sum.inr b:=λq=>e (Sum.inr.inj q);rw[Zo h,Zo e]
def key_lr (a:Int)(b:Str):decide ((Sum.inl a:Key)=Sum.inr b)=false:=Zo (λq=>nomatch q)
def key_rl (a:Str)(b:Int):decide ((Sum.inr a:Key)=Sum.inl b)=false:=Zo (λq=>nomatch q)
def yb (prog:Program)(w:World):PySem.KeyKind prog w Key where
 is:=mj
 hash:=keyH w
 inj:=λv a b ha hb=>by
  rcases zX ha with ⟨i,t,rfl,rfl⟩|⟨x,t,rfl,rfl⟩
  .rcases zX hb with ⟨j,u,rfl,e⟩|⟨y,u,rfl,e⟩
   .injection e with e1 _;rw[e1]
   .exact nomatch e
  .rcases zX hb with ⟨j,u,rfl,e⟩|⟨y,u,rfl,e⟩
   .exact nomatch e
   .injection e with e1 _;rw[e1]
 byValue:=λk v h=>by
  rcases zX h with ⟨i,t,rfl,rfl⟩|⟨x,t,rfl,rfl⟩<;>rfl
 pyHash:=λhv h=>by
  rcases zX hv with ⟨i,t,rfl,rfl⟩|⟨x,t,rfl,rfl⟩
  .exact wpAny_pyHash_int h
  .exact wpAny_pyHash_str h
 eqBool:=λhu hv h=>by
  rcases zX hu with ⟨i,t,rfl,rfl⟩|⟨x,t,rfl,rfl⟩
  .rcases zX hv with ⟨j,u,rfl,rfl⟩|⟨y,u,rfl,rfl⟩
   .rw[key_ll] at h;exact wpAny_eqBool_int h
   .rw[key_lr] at h;exact SeqAt.EqAt.int_str i t y u _ _ _ _ h
  .rcases zX hv with ⟨j,u,rfl,rfl⟩|⟨y,u,rfl,rfl⟩
   .rw[key_rl] at h;exact SeqAt.EqAt.str_int x t j u _ _ _ _ h
   .rw[key_rr] at h;exact wpAny_eqBool_str h
 «strs»:=λk x t v h=>by
  rcases zX h with ⟨i,u,rfl,e⟩|⟨y,u,rfl,e⟩
  .exact nomatch e
  .injection e with e1 _
   subst e1;cases v<;>rfl
def mixKind_int (prog:Program)(w:World)(i:Int)(t:Tok):(yb prog w).is (.inl i) (.int i t)=true:=o8 i t
def mixKind_str (prog:Program)(w:World)(x:Str)(t:Tok):(yb prog w).is (.inr x) (.str x t)=true:=keyIs_str x t
inductive V where
 |non|bl (b:Bool)|int (i:Int)|str (x:Str)|byt (b:Array UInt8)|flt (b:UInt64)|ref (a:Addr)|ty (n:String)
 deriving DecidableEq
abbrev _root_.YB:=List V
abbrev _root_.YC:=Option V
noncomputable def yw:V->Value->Prop
 | .non,u=>u=Value.none
 | .bl b,u=>u=Value.bool b
 | .int i,u=>∃t,u=Value.int i t
 | .str x,u=>∃t,u=Value.str x t
 | .byt b,u=>∃t,u=Value.bytes b t
 | .flt b,u=>∃t,u=Value.float b t
 | .ref a,u=>u=Value.ref a
 | .ty n,u=>u=Value.type n
abbrev yi:YB->List Value->Prop:=Paired yw
theorem yi.length {xs:YB}{us:Yf}(r:yi xs us):xs.length=us.length:=Paired.length r
theorem yi.get:∀{xs:YB} {us:Yf} {i:Nat} {x:V},yi xs us->xs[i]? = some x->∃u,us[i]? = some u/\yw x u
 |_,_,_,_,.nil,e=>by simp -iota at e
 |_,_,0,_,.cons r _,e=>by simp -iota at e;subst e;exact⟨_,rfl,r⟩
 |_,_,i+1,x,.cons _ t,e=>by
  refine zc1b (yi.get (i:=i) (x:=x) t (by simpa -iota using e)) λu h1 h2=>?_;exact⟨u,by simpa -iota using h1,h2⟩
theorem yi.set {x:V}{u:Value}(r:yw x u):∀{xs:YB} {us:Yf} (i:Nat),yi xs us->yi (xs.set i x) (us.set i u)
 |_,_,_,.nil=>.nil
 |_,_,0,.cons _ t=>.cons r t
 |_,_,i+1,.cons q t=>.cons q (yi.set r i t)
def yi.append:∀{xs ys:YB} {us ws:Yf},yi xs us->yi ys ws->yi (xs++ys) (us++ws):=λh s=>by
 induction h with
 |nil=>exact s
 |cons r _ ih=>exact .cons r ih
theorem yi.take:∀{xs:YB} {us:Yf} (n:Nat),yi xs us->yi (xs.take n) (us.take n)
 |_,_,0,_=>.nil
 |_,_,_+1,.nil=>.nil
 |_,_,n+1,.cons r t=>.cons r (yi.take n t)
theorem yi.drop:∀{xs:YB} {us:Yf} (n:Nat),yi xs us->yi (xs.drop n) (us.drop n)
 |_,_,0,r=>r
 |_,_,_+1,.nil=>.nil
 |_,_,n+1,.cons _ t=>yi.drop n t
def yi.none_of:∀{xs:YB} {us:Yf} {i:Nat},yi xs us->xs[i]? = none->us[i]? = none:=λ{xs us i} r e=>by
 have h1:=r.length;have h2:xs.length<=i:=XV.mp e;exact XV.mpr ()
def kD:YC->Option Value->Prop
 |some v,some u=>yw v u
 |none,none=>True
 |_,_=>False
def KV {κ: Type}:List (κ × V)->List (κ × Value)->Prop:=Paired λ(p:κ × V) (q:κ × Value)=>p.1=q.1/\yw p.2 q.2
noncomputable def kV:Key->V
 | .inl i=>.int i
 | .inr x=>.str x
set_option genInjectivity false in
inductive HO where
 |lst (xs:YB)
 |tup (xs:YB)
 |dK (kvs:List (Key×V))|dT (kvs:List (List Key×V))
 |set (S:Int->Bool) (n:Nat)
 |ins (C dx:Addr) (fs:List (Str×V))
 |own (x:Addr)
 |xd (fs:List (Str×V))
 |met (f x:Addr)
 |rng (lo hi:Int)
 |frz (o:Obj) (u:HO)
 |tbl (ps:Yn)
 |ext (φ: Heap->Prop)
abbrev Hp:=Addr->Option HO
noncomputable def upd (H:Hp)(a:Addr)(o:HO):Hp:=λb=>if b=a then some o else H b
def zv {H:Hp}{a:Addr}{o:HO}:upd H a o a=some o:=by unfold upd;rw[Zd rfl]
def zC {H:Hp}{a b:Addr}{o:HO}(h:b≠a):upd H a o b=H b:=by unfold upd;rw[Ze h]
def ne_of {H:Hp}{a b:Addr}{o u:HO}(h:H a=some o)(h':H b=some u)(d:o≠u):a≠b:=by
 intro e;subst e;rw[h] at h';exact d (Zqi h')
def xa {H:Hp}{a b:Addr}{o:HO}(h:H a=some o)(h':H b=none):a≠b:=by
 intro e;subst e;rw[h] at h';cases h'
section
variable (P:Program)(w:World)
def yr (H:Hp)(h:Heap)(a:Addr):HO->Prop
 | .lst xs=>xs.length<=sizeLine/\∃(its:Yf) (n:Nat),yi xs its/\h.get? a=some { cls:=.type "list",data:=.seq its.toArray n }
 | .tup xs=>(xs.length<=sizeLine/\∃o,h.get? a=some o/\o.dict=none)/\∃its:Yf,yi xs its/\IsTup h a its.toArray
 | .dK kvs=>kvs.length<=sizeLine/\(a == sysModules)=false/\∃vs,KV kvs vs/\h.DictOf (yb P w) a vs
 | .dT kvs=>kvs.length<=sizeLine/\(a == sysModules)=false/\∃xs:List (List Key×Addr×Value),
  Paired (λ(p:List Key×V) (q:List Key×Addr×Value)=>p.1=q.1/\H q.2.1=some (.tup (p.1.map kV))/\yw p.2 q.2.2) kvs xs /\
  ∃o es ep,h.get? a=some o/\o.ExactDict/\o.data=.dict es ep/\es.toList=xs.map (entryOfKey (tupleKind (yb P w)))/\(xs.map (·.1)).Nodup
 | .set S n=>h.SetOf (intKind P w) a S n
 | .ins C dx fs=>H dx=some (.own a)/\fs.length<=1000/\dx≠a/\h.get? a=some (W.instObj C dx) /\
  ∃mA,h.Ns1 dx mA/\(∀f,kD (fs.lookup f) (mA f))/\PySem.Within mA (fs.map (·.1))
 | .own _=>∃o,h.get? a=some o
 | .xd fs=>∃mA,h.Ns1 a mA/\∀f,kD (fs.lookup f) (mA f)
 | .rng lo hi=>∃t u v,h.get? a=some { cls:=.type "range",data:=.fields #[.int lo t,.int hi u,.int 1 v] }
 | .frz o u=>h.get? a=some o/\yr H h a u
 | .tbl ps=>h.get? a=some { cls:=.none,data:=.fields ps }
 | .met f x=>h.get? a=some (W.methodObj (.ref f) (.ref x))
 | .ext φ => φ h/\(∃o,h.get? a=some o)/\∀h1 h2:Heap,φ h1->(∀o,h1.get? a=some o->h2.get? a=some o) -> φ h2
def HOk (H:Hp)(h:Heap):Prop:=∀a o,H a=some o->yr P w H h a o
end
section
variable {P:Program}{w:World}{H H':Hp}{h h':Heap}{a:Addr}{o:HO}
theorem yr.lt (x:yr P w H h a o):a<h.objs.size:=by
 cases o with
 |lst xs=>obtain⟨_,_,_,_,e⟩:=x;exact Zk e
 |tup xs=>obtain⟨_,_,_,p⟩:=x;exact p.lt
 |dK kvs=>obtain⟨_,_,_,_,o,_,_,e,_⟩:=x;exact Zk e
 |dT kvs=>obtain⟨_,_,_,_,o,_,_,e,_⟩:=x;exact Zk e
 |set S n=>obtain⟨o,_,_,_,e,_⟩:=x;exact Zk e
 |ins C dx fs=>obtain⟨_,_,_,e,_⟩:=x;exact Zk e
 |own y=>obtain⟨_,e⟩:=x;exact Zk e
 |xd fs=>obtain⟨_,⟨_,_,_,e,_⟩,_⟩:=x;exact Zk e
 |rng lo hi=>obtain⟨_,_,_,e⟩:=x;exact Zk e
 |frz ob u=>obtain⟨e,_⟩:=x;exact Zk e
 |tbl ps=>exact Zk (show h.get? a=some _ from x)
 |met f y=>exact Zk (show h.get? a=some _ from x)
 |ext φ => obtain⟨_,⟨_,e⟩,_⟩:=x;exact Zk e
def Paired.mapP {α β: Type}{F G:α -> β -> Prop}:∀{l₁:List α} {l₂:List β},Paired F l₁ l₂->(∀a b,F a b->G a b)->Paired G l₁ l₂:=λh f=>by
 induction h with
 |nil=>exact .nil
 |cons r _ ih=>exact .cons (f _ _ r) ih
def yr.stay (x:yr P w H h a o)(k:∀b u,(b=a\/H b=some (.own a))->h.get? b=some u->h'.get? b=some u)
 (ho:∀b,H b=some (.own a)->H' b=some (.own a)) (ht:∀b xs,H b=some (.tup xs)->H' b=some (.tup xs)):yr P w H' h' a o:=by
 induction o with
 |lst xs=>obtain⟨z,its,n,r,e⟩:=x;exact⟨z,its,n,r,k _ _ (.inl rfl) e⟩
 |tup xs=>obtain⟨⟨z,od,ed,dd⟩,its,r,ob,e,c⟩:=x;exact⟨⟨z,od,k _ _ (.inl rfl) ed,dd⟩,its,r,ob,k _ _ (.inl rfl) e,c⟩
 |dK kvs=>obtain⟨z,y,vs,r,ob,es,ep,e,c⟩:=x;exact⟨z,y,vs,r,ob,es,ep,k _ _ (.inl rfl) e,c⟩
 |dT kvs =>
  refine xF x λz y zz=>zc1b zz λxs r zz=>zc3b zz λob es ep e c=>?_;exact⟨z,y,xs,Paired.mapP r λp q z=>⟨z.1,ht _ _ z.2.1,z.2.2⟩,ob,es,ep,k _ _ (.inl rfl) e,c⟩
 |set S n=>obtain⟨ob,es,ep,t,e,c⟩:=x;exact⟨ob,es,ep,t,k _ _ (.inl rfl) e,c⟩
 |ins C dx fs =>
  refine xk x λd z ne e zz=>zc1b zz λmA zr5 r=>?_;obtain⟨od,es,ep,e2,c⟩:=zr5;exact⟨ho _ d,z,ne,k _ _ (.inl rfl) e,mA,⟨od,es,ep,k _ _ (.inr d) e2,c⟩,r⟩
 |own y=>obtain⟨ob,e⟩:=x;exact⟨ob,k _ _ (.inl rfl) e⟩
 |xd fs=>obtain⟨mA,⟨od,es,ep,e,c⟩,r⟩:=x;exact⟨mA,⟨od,es,ep,k _ _ (.inl rfl) e,c⟩,r⟩
 |rng lo hi=>obtain⟨t,u,v,e⟩:=x;exact⟨t,u,v,k _ _ (.inl rfl) e⟩
 |frz ob u ih=>obtain⟨e,q⟩:=x;exact⟨k _ _ (.inl rfl) e,ih q⟩
 |tbl ps =>
  have e:h.get? a=some { cls:=.none,data:=.fields ps }:=x;show h'.get? a=some { cls:=.none,data:=.fields ps };exact k a _ (.inl rfl) e
 |met f y =>
  have e:h.get? a=some (W.methodObj (.ref f) (.ref y)):=x;show h'.get? a=some (W.methodObj (.ref f) (.ref y));exact k a _ (.inl rfl) e
 |ext φ => obtain⟨p,⟨o,e⟩,st⟩:=x;exact⟨st _ _ p λo q=>k _ _ (.inl rfl) q,⟨o,k _ _ (.inl rfl) e⟩,st⟩
theorem HOk.lt (x:HOk P w H h)(e:H a=some o):a<h.objs.size:=(x a o e).lt
def HOk.fresh (x:HOk P w H h)(e:h.objs.size<=a):H a=none:=by
 cases q:H a with
 |none=>rfl
 |some u=>exact Zn (Zg (x.lt q) e) (Zx _)
def HOk.kept (x:HOk P w H h)(k:∀b u,h.get? b=some u->h'.get? b=some u):HOk P w H h':=λa o e =>
 (x a o e).stay (λb u _ q=>k b u q) (λ_ q=>q) λ_ _ q=>q
def HOk.laid (x:HOk P w H h)(k:∀b u,h.get? b=some u->h'.get? b=some u)(hp:h.objs.size<=a)(new:yr P w (upd H a o) h' a o):HOk P w (upd H a o) h':=λb u e=>by
 have hn:=x.fresh hp;by_cases hb:b=a
 .subst hb;rw[zv] at e;cases e;exact new
 .rw[zC hb] at e;exact(x b u e).stay (λc v _ q=>k c v q) (λc q=>by rw[zC (xa q hn)];exact q) λc xs q=>by rw[zC (xa q hn)];exact q
end
noncomputable def Rd (H:Hp)(a:Addr)(u:HO):Prop:=H a=some u\/∃o,H a=some (.frz o u)
def Rd.ok {P:Program}{w:World}{H:Hp}{h:Heap}{a:Addr}{u:HO}(r:Rd H a u)(x:HOk P w H h):yr P w H h a u:=by
 rcases r with r|⟨o,r⟩
 .exact x a u r
 .obtain⟨_,q⟩:=x a _ r;exact q
noncomputable def Mut:Option HO->Prop
 |some (.lst _)=>True
 |some (.dK _)=>True
 |some (.dT _)=>True
 |some (.set _ _)=>True
 |some (.ins _ _ _)=>True
 |some (.ext _)=>True
 |_=>False
section
variable {P:Program}{w:World}{H:Hp}{h h':Heap}{x e:Addr}{o':HO}
def HOk.write (ok:HOk P w H h)(mu:Mut (H x))(he:e=x\/H e=some (.own x))(k:∀b u,b≠e->h.get? b=some u->h'.get? b=some u)(heo:∃u,h'.get? e=some u)
 (new:yr P w (upd H x o') h' x o'):HOk P w (upd H x o') h':=λb u q=>by
 have nown:∀c y,H c=some (.own y)->c≠x:=λc y r z=>by subst z;rw[r] at mu;exact mu
 have ntup:∀c xs,H c=some (.tup xs)->c≠x:=λc xs r z=>by subst z;rw[r] at mu;exact mu
 by_cases hb:b=x
 .subst hb;rw[zv] at q;cases q;exact new
 .rw[zC hb] at q;by_cases hbe:b=e
  .have q':H b=some (.own x):=by
    rcases he with z|z
    .exact Zn (hbe.trans z) hb
    .rw[hbe];exact z
   rw[q] at q';cases q';obtain⟨v,hv⟩:=heo;exact⟨v,by rw[hbe];exact hv⟩
  .refine(ok b u q).stay (λc v hc r=>k c v ?_ r) (λc r=>by rw[zC (nown c b r)];exact r) λc xs r=>by rw[zC (ntup c xs r)];exact r
   rcases hc with rfl|hc
   .exact hbe
   .rintro rfl;rcases he with z|z
    .exact nown c b hc z
    .rw[hc] at z;cases z;exact hb rfl
end
structure Un (fs ex:Yl)(H H':Hp)(h h':Heap):Prop where
 keep:∀b o,h.get? b=some o->H b=none->b∉fs->b∉ex->h'.get? b=some o
 slot:∀b o,h.get? b=some o->H b=none->b∈fs->b∉ex->∃sl,h'.get? b=some { o with slots:=sl }
 free:∀b o,h.get? b=some o->H b=none->b∉ex->H' b=none
 there:∀b o,h.get? b=some o->b∉ex->∃o',h'.get? b=some o'
 tups:∀b xs,H b=some (.tup xs)->H' b=some (.tup xs)
 frzs:∀b o u,H b=some (.frz o u)->H' b=some (.frz o u)
 tbls:∀b ps,H b=some (.tbl ps)->∃more,H' b=some (.tbl (ps++more))
section
variable {fs fs' ex ex':Yl}{H H1 H2:Hp}{h h1 h2 h':Heap}{a x e:Addr}{o:HO}
def Un.any (u:Un fs ex H H1 h h1){b:Addr}{ob:Obj}(q:h.get? b=some ob)(n:H b=none)(hx:b∉ex):∃sl,h1.get? b=some { ob with slots:=sl }:=by
 by_cases hb:b∈fs
 .exact u.slot b ob q n hb hx
 .exact⟨ob.slots,u.keep b ob q n hb hx⟩
def Un.kept (k:∀b u,h.get? b=some u->h'.get? b=some u):Un fs ex H H h h':=
 ⟨λb ob q _ _ _=>k b ob q,λb ob q _ _ _=>⟨ob.slots,k b ob q⟩,λ_ _ _ n _=>n,λb ob q _=>⟨ob,k b ob q⟩,λ_ _ q=>q,λ_ _ _ q=>q,λ_ ps q=>⟨#[],by rw[q];simp -iota⟩⟩
def Un.refl:Un fs ex H H h h:=Un.kept λ_ _ q=>q
def Un.laid (k:∀b u,h.get? b=some u->h'.get? b=some u)(hp:h.objs.size<=a)(hn:H a=none):Un fs ex H (upd H a o) h h' where
 keep:=λb u q _ _ _=>k b u q
 slot:=λb u q _ _ _=>⟨u.slots,k b u q⟩
 free:=λb u q n _=>by rw[zC (Zi (Zg (Zk q) hp))];exact n
 there:=λb u q _=>⟨u,k b u q⟩
 tups:=λb xs q=>by rw[zC (xa q hn)];exact q
 frzs:=λb u xs q=>by rw[zC (xa q hn)];exact q
 tbls:=λb ps q=>⟨#[],by rw[zC (xa q hn),q];simp -iota⟩
def Un.write (mu:Mut (H x))(he:e=x\/H e=some (.own x))(k:∀b u,b≠e->h.get? b=some u->h'.get? b=some u)(heo:∃u,h'.get? e=some u):Un fs ex H (upd H x o) h h':=by
 have hx:∀b,H b=none->b≠x:=λb n z=>by subst z;rw[n] at mu;exact mu
 have hb:∀b,H b=none->b≠e:=λb n z=>by
  subst z;rcases he with r|r
  .exact hx b n r
  .rw[n] at r;cases r
 have hm:∀b u,H b=some u->¬Mut (some u)->b≠x:=λb u q nm z=>by subst z;rw[q] at mu;exact nm mu
 refine⟨λb u q n _ _=>k b u (hb b n) q,λb u q n _ _=>⟨u.slots,k b u (hb b n) q⟩,λb u q n _=>by rw[zC (hx b n)];exact n,λb u q _=>?_,
  λb xs q=>by rw[zC (hm b _ q λz=>z)];exact q,λb u xs q=>by rw[zC (hm b _ q λz=>z)];exact q,λb ps q=>⟨#[],by rw[zC (hm b _ q λz=>z),q];simp -iota⟩⟩
 by_cases hbe:b=e
 .subst hbe;exact heo
 .exact⟨u,k b u hbe q⟩
end
noncomputable def trk (h:Heap)(H:Hp):Yl:=(List.range h.objs.size).filter λa=>(H a).isSome
def gH (h:Heap)(H:Hp):Heap:=W.hideAll h (trk h H)
def hidT_size (h:Heap)(H:Hp):(gH h H).objs.size=h.objs.size:=W.hideAll_size _ _
def hidT_get {h:Heap}{H:Hp}{b:Addr}{o:Obj}(e:h.get? b=some o)(n:H b=none):(gH h H).get? b=some o:=
 W.hideAll_get _ e λhm=>by
  have q:(H b).isSome=true:=(ZN.mp hm).2;rw[n] at q;simp -iota at q
def of_hidT {h:Heap}{H:Hp}{b:Addr}{o:Obj}(e:(gH h H).get? b=some o):h.get? b=some o/\H b=none:=by
 have e':h.get? b=some o:=W.of_hideAll (trk h H) e;refine⟨e',?_⟩;cases q:H b with
 |none=>rfl
 |some x =>
  have hm:b∈trk h H:=ZN.mpr ⟨Xc.mpr (Zk e'),by simp -iota [q]⟩;have z:(gH h H).get? b=none:=W.hideAll_none (trk h H) hm;rw[z] at e;cases e
structure Mod (K:W.Frag)(mg:Ye)(base:Heap):Prop where
 kin:K.In base
 glob:base.Ns mainGlobals mg
 blt:∃mb,base.Ns builtinsNs mb/\∀x:Str,x ≠ "__name__" -> mb x=bootBuiltins x
 nolimit:base.NoLimit
set_option genInjectivity false in
structure Cx where
 prog:Program
 w:World
 K:W.Frag
 mg:Ye
 base:Heap
 A:Around
 N:Yk
 s₀:Shared
 H₀:Hp
 env:Env
 outer:List Env
 stack:List Env
 ex:Yl
 fn:Str->Bool
 calm:Bool
 pn:Yb
 xe:Ya
abbrev _root_.YF(X:Cx){α:Type}(m:Sem α):=wpAny (model X.prog X.w) X.A m
abbrev _root_.YG(P:Program)(w:World)(A:Around){α:Type}(m:Sem α):=wpAny (model P w) A m
abbrev _root_.YH(P:Program)(w:World)(A:Around)(E:Value->Shared->Prop)(s:Shared){α:Type}(m:StateT PyProof.Rows.SortSt Sem α):=PyProof.Rows.wpS (model P w) A E s m
noncomputable def frs (l:List Env):Yl:=l.filterMap (·.frame)
abbrev Cx.fs (X:Cx):Yl:=frs X.outer
noncomputable def Vis (sc:Scope)(x:Str):Prop:=sc.names.lookup x=some .local\/sc.names.lookup x=some .cell\/sc.names.lookup x=some .free
noncomputable def Loc (sc:Scope)(x:Str):Prop:=sc.names.lookup x=some .local\/sc.names.lookup x=some .cell
noncomputable def Look (env:Env)(h:Heap)(m:Ye)(x:Str)(u:Value):Prop:=
 (env.kindOf x=some .local/\m x=some u)\/((env.kindOf x=some .cell\/env.kindOf x=some .free)/\∃c,env.cells.lookup x=some c/\h.IsCell c (some u))
structure Cx.Ok (X:Cx):Prop where
 mod:Mod X.K X.mg X.base
 kind:X.env.scope.kind=.function
 glob:X.env.globals=mainGlobals
 blt:X.env.builtins=builtinsNs
 above:X.s₀.heap.objs.size<=X.env.locals
 inj:∀x y c,X.env.cells.lookup x=some c->X.env.cells.lookup y=some c->x=y
 has:∀x,(X.env.kindOf x=some .cell\/X.env.kindOf x=some .free)->∃c,X.env.cells.lookup x=some c
 cab:∀x c,X.fn x=true->X.env.cells.lookup x=some c->X.s₀.heap.objs.size<=c
 hd:X.calm=true->X.A.handled=none
 frames:X.A.frames=some X.stack
 stk:X.stack=X.outer\/(X.stack=X.env::X.outer/\X.env.frame=some X.env.locals)
 exf:∀b∈X.ex,b≠X.env.locals/\∀x c,X.env.cells.lookup x=some c->c≠b
 bs:∀b o,X.base.get? b=some o->X.s₀.heap.get? b=some o/\X.H₀ b=none
 bsz:X.base.objs.size<=X.s₀.heap.objs.size
 noex:∀b o,X.base.get? b=some o->b∉X.ex
 exfs:∀b∈X.ex,b∉X.fs
 funs:X.s₀.heap.FunFrames X.base X.outer
 frf:∀b∈X.fs,X.H₀ b=none
structure Inv (X:Cx)(Y:Yb)(Z:List YC)(H:Hp)(s:Shared):Prop where
 ok:X.Ok
 os:s.os=X.s₀.os
 bare:AllBare s.gens
 base:Un X.fs X.ex X.H₀ H X.s₀.heap s.heap
 loc:∃m,s.heap.Ns X.env.locals m/\∀(i:Nat) (x:Str) (v:V),X.N[i]? = some x -> Z[i]? = some (some v)->Vis X.env.scope x->∃u,yw v u/\Look X.env s.heap m x u
 cell:∀x c,X.env.cells.lookup x=some c->∃v,s.heap.IsCell c v
 free:H X.env.locals=none
 freeC:∀x c,X.env.cells.lookup x=some c->H c=none
 pin:∀p∈X.pn++Y,s.heap.get? p.1=some p.2/\H p.1=none/\p.1≠X.env.locals/\p.1∉X.fs/\∀v,p.2.data ≠ .cell v
 hok:HOk X.prog X.w H s.heap
 len:Z.length=X.N.length
section
variable {X:Cx}{Y:Yb}{Z:List YC}{H H':Hp}{s:Shared}{h':Heap}
def Cx.Ok.nofr (ok:X.Ok){b:Addr}{o:Obj}(e:X.base.get? b=some o):b∉X.fs:=λhb=>by
 have:=(ok.funs.mem hb).1;rw[e] at this;cases this
theorem Inv.bs (I:Inv X Y Z H s):∀b o,X.base.get? b=some o->s.heap.get? b=some o/\H b=none:=λb o e =>
 ⟨I.base.keep b o (I.ok.bs b o e).1 (I.ok.bs b o e).2 (I.ok.nofr e) (I.ok.noex b o e),I.base.free b o (I.ok.bs b o e).1 (I.ok.bs b o e).2 (I.ok.noex b o e)⟩
def Inv.bk (I:Inv X Y Z H s):∀b o,X.base.get? b=some o->s.heap.get? b=some o:=λb o e=>(I.bs b o e).1
theorem Inv.mod (I:Inv X Y Z H s):Mod X.K X.mg X.base:=I.ok.mod
def Inv.kIn (I:Inv X Y Z H s):X.K.In s.heap:=I.ok.mod.kin.keeps I.bk
theorem Inv.lt (I:Inv X Y Z H s):X.env.locals<s.heap.objs.size:=let ⟨_,hn,_⟩:=I.loc;hn.lt
def Inv.sz (I:Inv X Y Z H s):X.s₀.heap.objs.size<=s.heap.objs.size:=Zh I.ok.above (Zy I.lt)
def Inv.nofs (I:Inv X Y Z H s){a:Addr}(h:s.heap.objs.size<=a):a∉X.fs:=λhb=>by
 refine wG (I.ok.funs.mem hb) λ_ zz=>zc1b zz λo ho _=>?_;exact Zn (Zg (Zk ho) (Zh I.sz h)) (Zx _)
def Inv.cne (I:Inv X Y Z H s):∀x c,X.env.cells.lookup x=some c->c≠X.env.locals:=λx c e z=>by
 refine zc2b (I.cell x c e) λv o ho hd=>?_;refine zc1b I.loc λm zr1 _=>?_;obtain⟨o',es,ep,ho',hd',_⟩:=zr1;rw[z,ho'] at ho;cases ho;rw[hd'] at hd;cases hd
theorem Inv.funs (I:Inv X Y Z H s):s.heap.FunFrames X.base X.outer:=by
 have all:∀(l:List Env),(∀b∈frs l,b∈X.fs)->X.s₀.heap.FunFrames X.base l->s.heap.FunFrames X.base l:=by
  intro l
  induction l with
  |nil=>intro _ _;trivial
  |cons env r ih =>
   intro hs hl;refine xF hl λhk zr1 hr=>?_;obtain⟨L,o,hf,hn,ho,hd⟩:=zr1;have hL:L∈X.fs:=hs L (by unfold frs;rw[Z2,hf];exact Zqs);obtain⟨sl,e⟩:=I.base.slot L o ho (I.ok.frf L hL) hL λz=>I.ok.exfs L z hL;exact⟨hk,⟨L,_,hf,hn,e,hd⟩,ih (λb hb=>hs b (by unfold frs;rw[Z2,hf];exact Zqm _ hb)) hr⟩
 exact all X.outer (λ_ hb=>hb) I.ok.funs
theorem Inv.stack (I:Inv X Y Z H s):s.heap.FunFrames X.base X.stack:=by
 rcases I.ok.stk with e|⟨e,hf⟩
 .rw[e];exact I.funs
 .rw[e];refine zc1b I.loc λm hn _=>?_;refine .cons (by rw[I.ok.kind];decide) hf hn ?_ I.funs;exact Heap.get?_none_of_le (Zh I.ok.bsz I.ok.above)
def Inv.stkSub (I:Inv X Y Z H s):∀b∈frs X.stack,b∈X.env.locals::X.fs:=λb hb=>by
 rcases I.ok.stk with e|⟨e,hf⟩
 .rw[e] at hb;exact Zqm _ hb
 .rw[e] at hb;unfold frs at hb;rw[Z2,hf] at hb;exact hb
def Inv.stkFree (I:Inv X Y Z H s):∀b∈frs X.stack,H b=none:=λb hb=>by
 rcases ZD.mp (I.stkSub b hb) with e|hb
 .rw[e];exact I.free
 .refine wG (I.ok.funs.mem hb) λ_ zz=>zc1b zz λo ho _=>?_;exact I.base.free b o ho (I.ok.frf b hb) λz=>I.ok.exfs b z hb
def Inv.step {g':Array GenState}{t':Nat}{d':Drawn}{ch:Yl}(I:Inv X Y Z H s)
 (hch:∀b∈ch,(b∈X.ex\/X.s₀.heap.objs.size<=b)/\b≠X.env.locals/\(∀x c,X.env.cells.lookup x=some c->c≠b)/\∀p∈X.pn++Y,p.1≠b)
 (keep:∀b o,b≠X.env.locals->b∉X.fs->b∉ch->s.heap.get? b=some o->H b=none->h'.get? b=some o)
 (slot:∀b o,b≠X.env.locals->b∈X.fs->b∉ch->s.heap.get? b=some o->H b=none->∃sl,h'.get? b=some { o with slots:=sl }) (free:∀b o,b∉ch->s.heap.get? b=some o->H b=none->H' b=none)
 (there:∀b o,b∉ch->s.heap.get? b=some o->∃o',h'.get? b=some o')
 (tups:∀b xs,H b=some (.tup xs)->H' b=some (.tup xs)) (frzs:∀b o u,H b=some (.frz o u)->H' b=some (.frz o u)) (tbls:∀b ps,H b=some (.tbl ps)->∃more,H' b=some (.tbl (ps++more)))
 (ns:∀m,s.heap.Ns X.env.locals m->h'.Ns X.env.locals m) (hok:HOk X.prog X.w H' h') (hg:AllBare g'):
 Inv X Y Z H' { s with heap:=h',gens:=g',drawn:=d',toks:=t' }:=by
 have neL:∀b o,X.s₀.heap.get? b=some o->b≠X.env.locals:=λb o e=>Zi (Zg (Zk e) I.ok.above);have neC:∀b o,X.s₀.heap.get? b=some o->b∉X.ex->b∉ch:=λb o e hx hb=>by
  rcases(hch b hb).1 with z|z
  .exact hx z
  .exact Zn (Zg (Zk e) z) (Zx _)
 have cellK:∀x c,X.env.cells.lookup x=some c->∀v,s.heap.IsCell c v->h'.IsCell c v:=λx c e v zh=>by
  refine zc1b zh λo ho hd=>?_;have nch:c∉ch:=λz=>(hch c z).2.2.1 x c e rfl;by_cases hc:c∈X.fs
  .obtain⟨sl,q⟩:=slot c o (I.cne x c e) hc nch ho (I.freeC x c e);exact⟨_,q,hd⟩
  .exact⟨o,keep c o (I.cne x c e) hc nch ho (I.freeC x c e),hd⟩
 refine⟨I.ok,I.os,hg,⟨λb o e n hb hx=>?_,λb o e n hb hx=>?_,λb o e n hx=>?_,λb o e hx=>?_,λb xs e=>tups b xs (I.base.tups b xs e),λb o xs e=>frzs b o xs (I.base.frzs b o xs e),λb ps e=>?_⟩,?_,λx c e=>?_,?_,λx c e=>?_,λp hp=>?_,hok,I.len⟩
 .exact keep b o (neL b o e) hb (neC b o e hx) (I.base.keep b o e n hb hx) (I.base.free b o e n hx)
 .obtain⟨sl,e1⟩:=I.base.slot b o e n hb hx;obtain⟨sl',e2⟩:=slot b _ (neL b o e) hb (neC b o e hx) e1 (I.base.free b o e n hx);exact⟨sl',e2⟩
 .obtain⟨o',e1⟩:=I.base.there b o e hx;exact free b o' (neC b o e hx) e1 (I.base.free b o e n hx)
 .obtain⟨o',e1⟩:=I.base.there b o e hx;exact there b o' (neC b o e hx) e1
 .obtain⟨m1,e1⟩:=I.base.tbls b ps e;obtain⟨m2,e2⟩:=tbls b _ e1;exact⟨m1++m2,by rw[e2,Array.append_assoc]⟩
 .refine zc1b I.loc λm hn hl=>?_;refine⟨m,ns m hn,λi x v e1 e2 e3=>?_⟩;refine zc1b (hl i x v e1 e2 e3) λu r l=>?_;refine⟨u,r,?_⟩;rcases l with l|⟨k,c,e,z⟩
  .exact .inl l
  .exact .inr ⟨k,c,e,cellK x c e _ z⟩
 .obtain⟨v,z⟩:=I.cell x c e;exact⟨v,cellK x c e v z⟩
 .refine zc1b I.loc λm zr1 _=>?_;obtain⟨o,_,_,ho,_⟩:=zr1;exact free _ o (λz=>(hch _ z).2.1 rfl) ho I.free
 .refine zc2b (I.cell x c e) λv o ho hd=>?_;exact free c o (λz=>(hch c z).2.2.1 x c e rfl) ho (I.freeC x c e)
 .refine xk (I.pin p hp) λe n ne nf d=>?_;have nch:p.1∉ch:=λz=>(hch p.1 z).2.2.2 p hp rfl;exact⟨keep p.1 p.2 ne nf nch e n,free p.1 p.2 nch e n,ne,nf,d⟩
def Inv.un {t':Nat}(I:Inv X Y Z H s)(u:Un X.fs [] H H' s.heap h')(hok:HOk X.prog X.w H' h'):Inv X Y Z H' { s with heap:=h',toks:=t' }:=by
 refine zc1b (id I.loc) λm zr1 _=>?_;obtain⟨o,es,ep,ho,r⟩:=zr1;obtain⟨sl,hL⟩:=u.any ho I.free (by simp -iota);exact I.step (g':=s.gens) (d':=s.drawn) (ch:=[]) (λ_ z=>nomatch z) (λb o _ hb _ e n=>u.keep b o e n hb (by simp -iota)) (λb o _ hb _ e n=>u.slot b o e n hb (by simp -iota)) (λb o _ e n=>u.free b o e n (by simp -iota)) (λb o _ e=>u.there b o e (by simp -iota)) u.tups u.frzs u.tbls (λm' hm=>by
  refine zc3b hm λo' es' ep' ho' r'=>?_;rw[ho] at ho';cases ho';exact⟨_,es',ep',hL,r'⟩) hok I.bare
def Inv.call {g':Array GenState}{t':Nat}{d':Drawn}{ch:Yl}(I:Inv X Y Z H s)(u:Un (frs X.stack) ch H H' s.heap h')(hok:HOk X.prog X.w H' h')(hg:AllBare g')
 (hch:∀b∈ch,(b∈X.ex\/X.s₀.heap.objs.size<=b)/\b≠X.env.locals/\(∀x c,X.env.cells.lookup x=some c->c≠b)/\∀p∈X.pn++Y,p.1≠b):
 Inv X Y Z H' { s with heap:=h',gens:=g',drawn:=d',toks:=t' }:=by
 refine zc1b (id I.loc) λm zr1 _=>?_;obtain⟨o,es,ep,ho,r⟩:=zr1;obtain⟨sl,hL⟩:=u.any ho I.free λz=>(hch _ z).2.1 rfl;exact I.step (ch:=ch) hch (λb o hL hb hc e n=>u.keep b o e n (λz=>(ZD.mp (I.stkSub b z)).elim hL hb) hc) (λb o _ _ hc e n=>u.any e n hc) (λb o hc e n=>u.free b o e n hc) (λb o hc e=>u.there b o e hc) u.tups u.frzs u.tbls (λm' hm=>by
  refine zc3b hm λo' es' ep' ho' r'=>?_;rw[ho] at ho';cases ho';exact⟨_,es',ep',hL,r'⟩) hok hg
def Inv.turned {t':Nat}{it:Addr}(I:Inv X Y Z H s)(k:∀b o,b≠it->s.heap.get? b=some o->h'.get? b=some o)(hn:H it=none)(hL:it≠X.env.locals)
 (h1:it∈X.ex\/X.s₀.heap.objs.size<=it) (h2:∀x c,X.env.cells.lookup x=some c->c≠it) (h3:∀p∈X.pn++Y,p.1≠it):Inv X Y Z H { s with heap:=h',toks:=t' }:=by
 have nit:∀b u,H b=some u->b≠it:=λb u e z=>by rw[z,hn] at e;cases e
 refine I.step (g':=s.gens) (d':=s.drawn) (ch:=[it]) (λb hb=>?_) (λb o _ _ hc e _=>k b o (λz=>hc (by simp -iota [z])) e) (λb o _ _ hc e _=>⟨o.slots,k b o (λz=>hc (by simp -iota [z])) e⟩) (λ_ _ _ _ n=>n)
  (λb o hc e=>⟨o,k b o (λz=>hc (by simp -iota [z])) e⟩) (λ_ _ e=>e) (λ_ _ _ e=>e) (λb ps e=>⟨#[],by rw[e];simp -iota⟩) (λm hm=>?_) (λb u e=>?_) I.bare
 .have e:b=it:=by simpa -iota using hb
  subst e;exact⟨h1,hL,h2,h3⟩
 .refine zc3b hm λo es ep ho r=>?_;exact⟨o,es,ep,k _ o (Ne.symm hL) ho,r⟩
 .refine(I.hok b u e).stay (λc v hc q=>k c v ?_ q) (λ_ q=>q) λ_ _ q=>q;rcases hc with z|z
  .rw[z];exact nit b u e
  .exact nit c _ z
def Inv.tok (I:Inv X Y Z H s)(t:Nat):Inv X Y Z H { s with toks:=t }:=I.un (h':=s.heap) (t':=t) Un.refl I.hok
theorem Inv.kept {t':Nat}(I:Inv X Y Z H s)(k:∀b u,s.heap.get? b=some u->h'.get? b=some u):Inv X Y Z H { s with heap:=h',toks:=t' }:=I.un (Un.kept k) (I.hok.kept k)
theorem Inv.laid {a:Addr}{o:HO}{t':Nat}(I:Inv X Y Z H s)(k:∀b u,s.heap.get? b=some u->h'.get? b=some u)(hp:s.heap.objs.size<=a)(new:yr X.prog X.w (upd H a o) h' a o):
 Inv X Y Z (upd H a o) { s with heap:=h',toks:=t' }:=I.un (Un.laid k hp (I.hok.fresh hp)) (I.hok.laid k hp new)
theorem Inv.write {x e:Addr}{o:HO}{t':Nat}(I:Inv X Y Z H s)(mu:Mut (H x))(he:e=x\/H e=some (.own x))(k:∀b u,b≠e->s.heap.get? b=some u->h'.get? b=some u)(heo:∃u,h'.get? e=some u)
 (new:yr X.prog X.w (upd H x o) h' x o):Inv X Y Z (upd H x o) { s with heap:=h',toks:=t' }:=I.un (Un.write mu he k heo) (I.hok.write mu he k heo new)
def Inv.pins_of {Y':Yb}(I:Inv X Y Z H s)(h:∀p∈Y',s.heap.get? p.1=some p.2/\H p.1=none/\p.1≠X.env.locals/\p.1∉X.fs/\∀v,p.2.data ≠ .cell v):Inv X Y' Z H s:=
 ⟨I.ok,I.os,I.bare,I.base,I.loc,I.cell,I.free,I.freeC,λp hp=>(ZL.mp hp).elim (λz=>I.pin p (ZY _ z)) (h p),I.hok,I.len⟩
def lI {N:Yk}(hN:N.Nodup){i j:Nat}{x:Str}(a:N[i]? = some x)(b:N[j]? = some x):i=j:=by
 obtain⟨h1,e1⟩:=ZH.mp a;obtain⟨h2,e2⟩:=ZH.mp b;exact(List.getElem_inj hN).mp (e1.trans e2.symm)
def store_ok2 {M:Model}{A:Around}{E:Ya}{i:Nat}{x:Str}{v:V}{u:Value}{Q:Unit->Yz}(I:Inv X Y Z H s)(hN:X.N.Nodup)(hi:X.N[i]? = some x)(hx:Loc X.env.scope x)(r:yw v u)
 (h:∀s',Inv X Y (Z.set i (some v)) H s'->(∃a,Heap.SameBut a s.heap s'.heap/\(a=X.env.locals\/X.env.cells.lookup x=some a))->Q Yt s') (hf:X.fn x=true\/X.env.scope.names.lookup x=some .local:=by trivial):wpAny M A (storeName X.env x u) Q E s:=by
 refine zc1b (id I.loc) λm hn hl=>?_;have hcls:(X.env.scope.kind == .class||(X.env.scope.kind == .module&&X.env.locals != X.env.globals))=false:=by rw[I.ok.kind];rfl
 have hiσ:i < Z.length:=by rw[I.len];exact(ZH.mp hi).1
 have cne:=I.cne;have tracked:∀{a:Addr} {h':Heap},(∃o,s.heap.get? a=some o/\H a=none)->Heap.SameBut a s.heap h'->HOk X.prog X.w H h':=λ{a h'} ha hs b ob e=>by
  refine zc1b ha λ_ _ hfree=>?_;refine(I.hok b ob e).stay (λc w' hc q=>(hs.2 c ?_).trans q) (λ_ q=>q) λ_ _ q=>q;rintro rfl;rcases hc with rfl|hc
  .rw[hfree] at e;cases e
  .rw[hfree] at hc;cases hc
 rcases hx with hk|hk
 .refine wpAny_storeName_local hk hn (λh' hn' hs=>?_) hcls;refine zc3b (id hn) λoL _ _ hoL _=>?_;refine h _ ⟨I.ok,I.os,I.bare,⟨λb o e n hb hx=>?_,λb o e n hb hx=>?_,I.base.free,λb o e hx=>?_,I.base.tups,I.base.frzs,I.base.tbls⟩,⟨_,hn',λj y v' e1 e2 e3=>?_⟩,λy c e=>?_,I.free,I.freeC,λp hp=>?_,tracked ⟨oL,hoL,I.free⟩ hs,by simpa -iota using I.len⟩ ⟨_,hs,.inl rfl⟩
  .exact(hs.2 b (Zi (Zg (Zk e) I.ok.above))).trans (I.base.keep b o e n hb hx)
  .obtain⟨sl,e1⟩:=I.base.slot b o e n hb hx;exact⟨sl,(hs.2 b (Zi (Zg (Zk e) I.ok.above))).trans e1⟩
  .obtain⟨o',e1⟩:=I.base.there b o e hx;exact⟨o',(hs.2 b (Zi (Zg (Zk e) I.ok.above))).trans e1⟩
  .by_cases hj:j=i
   .subst hj;rw[hi] at e1;cases e1;rw[Xj hiσ] at e2;cases e2;exact⟨u,r,.inl ⟨hk,by simp -iota⟩⟩
   .rw[List.getElem?_set_ne (Ne.symm hj)] at e2;refine zc1b (hl j y v' e1 e2 e3) λu' r' q=>?_;refine⟨u',r',?_⟩;rcases q with ⟨k,e⟩|⟨k,c,e,z⟩
    .refine .inl ⟨k,?_⟩;have:y≠x:=λe=>hj (lI hN e1 (e ▸ hi));simp -iota [this,e]
    .exact .inr ⟨k,c,e,z.sameBut hs (cne y c e)⟩
  .obtain⟨w',z⟩:=I.cell y c e;exact⟨w',z.sameBut hs (cne y c e)⟩
  .refine xk (I.pin p hp) λe n ne nf d=>?_;exact⟨(hs.2 p.1 ne).trans e,n,ne,nf,d⟩
 .have hfn:X.fn x=true:=by
   rcases hf with z|z
   .exact z
   .rw[z] at hk;cases hk
  obtain⟨c,hc⟩:=I.ok.has x (.inl hk);obtain⟨w',z⟩:=I.cell x c hc;refine wpAny_storeName_cell I.ok.kind hk hc z (λh' hc' hs=>?_);refine zc1b (id z) λoc hoc hocd=>?_;refine h { s with heap:=h' } ⟨I.ok,I.os,I.bare,⟨λb o e n hb hx=>?_,λb o e n hb hx=>?_,I.base.free,λb o e hx=>?_,I.base.tups,I.base.frzs,I.base.tbls⟩,⟨m,hn.sameBut hs (Ne.symm (cne x c hc)),λj y v' e1 e2 e3=>?_⟩,λy c' e=>?_,I.free,I.freeC,λp hp=>?_,tracked ⟨oc,hoc,I.freeC x c hc⟩ hs,by simpa -iota using I.len⟩ ⟨c,hs,.inr hc⟩
  .exact(hs.2 b (Zi (Zg (Zk e) (I.ok.cab x c hfn hc)))).trans (I.base.keep b o e n hb hx)
  .obtain⟨sl,e1⟩:=I.base.slot b o e n hb hx;exact⟨sl,(hs.2 b (Zi (Zg (Zk e) (I.ok.cab x c hfn hc)))).trans e1⟩
  .obtain⟨o',e1⟩:=I.base.there b o e hx;exact⟨o',(hs.2 b (Zi (Zg (Zk e) (I.ok.cab x c hfn hc)))).trans e1⟩
  .by_cases hj:j=i
   .subst hj;rw[hi] at e1;cases e1;rw[Xj hiσ] at e2;cases e2;exact⟨u,r,.inr ⟨.inl hk,c,hc,hc'⟩⟩
   .rw[List.getElem?_set_ne (Ne.symm hj)] at e2;refine zc1b (hl j y v' e1 e2 e3) λu' r' q=>?_;refine⟨u',r',?_⟩;rcases q with q|⟨k,c',e,z'⟩
    .exact .inl q
    .refine .inr ⟨k,c',e,z'.sameBut hs ?_⟩;rintro rfl;exact hj (lI hN e1 (I.ok.inj _ _ _ e hc ▸ hi))
  .by_cases hcc:c'=c
   .subst hcc;exact⟨_,hc'⟩
   .obtain⟨w2,z2⟩:=I.cell y c' e;exact⟨w2,z2.sameBut hs hcc⟩
  .refine xk (I.pin p hp) λe n ne nf d=>?_;refine⟨(hs.2 p.1 ?_).trans e,n,ne,nf,d⟩;intro q;rw[q,hoc] at e;have q':oc=p.2:=Zqi e;exact d w' (by rw[<- q'];exact hocd)
def qW {M:Model}{A:Around}{E:Ya}{i:Nat}{x:Str}{v:V}{u:Value}{Q:Unit->Yz}(I:Inv X Y Z H s)(hN:X.N.Nodup)(hi:X.N[i]? = some x)(hx:Loc X.env.scope x)(r:yw v u)
 (h:∀s',Inv X Y (Z.set i (some v)) H s'->Q Yt s') (hf:X.fn x=true\/X.env.scope.names.lookup x=some .local:=by trivial):wpAny M A (storeName X.env x u) Q E s:=
 store_ok2 I hN hi hx r (λs' I' _=>h s' I') hf
def Inv.call' {s':Shared}{ch:Yl}(I:Inv X Y Z H s)(ho:s'.os=s.os)(u:Un (frs X.stack) ch H H' s.heap s'.heap)(hok:HOk X.prog X.w H' s'.heap)(hg:AllBare s'.gens)
 (hch:∀b∈ch,(b∈X.ex\/X.s₀.heap.objs.size<=b)/\b≠X.env.locals/\(∀x c,X.env.cells.lookup x=some c->c≠b)/\∀p∈X.pn++Y,p.1≠b):Inv X Y Z H' s':=by
 obtain⟨h',g',d',t',o'⟩:=s';have e:o'=s.os:=ho;subst e;exact I.call (g':=g') (t':=t') (d':=d') u hok hg hch
end
abbrev XK:=Value->Option Addr->Hp->Prop
abbrev St:=List YC
abbrev VK:=V->Hp->Prop
abbrev TE:=St->Hp->VK->Prop
abbrev TT:=St->Hp->(Bool->Hp->Prop)->Prop
abbrev TA:=St->Hp->(YB->Hp->Prop)->Prop
set_option genInjectivity false in
structure Ends where
 nx:St->Hp->Prop
 rt:VK
 bk:St->Hp->Prop:=λ_ _=>False
 ct:St->Hp->Prop:=λ_ _=>False
abbrev TS:=Ends->St->Hp->Prop
def EP (X:Cx)(Y:Yb)(Z:St)(Q:VK)(u:Value)(s':Shared):Prop:=∃v H',Inv X Y Z H' s'/\yw v u/\Q v H'
noncomputable def TP (X:Cx)(Y:Yb)(Z:St)(Q:Bool->Hp->Prop)(b:Bool)(s':Shared):Prop:=∃H',Inv X Y Z H' s'/\Q b H'
noncomputable def AP (X:Cx)(Y:Yb)(Z:St)(Q:YB->Hp->Prop)(us:Yf)(s':Shared):Prop:=∃vs H',Inv X Y Z H' s'/\yi vs us/\Q vs H'
def SP (X:Cx)(Y:Yb)(D:Ends)(f:Flow)(s':Shared):Prop:=
 match f with
 | .next=>∃Z' H',Inv X Y Z' H' s'/\D.nx Z' H'
 | .brk=>∃Z' H',Inv X Y Z' H' s'/\D.bk Z' H'
 | .cont=>∃Z' H',Inv X Y Z' H' s'/\D.ct Z' H'
 | .ret u=>∃v Z' H',Inv X Y Z' H' s'/\yw v u/\D.rt v H'
noncomputable def PE (X:Cx)(e:Expr)(t:TE):Prop:=
 ∀(Y:Yb) (s:Shared) (Z:St) (H:Hp) (Q:VK),Inv X Y Z H s->t Z H Q->YF X (eval e X.env) (EP X Y Z Q) X.xe s
noncomputable def PT (X:Cx)(e:Expr)(t:TT):Prop:=
 ∀(Y:Yb) (s:Shared) (Z:St) (H:Hp) (Q:Bool->Hp->Prop),Inv X Y Z H s->t Z H Q->YF X (isTrue e X.env (eval e X.env)) (TP X Y Z Q) X.xe s
noncomputable def PW (X:Cx)(e:Expr)(t:TT):Prop:=
 ∀(whole:Sem Value) (Y:Yb) (s:Shared) (Z:St) (H:Hp) (Q:Bool->Hp->Prop),Inv X Y Z H s->t Z H Q->YF X (isTrue e X.env whole) (TP X Y Z Q) X.xe s
def PW.pt {X:Cx}{e:Expr}{t:TT}(h:PW X e t):PT X e t:=h _
noncomputable def PA (X:Cx)(es:Ym)(t:TA):Prop:=
 ∀(pos:Pos) (Y:Yb) (s:Shared) (Z:St) (H:Hp) (Q:YB->Hp->Prop),Inv X Y Z H s->t Z H Q->YF X (spliced (backTo pos (starEach es X.env))) (AP X Y Z Q) X.xe s
noncomputable def PS (X:Cx)(st:Stmt)(t:TS):Prop:=
 ∀(Y:Yb) (s:Shared) (Z:St) (H:Hp) (D:Ends),Inv X Y Z H s->t D Z H->YF X (exec st X.env) (SP X Y D) X.xe s
noncomputable def PSs (X:Cx)(st:List Stmt)(t:TS):Prop:=
 ∀(Y:Yb) (s:Shared) (Z:St) (H:Hp) (D:Ends),Inv X Y Z H s->t D Z H->YF X (execs st X.env) (SP X Y D) X.xe s
def thn {α:Type}{t:Sem α}{Q Q': α -> Yz}{M:Model}{A:Around}{E:Ya}{s:Shared}(h:wpAny M A t Q E s)(hQ:∀a s,Q a s->Q' a s):wpAny M A t Q' E s:=Zc h hQ λ_ _ x=>x
section
variable {X:Cx}
noncomputable def gN (i:Nat):TE:=λZ H Q=>∃v,Z[i]? = some (some v)/\Q v H
noncomputable def tC (v:V):TE:=λ_ H Q=>Q v H
def pe_var {i:Nat}{x:Str}{pos:Pos}(hN:X.N[i]? = some x)(hv:Vis X.env.scope x)(hd:autoParam ((x == ("__debug__" : Str))=false) zav._auto_1)(hcd:autoParam ((x == ("__classdict__" : Str))=false) zav._auto_1):PE X (.Name x pos) (gN i):=by
 intro Y s Z H Q I h;refine zc1b h λv e h=>?_;refine zc1b I.loc λm hn hl=>?_;refine zc1b (hl i x v hN e hv) λu r l=>?_;have fin:EP X Y Z Q u s:=⟨v,H,I,r,h⟩;rcases l with ⟨hk,hm⟩|⟨hk,c,hc,hcell⟩
 .exact wpAny_Name (wpAny_loadName_local I.ok.kind hk hn hm fin) hd
 .rcases hk with hk|hk
  .exact wpAny_Name (wpAny_loadName_cell I.ok.kind hk hc hcell fin) hd
  .exact wpAny_Name (wpAny_loadName_free I.ok.kind hk hc hcell fin hcd) hd
def pe_int {i j pos}:PE X (.Constant (.int i) j pos) (tC (.int i)):=λ_ _ _ H _ I h=>wpAny_Constant_int ⟨.int i,H,I.tok _,⟨_,rfl⟩,h⟩
def pe_bl {b j pos}:PE X (.Constant (.bool b) j pos) (tC (.bl b)):=λ_ _ _ H _ I h=>Constant_bool ⟨.bl b,H,I,rfl,h⟩
def pe_non {j pos}:PE X (.Constant .none j pos) (tC .non):=λ_ _ _ H _ I h=>Constant_none ⟨.non,H,I,rfl,h⟩
def pe_str {x j pos}:PE X (.Constant (.str x) j pos) (tC (.str x)):=λ_ _ _ H _ I h=>Calls.Constant_str ⟨.str x,H,I.tok _,⟨_,rfl⟩,h⟩
noncomputable def Gl (X:Cx)(x:Str):Prop:=X.env.kindOf x=some .globalImplicit
def qX {E:Ya}{Y:Yb}{s:Shared}{Z:St}{H:Hp}{x:Str}{u:Value}{pos:Pos}{Q:Ya}(I:Inv X Y Z H s)(hg:Gl X x)(hm:X.mg x=some u)(h:Q u s)
 (hd:autoParam ((x == ("__debug__" : Str))=false) zav._auto_1):YF X (eval (.Name x pos) X.env) Q E s:=
 Calls.Name_function_global I.ok.kind hg (Calls.loadGlobal_global (by rw[I.ok.glob];exact I.mod.glob.keeps I.bk) hm h) hd
def qx {E:Ya}{Y:Yb}{s:Shared}{Z:St}{H:Hp}{x:Str}{u:Value}{pos:Pos}{Q:Ya}(I:Inv X Y Z H s)(hg:Gl X x)(hm:X.mg x=none)(hv:bootBuiltins x=some u)(h:Q u s)
 (hn:autoParam (x ≠ "__name__") zav._auto_1) (hd:autoParam ((x == ("__debug__" : Str))=false) zav._auto_1):YF X (eval (.Name x pos) X.env) Q E s:=by
 refine zc1b I.mod.blt λmb h1 h2=>?_;exact Calls.Name_function_global I.ok.kind hg (Calls.loadGlobal_builtin (by rw[I.ok.glob];exact I.mod.glob.keeps I.bk) hm (by rw[I.ok.blt];exact h1.keeps I.bk) ((h2 x hn).trans hv) h) hd
def pe_bltn {x:Str}{v:V}{u:Value}{pos:Pos}(hg:Gl X x)(hm:X.mg x=none)(hv:bootBuiltins x=some u)(r:yw v u)(hn:autoParam (x ≠ "__name__") zav._auto_1)(hd:autoParam ((x == ("__debug__" : Str))=false) zav._auto_1):PE X (.Name x pos) (tC v):=
 λ_ _ _ H _ I h=>qx I hg hm hv ⟨v,H,I,r,h⟩ hn hd
variable {a b:Expr}{ta tb:TE}{pos:Pos}
noncomputable def PC (X:Cx)(op:CmpOp)(a b:Expr)(t:TE):Prop:=
 ∀(Y:Yb) (s:Shared) (Z:St) (H:Hp) (Q:VK),Inv X Y Z H s->t Z H Q ->
  YF X (eval a X.env) (λv s₁=>YF X (eval b X.env) (λu s₂=>YF X (compareOp op v u) (EP X Y Z Q) X.xe s₂) X.xe s₁) X.xe s
def nobehind (b:Expr){op:CmpOp}(h:op ≠ .In)(h2:op ≠ .NotIn):behindInMarks op b=false:=by
 have e1:(op == CmpOp.In)=false:=by cases op<;>first|rfl|exact Zn rfl h
 have e2:(op == CmpOp.NotIn)=false:=by cases op<;>first|rfl|exact Zn rfl h2
 cases b<;>first|rfl|(show(_&&(_||_)&&_)=false;rw[e1,e2,Bool.or_self,Bool.and_false,Bool.false_and])
noncomputable def ag (ta:TE):TE:=λZ H Q=>ta Z H λx H1=>Q (.bl (decide (x=.non))) H1
def yw.none_iff {x:V}{v:Value}(r:yw x v):(v == Value.none)=decide (x=.non):=by
 cases x with
 |non=>cases r;rfl
 |bl _=>cases r;rfl
 |int _=>obtain⟨t,rfl⟩:=r;rfl
 |str _=>obtain⟨t,rfl⟩:=r;rfl
 |byt _=>obtain⟨t,rfl⟩:=r;rfl
 |flt _=>obtain⟨t,rfl⟩:=r;rfl
 |ref _=>cases r;rfl
 |ty _=>cases r;rfl
def pc_isN {j pos'}(ha:PE X a ta):PC X .Is a (.Constant .none j pos') (ag ta):=by
 intro Y s Z H Q I h;refine thn (ha Y s Z H _ I h) λv s1 zh=>?_;refine zc2c zh λx H1 I1 r1 q1=>?_;exact Constant_none (is_none_gen ⟨.bl _,H1,I1,by rw[r1.none_iff];rfl,q1⟩)
noncomputable def tB (t:TE):TT:=λZ H Q=>t Z H λx H1=>∃c,x=.bl c/\Q c H1
def i9 {op:CmpOp}{t:TE}(h:PC X op a b t)(h1:behindInMarks op b=false:=by first|exact nobehind _ (by decide) (by decide)|rfl):PT X (.Compare a [op] [b] pos) (tB t):=by
 intro Y s Z H Q I hw;refine wpAny_isTrue_Compare1 (thn (h Y s Z H _ I hw) λv s1 h1=>thn h1 λu s2 h2=>thn h2 λc s3 ⟨x,H1,I1,r1,q1⟩=>?_) h1;refine zc1b q1 λd zr1 q=>?_;subst zr1;cases r1;exact wpAny_truthy_bool ⟨H1,I1,q⟩
def pt_val {e:Expr}{t:TE}(h:PE X e t)(he:autoParam (∀whole,isTrue e X.env whole=(do let v <- whole;standAt e.pos;holding [v] (truthy v))) zaw._auto_1):PT X e (tB t):=by
 intro Y s Z H Q I hw;refine isTrue_plain (thn (h Y s Z H _ I hw) λv s1 ⟨x,H1,I1,r1,q1⟩=>?_) (he _);refine zc1b q1 λd zr1 q=>?_;subst zr1;cases r1;exact wpAny_truthy_bool ⟨H1,I1,q⟩
variable {tA tB':TT}{rest:Ym}
noncomputable def tAnd (t u:TT):TT:=λZ H Q=>t Z H λc H1=>if c=true then u Z H1 Q else Q false H1
noncomputable def tOr (t u:TT):TT:=λZ H Q=>t Z H λc H1=>if c=true then Q true H1 else u Z H1 Q
noncomputable def tNot (t:TT):TT:=λZ H Q=>t Z H λc H1=>Q (!c) H1
def pw_and1 (ha:PT X a tA):PW X (.BoolOp .And [a] pos) tA:=by
 intro wh Y s Z H Q I h;refine isTrue_and (thn (ha Y s Z H Q I h) λc s1 e=>?_);cases c with
 |true=>exact isTrue_and_nil e
 |false=>exact e
def pw_or1 (ha:PT X a tA):PW X (.BoolOp .Or [a] pos) tA:=by
 intro wh Y s Z H Q I h;refine isTrue_or (thn (ha Y s Z H Q I h) λc s1 e=>?_);cases c with
 |false=>exact isTrue_or_nil e
 |true=>exact e
def pw_and (ha:PT X a tA)(hb:PW X (.BoolOp .And (b::rest) pos) tB'):PW X (.BoolOp .And (a::b::rest) pos) (tAnd tA tB'):=by
 intro wh Y s Z H Q I h;refine isTrue_and (thn (ha Y s Z H _ I h) λc s1 zh=>?_);refine zc1b zh λH1 I1 q1=>?_;cases c with
 |true=>exact hb wh Y s1 Z H1 Q I1 q1
 |false=>exact⟨H1,I1,q1⟩
def pw_or (ha:PT X a tA)(hb:PW X (.BoolOp .Or (b::rest) pos) tB'):PW X (.BoolOp .Or (a::b::rest) pos) (tOr tA tB'):=by
 intro wh Y s Z H Q I h;refine isTrue_or (thn (ha Y s Z H _ I h) λc s1 zh=>?_);refine zc1b zh λH1 I1 q1=>?_;cases c with
 |true=>exact⟨H1,I1,q1⟩
 |false=>exact hb wh Y s1 Z H1 Q I1 q1
def pt_not (ha:PT X a tA):PT X (.UnaryOp .Not a pos) (tNot tA):=by
 intro Y s Z H Q I h;exact isTrue_not (ha Y s Z H (λc H1=>Q (!c) H1) I h)
noncomputable def tAndV (ta tb:TE):TE:=λZ H Q=>ta Z H λx H1=>∃c,x=.bl c/\if c=true then tb Z H1 Q else Q (.bl false) H1
noncomputable def tNotV (ta:TE):TE:=λZ H Q=>ta Z H λx H1=>∃c,x=.bl c/\Q (.bl (!c)) H1
def pe_one {op}{t:TE}(h:PE X a t):PE X (.BoolOp op [a] pos) t:=λY s Z H Q I hw=>BoolOp_one (h Y s Z H Q I hw)
def pe_and (ha:PE X a ta)(hb:PE X (.BoolOp .And (b::rest) pos) tb):PE X (.BoolOp .And (a::b::rest) pos) (tAndV ta tb):=by
 intro Y s Z H Q I h;refine BoolOp_and (thn (ha Y s Z H _ I h) λv s1 zh=>?_);obtain⟨x,H1,I1,r1,q1⟩:=zh;obtain⟨c,rfl,q1⟩:=q1;cases r1;refine wpAny_truthy_bool ?_;cases c with
 |true=>exact hb Y s1 Z H1 Q I1 q1
 |false=>exact⟨.bl false,H1,I1,rfl,q1⟩
def pe_not (ha:PE X a ta):PE X (.UnaryOp .Not a pos) (tNotV ta):=by
 intro Y s Z H Q I h;refine UnaryOp_ (thn (ha Y s Z H _ I h) λv s1 zh=>?_);obtain⟨x,H1,I1,r1,q1⟩:=zh;obtain⟨c,rfl,q1⟩:=q1;cases r1;exact not_of (wpAny_truthy_bool ⟨.bl (!c),H1,I1,rfl,q1⟩)
end
noncomputable def SqL (K:W.Frag)(H:Hp)(a:Addr)(xs:YB):Prop:=
 Rd H a (.lst xs) \/
  ∃(o:Obj) (its:Yn) (n:Nat),K.lookup a=some o/\o.cls=.type "list" /\ o.dict=none/\o.data=.seq its n/\its.size<=sizeLine/\yi xs its.toList
noncomputable def SqT (K:W.Frag)(H:Hp)(a:Addr)(xs:YB):Prop:=
 Rd H a (.tup xs) \/
  ∃(o:Obj) (its:Yn) (n:Nat),K.lookup a=some o/\o.cls=.type "tuple" /\ o.data=.seq its n/\its.size<=sizeLine/\yi xs its.toList
noncomputable def absV:Value->YC
 | .none=>some .non
 | .bool b=>some (.bl b)
 | .int i _=>some (.int i)
 | .str x _=>some (.str x)
 | .bytes b _=>some (.byt b)
 | .float b _=>some (.flt b)
 | .ref a=>some (.ref a)
 | .type n=>some (.ty n)
 |_=>none
def yw.abs {x:V}{u:Value}(r:yw x u):absV u=some x:=by
 cases x with
 |non=>cases r;rfl
 |bl _=>cases r;rfl
 |int _=>obtain⟨t,rfl⟩:=r;rfl
 |str _=>obtain⟨t,rfl⟩:=r;rfl
 |byt _=>obtain⟨t,rfl⟩:=r;rfl
 |flt _=>obtain⟨t,rfl⟩:=r;rfl
 |ref _=>cases r;rfl
 |ty _=>cases r;rfl
def yw.inj {x y:V}{u:Value}(r:yw x u)(q:yw y u):x=y:=Zqi (r.abs.symm.trans q.abs)
theorem yi.inj:∀{xs ys:YB} {us:Yf},yi xs us->yi ys us->xs=ys:=λ{xs ys us} g h=>by
 induction g generalizing ys with
 |nil=>cases h;rfl
 |cons r _ ih =>
  cases h with
  |cons r' t'=>rw[r.inj r',ih t']
section
variable {X:Cx}{Y:Yb}{Z:St}{H:Hp}{s:Shared}{a:Addr}{xs ys:YB}
def SqL.of {K:W.Frag}(h:H a=some (.lst xs)):SqL K H a xs:=.inl (.inl h)
def SqT.of {K:W.Frag}(h:H a=some (.tup xs)):SqT K H a xs:=.inl (.inl h)
def Inv.list (I:Inv X Y Z H s)(h:SqL X.K H a xs):∃its:Yf,yi xs its/\PlainL s.heap a its.toArray/\xs.length<=sizeLine:=by
 rcases h with h|⟨o,its,n,hk,hc,hd,hs,hz,r⟩
 .refine wG (h.ok I.hok) λz zz=>zc2b zz λits n r e=>?_;exact⟨its,r,⟨_,n,e,rfl,rfl,rfl⟩,z⟩
 .refine⟨its.toList,r,⟨o,n,I.kIn a o hk,hc,hd,by simpa -iota using hs⟩,?_⟩;have e:=r.length;simp -iota only[ZM] at e;omega
def Inv.tuple (I:Inv X Y Z H s)(h:SqT X.K H a xs):∃its:Yf,yi xs its/\IsTup s.heap a its.toArray/\xs.length<=sizeLine:=by
 rcases h with h|⟨o,its,n,hk,hc,hs,hz,r⟩
 .obtain⟨z,its,r,p⟩:=h.ok I.hok;exact⟨its,r,p,z.1⟩
 .refine⟨its.toList,r,⟨o,I.kIn a o hk,hc,n,by simpa -iota using hs⟩,?_⟩;have e:=r.length;simp -iota only[ZM] at e;omega
def Inv.list_inj (I:Inv X Y Z H s)(h:SqL X.K H a xs)(h':SqL X.K H a ys):xs=ys:=by
 refine zc1c (I.list h) λits r zr2 _=>?_;obtain⟨o,n,e,_,_,d⟩:=zr2;refine zc1c (I.list h') λits' r' zr2 _=>?_;obtain⟨o',n',e',_,_,d'⟩:=zr2;rw[e] at e';cases e';rw[d] at d';injection d' with d1 _
 have:its=its':=by simpa -iota using Zt Array.toList d1
 subst this;exact r.inj r'
def Inv.tuple_inj (I:Inv X Y Z H s)(h:SqT X.K H a xs)(h':SqT X.K H a ys):xs=ys:=by
 refine zc1c (I.tuple h) λits r zr2 _=>?_;obtain⟨o,e,_,n,d⟩:=zr2;refine zc1c (I.tuple h') λits' r' zr2 _=>?_;obtain⟨o',e',_,n',d'⟩:=zr2;rw[e] at e';cases e';rw[d] at d';injection d' with d1 _
 have:its=its':=by simpa -iota using Zt Array.toList d1
 subst this;exact r.inj r'
end
abbrev Cx.wish (X:Cx)(E:Ya):Cx:={ X with xe:=E }
abbrev Cx.nox (X:Cx):Cx:=X.wish λ_ _=>False
theorem Cx.Ok.wish {X:Cx}(ok:X.Ok)(E:Ya):(X.wish E).Ok:=
 ⟨ok.mod,ok.kind,ok.glob,ok.blt,ok.above,ok.inj,ok.has,ok.cab,ok.hd,ok.frames,ok.stk,ok.exf,ok.bs,ok.bsz,ok.noex,ok.exfs,ok.funs,ok.frf⟩
def Cx.Ok.unwish {X:Cx}{E:Ya}(ok:(X.wish E).Ok):X.Ok:=
 ⟨ok.mod,ok.kind,ok.glob,ok.blt,ok.above,ok.inj,ok.has,ok.cab,ok.hd,ok.frames,ok.stk,ok.exf,ok.bs,ok.bsz,ok.noex,ok.exfs,ok.funs,ok.frf⟩
section
variable {X:Cx}{Y:Yb}{Z:St}{H:Hp}{s:Shared}{E:Ya}
theorem Inv.wish (I:Inv X Y Z H s)(E:Ya):Inv (X.wish E) Y Z H s:=⟨I.ok.wish E,I.os,I.bare,I.base,I.loc,I.cell,I.free,I.freeC,I.pin,I.hok,I.len⟩
theorem Inv.unwish (I:Inv (X.wish E) Y Z H s):Inv X Y Z H s:=⟨I.ok.unwish,I.os,I.bare,I.base,I.loc,I.cell,I.free,I.freeC,I.pin,I.hok,I.len⟩
theorem SP.unwish {D:Ends}{f:Flow}{s':Shared}(h:SP (X.wish E) Y D f s'):SP X Y D f s':=by
 cases f with
 |next=>obtain⟨Z',H',I,q⟩:=h;exact⟨Z',H',I.unwish,q⟩
 |brk=>obtain⟨Z',H',I,q⟩:=h;exact⟨Z',H',I.unwish,q⟩
 |cont=>obtain⟨Z',H',I,q⟩:=h;exact⟨Z',H',I.unwish,q⟩
 |ret u=>obtain⟨v,Z',H',I,r,q⟩:=h;exact⟨v,Z',H',I.unwish,r,q⟩
theorem PSs.nox {st:List Stmt}{t:TS}(h:PSs X.nox st t):PSs X st t:=λY s Z H D I hw =>
 Zc (h Y s Z H D (I.wish _) hw) (λ_ _ q=>q.unwish) λ_ _ z=>False.elim z
end
section
variable {X:Cx}{st:Stmt}{rest:List Stmt}{t u:TS}{e:Expr}{te:TE}{pos:Pos}
noncomputable def tNext:TS:=λD Z H=>D.nx Z H
noncomputable def tSeq (t u:TS):TS:=λD Z H=>t { D with nx:=u D } Z H
def pss_nil:PSs X [] tNext:=λ_ _ Z H _ I h=>wpAny_execs_nil ⟨Z,H,I,h⟩
def pss_cons (h1:PS X st t)(h2:PSs X rest u):PSs X (st::rest) (tSeq t u):=by
 intro Y s Z H D I h;refine wpAny_execs_cons (thn (h1 Y s Z H { D with nx:=u D } I h) λf s1 q=>?_);cases f with
 |next =>
  refine zc2b q λZ' H' I' q=>?_;exact h2 Y s1 Z' H' D I' q
 |ret v=>exact q
 |brk=>exact q
 |cont=>exact q
def pss_one (h1:PS X st t):PSs X [st] t:=by
 intro Y s Z H D I h;refine wpAny_execs_cons (thn (h1 Y s Z H D I h) λf s1 q=>?_);cases f with
 |next=>exact wpAny_execs_nil q
 |ret v=>exact q
 |brk=>exact q
 |cont=>exact q
noncomputable def tBreak:TS:=λD Z H=>D.bk Z H
def ps_break:PS X (.Break pos) tBreak:=λ_ _ Z H _ I h=>wpAny_Break ⟨Z,H,I,h⟩
def Inv.quiet {Y:Yb}{Z:St}{H:Hp}{s:Shared}(I:Inv X Y Z H s):interactive X.env=false:=by simp -iota [interactive,I.ok.kind]
noncomputable def tDrop (te:TE):TS:=λD Z H=>te Z H λ_ H1=>D.nx Z H1
def jG (he:PE X e te)(hs:autoParam (swapsWith e none pos.line X.env=pure false) zau._auto_1):PS X (.Expr e pos) (tDrop te):=by
 intro Y s Z H D I h;exact wpAny_Expr_any (thn (he Y s Z H _ I h) (by rintro v s1 ⟨x,H1,I1,r1,q1⟩;exact⟨Z,H1,I1,q1⟩)) I.quiet hs
noncomputable def tRet (te:TE):TS:=λD Z H=>te Z H D.rt
def iH (he:PE X e te):PS X (.Return (some e) pos) (tRet te):=by
 intro Y s Z H D I h;exact wpAny_Return_some (thn (he Y s Z H _ I h) (by rintro v s1 ⟨x,H1,I1,r1,q1⟩;exact⟨x,Z,H1,I1,r1,q1⟩))
noncomputable def tIfS (c:TT)(t u:TS):TS:=λD Z H=>c Z H λb H1=>if b=true then t D Z H1 else u D Z H1
def ps_if {c:Expr}{a b:List Stmt}{tc:TT}(hc:PT X c tc)(ha:PSs X a t)(hb:PSs X b u):PS X (.If c a b pos) (tIfS tc t u):=by
 intro Y s Z H D I h;refine wpAny_If (thn (hc Y s Z H _ I h) λd s1 zh=>?_);refine zc1b zh λH1 I1 q1=>?_;cases d with
 |true=>exact ha Y s1 Z H1 D I1 q1
 |false=>exact hb Y s1 Z H1 D I1 q1
end
abbrev TG:=V->St->Hp->(St->Hp->Prop)->Prop
abbrev TGs:=YB->St->Hp->(St->Hp->Prop)->Prop
def PG (X:Cx)(target:Expr)(t:TG):Prop:=
 ∀(Y:Yb) (s:Shared) (Z:St) (H:Hp) (v:V) (u:Value) (Q:St->Hp->Prop),Inv X Y Z H s->yw v u->t v Z H Q ->
  YF X (assign target X.env u) (λ_ s'=>∃Z' H',Inv X Y Z' H' s'/\Q Z' H') X.xe s
noncomputable def PGs (X:Cx)(ts:Ym)(t:TGs):Prop:=
 ∀(Y:Yb) (s:Shared) (Z:St) (H:Hp) (vs:YB) (us:Yf) (Q:St->Hp->Prop),Inv X Y Z H s->yi vs us->t vs Z H Q ->
  YF X (assignInOrder ((assignEach ts X.env).map (·.2)) us) (λ_ s'=>∃Z' H',Inv X Y Z' H' s'/\Q Z' H') X.xe s
abbrev bC:=V->V->V->Hp->(Hp->Prop)->Prop
def bI (X:Cx)(t:bC):Prop:=
 ∀(Y:Yb) (s:Shared) (Z:St) (H:Hp) (o i v:V) (ov iv u:Value) (Q:Hp->Prop),Inv X Y Z H s->yw o ov->yw i iv->yw v u->t o i v H Q ->
  YF X (setItem ov iv u) (λ_ s'=>∃H',Inv X Y Z H' s'/\Q H') X.xe s
section
variable {X:Cx}{pos:Pos}
noncomputable def qI (i:Nat):TG:=λv Z H Q=>Q (Z.set i (some v)) H
def zE {i:Nat}{x:Str}(hN:X.N.Nodup)(hi:X.N[i]? = some x)(hx:Loc X.env.scope x)(hf:X.fn x=true\/X.env.scope.names.lookup x=some .local:=by trivial):PG X (.Name x pos) (qI i):=by
 intro Y s Z H v u Q I r h;exact wpAny_assign_Name (qW I hN hi hx r (λs' I'=>⟨_,H,I',h⟩) hf)
noncomputable def bX:TGs:=λvs Z H Q=>vs=[]/\Q Z H
noncomputable def cz (t:TG)(u:TGs):TGs:=λvs Z H Q=>∃v r,vs=v::r/\t v Z H λZ' H'=>u r Z' H' Q
def v8:PGs X [] bX:=by
 intro Y s Z H vs us Q I r h;obtain⟨e,h⟩:=h;subst e;cases r;exact assignInOrder_nil ⟨Z,H,I,h⟩
def yq {e:Expr}{es:Ym}{t:TG}{u:TGs}(h1:PG X e t)(h2:PGs X es u)
 (hs:autoParam ((assignEach (e::es) X.env).map (·.2)=assign e X.env::(assignEach es X.env).map (·.2)) zau._auto_1):PGs X (e::es) (cz t u):=by
 intro Y s Z H vs us Q I r h;obtain⟨v,vr,e1,h⟩:=h;subst e1;cases r with
 |cons r rr =>
  rw[hs];refine assignInOrder_cons (thn (h1 Y s Z H _ _ _ I r h) λ_ s1 zh=>?_);obtain⟨Z1,H1,I1,q1⟩:=zh;exact h2 Y s1 Z1 H1 _ _ Q I1 rr q1
def aa (K:W.Frag)(n:Nat)(t:TGs):TG:=λv Z H Q=>∃a xs,v=.ref a/\SqT K H a xs/\xs.length=n/\t xs Z H Q
def sQ {es:Ym}{k:Nat}{t:TGs}{n:Nat}(hc:X.calm=true)(h:PGs X es t)
 (hn:autoParam ((assignEach es X.env).length=n) zau._auto_1) (hst:autoParam ((assignEach es X.env).findIdx? (·.1)=none) zau._auto_1):PG X (.Tuple es k pos) (aa X.K n t):=by
 intro Y s Z H v u Q I r hw;obtain⟨a,xs,e1,hq,hl,hw⟩:=hw;subst e1;cases r;obtain⟨its,rv,ht,hz⟩:=I.tuple hq;refine assign_Tuple_tuple (I.ok.hd hc) ht (by simp -iota [hn,<- hl,rv.length]) hst λh' hx=>?_;have I1:Inv X Y Z H { s with heap:=h' }:=I.kept (t':=s.toks) λb o e=>hx b o (Zi (Zk e)) e;exact h Y _ Z H xs _ Q I1 (by simpa -iota using rv) hw
noncomputable def dS (to ti:TE)(t:bC):TG:=λv Z H Q=>to Z H λo H1=>ti Z H1 λi H2=>t o i v H2 λH3=>Q Z H3
def pg_sub {o i:Expr}{to ti:TE}{t:bC}(ho:PE X o to)(hi:PE X i ti)(hs:bI X t)
 (ha:∀v,assign (.Subscript o i pos) X.env v=(do
  let ov <- holding [v] (eval o X.env)
  let iv <- holding [v,ov] (eval i X.env)
  standAt pos
  holding [v,ov,iv] (setItem ov iv v)
  release [v,ov,iv] []):=by intro _;rfl):PG X (.Subscript o i pos) (dS to ti t):=by
 intro Y s Z H v u Q I r h;rw[ha];refine Za (wpAny_holding (thn (ho Y s Z H _ I h) λov s1 zh=>?_));refine zc2c zh λx H1 I1 r1 q1=>?_;refine Za (wpAny_holding (thn (hi Y s1 Z H1 _ I1 q1) λiv s2 zh=>?_));refine zc2c zh λy H2 I2 r2 q2=>?_;refine Za (wpAny_standAt (Za (wpAny_holding (thn (hs Y s2 Z H2 x y v ov iv u _ I2 r1 r2 r q2) λ_ s3 zh=>?_))));refine zc1b zh λH3 I3 q3=>?_;exact wpAny_release ⟨Z,H3,I3,q3⟩
noncomputable def cR (te:TE)(g:TG):TS:=λD Z H=>te Z H λx H1=>g x Z H1 D.nx
def ps_asg {tg e:Expr}{te:TE}{g:TG}(he:PE X e te)(hg:PG X tg g)(hs:autoParam (swapsWithSole [tg] e pos.line X.env=pure false) zau._auto_1)(hw:autoParam (swappedStores [tg] e X.env=pure none) zau._auto_1)
 (h1:autoParam ((assignEach [tg] X.env).map (·.2)=[assign tg X.env]) zau._auto_1):PS X (.Assign [tg] e pos) (cR te g):=by
 intro Y s Z H D I h;refine wpAny_Assign_stores (thn (he Y s Z H _ I h) λv s1 ⟨x,H1,I1,r1,q1⟩=>?_) hs hw;rw[h1];exact thn (hg Y s1 Z H1 x v _ I1 r1 q1) λ_ s2 q=>q
def f9 {i:Nat}{x:Str}{e:Expr}{te:TE}{pos':Pos}(hN:X.N.Nodup)(hi:X.N[i]? = some x)(hx:Loc X.env.scope x)(he:PE X e te)(hs:autoParam (swapsWith e (some (.Name x pos')) pos.line X.env=pure false) zau._auto_1)(hf:X.fn x=true\/X.env.scope.names.lookup x=some .local:=by trivial):
 PS X (.Assign [.Name x pos'] e pos) (cR te (qI i)):=by
 intro Y s Z H D I h;refine wpAny_Assign_Name (thn (he Y s Z H _ I h) λv s1 ⟨y,H1,I1,r1,q1⟩=>?_) hs;exact qW I1 hN hi hx r1 (λs2 I2=>⟨_,H1,I2,q1⟩) hf
end
set_option genInjectivity false in
structure It where
 go:Nat->Hp->Prop
 yld:Nat->Hp->V->Hp->Prop
 stop:Nat->Hp->Prop
noncomputable def gh (X:Cx)(Y:Yb)(H:Hp)(b:Addr):Prop:=
 H b=none/\b≠X.env.locals/\b∉X.fs/\(b∈X.ex\/X.s₀.heap.objs.size<=b)/\(∀x c,X.env.cells.lookup x=some c->c≠b)/\∀p∈X.pn++Y,p.1≠b
def Inv.fpOk {X:Cx}{Y:Yb}{Z:St}{H H':Hp}{s:Shared}{b:Addr}(I:Inv X Y Z H s)(hb:s.heap.objs.size<=b)(hn:H' b=none):gh X Y H' b:=by
 refine⟨hn,Nat.ne_of_gt (Zg I.lt hb),I.nofs hb,.inr (Zh I.sz hb),λx c e z=>?_,λp hp z=>?_⟩
 .obtain⟨v,q⟩:=I.cell x c e;exact Zn (Zg q.lt (by rw[z];exact hb)) (Zx _)
 .exact Zn (Zg (Zk (I.pin p hp).1) (by rw[z];exact hb)) (Zx _)
structure Turn (P:Program)(w:World)(K:W.Frag)(tg:Expr)(J:It)(fp:Yl)(it:Addr)(tn:Nat->Heap->Prop):Prop where
 mem:it∈fp
 obj:∀i h,tn i h->∀b∈fp,∃o,h.get? b=some o/\∀v,o.data ≠ .cell v
 keep:∀i h h',tn i h->(∀b∈fp,∀o,h.get? b=some o->h'.get? b=some o)->tn i h'
 item:∀(X:Cx),X.prog=P->X.w=w->X.K=K->X.calm=true->∀(i:Nat) (Y:Yb) (s:Shared) (Z:St) (H:Hp) (E:Ya),Inv X Y Z H s->(∀b∈fp,gh X Y H b)->tn i s.heap->J.go i H ->
  wpAny (model P w) X.A (pyNext (.ref it)) (λr s1=>∃u,r=some u /\
   wpAny (model P w) X.A (letOwnedTupleGo tg (.ref it) u) (λ_ s2=>∃x H',Inv X Y Z H' s2/\yw x u/\J.yld i H x H'/\tn (i+1) s2.heap/\∀b∈fp,H' b=none) E s1) E s
 done:∀(X:Cx),X.prog=P->X.w=w->X.K=K->X.calm=true->∀(i:Nat) (Y:Yb) (s:Shared) (Z:St) (H:Hp) (E:Ya),Inv X Y Z H s->(∀b∈fp,gh X Y H b)->tn i s.heap->J.stop i H ->
  wpAny (model P w) X.A (pyNext (.ref it)) (λr s1=>r=none/\Inv X Y Z H s1) E s
 self:∀(A:Around) (i:Nat) (s:Shared) (Q:Ya) (E:Ya),tn i s.heap->Q (.ref it) s->wpAny (model P w) A (pyIter (.ref it)) Q E s
abbrev TI:=St->Hp->(It->Hp->Prop)->Prop
def PIE (X:Cx)(Y:Yb)(Z:St)(tg:Expr)(R:It->Hp->Prop)(itv:Value)(s2:Shared):Prop:=
 ∃(it:Addr) (fp:Yl) (tn:Nat->Heap->Prop) (J:It) (H':Hp),itv=.ref it/\Inv X Y Z H' s2/\Turn X.prog X.w X.K tg J fp it tn/\tn 0 s2.heap/\(∀b∈fp,gh X Y H' b)/\R J H'
def PI (X:Cx)(tg iter:Expr)(wi:TI):Prop:=
 ∀(Y:Yb) (s:Shared) (Z:St) (H:Hp) (R:It->Hp->Prop),Inv X Y Z H s->wi Z H R ->
  YF X (eval iter X.env) (λv s1=>YF X (pyIter v) (PIE X Y Z tg R) X.xe s1) X.xe s
def dc {M:Model}{A:Around}{E:Ya}{s:Shared}{tg:Expr}{it:Addr}{u:Value}{o:Obj}{n:String}{vs:Yn}{Q:Unit->Yz}(ho:s.heap.get? it=some o)(hc:o.cls=.type n)(hd:o.data=.fields vs)
 (hn: ["enumerate", "zip", "dict_itemiterator", "dict_reverseitemiterator", "odict_iterator", "itertools.zip_longest", "itertools.pairwise"].contains n=false) (hQ:Q Yt s):wpAny M A (letOwnedTupleGo tg (.ref it) u) Q E s:=by
 unfold letOwnedTupleGo;cases tg<;>first
  |exact Zb hQ
  | (cases u<;>first
   |exact Zb hQ
   | (
    refine Za (wpAny_load ho ?_);rw[hc,hd];show wpAny M A (if(["enumerate", "zip", "dict_itemiterator", "dict_reverseitemiterator", "odict_iterator", "itertools.zip_longest", "itertools.pairwise"].contains n&&vs[0]? == some (rawInt _))=true then _ else _) Q E s;rw[Ze (by intro h;rw[hn,Bool.false_and] at h;cases h)];exact Zb hQ))
def Itl (K:W.Frag)(a:Addr):It:=
 ⟨λi H=>∃xs x,SqL K H a xs/\xs[i]? = some x,λi H x H'=>H'=H/\∀xs,SqL K H a xs->xs[i]? = some x,λi H=>∃xs,SqL K H a xs/\xs.length<=i⟩
def Itt (K:W.Frag)(a:Addr):It:=
 ⟨λi H=>∃xs x,SqT K H a xs/\xs[i]? = some x,λi H x H'=>H'=H/\∀xs,SqT K H a xs->xs[i]? = some x,λi H=>∃xs,SqT K H a xs/\xs.length<=i⟩
noncomputable def Itr (lo:Int)(n:Nat):It:=⟨λi _=>i<n,λi H x H'=>H'=H/\x=.int (lo+i),λi _=>n<=i⟩
def turn_list {P:Program}{w:World}{K:W.Frag}{tg:Expr}(a it:Addr):Turn P w K tg (Itl K a) [it] it (λi h=>h.IsListIter it a i) where
 mem:=by simp -iota
 obj:=λi h st b hb=>by
  have e:b=it:=by simpa -iota using hb
  subst e;refine zc1c st λo e c d=>?_;exact⟨o,e,λv z=>by rw[d] at z;cases z⟩
 keep:=λi h h' st k=>st.at λo e=>k it (by simp -iota) o e
 item:=by
  intro X hP hw hK hc i Y s Z H E I hf st hg;subst hP hw hK;refine zc2b hg λxs x hq hx=>?_;refine zc1c (I.list hq) λits rv p hz=>?_;refine zc1b (rv.get hx) λu hu ru=>?_;refine xk (hf it (by simp -iota)) λf0 f1 f2 f3 zz=>wG zz λf4 f5=>?_;refine wpAny_pyNext_list_item st p.isList (x:=u) (by simpa -iota using hu) λh' st' sb=>?_;have I1:Inv X Y Z H { s with heap:=h' }:=I.turned (t':=s.toks) (λb o hb e=>(sb.2 b hb).trans e) f0 f1 f3 f4 f5;refine zc1c (id st') λo e c d=>?_;exact⟨u,rfl,dc (s:={ s with heap:=h' }) e c d (by decide) ⟨x,H,I1,ru,⟨rfl,λys hy=>by rw[I.list_inj hy hq];exact hx⟩,st',λb hb=>(hf b hb).1⟩⟩
 done:=by
  intro X hP hw hK hc i Y s Z H E I hf st hg;subst hP hw hK;refine zc1b hg λxs hq hx=>?_;refine zc1c (I.list hq) λits rv p hz=>?_;refine xk (hf it (by simp -iota)) λf0 f1 f2 f3 zz=>wG zz λf4 f5=>?_;have hl:=rv.length;exact wpAny_pyNext_list_end (I.ok.hd hc) st p.isList (by simp -iota;omega) λh' eb=>⟨rfl,I.turned (t':=s.toks) (λb o hb e=>eb b o hb e) f0 f1 f3 f4 f5⟩
 self:=λ_ _ _ _ _ st h=>wpAny_pyIter_listiter st h
def turn_tuple {P:Program}{w:World}{K:W.Frag}{tg:Expr}(a it:Addr):Turn P w K tg (Itt K a) [it] it (λi h=>h.IsTupleIter it a i) where
 mem:=by simp -iota
 obj:=λi h st b hb=>by
  have e:b=it:=by simpa -iota using hb
  subst e;refine zc1c st λo e c d=>?_;exact⟨o,e,λv z=>by rw[d] at z;cases z⟩
 keep:=λi h h' st k=>st.at λo e=>k it (by simp -iota) o e
 item:=by
  intro X hP hw hK hc i Y s Z H E I hf st hg;subst hP hw hK;refine zc2b hg λxs x hq hx=>?_;refine zc1c (I.tuple hq) λits rv p hz=>?_;refine zc1b (rv.get hx) λu hu ru=>?_;refine xk (hf it (by simp -iota)) λf0 f1 f2 f3 zz=>wG zz λf4 f5=>?_;refine wpAny_pyNext_tuple_item st (show s.heap.IsTuple a its.toArray from p) (x:=u) (by simpa -iota using hu) λh' st' sb=>?_;have I1:Inv X Y Z H { s with heap:=h' }:=I.turned (t':=s.toks) (λb o hb e=>(sb.2 b hb).trans e) f0 f1 f3 f4 f5;refine zc1c (id st') λo e c d=>?_;exact⟨u,rfl,dc (s:={ s with heap:=h' }) e c d (by decide) ⟨x,H,I1,ru,⟨rfl,λys hy=>by rw[I.tuple_inj hy hq];exact hx⟩,st',λb hb=>(hf b hb).1⟩⟩
 done:=by
  intro X hP hw hK hc i Y s Z H E I hf st hg;subst hP hw hK;refine zc1b hg λxs hq hx=>?_;refine zc1c (I.tuple hq) λits rv p hz=>?_;refine xk (hf it (by simp -iota)) λf0 f1 f2 f3 zz=>wG zz λf4 f5=>?_;have hl:=rv.length;exact wpAny_pyNext_tuple_end (I.ok.hd hc) st (show s.heap.IsTuple a its.toArray from p) (by simp -iota;omega) λh' eb=>⟨rfl,I.turned (t':=s.toks) (λb o hb e=>eb b o hb e) f0 f1 f3 f4 f5⟩
 self:=λ_ _ _ _ _ st h=>wpAny_pyIter_tupleiter st h
def turn_range {P:Program}{w:World}{K:PySem.W.Frag}{tg:Expr}(it:Addr)(lo:Int)(n:Nat):Turn P w K tg (Itr lo n) [it] it (λi h=>IsRangeIter h it (lo+(i:Nat)*1) ((n:Int)-(i:Nat)) 1) where
 mem:=by simp -iota
 obj:=λi h st b hb=>by
  have e:b=it:=by simpa -iota using hb
  subst e;exact⟨_,st,λv z=>by
   have z':Data.fields _=Data.cell v:=z;cases z'⟩
 keep:=λi h h' st k=>k it (by simp -iota) _ st
 item:=by
  intro X hP hw hK hc i Y s Z H E I hf st hg;subst hP hw hK;refine xk (hf it (by simp -iota)) λf0 f1 f2 f3 zz=>wG zz λf4 f5=>?_;have W:=Walks.range (prog:=X.prog) (w:=X.w) (I.ok.hd hc) it lo 1 n;refine W.item i s _ _ hg st λv h' tk hv st' kk=>?_;obtain⟨t,rfl⟩:=hv;have I1:Inv X Y Z H { s with heap:=h',toks:=tk }:=I.turned (λb o hb e=>kk b o (by simpa -iota using hb) e) f0 f1 f3 f4 f5;refine⟨_,rfl,dc (s:={ s with heap:=h',toks:=tk }) (n:= "range_iterator") st' rfl rfl (by decide) ⟨.int (lo+i),H,I1,⟨t,?_⟩,⟨rfl,rfl⟩,st',λb hb=>(hf b hb).1⟩⟩;rw[Int.mul_one]
 done:=by
  intro X hP hw hK hc i Y s Z H E I hf st hg;subst hP hw hK;refine xk (hf it (by simp -iota)) λf0 f1 f2 f3 zz=>wG zz λf4 f5=>?_;exact wpAny_pyNext_range_end (I.ok.hd hc) st (by have:n<=i:=hg;omega) λh' eb=>⟨rfl,I.turned (t':=s.toks) (λb o hb e=>eb b o hb e) f0 f1 f3 f4 f5⟩
 self:=λ_ _ _ _ _ st h=>wpAny_pyIter_rangeiter st h
section
variable {X:Cx}{tg:Expr}
def iList (K:W.Frag)(tl:TE):TI:=λZ H R=>tl Z H λx H1=>∃a,x=.ref a/\(∃xs,SqL K H1 a xs)/\R (Itl K a) H1
def iTup (K:W.Frag)(tl:TE):TI:=λZ H R=>tl Z H λx H1=>∃a,x=.ref a/\(∃xs,SqT K H1 a xs)/\R (Itt K a) H1
def pi_list {l:Expr}{tl:TE}(hl:PE X l tl):PI X tg l (iList X.K tl):=by
 intro Y s Z H R I h;refine thn (hl Y s Z H _ I h) λv s1 zh=>?_;refine zc2c zh λx H1 I1 r1 q1=>?_;refine zc1c q1 λa e zr2 q=>?_;obtain⟨xs,hq⟩:=zr2;subst e;cases r1;refine zc1c (I1.list hq) λits rv p hz=>?_;refine wpAny_pyIter_list p.isList ?_;refine⟨s1.heap.objs.size,[s1.heap.objs.size],_,_,H1,rfl,I1.kept (t':=s1.toks) λb o e=>Zq _ e,turn_list a _,⟨_,Zr _ rfl,rfl,rfl⟩,λb hb=>?_,q⟩;have e:b=s1.heap.objs.size:=by simpa -iota using hb
 subst e;exact I1.fpOk (Zf _) (I1.hok.fresh (Zf _))
def pi_tup {l:Expr}{tl:TE}(hl:PE X l tl):PI X tg l (iTup X.K tl):=by
 intro Y s Z H R I h;refine thn (hl Y s Z H _ I h) λv s1 zh=>?_;refine zc2c zh λx H1 I1 r1 q1=>?_;refine zc1c q1 λa e zr2 q=>?_;obtain⟨xs,hq⟩:=zr2;subst e;cases r1;refine zc1c (I1.tuple hq) λits rv p hz=>?_;refine wpAny_pyIter_tuple (show s1.heap.IsTuple a its.toArray from p) ?_;refine⟨s1.heap.objs.size,[s1.heap.objs.size],_,_,H1,rfl,I1.kept (t':=s1.toks) λb o e=>Zq _ e,turn_tuple a _,⟨_,Zr _ rfl,rfl,rfl⟩,λb hb=>?_,q⟩;have e:b=s1.heap.objs.size:=by simpa -iota using hb
 subst e;exact I1.fpOk (Zf _) (I1.hok.fresh (Zf _))
def range_it {Y:Yb}{Z:St}{H:Hp}{s:Shared}{R:It->Hp->Prop}{E:Ya}{lo hi:Int}{t u v:Tok}{tk:Nat}(I:Inv X Y Z H s)(h1: -(2 ^ 62)<=lo)(h2:lo<2 ^ 62)(h3: -(2 ^ 62)<=hi)(h4:hi<2 ^ 62)
 (q:R (Itr lo (hi-lo).toNat) H):YF X (pyIter (.ref s.heap.objs.size)) (PIE X Y Z tg R) E { s with heap:=s.heap.push { cls:=.type "range",data:=.fields #[.int lo t,.int hi u,.int 1 v] },toks:=tk }:=by
 refine wpAny_pyIter_range (IsRange.new ..) (small_one h1 h2 h3 h4) ?_;have I1:Inv X Y Z H { s with heap:=s.heap.push { cls:=.type "range",data:=.fields #[.int lo t,.int hi u,.int 1 v] },toks:=tk }:=I.kept λb o e=>Zq _ e;refine⟨(s.heap.push { cls:=.type "range",data:=.fields #[.int lo t,.int hi u,.int 1 v] }).objs.size,[(s.heap.push { cls:=.type "range",data:=.fields #[.int lo t,.int hi u,.int 1 v] }).objs.size],_,_,H,rfl,
  I1.kept (t':=tk) λb o e=>Zq _ e,turn_range _ lo (hi-lo).toNat,?_,λb hb=>?_,q⟩
 .have e1:lo+((0:Nat):Int)*1=lo:=by simp -iota
  have e2:(((hi-lo).toNat:Nat):Int)-((0:Nat):Int)=Builtin.Range.rangeSize lo hi 1:=by rw[rangeSize_one];split<;>omega
  show IsRangeIter _ _ (lo+((0:Nat):Int)*1) ((((hi-lo).toNat:Nat):Int)-((0:Nat):Int)) 1;rw[e1,e2];exact Zr _ rfl
 .have e:b=(s.heap.push { cls:=.type "range",data:=.fields #[.int lo t,.int hi u,.int 1 v] }).objs.size:=by simpa -iota using hb
  subst e;exact I1.fpOk (Zf _) (I1.hok.fresh (Zf _))
def iRng1 (ta:TA):TI:=λZ H R=>ta Z H λvs H1=>∃j:Int,vs=[.int j] /\ -(2 ^ 62)<=j/\j<2 ^ 62/\R (Itr 0 j.toNat) H1
def pi_range1 {a:Expr}{ta:TA}{p pos:Pos}(hg:Gl X "range")(hm:X.mg "range" = none)(ha:PA X [a] ta)(hs:autoParam (starEach [a] X.env=[(false,eval a X.env)]) zau._auto_1):PI X tg (.Call (.Name "range" p) [a] [] pos) (iRng1 ta):=by
 intro Y s Z H R I h;refine Call_ (qx I hg hm boot_range (PyProof.Rows.callWith_type1 (thn (ha pos Y s Z H _ I h) λus s1 ⟨vs,H1,I1,r1,q1⟩=>?_) hs rfl));obtain⟨j,e,q1,q2,q⟩:=q1;subst e;cases r1 with
 |cons r rr =>
  cases rr;obtain⟨t,rfl⟩:=r;exact call_range_1 (range_it I1 () () q1 q2 (by simpa -iota using q))
noncomputable def tFor (wi:TI)(g:TG)(tb:TS):TS:=λD Z H=>wi Z H λJ H1=>∃W:Nat->Nat->St->Hp->Prop,(∃m,W 0 m Z H1)/\∀i m Z H,W i m Z H ->
 (J.stop i H/\D.nx Z H)\/(J.go i H/\∃N:St->Hp->Prop,(∀Z' H',N Z' H'->∃m',m'<m/\W (i+1) m' Z' H')/\∀x H',J.yld i H x H'->g x Z H' λZ2 H2=>tb { D with nx:=N,ct:=N,bk:=D.nx } Z2 H2)
noncomputable def oU (fp:Yl)(h:Heap):Yb:=fp.filterMap λb=>(h.get? b).map λo=>(b,o)
def wV {fp:Yl}{h:Heap}{b:Addr}{o:Obj}(hb:b∈fp)(e:h.get? b=some o):(b,o)∈oU fp h:=XI.mpr ⟨b,hb,by rw[e];rfl⟩
def of_pinsAt {fp:Yl}{h:Heap}{p:Addr×Obj}(hp:p∈oU fp h):p.1∈fp/\h.get? p.1=some p.2:=by
 refine zc1b (XI.mp hp) λb hb e=>?_;cases q:h.get? b with
 |none=>rw[q] at e;cases e
 |some o =>
  rw[q] at e;have e':(b,o)=p:=Zqi e;subst e';exact⟨hb,q⟩
def Inv.pinned {Y:Yb}{Z:St}{H:Hp}{s:Shared}{fp:Yl}(I:Inv X Y Z H s)(hf:∀b∈fp,gh X Y H b)(ho:∀b∈fp,∃o,s.heap.get? b=some o/\∀v,o.data ≠ .cell v):Inv X (Y++oU fp s.heap) Z H s:=
 I.pins_of λp hp=>(ZL.mp hp).elim (λz=>I.pin p (ZK _ z)) λz=>by
  obtain⟨hb,e⟩:=of_pinsAt z;refine pR (hf p.1 hb) λf0 f1 f2 _=>?_;refine zc1b (ho p.1 hb) λo e' d=>?_;rw[e] at e';cases e';exact⟨e,f0,f1,f2,d⟩
def Inv.unpinned {Y pl:Yb}{Z:St}{H:Hp}{s:Shared}(I:Inv X (Y++pl) Z H s):Inv X Y Z H s:=I.pins_of λp hp=>I.pin p (ZK _ (ZY _ hp))
def ps_for {iter:Expr}{body:List Stmt}{wi:TI}{g:TG}{tb:TS}{pos:Pos}(hp:PassesOwn (model X.prog X.w) X.A X.env X.xe)(hc:X.calm=true)(hi:PI X tg iter wi)(hg:PG X tg g)(hb:PSs X body tb)
 (hs:autoParam (∀x,foldedSetIterable iter X.env x=pure x) zaw._auto_1):PS X (.For tg iter body [] pos) (tFor wi g tb):=by
 intro Y s Z H D I h;refine wpAny_For (thn (hi Y s Z H _ I h) λv s1 h1=>thn h1 λitv s2 h2=>?_) hs;refine zc4a h2 λit fp tn J zz=>zc1a zz λH2 zz=>xk zz λe I2 T st2 zz=>wG zz λf2 zz=>zc1b zz λW zr11 turn=>?_;obtain⟨m0,w0⟩:=zr11;subst e;have stat:∀{H':Hp},(∀b∈fp,H' b=none)->∀b∈fp,gh X Y H' b:=λhn b hb=>⟨hn b hb,(f2 b hb).2⟩;refine codeAny_forLoop_any (λn s'=>∃i Z' H',Inv X Y Z' H' s'/\tn i s'.heap/\(∀b∈fp,H' b=none)/\W i n Z' H') ?_ m0 ⟨0,Z,H2,I2,st2,λb hb=>(f2 b hb).1,w0⟩;rintro n s3 ⟨i,Z3,H3,I3,st3,fr3,w3⟩;rcases turn i n Z3 H3 w3 with ⟨stop,qn⟩|⟨go,N,hN,step⟩
 .refine wpAny_passesOwn hp (thn (T.done X rfl rfl rfl hc i Y s3 Z3 H3 X.xe I3 (stat fr3) st3 stop) λr s4 zh=>?_);obtain⟨hr,I4⟩:=zh;subst hr;exact wpAny_execs_nil ⟨Z3,H3,I4,qn⟩
 .refine wpAny_passesOwn hp (thn (T.item X rfl rfl rfl hc i Y s3 Z3 H3 X.xe I3 (stat fr3) st3 go) λr s4 zh=>?_);refine zc1b zh λu hr h4=>?_;subst hr;refine wpAny_passesOwn hp (thn h4 λ_ s5 zh=>?_);refine zc2a zh λx H5 zz=>xk zz λI5 r5 y5 st5 fr5=>?_;have I5':=I5.pinned (stat fr5) (T.obj _ _ st5);refine wpAny_passesOwn hp (thn (hg _ s5 Z3 H5 x u _ I5' r5 (step x H5 y5)) λ_ s6 zh=>?_);refine zc2b zh λZ6 H6 I6 q6=>?_;refine wpAny_passesOwn hp (thn (hb _ s6 Z6 H6 _ I6 q6) λf s7 q7=>?_);have again:∀{Z7:St} {H7:Hp},Inv X (Y++oU fp s5.heap) Z7 H7 s7->N Z7 H7->∃m,m<n/\∃i Z' H',Inv X Y Z' H' s7/\tn i s7.heap/\(∀b∈fp,H' b=none)/\W i m Z' H':=λ{Z7 H7} I7 n7=>by
   refine zc1b (hN Z7 H7 n7) λm' hm w7=>?_;refine⟨m',hm,i+1,Z7,H7,I7.unpinned,T.keep _ _ _ st5 λb hb o e=>(I7.pin (b,o) (ZK _ (ZK _ (wV hb e)))).1,λb hb=>?_,w7⟩;refine zc1b (T.obj _ _ st5 b hb) λo e d=>?_;exact(I7.pin (b,o) (ZK _ (ZK _ (wV hb e)))).2.1
  cases f with
  |next=>obtain⟨Z7,H7,I7,n7⟩:=q7;exact again I7 n7
  |cont=>obtain⟨Z7,H7,I7,n7⟩:=q7;exact again I7 n7
  |brk=>obtain⟨Z7,H7,I7,q7⟩:=q7;exact⟨Z7,H7,I7.unpinned,q7⟩
  |ret v=>obtain⟨x7,Z7,H7,I7,r7,q7⟩:=q7;exact⟨x7,Z7,H7,I7.unpinned,r7,q7⟩
end
abbrev R2:=V->V->Hp->VK->Prop
def OpR (X:Cx)(f:Value->Value->Sem Value)(r:R2):Prop:=
 ∀(Y:Yb) (s:Shared) (Z:St) (H:Hp) (x y:V) (v u:Value) (Q:VK),Inv X Y Z H s->yw x v->yw y u->r x y H Q ->
  YF X (f v u) (EP X Y Z Q) X.xe s
def UnR (X:Cx)(f:Value->Sem Value)(r:V->Hp->VK->Prop):Prop:=
 ∀(Y:Yb) (s:Shared) (Z:St) (H:Hp) (x:V) (v:Value) (Q:VK),Inv X Y Z H s->yw x v->r x H Q ->
  YF X (f v) (EP X Y Z Q) X.xe s
noncomputable def zD (X:Cx)(f:Value)(r:YB->Hp->VK->Prop):Prop:=
 ∀(Y:Yb) (s:Shared) (Z:St) (H:Hp) (xs:YB) (us:Yf) (Q:VK),Inv X Y Z H s->yi xs us->r xs H Q ->
  YF X (call f us) (EP X Y Z Q) X.xe s
noncomputable def tOp (r:R2)(ta tb:TE):TE:=λZ H Q=>ta Z H λx H1=>tb Z H1 λy H2=>r x y H2 Q
noncomputable def tUn (r:V->Hp->VK->Prop)(ta:TE):TE:=λZ H Q=>ta Z H λx H1=>r x H1 Q
noncomputable def rI (C:Int->Int->Prop)(g:Int->Int->V):R2:=λx y H Q=>∃i j,x=.int i/\y=.int j/\C i j/\Q (g i j) H
noncomputable def rI0 (g:Int->Int->V):R2:=λx y H Q=>∃i j,x=.int i/\y=.int j/\Q (g i j) H
noncomputable def rU (g:Int->V):V->Hp->VK->Prop:=λx H Q=>∃i,x=.int i/\Q (g i) H
section
variable {X:Cx}{a b c:Expr}{ta tb tc:TE}{pos:Pos}
def bu (ha:PE X a ta)(hb:PE X b tb){Y:Yb}{s:Shared}{Z:St}{H:Hp}{R:V->V->Hp->Prop}(I:Inv X Y Z H s)
 (h:ta Z H λx H1=>tb Z H1 λy H2=>R x y H2) {Q:Ya} {f:Value->Value->Sem Value}
 (hf:∀v u s2 x y H2,Inv X Y Z H2 s2->yw x v->yw y u->R x y H2->YF X (f v u) Q X.xe s2):
 YF X (eval a X.env) (λv s₁=>YF X (eval b X.env) (λu s₂=>YF X (f v u) Q X.xe s₂) X.xe s₁) X.xe s:=by
 refine thn (ha Y s Z H _ I h) λv s1 zh=>?_;refine zc2c zh λx H1 I1 r1 q1=>?_;refine thn (hb Y s1 Z H1 _ I1 q1) λu s2 zh=>?_;refine zc2c zh λy H2 I2 r2 q2=>?_;exact hf v u s2 x y H2 I2 r1 r2 q2
def cq {op:Operator}{r:R2}(ho:OpR X (binaryOp op) r)(ha:PE X a ta)(hb:PE X b tb):PE X (.BinOp a op b pos) (tOp r ta tb):=by
 intro Y s Z H Q I h;exact wpAny_BinOp (bu ha hb I h λv u s2 x y H2 I2 rx ry q=>ho Y s2 Z H2 x y v u Q I2 rx ry q)
def pe_un {op:UnaryOp}{r:V->Hp->VK->Prop}(ho:UnR X (unaryOp op) r)(ha:PE X a ta):PE X (.UnaryOp op a pos) (tUn r ta):=by
 intro Y s Z H Q I h;exact UnaryOp_ (thn (ha Y s Z H _ I h) (by rintro v s1 ⟨x,H1,I1,r1,q1⟩;exact ho Y s1 Z H1 x v Q I1 r1 q1))
def opI {f:Value->Value->Sem Value}{C:Int->Int->Prop}{g:Int->Int->Int}
 (rule:∀(i j:Int) (t u:Tok) (s:Shared) (Q:Ya) (E:Ya),C i j->Q (.int (g i j) s.toks) { s with toks:=s.toks+1 }->YF X (f (.int i t) (.int j u)) Q E s):
 OpR X f (rI C λi j=>.int (g i j)):=by
 intro Y s Z H x y v u Q I rx ry h;refine zc2d h λi j zr2 zr3 hc q=>?_;subst zr2;subst zr3;obtain⟨t,rfl⟩:=rx;obtain⟨t',rfl⟩:=ry;exact rule i j t t' s _ _ hc ⟨.int (g i j),H,I.tok _,⟨_,rfl⟩,q⟩
def bZ {f:Value->Value->Sem Value}{g:Int->Int->Int}
 (rule:∀(i j:Int) (t u:Tok) (s:Shared) (Q:Ya) (E:Ya),Q (.int (g i j) s.toks) { s with toks:=s.toks+1 }->YF X (f (.int i t) (.int j u)) Q E s):
 OpR X f (rI0 λi j=>.int (g i j)):=by
 intro Y s Z H x y v u Q I rx ry h;refine zc2c h λi j zr2 zr3 q=>?_;subst zr2;subst zr3;obtain⟨t,rfl⟩:=rx;obtain⟨t',rfl⟩:=ry;exact rule i j t t' s _ _ ⟨.int (g i j),H,I.tok _,⟨_,rfl⟩,q⟩
def bK {f:Value->Value->Sem Value}{g:Int->Int->Bool}
 (rule:∀(i j:Int) (t u:Tok) (s:Shared) (Q:Ya) (E:Ya),Q (.bool (g i j)) s->YF X (f (.int i t) (.int j u)) Q E s):
 OpR X f (rI0 λi j=>.bl (g i j)):=by
 intro Y s Z H x y v u Q I rx ry h;refine zc2c h λi j zr2 zr3 q=>?_;subst zr2;subst zr3;obtain⟨t,rfl⟩:=rx;obtain⟨t',rfl⟩:=ry;exact rule i j t t' s _ _ ⟨.bl (g i j),H,I,rfl,q⟩
noncomputable def ad (i j:Int):Prop:=0<j/\j<1073741824
noncomputable def bN (i j:Int):Prop:=0<=j/\j<=1000000/\i.natAbs<2 ^ 64
def op_add:OpR X (binaryOp .Add) (rI0 λi j=>.int (i+j)):=bZ λ_ _ _ _ _ _ _ q=>add_int q
def op_sub:OpR X (binaryOp .Sub) (rI0 λi j=>.int (i-j)):=bZ λ_ _ _ _ _ _ _ q=>sub_int q
def op_fdiv:OpR X (binaryOp .FloorDiv) (rI ad λi j=>.int (i / j)):=opI λi j _ _ _ _ _ hc q=>by
 have h1:(0:Int)<j:=hc.1;have h2:j<1073741824:=hc.2;exact floordiv_int () (by rw[Int.fdiv_eq_ediv_of_nonneg i ()];exact q) (.inl (PyProof.noPylong_small ()))
def op_mod:OpR X (binaryOp .Mod) (rI (λ_ j=>0<j) λi j=>.int (i % j)):=opI λi j _ _ _ _ _ hc q=>by
 have h1:(0:Int)<j:=hc;exact mod_int' () (by rw[Int.fmod_eq_emod_of_nonneg i ()];exact q)
def op_pow:OpR X (binaryOp .Pow) (rI bN λi j=>.int (i ^ j.toNat)):=opI λ_ _ _ _ _ _ _ hc q=>pow_int_small hc.1 hc.2.1 hc.2.2 q
def unI {f:Value->Sem Value}{g:Int->Int}
 (rule:∀(i:Int) (t:Tok) (s:Shared) (Q:Ya) (E:Ya),Q (.int (g i) s.toks) { s with toks:=s.toks+1 }->YF X (f (.int i t)) Q E s):
 UnR X f (rU λi=>.int (g i)):=by
 intro Y s Z H x v Q I rx h;refine zc1b h λi zr1 q=>?_;subst zr1;obtain⟨t,rfl⟩:=rx;exact rule i t s _ _ ⟨.int (g i),H,I.tok _,⟨_,rfl⟩,q⟩
def un_neg:UnR X (unaryOp .USub) (rU λi=>.int (-i)):=unI λ_ _ _ _ _ q=>neg_int q
end
noncomputable def scal:V->V->Bool
 | .non,.non=>true | .non,.int _=>true | .int _,.non=>true | .non,.bl _=>true | .bl _,.non=>true | .non,.str _=>true | .str _,.non=>true
 | .int _,.int _=>true | .bl _,.bl _=>true | .str _,.str _=>true | .byt _,.byt _=>true
 | .int _,.str _=>true | .str _,.int _=>true | .bl _,.str _=>true | .str _,.bl _=>true
 |_,_=>false
def rEq:R2:=λx y H Q=>scal x y=true/\Q (.bl (decide (x=y))) H
def rNe:R2:=λx y H Q=>scal x y=true/\Q (.bl (!decide (x=y))) H
def jS {i j:Int}:decide (V.int i=V.int j)=(i == j):=by
 rw[Xt];simp -iota
def fT {i j:Bool}:decide (V.bl i=V.bl j)=(i == j):=by
 rw[Xt];simp -iota
def jv {i j:Str}:decide (V.str i=V.str j)=(i == j):=by
 rw[Xt];simp -iota
def j7 {i j:Array UInt8}:decide (V.byt i=V.byt j)=(i.toList == j.toList):=by
 rw[Xt];cases i;cases j;simp -iota
section
variable {X:Cx}{a b c:Expr}{ta tb tc:TE}{pos:Pos}
def zN {Y:Yb}{Z:St}{H:Hp}{s:Shared}{Q:VK}{k k':Bool}(I:Inv X Y Z H s)(q:Q (.bl k) H)(e:k=k'):EP X Y Z Q (.bool k') s:=by
 subst e;exact⟨.bl k,H,I,rfl,q⟩
def op_eq:OpR X (compareOp .Eq) rEq:=by
 intro Y s Z H x y v u Q I rx ry h;obtain⟨hs,q⟩:=h;cases x with
 |non =>
  cases rx;cases y with
  |non=>cases ry;exact PySem.EqNone.eq_none_none (zN I q (by simp -iota))
  |bl j=>cases ry;exact PySem.EqNone.eq_none_bool (zN I q (by simp -iota))
  |int j=>obtain⟨t',rfl⟩:=ry;exact PySem.EqNone.eq_none_int (zN I q (by simp -iota))
  |str j=>obtain⟨t',rfl⟩:=ry;exact PySem.EqNone.eq_none_str (zN I q (by simp -iota))
  |_=>exact Zn (show false=true from hs) Zj
 |bl i =>
  cases rx;cases y with
  |non=>cases ry;exact PySem.EqNone.eq_bool_none (zN I q (by simp -iota))
  |bl j=>cases ry;exact eq_bool (zN I q fT)
  |str j=>obtain⟨t',rfl⟩:=ry;exact PySem.EqMixed.eq_bool_str (zN I q (by simp -iota))
  |_=>exact Zn (show false=true from hs) Zj
 |int i =>
  obtain⟨t,rfl⟩:=rx;cases y with
  |non=>cases ry;exact PySem.EqNone.eq_int_none (zN I q (by simp -iota))
  |int j=>obtain⟨t',rfl⟩:=ry;exact eq_int (zN I q jS)
  |str j=>obtain⟨t',rfl⟩:=ry;exact PySem.EqMixed.eq_int_str (zN I q (by simp -iota))
  |_=>exact Zn (show false=true from hs) Zj
 |str i =>
  obtain⟨t,rfl⟩:=rx;cases y with
  |non=>cases ry;exact PySem.EqNone.eq_str_none (zN I q (by simp -iota))
  |bl j=>cases ry;exact PySem.EqMixed.eq_str_bool (zN I q (by simp -iota))
  |int j=>obtain⟨t',rfl⟩:=ry;exact PySem.EqMixed.eq_str_int (zN I q (by simp -iota))
  |str j=>obtain⟨t',rfl⟩:=ry;exact eq_str (zN I q jv)
  |_=>exact Zn (show false=true from hs) Zj
 |byt i =>
  obtain⟨t,rfl⟩:=rx;cases y with
  |byt j=>obtain⟨t',rfl⟩:=ry;exact W.eq_bytes (zN I q j7)
  |_=>exact Zn (show false=true from hs) Zj
 |_=>cases y<;>exact Zn (show false=true from hs) Zj
def op_ne:OpR X (compareOp .NotEq) rNe:=by
 intro Y s Z H x y v u Q I rx ry h;obtain⟨hs,q⟩:=h;cases x with
 |non =>
  cases rx;cases y with
  |non=>cases ry;exact PySem.EqNone.ne_none_none (zN I q (by simp -iota))
  |bl j=>cases ry;exact PySem.EqNone.ne_none_bool (zN I q (by simp -iota))
  |int j=>obtain⟨t',rfl⟩:=ry;exact PySem.EqNone.ne_none_int (zN I q (by simp -iota))
  |str j=>obtain⟨t',rfl⟩:=ry;exact PySem.EqNone.ne_none_str (zN I q (by simp -iota))
  |_=>exact Zn (show false=true from hs) Zj
 |bl i =>
  cases rx;cases y with
  |non=>cases ry;exact PySem.EqNone.ne_bool_none (zN I q (by simp -iota))
  |bl j=>cases ry;exact ne_bool (zN I q (Zt not fT))
  |str j=>obtain⟨t',rfl⟩:=ry;exact PySem.EqMixed.ne_bool_str (zN I q (by simp -iota))
  |_=>exact Zn (show false=true from hs) Zj
 |int i =>
  obtain⟨t,rfl⟩:=rx;cases y with
  |non=>cases ry;exact PySem.EqNone.ne_int_none (zN I q (by simp -iota))
  |int j=>obtain⟨t',rfl⟩:=ry;exact ne_int (zN I q (Zt not jS))
  |str j=>obtain⟨t',rfl⟩:=ry;exact PySem.EqMixed.ne_int_str (zN I q (by simp -iota))
  |_=>exact Zn (show false=true from hs) Zj
 |str i =>
  obtain⟨t,rfl⟩:=rx;cases y with
  |non=>cases ry;exact PySem.EqNone.ne_str_none (zN I q (by simp -iota))
  |bl j=>cases ry;exact PySem.EqMixed.ne_str_bool (zN I q (by simp -iota))
  |int j=>obtain⟨t',rfl⟩:=ry;exact PySem.EqMixed.ne_str_int (zN I q (by simp -iota))
  |str j=>obtain⟨t',rfl⟩:=ry;exact ne_str (zN I q (Zt not jv))
  |_=>exact Zn (show false=true from hs) Zj
 |byt i =>
  obtain⟨t,rfl⟩:=rx;cases y with
  |byt j=>obtain⟨t',rfl⟩:=ry;exact W.ne_bytes (zN I q (Zt not j7))
  |_=>exact Zn (show false=true from hs) Zj
 |_=>cases y<;>exact Zn (show false=true from hs) Zj
def op_lt:OpR X (compareOp .Lt) (rI0 λi j=>.bl (decide (i<j))):=bK λ_ _ _ _ _ _ _ q=>lt_int q
def op_gt:OpR X (compareOp .Gt) (rI0 λi j=>.bl (decide (j<i))):=bK λ_ _ _ _ _ _ _ q=>gt_int q
def zQ (b:Expr){op:CmpOp}(h:autoParam (op ≠ .In) zav._auto_1)(h2:autoParam (op ≠ .NotIn) zav._auto_1):behindInMarks op b=false:=by
 have e1:(op == CmpOp.In)=false:=by cases op<;>first|rfl|exact Zn rfl h
 have e2:(op == CmpOp.NotIn)=false:=by cases op<;>first|rfl|exact Zn rfl h2
 cases b<;>first|rfl|(show(_&&(_||_)&&_)=false;rw[e1,e2,Bool.or_self,Bool.and_false,Bool.false_and])
def pe_cmpR {op:CmpOp}{r:R2}(ho:OpR X (compareOp op) r)(ha:PE X a ta)(hb:PE X b tb)(hm:behindInMarks op b=false):PE X (.Compare a [op] [b] pos) (tOp r ta tb):=by
 intro Y s Z H Q I h;exact wpAny_Compare1 (bu ha hb I h λv u s2 x y H2 I2 rx ry q=>ho Y s2 Z H2 x y v u Q I2 rx ry q) hm
noncomputable def tTest (t:TE):TT:=λZ H Q=>t Z H λx H'=>∃k,x=.bl k/\Q k H'
def nR {op:CmpOp}{r:R2}(ho:OpR X (compareOp op) r)(ha:PE X a ta)(hb:PE X b tb)(hm:behindInMarks op b=false):PT X (.Compare a [op] [b] pos) (tTest (tOp r ta tb)):=by
 intro Y s Z H Q I h;refine wpAny_isTrue_Compare1 (thn (ha Y s Z H _ I h) λv s1 ⟨x,H1,I1,r1,q1⟩=>thn (hb Y s1 Z H1 _ I1 q1) λu s2 ⟨y,H2,I2,r2,q2⟩ =>
  thn (ho Y s2 Z H2 x y v u _ I2 r1 r2 q2) λc s3 ⟨z,H3,I3,r3,k,e,q3⟩=>?_) hm
 subst e;cases r3;exact wpAny_truthy_bool ⟨H3,I3,q3⟩
def qA:(sizeLine:Nat)<2 ^ 63:=by rw[sizeLine_eq];decide
def op_add_str:OpR X (binaryOp .Add) (λx y H Q=>∃i j,x=.str i/\y=.str j/\i.length+j.length<=sizeLine/\Q (.str (i++j)) H):=by
 intro Y s Z H x y v u Q I rx ry h;refine zc2d h λi j zr2 zr3 hz q=>?_;subst zr2;subst zr3;obtain⟨t,rfl⟩:=rx;obtain⟨t',rfl⟩:=ry;exact add_str (λt' tk=>⟨.str (i++j),H,I.tok _,⟨_,rfl⟩,q⟩) hz
def vF {x:V}{us:Yf}(r:yi [x] us):∃u,us=[u]/\yw x u:=by
 cases r with
 |cons r1 r2=>cases r2;exact⟨_,rfl,r1⟩
def iE {x y:V}{us:Yf}(r:yi [x,y] us):∃u w',us=[u,w']/\yw x u/\yw y w':=by
 cases r with
 |cons r1 r2 =>
  cases r2 with
  |cons r3 r4=>cases r4;exact⟨_,_,rfl,r1,r3⟩
def call_max2 (hc:X.calm=true):zD X (.builtin "max") (λxs H Q=>∃i j,xs=[.int i,.int j]/\Q (.int (if j > i then j else i)) H):=by
 intro Y s Z H xs us Q I r h;refine zc2b h λi j zr2 q=>?_;subst zr2;refine zc2c (iE r) λu w' zr2 zr3 zr4=>?_;subst zr2;obtain⟨t,rfl⟩:=zr3;obtain⟨t',rfl⟩:=zr4;refine max_two_ints (I.ok.hd hc) λh' tk k=>⟨_,H,I.kept k,?_,q⟩;by_cases hj:j > i
 .rw[Zd hj,Zd hj];exact⟨_,rfl⟩
 .rw[Ze hj,Ze hj];exact⟨_,rfl⟩
def call_min2 (hc:X.calm=true):zD X (.builtin "min") (λxs H Q=>∃i j,xs=[.int i,.int j]/\Q (.int (if j<i then j else i)) H):=by
 intro Y s Z H xs us Q I r h;refine zc2b h λi j zr2 q=>?_;subst zr2;refine zc2c (iE r) λu w' zr2 zr3 zr4=>?_;subst zr2;obtain⟨t,rfl⟩:=zr3;obtain⟨t',rfl⟩:=zr4;refine min_two_ints (I.ok.hd hc) λh' tk k=>⟨_,H,I.kept k,?_,q⟩;by_cases hj:j<i
 .rw[Zd hj,Zd hj];exact⟨_,rfl⟩
 .rw[Ze hj,Ze hj];exact⟨_,rfl⟩
end
structure ObjM (h:Heap)(x dx C:Addr)(mA:Ye):Prop where
 obj:h.get? x=some (W.instObj C dx)
 ns:h.Ns1 dx mA
 ne:dx≠x
def lookIn_ns {h:Heap}{dx:Addr}{mA:Ye}(n:h.Ns1 dx mA):∃od,h.get? dx=some od/\∀name,W.lookIn name od=some (mA name):=by
 refine zc3a n λo es ep zz=>xk zz λho hd hk _ hm=>?_;refine⟨o,ho,λname=>?_⟩;have e:=hm name;unfold nsFind findBy at e;rw[<- Array.find?_toList] at e;unfold W.lookIn;rw[hd];dsimp only
 split
 .rename_i y q;rw[q] at e;exact Zt some e
 .rename_i q;rw[q] at e;have a:es.toList.any (·.refKey)=false:=by
   rw[List.any_eq_false];intro y hy;refine zc2a (hk y (XQ.mp hy)) λz t hkey=>?_;simp -iota [DictEntry.refKey,hkey]
  have a':¬es.toList.any (·.refKey)=true:=by rw[a];exact Zj
  rw[Ze a'];exact Zt some e
def ObjM.look {h:Heap}{x dx C:Addr}{mA:Ye}(I:ObjM h x dx C mA):∃od,W.InstAt h x (W.instObj C dx) C (some od)/\∀name,W.lookIn name od=some (mA name):=
 let ⟨od,ho,hl⟩:=lookIn_ns I.ns
 ⟨od,⟨I.obj,rfl,rfl,ho⟩,hl⟩
def kD.some_of {v:V}{o:Yg}(r:kD (some v) o):∃u,o=some u/\yw v u:=by
 cases o with
 |none=>exact(show False from r).elim
 |some u=>exact⟨u,rfl,r⟩
section
variable {P:Program}{w:World}{H H':Hp}{h h':Heap}{a C dx:Addr}{fs fs':List (Str×V)}
def ins_get (hok:HOk P w H h)(e:H a=some (.ins C dx fs)):∃mA,ObjM h a dx C mA/\(∀f,kD (fs.lookup f) (mA f))/\PySem.Within mA (fs.map (·.1))/\fs.length<=1000/\H dx=some (.own a):=by
 refine xk ((show yr P w H h a (.ins C dx fs) from hok a _ e)) λd z ne ob zz=>zc1c zz λmA n r q=>?_;exact⟨mA,⟨ob,n,ne⟩,r,q,z,d⟩
end
structure Cls (K:W.Frag)(C:Addr):Prop where
 pg:W.plainGet K C Str.empty=true
 hd:W.hasDictIn K C=true
 po:W.plainOver K C=true
 sa:W.findIn K (.ref C) "__setattr__" = some (some (.builtin "object.__setattr__"))
def Cls.get {K:W.Frag}{C:Addr}(c:Cls K C)(f:Str):W.plainGet K C f=true:=c.pg
section
variable {X:Cx}{Y:Yb}{Z:St}{H:Hp}{s:Shared}{A:Around}{E:Ya}{Q:Ya}{c:Value}{b:Bool}
inductive TyOf (K:W.Frag)(H:Hp):V->Value->Prop where
 |non:TyOf K H .non (.type "NoneType")
 |bl (x:Bool):TyOf K H (.bl x) (.type "bool")
 |int (i:Int):TyOf K H (.int i) (.type "int")
 |str (x:Str):TyOf K H (.str x) (.type "str")
 |flt (x:UInt64):TyOf K H (.flt x) (.type "float")
 |lst {a:Addr} {xs:YB} (e:H a=some (.lst xs)):TyOf K H (.ref a) (.type "list")
 |frz {a:Addr} {o:Obj} {xs:YB} (e:H a=some (.frz o (.lst xs))):TyOf K H (.ref a) (.type "list")
 |tup {a:Addr} {xs:YB} (e:H a=some (.tup xs)):TyOf K H (.ref a) (.type "tuple")
 |dK {a:Addr} {kvs:List (Key×V)} (e:H a=some (.dK kvs)):TyOf K H (.ref a) (.type "dict")
 |dT {a:Addr} {kvs:List (List Key×V)} (e:H a=some (.dT kvs)):TyOf K H (.ref a) (.type "dict")
 |ins {a C dx:Addr} {fs:List (Str×V)} (e:H a=some (.ins C dx fs)) (cl:Cls K C) (ha:W.findIn K (.ref C) "__class__" = some (some (.builtin "object.__class__")))
  (hn:W.specialIn K (.builtin "object.__class__") "__get__" = some (some (.builtin "getset_descriptor.__get__"))) (htk:W.takesIn K (.builtin "object.__class__")=some true)
  (hm:W.mroIn K C (.type "object")=some true):TyOf K H (.ref a) (.ref C)
def isinst_ok {x:V}{u t:Value}(I:Inv X Y Z H s)(rx:yw x u)(ty:TyOf X.K H x t)(e:W.kitOne X.K t c=some b)(h:∀tk,Q (.bool b) { s with toks:=tk }):
 wpAny (model X.prog X.w) A (call (.builtin "isinstance") [u,c]) Q E s:=by
 cases ty with
 |non=>cases (show u=Value.none from rx);exact W.kia_one W.kitx_none I.kIn True.intro e (λz=>nomatch z) h
 |bl y=>cases (show u=Value.bool y from rx);exact W.kia_one W.kitx_bool I.kIn True.intro e (λz=>nomatch z) h
 |int i=>obtain⟨t,q⟩:=(show ∃t,u=Value.int i t from rx);cases q;exact W.kia_one W.kitx_int I.kIn True.intro e (λz=>nomatch z) h
 |str y=>obtain⟨t,q⟩:=(show ∃t,u=Value.str y t from rx);cases q;exact W.kia_one W.kitx_str I.kIn True.intro e (λz=>nomatch z) h
 |flt y=>obtain⟨t,q⟩:=(show ∃t,u=Value.float y t from rx);cases q;exact W.kia_one W.kitx_float I.kIn True.intro e (λz=>nomatch z) h
 | @lst a xs ea =>
  cases (show u=Value.ref a from rx);refine wG ((show yr X.prog X.w H s.heap a (.lst xs) from I.hok a _ ea)) λ_ zz=>zc2b zz λ_ n _ h1=>?_;exact W.kia_one W.kitx_list I.kIn ⟨_,h1,rfl⟩ e (λz=>nomatch z) h
 | @frz a ob xs ea =>
  cases (show u=Value.ref a from rx);refine xF ((show yr X.prog X.w H s.heap a (.frz ob (.lst xs)) from I.hok a _ ea)) λ_ _ zz=>zc2b zz λ_ n _ h1=>?_;exact W.kia_one W.kitx_list I.kIn ⟨_,h1,rfl⟩ e (λz=>nomatch z) h
 | @tup a xs ea =>
  cases (show u=Value.ref a from rx);refine wG ((show yr X.prog X.w H s.heap a (.tup xs) from I.hok a _ ea)) λ_ zz=>zc1b zz λ_ _ p=>?_;refine zc1c p λo h1 h2 _=>?_;exact W.kia_one W.kitx_tuple I.kIn ⟨o,h1,h2⟩ e (λz=>nomatch z) h
 | @dK a kvs ea =>
  cases (show u=Value.ref a from rx);refine xF ((show yr X.prog X.w H s.heap a (.dK kvs) from I.hok a _ ea)) λ_ _ zz=>zc1b zz λvs _ p=>?_;refine zc3c p λo es ep h1 h2 _=>?_;exact W.kia_one W.kitx_dict I.kIn ⟨o,h1,h2.1⟩ e (λz=>nomatch z) h
 | @dT a kvs ea =>
  cases (show u=Value.ref a from rx);refine xF ((show yr X.prog X.w H s.heap a (.dT kvs) from I.hok a _ ea)) λ_ _ zz=>zc1b zz λxs _ zz=>zc3c zz λo es ep h1 h2 _=>?_;exact W.kia_one W.kitx_dict I.kIn ⟨o,h1,h2.1⟩ e (λz=>nomatch z) h
 | @ins a C dx fs ea cl ha hn htk hm =>
  cases (show u=Value.ref a from rx);refine zc1b (ins_get I.hok ea) λmA O _=>?_;refine zc1b O.look λod J _=>?_;exact W.kia_one (W.kitx_own (cl.get _) cl.hd ha hn htk hm) I.kIn J e (λz=>nomatch z) h
end
structure Room (k:Nat)(A:Around):Prop where
 hd:A.handled=none
 dp:A.depth+3*k+5<recursionLimit
 un:A.units+16*k+200<cLine
def Room.mono {j k:Nat}{A:Around}(r:Room k A)(h:j<=k):Room j A:=⟨r.hd,by have:=r.dp;omega,by have:=r.un;omega⟩
theorem Room.deeper {k:Nat}{A:Around}(r:Room (k+1) A)(env:Env):Room k (A.deeper env):=
 ⟨r.hd,by have:=r.dp;show A.depth+1+3*k+5<_;omega,by have:=r.un;show A.units+3+16*k+200<_;omega⟩
theorem Room.depth {k:Nat}{A:Around}(r:Room k A):A.depth<recursionLimit:=by have:=r.dp;omega
theorem Room.units {k:Nat}{A:Around}(r:Room k A):A.units+64<cLine:=by have:=r.un;omega
noncomputable def bF:TA:=λ_ H Q=>Q [] H
noncomputable def dz (ta:TE)(tr:TA):TA:=λZ H Q=>ta Z H λx H1=>tr Z H1 λxs H2=>Q (x::xs) H2
section
variable {X:Cx}{e:Expr}{es:Ym}{te:TE}{t:TA}{pos:Pos}
def mL:PA X [] bF:=λ_ _ _ _ H Q I h=>Calls.spliced_nil ⟨[],H,I,.nil,h⟩
def qG (ha:PE X e te)(hr:PA X es t)(hs:autoParam (starEach (e::es) X.env=(false,eval e X.env)::starEach es X.env) zau._auto_1):PA X (e::es) (dz te t):=by
 intro pos Y s Z H Q I h;rw[hs];show wpAny _ _ (spliced ((false,eval e X.env)::backTo pos (starEach es X.env))) _ _ s;refine Calls.spliced_cons (thn (ha Y s Z H _ I h) λu s1 zh=>?_);refine zc2c zh λx H1 I1 r1 q1=>?_;exact thn (hr pos Y s1 Z H1 _ I1 q1) (by rintro us s2 ⟨xs,H2,I2,r2,q2⟩;exact⟨x::xs,H2,I2,.cons r1 r2,q2⟩)
def tTup (t:TA):TE:=λZ H Q=>t Z H λxs H1=>xs.length<=sizeLine/\∀p,H1 p=none->Q (.ref p) (upd H1 p (.tup xs))
def tLst (t:TA):TE:=λZ H Q=>t Z H λxs H1=>xs.length<=sizeLine/\∀p,H1 p=none->Q (.ref p) (upd H1 p (.lst xs))
def pe_tup {x1}(h:PA X es t):PE X (.Tuple es x1 pos) (tTup t):=by
 intro Y s Z H Q I hq;refine wpAny_Tuple_spliced (thn (h pos Y s Z H _ I hq) λus s1 ⟨xs,H1,I1,r,z,q⟩=>⟨by rw[<- r.length];exact z,?_⟩);have hf:H1 s1.heap.objs.size=none:=I1.hok.fresh (Zf _);refine⟨.ref s1.heap.objs.size,upd H1 s1.heap.objs.size (.tup xs),I1.laid (t':=s1.toks) (λb u e=>Zq _ e) (Zf _) ?_,rfl,q _ hf⟩;exact⟨⟨z,⟨_,Zr _ rfl,rfl⟩⟩,us,r,⟨_,Zr _ rfl,rfl,_,rfl⟩⟩
def pe_lst (h:PA X es t):PE X (.List es pos) (tLst t):=by
 intro Y s Z H Q I hq;refine wpAny_List_spliced (thn (h pos Y s Z H _ I hq) λus s1 ⟨xs,H1,I1,r,z,q⟩=>⟨by rw[<- r.length];exact z,?_⟩);have hf:H1 s1.heap.objs.size=none:=I1.hok.fresh (Zf _);refine⟨.ref s1.heap.objs.size,upd H1 s1.heap.objs.size (.lst xs),I1.laid (t':=s1.toks) (λb u e=>Zq _ e) (Zf _) ?_,rfl,q _ hf⟩;exact⟨z,us,0,r,Zr _ rfl⟩
end
abbrev Sp:=YB->Hp->VK->XK->Prop
abbrev CXT:=List Env->Hp->Shared->XK->Ya
structure Env0 (P:Program)(w:World)(K:W.Frag)(mg:Ye)(base:Heap)(A:Around)(outer:List Env)(s:Shared)(H:Hp):Prop where
 frames:A.frames=some outer
 mod:Mod K mg base
 bs:∀b o,base.get? b=some o->s.heap.get? b=some o/\H b=none
 bsz:base.objs.size<=s.heap.objs.size
 funs:s.heap.FunFrames base outer
 frf:∀b∈frs outer,H b=none
 hok:HOk P w H s.heap
 bare:AllBare s.gens
def CE (outer:List Env)(P:Program)(w:World)(H:Hp)(s:Shared)(Q:VK)(u:Value)(s':Shared):Prop:=
 ∃v H',s'.os=s.os/\AllBare s'.gens/\Un (frs outer) [] H H' s.heap s'.heap/\HOk P w H' s'.heap/\yw v u/\Q v H'
noncomputable def CR (CX:CXT)(outer:List Env)(P:Program)(w:World)(H:Hp)(s:Shared)(Q:VK)(E:XK)(r:Result)(s':Shared):Prop:=
 match r with
 | .ok (.ret u)=>CE outer P w H s Q u s'
 | .ok _=>False
 | .error e=>CX outer H s E e s'
structure FnOk (P:Program)(w:World)(K:W.Frag)(mg:Ye)(base:Heap)(CX:CXT)(k:Nat)(f:Addr)(fd:FuncData)(ps:Yk)(sp:Sp):Prop where
 len:∀vs H Q E,sp vs H Q E->vs.length=ps.length
 run:∀(A:Around) (outer:List Env) (s:Shared) (H:Hp) (args:Args) (us:Yf) (vs:YB) (Q:VK) (E:XK),Room k A->Env0 P w K mg base A outer s H->BindsTo s fd args (ps.zip us)->yi vs us->sp vs H Q E ->
  codeAny (model P w) A (.call (.ref f) args) (CR CX outer P w H s Q E) s
theorem FnOk.mono {P:Program}{w:World}{K:W.Frag}{mg:Ye}{base:Heap}{CX:CXT}{j k:Nat}{f:Addr}{fd:FuncData}{ps:Yk}{sp:Sp}(F:FnOk P w K mg base CX j f fd ps sp)(h:j<=k):
 FnOk P w K mg base CX k f fd ps sp:=⟨F.len,λA outer s H args us vs Q E hr=>F.run A outer s H args us vs Q E (hr.mono h)⟩
def FnOk.imp {P:Program}{w:World}{K:W.Frag}{mg:Ye}{base:Heap}{CX:CXT}{k:Nat}{f:Addr}{fd:FuncData}{ps:Yk}{sp sp':Sp}(F:FnOk P w K mg base CX k f fd ps sp)
 (h:∀vs H Q E,sp' vs H Q E->sp vs H Q E):FnOk P w K mg base CX k f fd ps sp':=
 ⟨λvs H Q E q=>F.len vs H Q E (h _ _ _ _ q),λA outer s H args us vs Q E hr he hb hv hs=>F.run A outer s H args us vs Q E hr he hb hv (h _ _ _ _ hs)⟩
section
variable {X:Cx}{Y:Yb}{Z:St}{H:Hp}{s s':Shared}
def Inv.env0 (I:Inv X Y Z H s):Env0 X.prog X.w X.K X.mg X.base X.A X.stack s H:=
 ⟨I.ok.frames,I.ok.mod,I.bs,Zh I.ok.bsz I.sz,I.stack,I.stkFree,I.hok,I.bare⟩
def Inv.after {Q:VK}{u:Value}(I:Inv X Y Z H s)(h:CE X.stack X.prog X.w H s Q u s'):EP X Y Z Q u s':=by
 refine zc2a h λv H' zz=>xk zz λos bare un hok zz=>wG zz λr q=>?_;obtain⟨hh,g,d,t,os'⟩:=s';obtain rfl:os'=s.os:=os;exact⟨v,H',I.call (h':=hh) (g':=g) (d':=d) (t':=t) (ch:=[]) un hok bare (λb z=>Zn z (by simp -iota)),r,q⟩
end
noncomputable def eU (sp:Sp)(dvs:YB)(E:XK)(t:TA):TE:=λZ H Q=>t Z H λvs H1=>sp (vs++dvs) H1 Q E
noncomputable def oX (K:W.Frag)(fd:FuncData)(ps:Yk)(ds:Yf):Prop:=
 ∀(s:Shared) (us:Yf),K.In s.heap->(us++ds).length=ps.length->BindsTo s fd ⟨us,[]⟩ (ps.zip (us++ds))
def oX.all {K:W.Frag}{fd:FuncData}{ps:Yk}(h:∀us:Yf,us.length=ps.length->bindArgs fd ⟨us,[]⟩=pure (ps.zip us)):oX K fd ps []:=λs us _ hl=>by
 rw[Zz] at hl ⊢;exact .of_eq (h us hl)
noncomputable def kq (CX:CXT)(X:Cx)(E:XK):Prop:=∀(Y:Yb) (Z:St) (H:Hp) (s:Shared) (e:Value) (s':Shared),Inv X Y Z H s->CX X.stack H s E e s'->X.xe e s'
section
variable {X:Cx}{CX:CXT}{k:Nat}{f C:Addr}{fd:FuncData}{ps:Yk}{sp:Sp}{dvs:YB}{ds:Yf}{E:XK}{x m:Str}{p pos apos:Pos}{e o:Expr}{es:Ym}{ta:TE}{t:TA}
def run_fn {Y:Yb}{Z:St}{H:Hp}{s:Shared}{Q:VK}{us:Yf}{vs:YB}(F:FnOk X.prog X.w X.K X.mg X.base CX k f fd ps sp)(hr:Room k X.A)(hb:oX X.K fd ps ds)(hd:yi dvs ds)(hx:kq CX X E)
 (I:Inv X Y Z H s) (r:yi vs us) (h:sp (vs++dvs) H Q E):YF X (call (.ref f) us) (EP X Y Z Q) X.xe s:=by
 have r2:yi (vs++dvs) (us++ds):=r.append hd;have hl:(us++ds).length=ps.length:=by rw[<- r2.length];exact F.len _ _ _ _ h
 refine wpAny_call (codeAny_mono (F.run X.A X.stack s H ⟨us,[]⟩ (us++ds) (vs++dvs) Q E hr I.env0 (hb s us I.kIn hl) r2 h) λr s' hq=>?_);cases r with
 |error e=>exact hx Y Z H s e s' I hq
 |ok fl =>
  cases fl with
  |ret u=>exact I.after hq
  |next=>exact False.elim hq
  |brk=>exact False.elim hq
  |cont=>exact False.elim hq
def jY (F:FnOk X.prog X.w X.K X.mg X.base CX k f fd ps sp)(hr:Room k X.A)(hg:Gl X x)(hm:X.mg x=some (.ref f))(hk:W.keepIn X.K (.ref f)=true)(hb:oX X.K fd ps ds)(hd:yi dvs ds)(hx:kq CX X E)
 (ha:PA X (e::es) t) (hdb:autoParam ((x == ("__debug__" : Str))=false) zav._auto_1) (he:starEach (e::es) X.env=(false,eval e X.env)::starEach es X.env:=by rfl) (hpl:(backTo pos (starEach es X.env)).any (·.1)=false:=by rfl):
 PE X (.Call (.Name x p) (e::es) [] pos) (eU sp dvs E t):=by
 intro Y s Z H Q I h;refine wpAny_Call_Name_kw (qX I hg hm ?_ hdb);refine W.callWith_K (h₀:=X.base) I.ok.mod.kin hk (thn (ha pos Y s Z H _ I h) λus s1 ⟨vs,H1,I1,r,q⟩=>⟨I1.kIn,?_⟩) he hpl;exact run_fn F hr hb hd hx I1 r q
end
structure FnScope (N P:Yk)(sc:Scope):Prop where
 kind:sc.kind=.function
 co:sc.isCoroutine=false
 gen:sc.isGenerator=false
 nd:N.Nodup
 pre:N.take P.length=P
 par:∀x∈P,sc.names.lookup x=some .local\/sc.names.lookup x=some .cell
 nofree:∀y∈sc.names,y.2 ≠ .free
theorem oY {kindOf:Str->Option NameKind}{x:Str}:∀{binds:List (Str×Value)} {m:Ye},(∀v,(x,v)∉binds)->bindL kindOf binds m x=m x
 | [],_,_=>rfl
 | (n,v)::r,m,h=>by
  unfold bindL;rw[oY λw hw=>h w (Zqm _ hw)]
  split
  .have:x≠n:=by rintro rfl;exact h v Zqs
   simp -iota [this]
  .rfl
theorem pZ {kindOf:Str->Option NameKind}{x:Str}:∀{binds:List (Str×Value)} {m:Ye},(∀v,(x,v)∉binds)->bindC kindOf binds m x=m x
 | [],_,_=>rfl
 | (n,v)::r,m,h=>by
  unfold bindC;rw[pZ λw hw=>h w (Zqm _ hw)]
  split
  .rfl
  .have:x≠n:=by rintro rfl;exact h v Zqs
   simp -iota [this]
theorem oJ {kindOf:Str->Option NameKind}{x:Str}{v:Value}:∀{P:Yk} {vs:Yf} {i:Nat} {m:Ye},P.Nodup->P[i]? = some x->vs[i]? = some v->kindOf x=some .local ->
 bindL kindOf (P.zip vs) m x=some v
 | [],_,_,_,_,h,_,_=>by simp -iota at h
 |_::_,[],_,_,_,_,h,_=>by simp -iota at h
 |p::P,w::vs,0,m,nd,h1,h2,hk=>by
  simp -iota at h1 h2;subst h1;subst h2;show bindL kindOf ((p,w)::P.zip vs) m p=_;unfold bindL;rw[oY λv hv=>(List.nodup_cons.mp nd).1 (List.of_mem_zip hv).1,Zd hk];simp -iota
 |p::P,w::vs,i+1,m,nd,h1,h2,hk=>by
  show bindL kindOf ((p,w)::P.zip vs) m x=_;unfold bindL;exact oJ (i:=i) (List.nodup_cons.mp nd).2 (by simpa -iota using h1) (by simpa -iota using h2) hk
theorem pU {kindOf:Str->Option NameKind}{x:Str}{v:Value}:∀{P:Yk} {vs:Yf} {i:Nat} {m:Ye},P.Nodup->P[i]? = some x->vs[i]? = some v->kindOf x≠some .local ->
 bindC kindOf (P.zip vs) m x=some v
 | [],_,_,_,_,h,_,_=>by simp -iota at h
 |_::_,[],_,_,_,_,h,_=>by simp -iota at h
 |p::P,w::vs,0,m,nd,h1,h2,hk=>by
  simp -iota at h1 h2;subst h1;subst h2;show bindC kindOf ((p,w)::P.zip vs) m p=_;unfold bindC;rw[pZ λv hv=>(List.nodup_cons.mp nd).1 (List.of_mem_zip hv).1,Ze hk];simp -iota
 |p::P,w::vs,i+1,m,nd,h1,h2,hk=>by
  show bindC kindOf ((p,w)::P.zip vs) m x=_;unfold bindC;exact pU (i:=i) (List.nodup_cons.mp nd).2 (by simpa -iota using h1) (by simpa -iota using h2) hk
noncomputable def start (N:Yk)(vs:YB):St:=vs.map some++List.replicate (N.length-vs.length) none
noncomputable def rA (CX:CXT)(P:Program)(w:World)(K:W.Frag)(mg:Ye)(base:Heap)(N:Yk)(qual:Str)(scope:Scope)(f:Addr)(cd:Value)(A:Around)(outer:List Env)(s:Shared)(H:Hp)(E:XK):Cx where
 prog:=P
 w:=w
 K:=K
 mg:=mg
 base:=base
 A:=A.deeper (envOfC qual scope s.heap.objs.size f cd)
 N:=N
 s₀:=s
 H₀:=H
 env:=envOfC qual scope s.heap.objs.size f cd
 outer:=outer
 stack:=envOfC qual scope s.heap.objs.size f cd::outer
 ex:=[]
 calm:=true
 fn:=λ_=>true
 pn:=[]
 xe:=λe s'=>wpAny (model P w) (A.deeper (envOfC qual scope s.heap.objs.size f cd)) (leaving (envOfC qual scope s.heap.objs.size f cd) e) (λ_ s''=>CX outer H s E e s'') (λe' s''=>CX outer H s E e' s'') s'
def l6 {sc:Scope}{n:Nat}{x:Str}(h:sc.names.lookup x=some .cell):∃c,(cellsFrom n sc.names []).lookup x=some c:=by
 have q:=W.cellsFrom_some sc.names n [] (.inl h);exact Option.isSome_iff_exists.mp q
def inv_start {CX:CXT}{P:Program}{w:World}{K:W.Frag}{mg:Ye}{base:Heap}{N ps:Yk}{qual:Str}{scope:Scope}{f:Addr}{cd:Value}{A:Around}{outer:List Env}{s s1:Shared}{H:Hp}{E:XK}{us:Yf}{vs:YB}
 (S:FnScope N ps scope) (hd:A.handled=none) (e0:Env0 P w K mg base A outer s H) (hl:vs.length=ps.length) (r:yi vs us)
 (x:InCallC s s.heap.objs.size (bindL (envOfC qual scope s.heap.objs.size f cd).kindOf (ps.zip us) λ_=>none) (cellsFrom (s.heap.objs.size+1) scope.names []) (bindC (envOfC qual scope s.heap.objs.size f cd).kindOf (ps.zip us) λ_=>none) s1):
 Inv (rA CX P w K mg base N qual scope f cd A outer s H E) [] (start N vs) H s1:=by
 have hpl:ps.length<=N.length:=by have:=Zt List.length S.pre;rw[ZV] at this;omega
 refine zc2b x.done λh1 tk zr2 hk=>?_;subst zr2;have noA:∀b:Addr,b∉(rA CX P w K mg base N qual scope f cd A outer s H E).ex:=λb z=>Zn (show b∈([]:Yl) from z) (by simp -iota);refine⟨⟨e0.mod,S.kind,rfl,rfl,Zf _,λy z c h1 h2=>?_,λy hy=>?_,λy c _ h=>?_,λ_=>hd,Around.frames_deeper e0.frames,.inr ⟨rfl,rfl⟩,λb z=>Zn z (noA b),e0.bs,e0.bsz,λb _ _=>noA b,λb z=>Zn z (noA b),e0.funs,e0.frf⟩,
  rfl,e0.bare,Un.kept hk,⟨_,x.toInCall.ns,λi y v h1 h2 h3=>?_⟩,λy c h=>⟨_,x.cell y c h⟩,e0.hok.fresh (Zf _),λy c h=>?_,λp hp=>Zn (show p∈([]:Yb) from hp) (by simp -iota),e0.hok.kept hk,?_⟩
 .exact name_of_addr x.apart (PySem.mem_of_lookup h1) (PySem.mem_of_lookup h2)
 .have hy:scope.names.lookup y=some .cell\/scope.names.lookup y=some .free:=hy;rcases hy with hy|hy
  .exact l6 hy
  .exact Zn rfl (S.nofree _ (PySem.mem_of_lookup hy))
 .exact Zy (x.above y c (PySem.mem_of_lookup h))
 .have hi:i<vs.length:=by
   unfold start at h2;by_cases hi:i<vs.length
   .exact hi
   .rw[Xh (by simpa -iota using hi)] at h2;rw[List.getElem?_replicate] at h2
    split at h2<;>cases h2
  have ha:vs[i]? = some v:=by
   unfold start at h2;rw[Xq (by simpa -iota using hi),Zv] at h2;cases e:vs[i]? with
   |none=>rw[e] at h2;cases h2
   |some a=>rw[e] at h2;cases h2;rfl
  refine zc1b (r.get ha) λu hu rv=>?_;have hp:ps[i]? = some y:=by
   rw[<- S.pre,List.getElem?_take_of_lt ()];exact h1
  have ndP:ps.Nodup:=by rw[<- S.pre];exact S.nd.sublist (List.take_sublist _ _)
  refine⟨u,rv,?_⟩;rcases S.par y (ZP hp) with k|k
  .exact .inl ⟨k,oJ ndP hp hu k⟩
  .obtain⟨c,e⟩:=l6 (n:=s.heap.objs.size+1) k;refine .inr ⟨.inl k,c,e,?_⟩;have q:=x.cell y c e;rw[pU ndP hp hu (by show scope.names.lookup y≠_;rw[k];decide)] at q;exact q
 .exact e0.hok.fresh (Zy (x.above y c (PySem.mem_of_lookup h)))
 .unfold start;show _=N.length;rw[ZC,Zql,List.length_replicate];omega
def cM {CX:CXT}{P:Program}{w:World}{K:W.Frag}{mg:Ye}{base:Heap}{k:Nat}{f:Addr}{name qual:Str}{params:Arguments}{body:List Stmt}{scope:Scope}{dV kV doc pm cdv ct oc:Value}{an od:Option Addr}
 {osl:Array Yg} {N ps:Yk} {sp:Sp} (lk:K.lookup f=some ⟨oc,od,.func (W.fnOf name qual params body scope dV kV doc pm an cdv ct),osl⟩) (hcd:W.codeIn K cdv qual=true) (S:FnScope N ps scope)
 (len:∀vs H Q E,sp vs H Q E->vs.length=ps.length)
 (hbody:∀(A:Around) (outer:List Env) (s:Shared) (H:Hp) (vs:YB) (Q:VK) (E:XK),Room k (A.deeper (envOfC qual scope s.heap.objs.size f cdv))->sp vs H Q E ->
  ∃t,PSs (rA CX P w K mg base N qual scope f cdv A outer s H E) body t/\t { nx:=λ_ H'=>Q .non H',rt:=Q } (start N vs) H):
 FnOk P w K mg base CX (k+1) f (W.fnOf name qual params body scope dV kV doc pm an cdv ct) ps sp:=by
 refine⟨len,λA outer s H args us vs Q E hr e0 hb r hsp=>?_⟩;have hl:=len _ _ _ _ hsp;have KX:K.In s.heap:=e0.mod.kin.keeps λb o e=>(e0.bs b o e).1;have lim:s.heap.NoLimit:=e0.mod.nolimit.keeps λb o e=>(e0.bs b o e).1;have hkind:∀y∈ps.zip us,scope.names.lookup y.1=some .local\/(scope.names.lookup y.1=some .cell/\((cellsFrom (s.heap.objs.size+1) scope.names []).lookup y.1).isSome=true):=λ⟨n,v⟩ hy=>by
  rcases S.par n (List.of_mem_zip hy).1 with q|q
  .exact .inl q
  .exact .inr ⟨q,W.cellsFrom_some _ _ _ (.inl q)⟩
 refine codeAny_call_function hr.depth (KX _ _ lk) rfl S.co S.gen rfl (W.codeRec_of KX hcd) (hb _ _ _ _ ?_);refine wpAny_newFunctionEnv_cells S.kind hkind λenv he s1 x=>?_;subst he;refine⟨lim.keeps x.toInCall.keep,codeAny_func ?_⟩;refine zc1b (hbody A outer s H vs Q E (hr.deeper _) hsp) λt ht hq=>?_;have I:Inv (rA CX P w K mg base N qual scope f cdv A outer s H E) [] (start N vs) H s1:=inv_start S hr.hd e0 hl r x;refine Zc (ht [] s1 (start N vs) H _ I hq) (λfl s' hs=>?_) λe s' hs=>hs;have fin:∀{Z':St} {H':Hp} {v:V} {u:Value},Inv (rA CX P w K mg base N qual scope f cdv A outer s H E) [] Z' H' s'->yw v u->Q v H'->CE outer P w H s Q u s':=
  λ{Z' H' v u} J rv q=>⟨v,H',J.os,J.bare,J.base,J.hok,rv,q⟩
 cases fl with
 |ret u =>
  refine zc3c hs λv Z' H' J rv q=>?_;exact fin J rv q
 |next =>
  refine zc2b hs λZ' H' J q=>?_;exact fin (v:=V.non) (u:=Value.none) J rfl q
 |brk =>
  refine zc2b hs λ_ _ _ q=>?_;exact False.elim q
 |cont =>
  refine zc2b hs λ_ _ _ q=>?_;exact False.elim q
section
variable {X:Cx}{x:Str}{p pos:Pos}{e:Expr}{es:Ym}{t:TA}{id T:String}{r:YB->Hp->VK->Prop}
noncomputable def tCB (r:YB->Hp->VK->Prop)(t:TA):TE:=λZ H Q=>t Z H λvs H1=>r vs H1 Q
def tw (hc:zD X (.builtin id) r)(hg:Gl X x)(hm:X.mg x=none)(hv:bootBuiltins x=some (.builtin id))(ha:PA X (e::es) t)(hn:autoParam (x ≠ "__name__") zav._auto_1)(hdb:autoParam ((x == ("__debug__" : Str))=false) zav._auto_1)
 (he:autoParam (starEach (e::es) X.env=(false,eval e X.env)::starEach es X.env) zau._auto_1) (hpl:autoParam ((backTo pos (starEach es X.env)).any (·.1)=false) zau._auto_1):PE X (.Call (.Name x p) (e::es) [] pos) (tCB r t):=by
 intro Y s Z H Q I h;refine wpAny_Call_Name_kw (qx I hg hm hv ?_ hn hdb);exact PyProof.Rows.callWith_builtin1 (thn (ha pos Y s Z H _ I h) (by rintro us s1 ⟨vs,H1,I1,r1,q1⟩;exact hc Y s1 Z H1 vs us Q I1 r1 q1)) he hpl
def tP (hc:zD X (.type T) r)(hg:Gl X x)(hm:X.mg x=none)(hv:bootBuiltins x=some (.type T))(ha:PA X (e::es) t)(hn:autoParam (x ≠ "__name__") zav._auto_1)(hdb:autoParam ((x == ("__debug__" : Str))=false) zav._auto_1)
 (he:autoParam (starEach (e::es) X.env=(false,eval e X.env)::starEach es X.env) zau._auto_1) (hpl:autoParam ((backTo pos (starEach es X.env)).any (·.1)=false) zau._auto_1):PE X (.Call (.Name x p) (e::es) [] pos) (tCB r t):=by
 intro Y s Z H Q I h;refine wpAny_Call_Name_kw (qx I hg hm hv ?_ hn hdb);exact PyProof.Rows.callWith_type1 (thn (ha pos Y s Z H _ I h) (by rintro us s1 ⟨vs,H1,I1,r1,q1⟩;exact hc Y s1 Z H1 vs us Q I1 r1 q1)) he hpl
end
end L2
namespace HT
open PySem PyProof.Rows
noncomputable def lexLt:Yh->List Int->Bool
 | [],[]=>false
 | [],_::_=>true
 |_::_,[]=>false
 |x::xs,y::ys=>if x=y then lexLt xs ys else decide (x<y)
def lexLt_cons (x y:Int)(xs ys:Yh):lexLt (x::xs) (y::ys)=if x=y then lexLt xs ys else decide (x<y):=rfl
def lexLt_nil_nil:lexLt [] []=false:=rfl
def lexLt_nil_cons (y:Int)(ys:Yh):lexLt [] (y::ys)=true:=rfl
def lexLt_cons_nil (x:Int)(xs:Yh):lexLt (x::xs) []=false:=rfl
def eqAt_int (A:Around)(s:Shared)(a:Int)(t:Tok)(c:Int)(u:Tok):∃e,SeqAt.EqAt A s (.int a t) (.int c u) e/\(e=true↔a=c):=
 ⟨(a == c),SeqAt.EqAt.int_int a t c u,by simp -iota⟩
def rcLt_int (A:Around)(s:Shared)(a:Int)(t:Tok)(c:Int)(u:Tok)(prog:Program)(w:World)(E:Ya)(Q:Ya)(h:Q (.bool (decide (a<c))) s):
 YG prog w A (richCompare .Lt (.int a t) (.int c u)) Q E s:=
 (PyProof.Rows.lt_int h:YG prog w A (compareOp .Lt (.int a t) (.int c u)) Q E s)
section
open PySem.SeqAt
open PySem.AutoSeq1 (wpAny_loadPart')
open PySem.MeetsSeq PySem.MeetsSeq2 PySem.MeetsSeq3
def tuple_lt_ints (l b:Addr)(items items2:Yn)(n n2:Nat)(dd dd2:Option Addr)(sl sl2:Array Yg)(ns ms:Yh)(hi:IntsAre items.toList ns)(hj:IntsAre items2.toList ms):
 Meets (Builtin.«tuple.__lt__» ⟨[.ref l,.ref b],[]⟩)
  (λ_ R s=>s.heap.get? l=some { cls:=.type "tuple",dict:=dd,data:=.seq items n,slots:=sl }/\s.heap.get? b=some { cls:=.type "tuple",dict:=dd2,data:=.seq items2 n2,slots:=sl2 } /\
   R (.ok (.ret (.bool (lexLt ns ms)))) s):=
 .of_wp λprog w A R s h=>by
  obtain⟨hp,g,d,tk,os⟩:=s;obtain⟨hl,hb,h⟩:=h;have f2:=AutoSeq1.sub_tuple_tuple;have z1:items.size=ns.length:=by rw[<- hi.length];simp -iota
  have z2:items2.size=ms.length:=by rw[<- hj.length];simp -iota
  wp_walk using wpAny_loadPart' hl,wpAny_loadPart' hb,wpAny_forIn_list _ (λrest b s'=>b.1=none/\s'=⟨hp,g,d,tk,os⟩/\∃(vs ws:Yf) (ns' ms':Yh),rest=vs.zip ws /\
   IntsAre vs ns'/\IntsAre ws ms'/\ns'.length+items2.size=ms'.length+items.size/\R (.ok (.ret (.bool (lexLt ns' ms')))) ⟨hp,g,d,tk,os⟩) _
  case turn =>
   rintro⟨y,x⟩ rest b s' ⟨hb',rfl,vs,ws,ns',ms',hz,hvi,hwi,hlen,hR⟩;cases hvi with
   |nil=>rw[List.zip_nil_left] at hz;cases hz
   |cons a t hvi' =>
    cases hwi with
    |nil=>rw[List.zip_nil_right] at hz;cases hz
    |cons c u hwi' =>
     rw[XJ] at hz;injection hz with hyx hrest
     injection hyx with hy hx
     subst hy hx;rw[lexLt_cons] at hR;simp -iota only[Zu] at hlen;refine zc1b (eqAt_int A.in1 ⟨hp,g,d,tk,os⟩ a t c u) λe he hiff=>?_;refine Za (he prog w _ _ ?_);cases e with
     |true =>
      rw[Zd (hiff.mp rfl)] at hR
      wp_walk
      exact⟨rfl,rfl,_,_,_,_,hrest,hvi',hwi',(),hR⟩
     |false =>
      rw[Ze (λq=>Zn (hiff.mpr q) Zj)] at hR;have hri:=rcLt_int A.in1 ⟨hp,g,d,tk,os⟩ a t c u prog w
      wp_walk using hri
      exact⟨_,rfl,by simpa -iota using hR⟩
  case fin =>
   rintro⟨b1,b2⟩ s' ⟨hb',rfl,vs,ws,ns',ms',hz,hvi,hwi,hlen,hR⟩;simp -iota only at hb';subst hb';have hv:lexLt ns' ms'=decide (items.size<items2.size):=by
    cases hvi with
    |nil =>
     cases hwi with
     |nil =>
      simp -iota only[ZB] at hlen;rw[lexLt_nil_nil];exact(Zo ()).symm
     |cons c u hw =>
      simp -iota only[ZB,Zu] at hlen;rw[lexLt_nil_cons];exact(Zp ()).symm
    |cons a t hv =>
     cases hwi with
     |nil =>
      simp -iota only[ZB,Zu] at hlen;rw[lexLt_cons_nil];exact(Zo ()).symm
     |cons c u hw =>
      rw[XJ] at hz;cases hz
   rw[hv] at hR
   wp_walk
   exact⟨_,rfl,by simpa -iota [Builtin.Tuple.tupleCompareSizes] using hR⟩
  case h =>
   exact⟨rfl,rfl,items.toList,items2.toList,ns,ms,rfl,hi,hj,(),h⟩
end
section
variable {prog:Program}{w:World}{A:Around}{E:Ya}{s:Shared}
def lt_tupInts {l b:Addr}{items items2:Yn}{ns ms:Yh}{Q:Ya}(hl:IsTup s.heap l items)(hb:IsTup s.heap b items2)(hi:IntsAre items.toList ns)(hj:IntsAre items2.toList ms)
 (hu:A.units<cLine) (h:Q (.bool (lexLt ns ms)) s):YG prog w A (compareOp .Lt (.ref l) (.ref b)) Q E s:=by
 refine zc1c (id hl) λzr0 ho hc zz=>zc1a zz λn hd=>?_;obtain⟨cls,dd,data,sl⟩:=zr0;refine zc1c (id hb) λzr0 ho2 hc2 zz=>zc1a zz λn2 hd2=>?_;obtain⟨cls2,dd2,data2,sl2⟩:=zr0;simp -iota only at hc hd hc2 hd2;subst hc hd hc2 hd2;exact richCompare_meets_room (op:=.Lt) ⟨_,ho,rfl⟩ ⟨_,ho2,rfl⟩ PySem.F.slot_tuple_lt PySem.F.entry_tuple_lt (PySem.F.args_tuple_lt_2 _ _) (tuple_lt_ints l b items items2 n n2 dd dd2 sl sl2 ns ms hi hj)
  ⟨ho,ho2,show Value.bool (lexLt ns ms)≠Value.notImplemented/\Q (.bool (lexLt ns ms)) s from ⟨(λx=>nomatch x),h⟩⟩ hu
def cat_tup {t b:Addr}{vs ws:Yf}{Q:Ya}(ht:IsTup s.heap t vs.toArray)(hb:IsTup s.heap b ws.toArray)(hv:vs ≠ [])
 (h1:ws=[]->Q (.ref t) s) (h2:ws ≠ []->Q (.ref s.heap.objs.size) { s with heap:=s.heap.push { cls:=.type "tuple",data:=.seq (vs++ws).toArray } })
 (hsz:vs.length+ws.length<=sizeLine):YG prog w A (binaryOp .Add (.ref t) (.ref b)) Q E s:=by
 refine zc1c (id ht) λzr0 ho hc zz=>zc1a zz λn hd=>?_;obtain⟨cls,dd,data,sl⟩:=zr0;refine zc1c (id hb) λzr0 ho2 hc2 zz=>zc1a zz λn2 hd2=>?_;obtain⟨cls2,dd2,data2,sl2⟩:=zr0;simp -iota only at hc hd hc2 hd2;subst hc hd hc2 hd2;have e:vs.toArray++ws.toArray=(vs++ws).toArray:=by simp -iota
 by_cases hw:ws=[]
 .exact concat_meets ⟨_,ho,rfl⟩ ⟨_,ho2,rfl⟩ noFill_tuple_add seq_tuple_add PySem.F.slot_tuple_add PySem.F.entry_tuple_add (PySem.F.args_tuple_add_2 _ _)
   (tuple_addW1 t b vs.toArray ws.toArray n n2 dd dd2 sl sl2 (by simpa -iota using hv) (by simp -iota [hw])) ⟨ho,ho2,h1 hw⟩
 .refine concat_meets ⟨_,ho,rfl⟩ ⟨_,ho2,rfl⟩ noFill_tuple_add seq_tuple_add PySem.F.slot_tuple_add PySem.F.entry_tuple_add (PySem.F.args_tuple_add_2 _ _)
   (tuple_addW2 t b vs.toArray ws.toArray n n2 dd dd2 sl sl2 (by simpa -iota using hv) (by simpa -iota using hw) (by rw[Zm,Zm];exact hsz)) ⟨ho,ho2,?_⟩
  rw[e];exact h2 hw
noncomputable def sIx (n d:Nat):Option Int->Nat
 |none=>d
 |some v=>if v<0 then(v+(n:Int)).toNat else min v.toNat n
def sIx_none (n d:Nat):sIx n d none=d:=rfl
def sIx_nat (n d k:Nat):sIx n d (some (k:Int))=min k n:=by
 show(if(k:Int)<0 then((k:Int)+(n:Int)).toNat else min (k:Int).toNat n)=min k n;rw[Ze (),Int.toNat_natCast]
def sIx_le (n d:Nat)(hd:d<=n)(o:Option Int):sIx n d o<=n:=by
 cases o with
 |none=>exact hd
 |some v =>
  show(if v<0 then(v+(n:Int)).toNat else min v.toNat n)<=n;by_cases hv:v<0
  .rw[Zd hv];omega
  .rw[Ze hv];exact Nat.min_le_right _ _
def jf (v:Int)(n d:Nat):(if v<0 then max (v+(n:Int)) 0 else min v (n:Int))=((sIx n d (some v):Nat):Int):=by
 show(if v<0 then max (v+(n:Int)) 0 else min v (n:Int))=(((if v<0 then(v+(n:Int)).toNat else min v.toNat n):Nat):Int);by_cases hv:v<0
 .simp -iota only[Zd hv];omega
 .simp -iota only[Ze hv];omega
def adjust_gen (lo hi:Option Int)(n:Nat):Builtin.Slice.sliceAdjust lo hi 1 (n:Int)=(((sIx n 0 lo:Nat):Int),((sIx n n hi:Nat):Int)):=by
 have h1:¬((1:Int)<0):=()
 unfold Builtin.Slice.sliceAdjust;simp -iota only[h1,if_false];refine Prod.ext ?_ ?_
 .cases lo with
  |none=>rfl
  |some v=>exact jf v n 0
 .cases hi with
  |none=>rfl
  |some v=>exact jf v n n
def places_gen (i j:Nat):Builtin.Slice.slicePlaces (i:Int) (j:Int) 1=j-i:=by
 unfold Builtin.Slice.slicePlaces;have h1:(1:Int) > 0:=()
 simp -iota only[h1,if_true,Int.ediv_one]
 split<;>omega
def rO {v:Value}{o:Option Int}{Q:Option Int->Yz}(p:IsPart v o)(h:Q o s):YG prog w A (Builtin.Slice.slicePartIndex v) Q E s:=by
 cases p with
 |none=>exact slicePart_none h
 |int i t=>exact slicePart_int h
def sliceApplied_gen {sl:Addr}{vl vu:Value}{lo hi:Option Int}{n:Nat}{Q:Int×Int×Nat->Yz}(hs:s.heap.IsSliceOf sl vl vu .none)(pl:IsPart vl lo)(pu:IsPart vu hi)
 (h:Q (((sIx n 0 lo:Nat):Int),1,sIx n n hi-sIx n 0 lo) s):YG prog w A (Builtin.Slice.sliceApplied (.ref sl) (pure (n:Int))) Q E s:=by
 obtain⟨os,hos,hcs,hds⟩:=id hs;unfold Builtin.Slice.sliceApplied Builtin.Slice.sliceFields;refine Za (Za (wpAny_field hos hds (x:=vl) rfl (Za (wpAny_field hos hds (x:=vu) rfl (Za (wpAny_field hos hds (x:=.none) rfl (Zb ?_)))))));refine Za (slicePart_none ?_);show wpAny _ _ (if((1:Int) == 0)=true then _ else _) _ _ s;rw[Ze (by decide)];refine Za (rO pl (Za (rO pu (Za (Zb ?_)))));show wpAny _ _ (match Builtin.Slice.sliceAdjust lo hi 1 (n:Int) with|(lo,hi)=>pure (lo,(1:Int),Builtin.Slice.slicePlaces lo hi 1)) _ _ s;rw[adjust_gen lo hi n];show wpAny _ _ (pure (((sIx n 0 lo:Nat):Int),(1:Int),Builtin.Slice.slicePlaces ((sIx n 0 lo:Nat):Int) ((sIx n n hi:Nat):Int) 1)) _ _ s;rw[places_gen];exact Zb h
def pick_gen (xs:Yn)(i k:Nat):((List.range k).filterMap λ(m:Nat)=>xs[((i:Int)+(m:Int)*1).toNat]?).toArray=((xs.toList.drop i).take k).toArray:=by
 have e:(λ(m:Nat)=>xs[((i:Int)+(m:Int)*1).toNat]?)=λm=>xs[i+m]?:= by
  funext m
  have:((i:Int)+(m:Int)*1).toNat=i+m:=()
  rw[this]
 rw[e];have:=pick_run xs i k;rw[List.filterMap_map] at this;have e2:((λx=>xs[x]?) ∘ λx=>i+x)=λm=>xs[i+m]?:= rfl;rw[e2] at this;rw[this]
def getItem_tuple_cut {t sl:Addr}{items:Yn}{vl vu:Value}{lo hi:Option Int}{Q:Ya}(ht:IsTup s.heap t items)(hs:s.heap.IsSliceOf sl vl vu .none)(pl:IsPart vl lo)(pu:IsPart vu hi)
 (hw:¬(sIx items.size 0 lo=0/\sIx items.size items.size hi=items.size))
 (h:Q (.ref s.heap.objs.size) { s with heap:=s.heap.push { cls:=.type "tuple",data:=.seq ((items.toList.drop (sIx items.size 0 lo)).take (sIx items.size items.size hi-sIx items.size 0 lo)).toArray } })
 (hsz:items.size<=sizeLine):YG prog w A (getItem (.ref t) (.ref sl)) Q E s:=by
 have htake:sizeOk (.seq ((items.toList.drop (sIx items.size 0 lo)).take (sIx items.size items.size hi-sIx items.size 0 lo)).toArray):=by
  show((items.toList.drop (sIx items.size 0 lo)).take (sIx items.size items.size hi-sIx items.size 0 lo)).toArray.size<=sizeLine;rw[Zm,ZV,X0,ZM];exact Zh (Nat.min_le_right _ _) (Zh (Nat.sub_le _ _) hsz)
 have hj:sIx items.size items.size hi<=items.size:=sIx_le _ _ (Zf _) hi;obtain⟨os,hos,hcs,hds⟩:=id hs;have hTs:s.TypeIs (.ref sl) "slice" := ⟨os,hos,hcs⟩;unfold getItem
 try with_reducible refine wpAny_holding ?_
 first|refine Za (Zb ?_)|skip
 refine Za (wpAny_sequenceKey ht.typeIs (by decide) ?_);refine Za (wpAny_callSpecial?_slot (name:=Str.ofString "__getitem__") ht.typeIs PyProof.Rows.slot_tuple_getitem
  (wpAny_call_entry PyProof.Rows.slot_tuple_getitem ht.typeIs entry_tuple_getitem ?_ (args_tuple_getitem _ _)))
 show wpAny _ _ (Builtin.Tuple.tupleItemsOf (.ref t) >>= _) _ _ s;refine Za (tupleItemsOf_ ht ?_);refine Za (wpAny_typeOf hTs ?_);rw[Zd (by decide)];refine Za (sliceApplied_gen hs pl pu ?_);have hno:¬((((sIx items.size 0 lo:Nat):Int) == 0&&(1:Int) == 1&&(sIx items.size items.size hi-sIx items.size 0 lo) == items.size)=true):=by
  intro q;rw[ZQ,ZQ] at q;have q1:((sIx items.size 0 lo:Nat):Int)=0:=eq_of_beq q.1.1;have q2:sIx items.size items.size hi-sIx items.size 0 lo=items.size:=eq_of_beq q.2;exact hw ⟨(),()⟩
 show wpAny _ _ (if(((sIx items.size 0 lo:Nat):Int) == 0&&(1:Int) == 1&&(sIx items.size items.size hi-sIx items.size 0 lo) == items.size)=true then _ else _) _ _ s;rw[Ze hno,pick_gen]
 first
  |exact Za (m:=Builtin.Tuple.tupleExact _) (wpAny_newObj_type (Zb ⟨_,rfl,Zb h⟩) htake)
  |exact Za (m:=Builtin.Tuple.tupleExact _) (wpAny_newObj_type (Za (Zb (Zb ⟨_,rfl,Zb h⟩))) htake)
  |exact Za (Za (m:=Builtin.Tuple.tupleExact _) (wpAny_newObj_type (Zb (Zb ⟨_,rfl,Zb h⟩)) htake))
  |exact Za (Za (m:=Builtin.Tuple.tupleExact _) (wpAny_newObj_type (Zb ⟨_,rfl,Zb h⟩) htake))
end
end HT
namespace L2
abbrev TO:=St->Hp->(Option Int->Hp->Prop)->Prop
noncomputable def PO (X:Cx)(e:Option Expr)(t:TO):Prop:=
 ∀(Y:Yb) (s:Shared) (Z:St) (H:Hp) (Q:Option Int->Hp->Prop),Inv X Y Z H s->t Z H Q ->
  YF X (evalPart e X.env) (λu s'=>∃o H',Inv X Y Z H' s'/\IsPart u o/\Q o H') X.xe s
noncomputable def tNoPart:TO:=λ_ H Q=>Q none H
noncomputable def tPart (t:TE):TO:=λZ H Q=>t Z H λx H1=>∃i,x=.int i/\Q (some i) H1
def uo {ns:Yh}:∀{us:Yf},yi (ns.map V.int) us->IntsAre us ns:=by
 induction ns with
 |nil=>intro us r;rw[Xx] at r;cases r;exact .nil
 |cons n ns ih =>
  intro us r;rw[Zl] at r;cases r with
  |cons r1 r2 =>
   obtain⟨t,e⟩:=r1;subst e;exact .cons n t (ih r2)
section
variable {X:Cx}{e:Expr}{te:TE}{lo hi:Option Expr}{tl th:TO}{pos p2:Pos}
def po_none:PO X none tNoPart:=by
 intro Y s Z H Q I h;rw[evalPart_none];exact Zb ⟨none,H,I,.none,h⟩
def po_some (h:PE X e te):PO X (some e) (tPart te):=by
 intro Y s Z H Q I hw;rw[evalPart_some];refine thn (h Y s Z H _ I hw) λu s1 zh=>?_;refine zc2c zh λx H1 I1 r1 q1=>?_;refine zc1b q1 λi zr1 q=>?_;subst zr1;obtain⟨t,rfl⟩:=r1;exact⟨some i,H1,I1,.int i t,q⟩
def SlR (X:Cx)(r:V->Option Int->Option Int->Hp->VK->Prop):Prop:=
 ∀(Y:Yb) (s:Shared) (Z:St) (H:Hp) (x:V) (v vl vu:Value) (lo hi:Option Int) (sl:Addr) (Q:VK),Inv X Y Z H s->yw x v->s.heap.IsSliceOf sl vl vu .none->IsPart vl lo->IsPart vu hi->r x lo hi H Q ->
  ∃T id,typeLookup (.type T) "__getitem__" = pure (some (.builtin id))/\s.TypeIs v T/\YF X (getItem v (.ref sl)) (EP X Y Z Q) X.xe s
noncomputable def tSl (r:V->Option Int->Option Int->Hp->VK->Prop)(te:TE)(tl th:TO):TE:=λZ H Q=>te Z H λx H1=>tl Z H1 λl H2=>th Z H2 λu H3=>r x l u H3 Q
def pe_slice {r:V->Option Int->Option Int->Hp->VK->Prop}(hr:SlR X r)(he:PE X e te)(hl:PO X lo tl)(hu:PO X hi th):PE X (.Subscript e (.Slice lo hi none p2) pos) (tSl r te tl th):=by
 intro Y s Z H Q I h;refine Subscript_ (thn (he Y s Z H _ I h) λv s1 zh=>?_);obtain⟨x,H1,I1,r1,q1⟩:=zh;refine wpAny_Slice (thn (hl Y s1 Z H1 _ I1 q1) λvl s2 ⟨l,H2,I2,pl,q2⟩=>thn (hu Y s2 Z H2 _ I2 q2) λvu s3 zh=>?_);obtain⟨u,H3,I3,pu,q3⟩:=zh;rw[evalPart_none];refine Zb ?_;have I4:Inv X Y Z H3 { s3 with heap:=s3.heap.push { cls:=.type "slice",data:=.fields #[vl,vu,.none] } }:=I3.kept (t':=s3.toks) λb ob q=>Zq _ q;obtain⟨T,id,hT,ht,hg⟩:=hr Y { s3 with heap:=s3.heap.push { cls:=.type "slice",data:=.fields #[vl,vu,.none] } } Z H3 x v vl vu l u s3.heap.objs.size Q I4 r1 (Heap.IsSliceOf.new ..) pl pu q3;show YF X (subscriptTail e (.Slice lo hi none p2) v (.ref s3.heap.objs.size)) (EP X Y Z Q) X.xe { s3 with heap:=s3.heap.push { cls:=.type "slice",data:=.fields #[vl,vu,.none] } };exact tail_any (ops:=[.ref s3.heap.objs.size,v]) ht hT hg (by with_unfolding_all rfl)
def eS (xs:YB)(lo hi:Option Int):YB:=(xs.drop (HT.sIx xs.length 0 lo)).take (HT.sIx xs.length xs.length hi-HT.sIx xs.length 0 lo)
def cutV_length (xs:YB)(lo hi:Option Int):(eS xs lo hi).length<=xs.length:=by
 unfold eS;rw[ZV,X0];omega
def rSlT (K:W.Frag):V->Option Int->Option Int->Hp->VK->Prop:=λx lo hi H Q=>∃a xs,x=.ref a/\SqT K H a xs /\
 ¬(HT.sIx xs.length 0 lo=0/\HT.sIx xs.length xs.length hi=xs.length)/\∀p,H p=none->Q (.ref p) (upd H p (.tup (eS xs lo hi)))
def sl_tup:SlR X (rSlT X.K):=by
 intro Y s Z H x v vl vu lo hi sl Q I rx hs pl pu h;obtain⟨a,xs,rfl,hx,hw,q⟩:=h;cases rx;obtain⟨its,r,ht,hz⟩:=I.tuple hx;have hlen:its.toArray.size=xs.length:=by rw[Zm];exact r.length.symm
 refine⟨"tuple",_,PyProof.Rows.slot_tuple_getitem.lookup,ht.typeIs,?_⟩;refine HT.getItem_tuple_cut ht hs pl pu (by rw[hlen];exact hw) ?_ (by rw[hlen];exact hz);rw[hlen];refine⟨.ref s.heap.objs.size,_,I.laid (t':=s.toks) (o:=.tup (eS xs lo hi)) (λb ob q=>Zq _ q) (Zf _) ?_,rfl,q _ (I.hok.fresh (Zf _))⟩;exact⟨⟨Zh (cutV_length xs lo hi) hz,⟨_,Zr _ rfl,rfl⟩⟩,_,(r.drop (HT.sIx xs.length 0 lo)).take (HT.sIx xs.length xs.length hi-HT.sIx xs.length 0 lo),IsTup.new _ _⟩
def rCatT (K:W.Frag):R2:=λx y H Q=>∃a b xs ys,x=.ref a/\y=.ref b/\SqT K H a xs/\SqT K H b ys/\xs ≠ []/\xs.length+ys.length<=sizeLine /\
 (ys=[]->Q (.ref a) H)/\(ys ≠ []->∀p,H p=none->Q (.ref p) (upd H p (.tup (xs++ys))))
def yi.nil_iff {xs:YB}{us:Yf}(r:yi xs us):us=[]↔xs=[]:=by
 cases r with
 |nil=>simp -iota
 |cons _ _=>simp -iota
def op_catT:OpR X (binaryOp .Add) (rCatT X.K):=by
 intro Y s Z H x y v u Q I rx ry h;refine zc4a h λa b xs ys zz=>xk zz λzr4 zr5 ha hb zz=>pR zz λhx hz q1 q2=>?_;subst zr4;subst zr5;cases rx;cases ry;refine zc1c (I.tuple ha) λits r1 p1 _=>?_;refine zc1c (I.tuple hb) λits2 r2 p2 _=>?_;refine HT.cat_tup p1 p2 (λz=>hx (r1.nil_iff.mp z)) (λz=>⟨.ref a,H,I,rfl,q1 (r2.nil_iff.mp z)⟩) (λz=>?_) (by rw[<- r1.length,<- r2.length];exact hz);refine⟨.ref s.heap.objs.size,_,I.laid (t':=s.toks) (o:=.tup (xs++ys)) (λb ob q=>Zq _ q) (Zf _) ?_,rfl,q2 (λw=>z (r2.nil_iff.mpr w)) _ (I.hok.fresh (Zf _))⟩;exact⟨⟨by rw[ZC];exact hz,⟨_,Zr _ rfl,rfl⟩⟩,_,r1.append r2,IsTup.new _ _⟩
end
noncomputable def ixN (n:Nat)(i:Int):Option Nat:=if 0<=i then(if i<n then some i.toNat else none) else if -(n:Int)<=i then some (i+n).toNat else none
def atI {α:Type}(xs:List α)(i:Int):Option α:= (ixN xs.length i).bind λj=>xs[j]?
def jm {n:Nat}{i:Int}{j:Nat}(h:ixN n i=some j):seqIndex? i n=some j/\j<n /\ -(n:Int)<=i/\i<n:=by
 unfold ixN at h;by_cases h0:0<=i
 .rw[Zd h0] at h;by_cases h1:i<n
  .rw[Zd h1] at h;have e:i.toNat=j:=Zqi h;exact⟨by rw[seqIndex_of h0 h1,e],(),(),h1⟩
  .rw[Ze h1] at h;cases h
 .rw[Ze h0] at h;by_cases h1: -(n:Int)<=i
  .rw[Zd h1] at h;have e:(i+n).toNat=j:=Zqi h;exact⟨by rw[seqIndex_neg () h1,e],(),h1,()⟩
  .rw[Ze h1] at h;cases h
def nU {α:Type}{xs:List α}{i:Int}{v:α}(h:atI xs i=some v):∃j,seqIndex? i xs.length=some j/\xs[j]? = some v/\j<xs.length /\ -(xs.length:Int)<=i/\i<xs.length:=by
 unfold atI at h;cases e:ixN xs.length i with
 |none=>rw[e] at h;cases h
 |some j =>
  rw[e] at h;refine pR (jm e) λh1 h2 h3 h4=>?_;exact⟨j,h1,h,h2,h3,h4⟩
noncomputable def m8 (b:Expr):Prop:=∀o i,subscripted b false o i=operate [o,i] (getItem o i)
def IxR (X:Cx)(r:R2):Prop:=
 ∀(value slice:Expr) (Y:Yb) (s:Shared) (Z:St) (H:Hp) (x y:V) (v u:Value) (Q:VK),Inv X Y Z H s->yw x v->yw y u->r x y H Q ->
  subscripted slice false v u=operate [v,u] (getItem v u)->YF X (subscriptTail value slice v u) (EP X Y Z Q) X.xe s
def MtR (X:Cx)(id:String)(r:V->YB->Hp->VK->Prop):Prop:=
 ∀(Y:Yb) (s:Shared) (Z:St) (H:Hp) (x:V) (xs:YB) (v:Value) (us:Yf) (Q:VK),Inv X Y Z H s->yw x v->yi xs us->r x xs H Q ->
  YF X (call (.builtin id) (v::us)) (EP X Y Z Q) X.xe s
section
variable {X:Cx}{a b:Expr}{ta tb:TE}{pos:Pos}
def IxR.or {r r':R2}(h:IxR X r)(h':IxR X r'):IxR X (λx y H Q=>r x y H Q\/r' x y H Q):=by
 intro value slice Y s Z H x y v u Q I rx ry q hs;rcases q with q|q
 .exact h value slice Y s Z H x y v u Q I rx ry q hs
 .exact h' value slice Y s Z H x y v u Q I rx ry q hs
def cE {r:R2}(hr:IxR X r)(ha:PE X a ta)(hb:PE X b tb)(hs:m8 b):PE X (.Subscript a b pos) (tOp r ta tb):=by
 intro Y s Z H Q I h;exact Subscript_ (bu ha hb I h λv u s2 x y H2 I2 rx ry q=>hr a b Y s2 Z H2 x y v u Q I2 rx ry q (hs _ _))
def bP (K:W.Frag):R2:=λx y H Q=>∃p xs i v,x=.ref p/\y=.int i/\SqL K H p xs/\atI xs i=some v/\Q v H
def bT (K:W.Frag):R2:=λx y H Q=>∃p xs i v,x=.ref p/\y=.int i/\SqT K H p xs/\atI xs i=some v/\Q v H
def bM:R2:=λx y H Q=>∃z i c,x=.str z/\y=.int i/\z.length<=sizeLine/\atI z.cps.toList i=some c/\Q (.str ⟨#[c]⟩) H
def js:IxR X (bP X.K):=by
 intro value slice Y s Z H x y v u Q I rx ry h hs;refine zc4a h λp xs i z zz=>xk zz λzr4 zr5 hq he q=>?_;subst zr4;subst zr5;cases rx;obtain⟨t,rfl⟩:=ry;refine zc1c (I.list hq) λits r pl hz=>?_;refine zc1e (nU he) λj h1 h2 h3 h4 h5=>?_;refine zc1b (r.get h2) λw ew rw'=>?_;have hl:=r.length;have hn:=qA;have fin:EP X Y Z Q w s:=⟨z,H,I,rw',q⟩;by_cases h0:0<=i
 .have hj:i.toNat=j:=by
   rw[seqIndex_of h0 h5] at h1;exact Zqi h1
  exact item_listR pl.isList h0 () (by rw[hj];simpa -iota using ew) fin hs
 .have hj:(i+(its.toArray.size:Int)).toNat=j:=by
   rw[seqIndex_neg () h4] at h1;rw[Zm,<- hl];exact Zqi h1
  exact subscriptTail_builtinR (x:=w) pl.isList.typeIs slot_list_getitem.lookup
   (wpAny_getItem_list_neg (Q:=λr s'=>r=w/\EP X Y Z Q r s') pl.isList () (by rw[Zm]<;>omega) () (by rw[hj];simpa -iota using ew) ⟨rfl,fin⟩) hs
def ix_tup:IxR X (bT X.K):=by
 intro value slice Y s Z H x y v u Q I rx ry h hs;refine zc4a h λp xs i z zz=>xk zz λzr4 zr5 hq he q=>?_;subst zr4;subst zr5;cases rx;obtain⟨t,rfl⟩:=ry;refine zc1c (I.tuple hq) λits r pl hz=>?_;refine zc1e (nU he) λj h1 h2 h3 h4 h5=>?_;refine zc1b (r.get h2) λw ew rw'=>?_;have hl:=r.length;have hn:=qA;have fin:EP X Y Z Q w s:=⟨z,H,I,rw',q⟩;exact subscriptTail_builtinR (x:=w) pl.typeIs slot_tuple_getitem.lookup
  (getItem_tuple (j:=j) (Q:=λr s'=>r=w/\EP X Y Z Q r s') pl () () (by rw[Zm,<- hl];exact h1) (by simpa -iota using ew) ⟨rfl,fin⟩) hs
def ix_str:IxR X bM:=by
 intro value slice Y s Z H x y v u Q I rx ry h hs;refine zc3a h λz i c zz=>xk zz λzr3 zr4 hz he q=>?_;subst zr3;subst zr4;obtain⟨t,rfl⟩:=rx;obtain⟨t',rfl⟩:=ry;refine zc1e (nU he) λj h1 h2 h3 h4 h5=>?_;have hl:z.cps.toList.length=z.length:=by simp -iota [Str.length]
 rw[hl] at h1 h4 h5;have hn:=qA;exact tail_any (typeIs_str s z t) slot_str_getitem.lookup (getItem_str (c:=c) (by
  have e1:decide (i < -(2 ^ 63:Int))=false:=Zo ();have e2:decide (i ≥ 2 ^ 63)=false:=Zo ();rw[e1,e2,Bool.or_false]) (by rw[h1];simpa -iota using h2) ⟨.str ⟨#[c]⟩,H,I.tok _,⟨_,rfl⟩,q⟩) hs
def rIx (K:W.Frag):R2:=λx y H Q=>bP K x y H Q\/bT K x y H Q\/bM x y H Q
def ix_seq:IxR X (rIx X.K):=js.or (ix_tup.or ix_str)
def mapSeq_set (its:Yf)(n j:Nat)(u:Value):Obj.mapSeq (·.setIfInBounds j u) { cls:=.type "list",data:=.seq its.toArray n }={ cls:=.type "list",data:=.seq (its.set j u).toArray n }:=by
 simp[Obj.mapSeq]
theorem Inv.lst {Y:Yb}{Z:St}{H:Hp}{s:Shared}{p:Addr}{xs:YB}(I:Inv X Y Z H s)(h:H p=some (.lst xs)):
 ∃(its:Yf) (n:Nat),yi xs its/\s.heap.get? p=some { cls:=.type "list",data:=.seq its.toArray n }/\xs.length<=sizeLine:=by
 refine wG (I.hok p _ h) λz zz=>zc2b zz λits n r e=>?_;exact⟨its,n,r,e,z⟩
def Inv.lstUpd {Y:Yb}{Z:St}{H:Hp}{s:Shared}{p:Addr}{xs ys:YB}{its its':Yf}{n n':Nat}{f:Obj->Obj}(I:Inv X Y Z H s)(h:H p=some (.lst xs))
 (ho:s.heap.get? p=some { cls:=.type "list",data:=.seq its.toArray n }) (hf:f { cls:=.type "list",data:=.seq its.toArray n }={ cls:=.type "list",data:=.seq its'.toArray n' }) (r:yi ys its') (hz:ys.length<=sizeLine) (t:Nat):
 Inv X Y Z (upd H p (.lst ys)) { s with heap:=s.heap.update p f,toks:=t }:=by
 have e:(s.heap.update p f).get? p=some { cls:=.type "list",data:=.seq its'.toArray n' }:=by
  rw[Heap.get?_update_self f ho (by rw[hf]<;>rfl),hf]
 refine I.write (x:=p) (e:=p) (by rw[h];trivial) (.inl rfl) (λb u hb q=>(Heap.get?_update_other _ _ (Ne.symm hb)).trans q) ⟨_,e⟩ ?_;exact⟨hz,its',n',r,e⟩
def rSetL:V->V->V->Hp->(Hp->Prop)->Prop:=λo i v H Q=>∃p xs k j,o=.ref p/\i=.int k/\H p=some (.lst xs)/\ixN xs.length k=some j/\Q (upd H p (.lst (xs.set j v)))
def set_list:bI X rSetL:=by
 intro Y s Z H o i v ov iv u Q I ro ri rv h;refine zc4a h λp xs k j zz=>xk zz λzr4 zr5 hp hj q=>?_;subst zr4;subst zr5;cases ro;obtain⟨t,rfl⟩:=ri;refine zc2c (I.lst hp) λits n r ho hz=>?_;refine pR (jm hj) λh1 h2 h3 h4=>?_;have hl:=r.length;have hn:=qA;have I':Inv X Y Z (upd H p (.lst (xs.set j v))) { s with heap:=s.heap.update p (Obj.mapSeq (·.setIfInBounds j u)) } :=
  I.lstUpd hp ho (mapSeq_set its n j u) (r.set rv j) (by rw[XE];exact hz) s.toks
 by_cases h0:0<=k
 .have hk:k.toNat=j:=by
   rw[seqIndex_of h0 h4] at h1;exact Zqi h1
  exact W.ki_setAt ho h0 () (by rw[Zm,<- hl];exact h4) (by rw[hk];exact⟨_,I',q⟩)
 .have hk:(k+(its.toArray.size:Int)).toNat=j:=by
   rw[seqIndex_neg () h3] at h1;rw[Zm,<- hl];exact Zqi h1
  exact W.ki_setBack ho () (by rw[Zm,<- hl];exact h3) () (by rw[hk];exact⟨_,I',q⟩)
def call_len_seq:zD X (.builtin "len") (λxs H Q=>∃p ys,xs=[.ref p]/\(SqL X.K H p ys\/SqT X.K H p ys)/\Q (.int ys.length) H):=by
 intro Y s Z H xs us Q I r h;refine zc2c h λp ys zr2 hq q=>?_;subst zr2;refine zc1b (vF r) λu zr1 rx=>?_;subst zr1;cases rx;have hn:=qA;rcases hq with hq|hq
 .refine zc1c (I.list hq) λits r' pl hz=>?_;have hlen:=r'.length;exact Calls.call_len_list pl.isList (by simp -iota only[Zm]<;>omega) ⟨.int ys.length,H,I.tok _,⟨s.toks+1,by rw[Zm,hlen]⟩,q⟩
 .refine zc1c (I.tuple hq) λits r' pl hz=>?_;have hlen:=r'.length;exact len_tuple pl (by simp -iota only[Zm]<;>omega) ⟨.int ys.length,H,I.tok _,⟨s.toks+1,by rw[Zm,hlen]⟩,q⟩
def call_len_str:zD X (.builtin "len") (λxs H Q=>∃z,xs=[.str z]/\z.length<=sizeLine/\Q (.int z.length) H):=by
 intro Y s Z H xs us Q I r h;obtain⟨z,rfl,hz,q⟩:=h;obtain⟨u,rfl,t,rfl⟩:=vF r;have hn:=qA;exact len_str () ⟨.int z.length,H,I.tok _,⟨_,rfl⟩,q⟩
def zD.or {f:Value}{r r':YB->Hp->VK->Prop}(h:zD X f r)(h':zD X f r'):zD X f (λxs H Q=>r xs H Q\/r' xs H Q):=by
 intro Y s Z H xs us Q I rs q;rcases q with q|q
 .exact h Y s Z H xs us Q I rs q
 .exact h' Y s Z H xs us Q I rs q
def call_list_of:zD X (.type "list") (λxs H Q=>∃p ys,xs=[.ref p]/\(SqL X.K H p ys\/SqT X.K H p ys)/\∀l,H l=none->Q (.ref l) (upd H l (.lst ys))):=by
 intro Y s Z H xs us Q I r h;refine zc2c h λp ys zr2 hq q=>?_;subst zr2;refine zc1b (vF r) λu zr1 rx=>?_;subst zr1;cases rx;have fin:∀(its:Yf),yi ys its->ys.length<=sizeLine->∀(h':Heap) (c':Nat),(∀b o',s.heap.get? b=some o'->h'.get? b=some o') ->
  h'.get? s.heap.objs.size=some { cls:=.type "list",dict:=none,data:=.seq its.toArray c',slots:=#[] }->EP X Y Z Q (.ref s.heap.objs.size) { s with heap:=h' }:=λits r' hz h' c' kp e =>
  ⟨.ref s.heap.objs.size,_,I.laid (t':=s.toks) kp (Zf _) (show yr X.prog X.w _ h' _ (.lst ys) from ⟨hz,its,c',r',e⟩),rfl,q _ (I.hok.fresh (Zf _))⟩
 rcases hq with hq|hq
 .refine zc1c (I.list hq) λits r' pl hz=>?_;have hlen:=r'.length;refine zc1c pl.isList λo ho hc zz=>zc1a zz λn hd=>?_;exact call_list_seq p (.inl rfl) ho hc hd (λh' c' kp e=>fin its r' hz h' c' kp e) (by simp -iota only[Zm]<;>omega)
 .refine zc1c (I.tuple hq) λits r' pl hz=>?_;have hlen:=r'.length;refine zc1c pl λo ho hc zz=>zc1a zz λn hd=>?_;exact call_list_seq p (.inr rfl) ho hc hd (λh' c' kp e=>fin its r' hz h' c' kp e) (by simp -iota only[Zm]<;>omega)
def call_tuple_of:zD X (.type "tuple") (λxs H Q=>∃p ys,xs=[.ref p]/\((SqL X.K H p ys/\∀l,H l=none->Q (.ref l) (upd H l (.tup ys)))\/(SqT X.K H p ys/\Q (.ref p) H))):=by
 intro Y s Z H xs us Q I r h;obtain⟨p,ys,rfl,h⟩:=h;obtain⟨u,rfl,rx⟩:=vF r;cases rx;rcases h with ⟨hq,q⟩|⟨hq,q⟩
 .obtain⟨its,r',pl,hz⟩:=I.list hq;have hlen:=r'.length;refine call_tuple_list pl.isList (λh' kp=>?_) (by simp -iota only[Zm]<;>omega);have I1:Inv X Y Z H { s with heap:=h' }:=I.kept (t':=s.toks) kp;have I2:Inv X Y Z (upd H h'.objs.size (.tup ys)) { s with heap:=h'.push { cls:=.type "tuple",data:=.seq its.toArray } } :=
   I1.laid (t':=s.toks) (λb o e=>Zq _ e) (Zf _) (show yr X.prog X.w _ _ _ (.tup ys) from ⟨⟨hz,⟨_,Zr _ rfl,rfl⟩⟩,its,r',IsTup.new _ _⟩)
  exact⟨.ref h'.objs.size,_,I2,rfl,q _ (I1.hok.fresh (Zf _))⟩
 .obtain⟨its,r',pl,hz⟩:=I.tuple hq;exact call_tuple_same pl ⟨.ref p,H,I,rfl,q⟩
def tyV (K:W.Frag)(T:String)(x:V)(H:Hp):Prop:=match x with
 | .str _=>T = "str"
 | .int _=>T = "int"
 | .ref p=>(T = "list" /\ ∃xs,SqL K H p xs)\/(T = "tuple" /\ ∃o,K.lookup p=some o/\o.cls=.type "tuple" /\ o.dict=none) \/
  (T = "dict" /\ ((∃kvs,H p=some (.dK kvs))\/∃kvs,H p=some (.dT kvs)))\/(T = "set" /\ ∃S n,H p=some (.set S n))
 |_=>False
def fL {Y:Yb}{Z:St}{H:Hp}{s:Shared}{T:String}{x:V}{v:Value}(I:Inv X Y Z H s)(r:yw x v)(ty:tyV X.K T x H):
 s.TypeIs v T/\∀a,v=.ref a->∃ob,s.heap.get? a=some ob/\ob.dict=none:=by
 cases x with
 |str z =>
  obtain⟨t,rfl⟩:=r;cases (show T = "str" from ty);exact⟨typeIs_str s z t,λ_ e=>nomatch e⟩
 |int i =>
  obtain⟨t,rfl⟩:=r;cases (show T = "int" from ty);exact⟨typeIs_int s i t,λ_ e=>nomatch e⟩
 |ref p =>
  cases r;rcases ty with ⟨rfl,xs,hq⟩|⟨rfl,o,hk,hc,hd⟩|⟨rfl,hk⟩|⟨rfl,S,n,hk⟩
  .refine zc1c (I.list hq) λits _ pl _=>?_;refine⟨pl.isList.typeIs,λa e=>?_⟩;cases e;refine zc2d pl λo n e c hd _=>?_;exact⟨o,e,hd⟩
  .refine⟨⟨o,I.kIn p o hk,hc⟩,λa e=>?_⟩;cases e;exact⟨o,I.kIn _ o hk,hd⟩
  .have z:∃o,s.heap.get? p=some o/\o.ExactDict:=by
    rcases hk with ⟨kvs,hk⟩|⟨kvs,hk⟩
    .refine xF (I.hok p _ hk) λ_ _ zz=>zc1b zz λ_ _ zz=>zc3c zz λo _ _ e ex _=>?_;exact⟨o,e,ex⟩
    .refine xF (I.hok p _ hk) λ_ _ zz=>zc1b zz λ_ _ zz=>zc3c zz λo _ _ e ex _=>?_;exact⟨o,e,ex⟩
   refine zc1b z λo e ex=>?_;refine⟨⟨o,e,ex.1⟩,λa e2=>?_⟩;cases e2;exact⟨o,e,ex.2.1⟩
  .refine zc4a (I.hok p _ hk) λo _ _ _ zz=>xF zz λe ex _=>?_;refine⟨⟨o,e,ex.1⟩,λa e2=>?_⟩;cases e2;exact⟨o,e,ex.2.1⟩
 |_=>exact False.elim ty
def bS (K:W.Frag)(T:String)(r:V->YB->Hp->VK->Prop)(to:TE):TE:=λZ H Q=>to Z H λx H1=>tyV K T x H1/\r x [] H1 Q
def tBM (K:W.Frag)(T:String)(r:V->YB->Hp->VK->Prop)(to:TE)(t:TA):TE:=λZ H Q=>to Z H λx H1=>tyV K T x H1/\t Z H1 λxs H2=>r x xs H2 Q
variable {o e:Expr}{es:Ym}{to:TE}{t:TA}{name:Str}{apos cpos:Pos}{T id:String}{r:V->YB->Hp->VK->Prop}
def pe_bm0 (pa:PlainAttrs T)(slot:Slot T name id)(hty:typeOf (.builtin id)=pure (.type "method_descriptor"))(hm:MtR X id r)(ho:PE X o to)
 (hbase:autoParam (attributeBase o name X.env (eval o X.env)=eval o X.env) zau._auto_1) (hline:autoParam ((apos.endLine == cpos.line)=true) zau._auto_1):PE X (.Call (.Attribute o name apos) [] [] cpos) (bS X.K T r to):=by
 intro Y s Z H Q I h;refine wpAny_Call_method0_late hbase hline (thn (ho Y s Z H _ I h) λv s1 zh=>?_);refine zc2d zh λx H1 I1 r1 ty q1=>?_;obtain⟨h1,h2⟩:=fL I1 r1 ty;exact⟨T,id,pa,slot,hty,h1,h2,Calls.callWith_builtin rfl (PySem.evalArgs_none (hm Y s1 Z H1 x [] v [] Q I1 r1 .nil q1))⟩
def vm (pa:PlainAttrs T)(slot:Slot T name id)(hty:typeOf (.builtin id)=pure (.type "method_descriptor"))(hm:MtR X id r)(ho:PE X o to)(ha:PA X (e::es) t)
 (hbase:autoParam (attributeBase o name X.env (eval o X.env)=eval o X.env) zau._auto_1)
 (hfew:((backTo cpos (starEach (e::es) X.env)).all (λx => !x.1)&&(backToKw cpos (keywordEach [] X.env)).all (λx=>x.1.isSome)
  && decide ((e::es).length+([]:List Keyword).length+(if([]:List Keyword).isEmpty then 0 else 1)<30))=true:=by rfl)
 (hline:autoParam ((apos.endLine == cpos.line)=true) zau._auto_1) (hs:autoParam (starEach (e::es) X.env=(false,eval e X.env)::starEach es X.env) zau._auto_1) (hplain:autoParam ((backTo cpos (starEach es X.env)).any (·.1)=false) zau._auto_1):
 PE X (.Call (.Attribute o name apos) (e::es) [] cpos) (tBM X.K T r to t):=by
 intro Y s Z H Q I h;refine wpAny_Call_method_late hbase hfew hline rfl (thn (ho Y s Z H _ I h) λv s1 zh=>?_);refine zc2d zh λx H1 I1 r1 ty q1=>?_;obtain⟨h1,h2⟩:=fL I1 r1 ty;refine⟨T,id,pa,slot,hty,h1,h2,?_⟩;have hA:=ha cpos Y s1 Z H1 _ I1 q1;rw[hs] at hA ⊢;refine Calls.callWith_builtin (by show(false||(backTo cpos (starEach es X.env)).any (·.1))=false;rw[hplain]<;>rfl) (Calls.evalArgs_plain ?_);exact thn hA (by rintro us s2 ⟨vs,H2,I2,r2,q2⟩;exact hm Y s2 Z H2 x vs v us Q I2 r1 r2 q2)
end
def MtM (X:Cx)(id:String)(r:V->YB->Hp->VK->Prop):Prop:=
 ∀(Y:Yb) (s:Shared) (Z:St) (H:Hp) (x:V) (xs:YB) (v:Value) (us:Yf) (Q:VK),Inv X Y Z H s->yw x v->yi xs us->r x xs H Q ->
  YF X (call (.builtin id) (v::us)) (EP X Y Z Q) X.xe s
def yi.one:∀{x:V} {us:Yf},yi [x] us->∃u,us=[u]/\yw x u:=λh=>by
 cases h with
 |cons r t=>cases t;exact⟨_,rfl,r⟩
def yi.zero:∀{us:Yf},yi [] us->us=[]
 |_,.nil=>rfl
section
variable {X:Cx}{Y:Yb}{Z:St}{H:Hp}{s:Shared}{l b:Addr}{xs ys zs:YB}
def Inv.lset {its its':Yf}{n:Nat}{f:Yn->Array Value}{t':Nat}(I:Inv X Y Z H s)(hH:H l=some (.lst xs))
 (e:s.heap.get? l=some { cls:=.type "list",data:=.seq its.toArray n }) (hf:f its.toArray=its'.toArray) (hv:yi ys its') (hz:ys.length<=sizeLine):
 Inv X Y Z (upd H l (.lst ys)) { s with heap:=s.heap.update l (Obj.mapSeq f),toks:=t' }:=by
 have q:=PySem.IsL.update e f;rw[hf] at q;refine I.write (x:=l) (e:=l) (by rw[hH];exact trivial) (.inl rfl) (λb' u hb hu=>(Heap.get?_update_other s.heap (Obj.mapSeq f) (Ne.symm hb)).trans hu) ⟨_,q⟩ ?_;exact⟨hz,its',_,hv,q⟩
def Inv.lnew {its:Yf}{t':Nat}(I:Inv X Y Z H s)(hv:yi ys its)(hz:ys.length<=sizeLine):
 Inv X Y Z (upd H s.heap.objs.size (.lst ys)) { s with heap:=s.heap.push { cls:=.type "list",data:=.seq its.toArray },toks:=t' } :=
 I.laid (λ_ _ q=>Zq _ q) (Zf _) ⟨hz,its,0,hv,Zr _ rfl⟩
theorem Inv.fresh (I:Inv X Y Z H s):H s.heap.objs.size=none:=I.hok.fresh (Zf _)
def Inv.lstM (I:Inv X Y Z H s)(hH:H l=some (.lst xs)):xs.length<=sizeLine/\∃(its:Yf) (n:Nat),yi xs its/\xs.length=its.length/\s.heap.get? l=some { cls:=.type "list",data:=.seq its.toArray n }:=by
 refine wG (I.hok l _ hH) λz zz=>zc2b zz λits n r e=>?_;exact⟨z,its,n,r,r.length,e⟩
def notLongL {n:Nat}(h:n<=sizeLine):Builtin.List.listTooLong n=false:=by
 unfold Builtin.List.listTooLong;exact Zo ()
end
section
variable {X:Cx}
def iK:V->YB->Hp->VK->Prop:=λx vs H Q=>∃l xs y,x=.ref l/\vs=[y]/\H l=some (.lst xs)/\xs.length<sizeLine/\Q .non (upd H l (.lst (xs++[y])))
def zV:MtM X "list.append" iK:=by
 intro Y s Z H x vs v us Q I rx rv h;obtain⟨l,xs,y,rfl,rfl,hH,hz,q⟩:=h;cases rx;obtain⟨u,rfl,ru⟩:=rv.one;obtain⟨z,its,n,r,hl,e⟩:=I.lstM hH;refine call_meets F.slot_list_append ⟨_,e,rfl⟩ F.entry_list_append (F.args_list_append_2 _ _) (PySem.list_append l its.toArray n u (by rw[Zm];omega)) ⟨e,?_⟩;refine⟨.non,_,I.lset (its':=its++[u]) hH e (by simp -iota) (r.append (.cons ru .nil)) ?_,rfl,q⟩;rw[ZC,ZT];omega
def jR:V->YB->Hp->VK->Prop:=λx vs H Q=>∃l b xs zs,x=.ref l/\vs=[.ref b]/\H l=some (.lst xs)/\H b=some (.lst zs)/\xs.length+zs.length<=sizeLine/\Q .non (upd H l (.lst (xs++zs)))
def mt_extend:MtM X "list.extend" jR:=by
 intro Y s Z H x vs v us Q I rx rv h;refine zc4a h λl b xs zs zz=>xk zz λzr4 zr5 hH hB zz=>wG zz λhz q=>?_;subst zr4;subst zr5;cases rx;refine zc1b rv.one λu zr1 ru=>?_;subst zr1;cases ru;refine wG (I.lstM hH) λz zz=>zc2c zz λits n r hl e=>?_;refine wG (I.lstM hB) λz2 zz=>zc2c zz λits2 n2 r2 hl2 e2=>?_;have hsz:its.toArray.size+its2.toArray.size<=sizeLine:=by rw[Zm,Zm];omega
 have hlong:¬(!its.toArray.isEmpty&&Builtin.List.listTooLong (its.toArray.size+its2.toArray.size))=true:=by
  rw[notLongL hsz,Bool.and_false];exact Zj
 refine call_meets F.slot_list_extend ⟨_,e,rfl⟩ F.entry_list_extend (F.args_list_extend_2 _ _)
  (AutoSeq1.list_extend_list_list_0 l its.toArray n b its2.toArray n2 hlong (by rw[Zm];omega) ()) ⟨e,e2,?_⟩
 refine⟨.non,_,I.lset (its':=its++its2) hH e (by simp -iota) (r.append r2) ?_,rfl,q⟩;rw[ZC];omega
end
section
variable {prog:Program}{w:World}{A:Around}{E:Ya}{s:Shared}
set_option maxRecDepth 100000 in
end
section
variable {κ: Type}[DecidableEq κ]
noncomputable def qp (kvs:List (κ × V))(k:κ):YC:=(kvs.find? λkv=>decide (kv.1=k)).map (·.2)
noncomputable def rT (kvs:List (κ × V))(k:κ)(v:V):List (κ × V):=
 if(kvs.any λkv=>decide (kv.1=k))=true then kvs.map (λkv=>if kv.1=k then(kv.1,v) else kv) else kvs++[(k,v)]
def pp {p:κ × V}{r:List (κ × V)}{k:κ}(e:p.1=k):qp (p::r) k=some p.2:=by simp -iota [qp,List.find?_cons,e]
def pf {p:κ × V}{r:List (κ × V)}{k:κ}(e:¬p.1=k):qp (p::r) k=qp r k:=by simp -iota [qp,List.find?_cons,e]
theorem lZ (k:κ):∀kvs:List (κ × V),(kvs.any λkv=>decide (kv.1=k))=(qp kvs k).isSome
 | []=>rfl
 |p::r=>by
  rw[List.any_cons];by_cases e:p.1=k
  .simp -iota only[pp e,Zp e,Bool.true_or,Option.isSome_some]
  .rw[pf e,Zo e,Bool.false_or];exact lZ k r
def vv (kvs:List (κ × V))(k:κ)(v:V):(rT kvs k v).length<=kvs.length+1:=by
 unfold rT
 split
 .rw[Zql];omega
 .rw[ZC,Zu,ZB];omega
def kD.isSome_eq {o:YC}{u:Yg}(r:kD o u):o.isSome=u.isSome:=by
 cases o with
 |none=>cases u with
  |none=>rfl
  |some _=>exact(show False from r).elim
 |some _=>cases u with
  |none=>exact(show False from r).elim
  |some _=>rfl
theorem kD.getD {o:YC}{u:Yg}{d:V}{d':Value}(r:kD o u)(rd:yw d d'):yw (o.getD d) (u.getD d'):=by
 cases o with
 |none=>cases u with
  |none=>exact rd
  |some _=>exact(show False from r).elim
 |some _=>cases u with
  |none=>exact(show False from r).elim
  |some _=>exact r
def KV.val {kvs:List (κ × V)}{vs:List (κ × Value)}(r:KV kvs vs)(k:κ):kD (qp kvs k) (valueAt vs k):=by
 unfold KV at r
 induction r with
 |nil=>exact True.intro
 | @cons p q ps qs h t ih =>
  obtain⟨h1,h2⟩:=h;by_cases e:p.1=k
  .have e':q.1=k:=h1.symm.trans e;have b:valueAt (q::qs) k=some q.2:=by simp -iota [valueAt,List.find?_cons,e']
   rw[pp e,b];exact h2
  .have e':¬q.1=k:=λz=>e (h1.trans z);have b:valueAt (q::qs) k=valueAt qs k:=by simp -iota [valueAt,List.find?_cons,e']
   rw[pf e,b];exact ih
theorem KV.any {kvs:List (κ × V)}{vs:List (κ × Value)}(r:KV kvs vs)(k:κ):(kvs.any λkv=>decide (kv.1=k))=vs.any λkv=>decide (kv.1=k):=by
 unfold KV at r
 induction r with
 |nil=>rfl
 |cons h t ih=>rw[List.any_cons,List.any_cons,ih,h.1]
def KV.repl {kvs:List (κ × V)}{vs:List (κ × Value)}(r:KV kvs vs)(k:κ){y:V}{u:Value}(ry:yw y u):
 KV (kvs.map λkv=>if kv.1=k then(kv.1,y) else kv) (vs.map λkv=>if kv.1=k then(kv.1,u) else kv):=by
 unfold KV at r ⊢
 induction r with
 |nil=>exact .nil
 | @cons p q ps qs h t ih =>
  rw[Zl,Zl];refine .cons ?_ ih;obtain⟨h1,h2⟩:=h;by_cases e:p.1=k
  .rw[Zd e,Zd (h1.symm.trans e)];exact⟨h1,ry⟩
  .rw[Ze e,Ze (λz=>e (h1.trans z))];exact⟨h1,h2⟩
def KV.put {kvs:List (κ × V)}{vs:List (κ × Value)}(r:KV kvs vs)(k:κ){y:V}{u:Value}(ry:yw y u):KV (rT kvs k y) (stored vs k u):=by
 unfold rT stored;rw[r.any k];by_cases e:(vs.any λkv=>decide (kv.1=k))=true
 .rw[Zd e,Zd e];exact r.repl k ry
 .rw[Ze e,Ze e];exact Paired.snoc r ⟨rfl,ry⟩
theorem KV.length {kvs:List (κ × V)}{vs:List (κ × Value)}(r:KV kvs vs):kvs.length=vs.length:=Paired.length r
end
def k6 {P:Program}{w:World}{k:Key}{u:Value}(r:yw (kV k) u):(yb P w).is k u=true:=by
 cases k with
 |inl i=>obtain⟨t,e⟩:=(show ∃t,u=Value.int i t from r);subst e;exact mixKind_int P w i t
 |inr x=>obtain⟨t,e⟩:=(show ∃t,u=Value.str x t from r);subst e;exact mixKind_str P w x t
theorem pY {P:Program}{w:World}:∀{ks:List Key} {us:Yf},yi (ks.map kV) us->ItemsAre (yb P w) ks us
 | [],_,r=>by rw[Xx] at r;cases r;exact .nil
 |k::ks,_,r=>by
  rw[Zl] at r;cases r with
  |cons h t=>exact .cons (k6 h) (pY t)
abbrev KT (H:Hp):List (List Key×V)->List (List Key×Addr×Value)->Prop:=Paired λp q=>p.1=q.1/\H q.2.1=some (.tup (p.1.map kV))/\yw p.2 q.2.2
def KT.val {H:Hp}{kvs:List (List Key×V)}{xs:List (List Key×Addr×Value)}(r:KT H kvs xs)(k:List Key):kD (qp kvs k) ((atKey xs k).map (·.2)):=by
 induction r with
 |nil=>exact True.intro
 | @cons p q ps qs h t ih =>
  refine xF h λh1 _ h2=>?_;by_cases e:p.1=k
  .have e':q.1=k:=h1.symm.trans e;have b:atKey (q::qs) k=some q.2:=by simp -iota [atKey,List.find?_cons,e']
   rw[pp e,b];exact h2
  .have e':¬q.1=k:=λz=>e (h1.trans z);have b:atKey (q::qs) k=atKey qs k:=by simp -iota [atKey,List.find?_cons,e']
   rw[pf e,b];exact ih
def KT.repl {H:Hp}{kvs:List (List Key×V)}{xs:List (List Key×Addr×Value)}(r:KT H kvs xs)(k:List Key){y:V}{u:Value}(ry:yw y u):
 KT H (kvs.map λkv=>if kv.1=k then(kv.1,y) else kv) (xs.map (putAt k u)):=by
 induction r with
 |nil=>exact .nil
 | @cons p q ps qs h t ih =>
  rw[Zl,Zl];refine .cons ?_ ih;refine xF h λh1 h2 h3=>?_;unfold putAt;by_cases e:p.1=k
  .rw[Zd e,Zd (h1.symm.trans e)];exact⟨h1,h2,ry⟩
  .rw[Ze e,Ze (λz=>e (h1.trans z))];exact⟨h1,h2,h3⟩
def KT.put {H:Hp}{kvs:List (List Key×V)}{xs:List (List Key×Addr×Value)}(r:KT H kvs xs)(k:List Key){b:Addr}{y:V}{u:Value}(hb:H b=some (.tup (k.map kV)))(ry:yw y u):
 KT H (rT kvs k y) (storedH xs k b u):=by
 have e:(kvs.any λkv=>decide (kv.1=k))=(atKey xs k).isSome:=by
  rw[lZ,(r.val k).isSome_eq,Option.isSome_map]
 unfold rT storedH;rw[e];by_cases q:(atKey xs k).isSome=true
 .rw[Zd q,Zd q];exact r.repl k ry
 .rw[Ze q,Ze q];exact Paired.snoc r ⟨rfl,hb,ry⟩
def KT.keeps {H H':Hp}{kvs:List (List Key×V)}{xs:List (List Key×Addr×Value)}(r:KT H kvs xs)(ht:∀b ys,H b=some (.tup ys)->H' b=some (.tup ys)):KT H' kvs xs:=
 Paired.mapP r λ_ _ z=>⟨z.1,ht _ _ z.2.1,z.2.2⟩
section
variable {P:Program}{w:World}{H:Hp}{h:Heap}{a:Addr}
def cI {u:HO}(ok:HOk P w H h)(e:Rd H a u):yr P w H h a u:=e.ok ok
def oI {kvs:List (Key×V)}(ok:HOk P w H h)(e:Rd H a (.dK kvs)):kvs.length<=sizeLine/\(a == sysModules)=false/\∃vs,KV kvs vs/\h.DictOf (yb P w) a vs:=
 show yr P w H h a (.dK kvs) from cI ok e
def dh {kvs:List (Key×V)}(ok:HOk P w H h)(e:H a=some (.dK kvs)):kvs.length<=sizeLine/\(a == sysModules)=false/\∃vs,KV kvs vs/\h.DictOf (yb P w) a vs:=oI ok (.inl e)
def ql {ks:List Key}(ok:HOk P w H h)(e:H a=some (.tup (ks.map kV))):(tupleKind (yb P w)).is h ks a:=by
 refine wG ((show yr P w H h a (.tup (ks.map kV)) from ok a _ e)) λ_ zz=>zc1b zz λits r zz=>zc1c zz λo h1 h2 zz=>zc1a zz λn h3=>?_;exact⟨o,its.toArray,n,h1,h2,h3,by simpa -iota using pY r⟩
def nP {kvs:List (List Key×V)}(ok:HOk P w H h)(e:Rd H a (.dT kvs)):kvs.length<=sizeLine/\(a == sysModules)=false /\
 ∃xs,KT H kvs xs/\h.DictOfH (tupleKind (yb P w)) a xs:=by
 refine xF ((show yr P w H h a (.dT kvs) from cI ok e)) λz y zz=>zc1b zz λxs r zz=>zc3a zz λo es ep zz=>xk zz λh1 h2 h3 h4 h5=>?_;refine⟨z,y,xs,r,o,es,ep,h1,h2,h3,h4,λx hx=>?_,h5⟩;have all:∀{l:List (List Key×V)} {m:List (List Key×Addr×Value)},KT H l m->∀x∈m,(tupleKind (yb P w)).is h x.1 x.2.1:=by
  intro l m q
  induction q with
  |nil=>intro x hx;exact nomatch hx
  | @cons p q ps qs hq t ih =>
   intro x hx;rcases ZD.mp hx with e|hx
   .subst e;exact ql ok (by rw[<- hq.1];exact hq.2.1)
   .exact ih x hx
 exact all r x hx
def dt_of {kvs:List (List Key×V)}(ok:HOk P w H h)(e:H a=some (.dT kvs)):kvs.length<=sizeLine/\(a == sysModules)=false /\
 ∃xs,KT H kvs xs/\h.DictOfH (tupleKind (yb P w)) a xs:=nP ok (.inl e)
end
def mo (H:Hp)(a:Addr)(y:V)(r:YC):Prop:=
 (∃kvs k,Rd H a (.dK kvs)/\y=kV k/\r=qp kvs k)\/∃kvs k b,Rd H a (.dT kvs)/\y=.ref b/\H b=some (.tup (k.map kV))/\r=qp kvs k
def cj (H:Hp)(a:Addr)(y v:V)(H':Hp):Prop:=
 (∃kvs k,H a=some (.dK kvs)/\y=kV k/\kvs.length<sizeLine/\H'=upd H a (.dK (rT kvs k v))) \/
 ∃kvs k b,H a=some (.dT kvs)/\y=.ref b/\H b=some (.tup (k.map kV))/\kvs.length<sizeLine/\H'=upd H a (.dT (rT kvs k v))
theorem mo.k {H:Hp}{a:Addr}{kvs:List (Key×V)}{k:Key}(e:H a=some (.dK kvs)):mo H a (kV k) (qp kvs k):=.inl ⟨kvs,k,.inl e,rfl,rfl⟩
theorem cj.k {H:Hp}{a:Addr}{kvs:List (Key×V)}{k:Key}{v:V}(e:H a=some (.dK kvs))(hl:kvs.length<sizeLine):cj H a (kV k) v (upd H a (.dK (rT kvs k v))):=.inl ⟨kvs,k,e,rfl,hl,rfl⟩
section
variable {X:Cx}{Y:Yb}{Z:St}{H:Hp}{s:Shared}{a:Addr}{y v:V}{u r:Value}{o:YC}{A:Around}{E:Ya}
def Inv.big (I:Inv X Y Z H s):sysModules<s.heap.objs.size:=by
 have h:mainGlobals<s.heap.objs.size:=(I.mod.glob.keeps I.bk).lt;exact Xl (by decide) h
def d_getItem {Q:Ya}(hu:A.units+1<cLine)(I:Inv X Y Z H s)(g:mo H a y (some v))(ry:yw y u)(h:∀w' s',Inv X Y Z H s'->yw v w'->Q w' s'):
 wpAny (model X.prog X.w) A (getItem (.ref a) u) Q E s:=by
 rcases g with ⟨kvs,k,e,ey,l⟩|⟨kvs,k,b,e,ey,eb,l⟩
 .subst ey;refine xF (oI I.hok e) λz hd zz=>zc1b zz λvs rel dd=>?_;refine zc1b (kD.some_of (v:=v) (o:=valueAt vs k) (by rw[l];exact rel.val k)) λw' hw rw'=>?_;exact wpAny_getItem_of (k6 ry) dd.mapOf hw (h w' _ (I.tok _) rw')
 .subst ey;cases (show u=Value.ref b from ry);refine xF (nP I.hok e) λz hd zz=>zc1b zz λxs rel dd=>?_;refine zc1b (kD.some_of (v:=v) (o:=(atKey xs k).map (·.2)) (by rw[l];exact rel.val k)) λw' hw rw'=>?_;refine zc1b (Z3.mp hw) λp hp hp2=>?_;refine wpAny_getItem_heap (tupleKind_room_in1 hu) (ql I.hok eb) dd hp ?_;rw[hp2];exact h w' _ (I.tok _) rw'
def d_in {Q:Ya}(hu:A.units+1<cLine)(I:Inv X Y Z H s)(g:mo H a y o)(ry:yw y u)(h:∀s',Inv X Y Z H s'->Q (.bool o.isSome) s'):
 wpAny (model X.prog X.w) A (compareOp .In u (.ref a)) Q E s:=by
 rcases g with ⟨kvs,k,e,ey,l⟩|⟨kvs,k,b,e,ey,eb,l⟩
 .subst ey;refine xF (oI I.hok e) λz hd zz=>zc1b zz λvs rel dd=>?_;refine wpAny_in_of (k6 ry) hd dd.mapOf ?_;rw[<- (rel.val k).isSome_eq,<- l];exact h _ (I.tok _)
 .subst ey;cases (show u=Value.ref b from ry);refine xF (nP I.hok e) λz hd zz=>zc1b zz λxs rel dd=>?_;refine wpAny_in_heap (tupleKind_room_in1 hu) (ql I.hok eb) hd dd ?_;have q:=(rel.val k).isSome_eq;rw[Option.isSome_map] at q;rw[<- q,<- l];exact h _ (I.tok _)
def d_notIn {Q:Ya}(hu:A.units+1<cLine)(I:Inv X Y Z H s)(g:mo H a y o)(ry:yw y u)(h:∀s',Inv X Y Z H s'->Q (.bool (!o.isSome)) s'):
 wpAny (model X.prog X.w) A (compareOp .NotIn u (.ref a)) Q E s:=by
 rcases g with ⟨kvs,k,e,ey,l⟩|⟨kvs,k,b,e,ey,eb,l⟩
 .subst ey;refine xF (oI I.hok e) λz hd zz=>zc1b zz λvs rel dd=>?_;refine wpAny_notIn_of (k6 ry) hd dd.mapOf ?_;rw[<- (rel.val k).isSome_eq,<- l];exact h _ (I.tok _)
 .subst ey;cases (show u=Value.ref b from ry);refine xF (nP I.hok e) λz hd zz=>zc1b zz λxs rel dd=>?_;refine wpAny_notIn_heap (tupleKind_room_in1 hu) (ql I.hok eb) hd dd ?_;have q:=(rel.val k).isSome_eq;rw[Option.isSome_map] at q;rw[<- q,<- l];exact h _ (I.tok _)
def jh {h':Heap}{t':Nat}{ob:HO}(I:Inv X Y Z H s)(mu:Mut (H a))(hs:Heap.SameBut a s.heap h')(he:∃q,h'.get? a=some q)(new:yr X.prog X.w (upd H a ob) h' a ob):
 Inv X Y Z (upd H a ob) { s with heap:=h',toks:=t' } :=
 I.write (x:=a) (e:=a) mu (.inl rfl) (λb q hb z=>(hs.2 b hb).trans z) he new
def fI {P:Program}{w:World}{H':Hp}{h':Heap}{kvs:List (Key×V)}{vs:List (Key×Value)}(z:kvs.length<=sizeLine)(hd:(a == sysModules)=false)(rel:KV kvs vs)(dd:h'.DictOf (yb P w) a vs):
 yr P w H' h' a (.dK kvs):=⟨z,hd,vs,rel,dd⟩
def d_setItem {H':Hp}{Q:Unit->Yz}(hu:A.units+1<cLine)(I:Inv X Y Z H s)(g:cj H a y v H')(ry:yw y u)(rv:yw v r)(h:∀s',Inv X Y Z H' s'->Q Yt s'):
 wpAny (model X.prog X.w) A (setItem (.ref a) u r) Q E s:=by
 rcases g with ⟨kvs,k,e,ey,l,eH⟩|⟨kvs,k,b,e,ey,eb,l,eH⟩
 .subst ey eH;refine xF (dh I.hok e) λz hd zz=>zc1b zz λvs rel dd=>?_;have hz:vs.length<=sizeLine:=by rw[<- rel.length];exact z
  have hl:(rT kvs k v).length<=sizeLine:=by have:=vv kvs k v;omega
  refine wpAny_setItem_pairs (hsz:=hz) (k6 ry) dd λh' dd' hs=>h _ ?_;have he:∃q,h'.get? a=some q:=let ⟨q,_,_,hq,_⟩:=dd';⟨q,hq⟩
  exact jh I (by rw[e];exact True.intro) hs he (fI hl hd (rel.put k rv) dd')
 .subst ey eH;cases (show u=Value.ref b from ry);refine xF (dt_of I.hok e) λz hd zz=>zc1b zz λxs rel dd=>?_;have hz:xs.length<=sizeLine:=by rw[<- Paired.length rel];exact z
  have hl:(rT kvs k v).length<=sizeLine:=by have:=vv kvs k v;omega
  refine wpAny_setItem_heap (hsz:=hz) (tupleKind_room_in1 hu) (ql I.hok eb) dd λh' dd' hs=>h _ ?_;refine zc3a dd' λq es ep zz=>xk zz λhq h2 h3 h4 zz=>wG zz λ_ h5=>?_;refine jh I (by rw[e];exact True.intro) hs ⟨q,hq⟩ ⟨hl,hd,_,(rel.put k eb rv).keeps λc ys ec=>?_,q,es,ep,hq,h2,h3,h4,h5⟩;rw[zC (ne_of ec e (λz=>nomatch z))];exact ec
end
section
variable {X:Cx}{Y:Yb}{Z:St}{H:Hp}{s:Shared}{a:Addr}{kvs:List (Key×V)}{k:Key}{u:Value}{A:Around}{E:Ya}
def d_len {Q:Ya}(I:Inv X Y Z H s)(e:Rd H a (.dK kvs))(h:∀t s',Inv X Y Z H s'->Q (.int kvs.length t) s'):wpAny (model X.prog X.w) A (call (.builtin "len") [.ref a]) Q E s:=by
 obtain⟨z,hd,vs,rel,dd⟩:=oI I.hok e;refine call_len_dict hd dd (by rw[<- rel.length];rw[sizeLine_eq] at z;omega) ?_;rw[<- rel.length];exact h _ _ (I.tok _)
end
noncomputable def bb (i:Expr):Prop:=∀ov iv,subscripted i false ov iv=operate [ov,iv] (getItem ov iv)
def subD_of {prog:Program}{w:World}{A:Around}{E:Ya}{s:Shared}{env:Env}{value slice:Expr}{pos:Pos}{T id:String}{Q:Ya}
 (hl:typeLookup (.type T) "__getitem__" = pure (some (.builtin id))) (hs:bb slice)
 (h:YG prog w A (eval value env) (λo s₁=>YG prog w A (eval slice env) (λi s₂=>s₂.TypeIs o T/\YG prog w A (getItem o i) Q E s₂) E s₁) E s):
 YG prog w A (eval (.Subscript value slice pos) env) Q E s:=by
 refine Subscript_ (Zc h (λo s₁ h₁=>Zc h₁ (λi s₂ h₂=>?_) λ_ _ x=>x) λ_ _ x=>x);obtain⟨hT,h₂⟩:=h₂;unfold subscriptTail;refine Za ?_;rw[getitemInPython_of_ne hT.not_modules];refine Za (wpAny_specialOf hT hl ?_);have fin:YG prog w A (subscripted slice false o i) (λr s₃=>YG prog w A (letTemporaryGo value o r >>= λ_=>pure r) Q E s₃) E s₂:=by
  rw[hs o i];exact wpAny_operating (Zc h₂ (λr s₃ h₃=>Za (wpAny_letTemporaryGo (Zb h₃))) λ_ _ x=>x)
 first
  |exact Zb (Za fin)
  |exact Za (Zb (Za fin))
  |exact Za fin
def dict_typeIs {X:Cx}{Y:Yb}{Z:St}{H:Hp}{s:Shared}{a:Addr}{y:V}{o:YC}(I:Inv X Y Z H s)(g:mo H a y o):s.TypeIs (.ref a) "dict" := by
 rcases g with ⟨kvs,k,e,_,_⟩|⟨kvs,k,b,e,_,_,_⟩
 .refine xF (oI I.hok e) λ_ _ zz=>zc1b zz λvs _ dd=>?_;exact dd.typeIs
 .refine xF (nP I.hok e) λ_ _ zz=>zc1b zz λxs _ dd=>?_;exact dd.typeIs
def tDGet (td ty:TE):TE:=λZ H Q=>td Z H λx H1=>ty Z H1 λy H2=>∃a v,x=.ref a/\mo H2 a y (some v)/\Q v H2
def tDIn (ty td:TE):TE:=λZ H Q=>ty Z H λy H1=>td Z H1 λx H2=>∃a o,x=.ref a/\mo H2 a y o/\Q (.bl o.isSome) H2
def tDNotIn (ty td:TE):TE:=λZ H Q=>ty Z H λy H1=>td Z H1 λx H2=>∃a o,x=.ref a/\mo H2 a y o/\Q (.bl (!o.isSome)) H2
def sDPut (td ty tv:TE):TS:=λD Z H=>tv Z H λv H1=>td Z H1 λx H2=>ty Z H2 λy H3=>∃a H4,x=.ref a/\cj H3 a y v H4/\D.nx Z H4
section
variable {X:Cx}{o i e value:Expr}{pos pos' tpos:Pos}{td ty tv:TE}
def jD (hu:X.A.units+1<cLine)(ho:PE X o td)(hi:PE X i ty)(hs:bb i):PE X (.Subscript o i pos) (tDGet td ty):=by
 intro Y s Z H Q I h;refine subD_of PySem.F.slot_dict_getitem.lookup hs (thn (ho Y s Z H _ I h) λu s1 ⟨x,H1,I1,rx,q1⟩=>thn (hi Y s1 Z H1 _ I1 q1) λiv s2 zh=>?_);refine zc2c zh λy H2 I2 ry zz=>zc2c zz λa v ex g q2=>?_;subst ex;obtain rfl:u=Value.ref a:=rx;exact⟨dict_typeIs I2 g,d_getItem hu I2 g ry λw' s3 I3 rw'=>⟨v,H2,I3,rw',q2⟩⟩
def pc_din (hu:X.A.units+1<cLine)(hi:PE X i ty)(ho:PE X o td):PC X .In i o (tDIn ty td):=by
 intro Y s Z H Q I h;refine thn (hi Y s Z H _ I h) λiv s1 ⟨y,H1,I1,ry,q1⟩=>thn (ho Y s1 Z H1 _ I1 q1) λu s2 zh=>?_;refine zc2c zh λx H2 I2 rx zz=>zc2c zz λa ov ex g q2=>?_;subst ex;obtain rfl:u=Value.ref a:=rx;exact d_in hu I2 g ry λs3 I3=>⟨.bl ov.isSome,H2,I3,rfl,q2⟩
def pc_dnotin (hu:X.A.units+1<cLine)(hi:PE X i ty)(ho:PE X o td):PC X .NotIn i o (tDNotIn ty td):=by
 intro Y s Z H Q I h;refine thn (hi Y s Z H _ I h) λiv s1 ⟨y,H1,I1,ry,q1⟩=>thn (ho Y s1 Z H1 _ I1 q1) λu s2 zh=>?_;refine zc2c zh λx H2 I2 rx zz=>zc2c zz λa ov ex g q2=>?_;subst ex;obtain rfl:u=Value.ref a:=rx;exact d_notIn hu I2 g ry λs3 I3=>⟨.bl (!ov.isSome),H2,I3,rfl,q2⟩
def ps_dput (hu:X.A.units+1<cLine)(ho:PE X o td)(hi:PE X i ty)(hv:PE X value tv)(hs:swapsWith value (some (.Subscript o i pos')) pos.line X.env=pure false):
 PS X (.Assign [.Subscript o i pos'] value pos) (sDPut td ty tv):=by
 intro Y s Z H D I h;refine wpAny_Assign_Subscript (thn (hv Y s Z H _ I h) λr s1 ⟨v,H1,I1,rv,q1⟩=>thn (ho Y s1 Z H1 _ I1 q1) λu s2 ⟨x,H2,I2,rx,q2⟩=>thn (hi Y s2 Z H2 _ I2 q2) λiv s3 ⟨y,H3,I3,ry,a,H4,ex,g,q3⟩=>?_) hs;subst ex;obtain rfl:u=Value.ref a:=rx;exact d_setItem hu I3 g ry rv λs4 I4=>⟨Z,H4,I4,q3⟩
end
def sI (kvs more:List (Key×V)):List (Key×V):=more.foldl (λacc kv=>rT acc kv.1 kv.2) kvs
def KV.merge:∀{more:List (Key×V)} {rs:List (Key×Value)} {kvs:List (Key×V)} {vs:List (Key×Value)},KV more rs->KV kvs vs->KV (sI kvs more) (merged vs rs):=by
 intro more rs kvs vs r;unfold KV at r
 induction r generalizing kvs vs with
 |nil=>intro q;exact q
 | @cons p q ps qs h t ih =>
  intro r0;have e:KV (rT kvs p.1 p.2) (stored vs q.1 q.2):=by
   have:=r0.put p.1 h.2;rw[<- h.1];exact this
  exact ih e
theorem vS:∀(more kvs:List (Key×V)),(sI kvs more).length<=kvs.length+more.length
 | [],kvs=>by show kvs.length<=kvs.length+0;omega
 |p::r,kvs=>by
  have h1:=vS r (rT kvs p.1 p.2);have h2:=vv kvs p.1 p.2;show(sI (rT kvs p.1 p.2) r).length<=_;rw[Zu];omega
structure M2 (X:Cx)(o:Expr)(m:Str)(apos:Pos)(e f:Expr)(cpos:Pos):Prop where
 base:attributeBase o m X.env (eval o X.env)=eval o X.env
 few:((backTo cpos (starEach [e,f] X.env)).all (λx => !x.1)&&(backToKw cpos (keywordEach [] X.env)).all (λx=>x.1.isSome)
  && decide (([e,f]:Ym).length+([]:List Keyword).length+(if([]:List Keyword).isEmpty then 0 else 1)<30))=true
 line:(apos.endLine == cpos.line)=true
 trees:backTo cpos (starEach [e,f] X.env)=[(false,eval e X.env),(false,eval f X.env)]
noncomputable def IsD (H:Hp)(a:Addr):Prop:=(∃kvs,Rd H a (.dK kvs))\/∃kvs,Rd H a (.dT kvs)
def isD_at {X:Cx}{Y:Yb}{Z:St}{H:Hp}{s:Shared}{a:Addr}(I:Inv X Y Z H s)(d:IsD H a):
 s.TypeIs (.ref a) "dict" /\ (∀b,Value.ref a=.ref b->∃ob,s.heap.get? b=some ob/\ob.dict=none)/\(a == sysModules)=false:=by
 rcases d with ⟨kvs,e⟩|⟨kvs,e⟩
 .refine xF (oI I.hok e) λ_ hd zz=>zc1b zz λvs _ dd=>?_;refine⟨dd.typeIs,λb q=>?_,hd⟩;cases q;refine zc3c dd λob _ _ h1 h2 _=>?_;exact⟨ob,h1,h2.2.1⟩
 .refine xF (nP I.hok e) λ_ hd zz=>zc1b zz λxs _ dd=>?_;refine⟨dd.typeIs,λb q=>?_,hd⟩;cases q;refine zc3c dd λob _ _ h1 h2 _=>?_;exact⟨ob,h1,h2.2.1⟩
section
variable {X:Cx}{Y:Yb}{Z:St}{H:Hp}{s:Shared}{a:Addr}{y d:V}{u r:Value}{o:YC}{A:Around}{E:Ya}
def d_get2 {Q:Ya}(hu:A.units+1<cLine)(I:Inv X Y Z H s)(g:mo H a y o)(ry:yw y u)(rd:yw d r)(h:∀w' s',Inv X Y Z H s'->yw (o.getD d) w'->Q w' s'):
 wpAny (model X.prog X.w) A (call (.builtin "dict.get") [.ref a,u,r]) Q E s:=by
 rcases g with ⟨kvs,k,e,ey,l⟩|⟨kvs,k,b,e,ey,eb,l⟩
 .subst ey;refine xF (oI I.hok e) λz hd zz=>zc1b zz λvs rel dd=>?_;refine call_meetsIn PySem.F.slot_dict_get dd.typeIs PySem.F.entry_dict_get (PySem.F.args_dict_get_3 _ _ _) (meets_dict_get_default (yb X.prog X.w) a (k6 ry) hd r) ⟨_,dd.mapOf,h _ _ (I.tok _) ?_⟩;rw[l];exact(rel.val k).getD rd
 .subst ey;cases (show u=Value.ref b from ry);refine xF (nP I.hok e) λz hd zz=>zc1b zz λxs rel dd=>?_;refine call_meetsIn PySem.F.slot_dict_get dd.typeIs PySem.F.entry_dict_get (PySem.F.args_dict_get_3 _ _ _) (meetsH_dict_get_default (tupleKind (yb X.prog X.w)) a b hd r) ⟨tupleKind_room_in1 hu,k,xs,ql I.hok eb,dd,h _ _ (I.tok _) ?_⟩;rw[l];exact(rel.val k).getD rd
end
def tDGet2 (td ty tx:TE):TE:=λZ H Q=>td Z H λx H1=>∃a,x=.ref a/\IsD H1 a/\ty Z H1 λy H2=>tx Z H2 λz H3=>∃o,mo H3 a y o/\Q (o.getD z) H3
section
variable {X:Cx}{o e f:Expr}{apos cpos:Pos}{td ty tx:TE}
def pe_dget2 (hu:X.A.units+1<cLine)(ho:PE X o td)(he:PE X e ty)(hf:PE X f tx)(m:M2 X o "get" apos e f cpos):PE X (.Call (.Attribute o "get" apos) [e,f] [] cpos) (tDGet2 td ty tx):=by
 intro Y s Z H Q I h;refine wpAny_Call_method m.base m.few m.line PySem.F.plainAttrs_dict PySem.F.slot_dict_get PySem.F.type_dict_get (thn (ho Y s Z H _ I h) λu s1 zh=>?_);refine zc2c zh λx H1 I1 rx zz=>zc1c zz λa ex d q1=>?_;subst ex;obtain rfl:u=Value.ref a:=rx;refine xF (isD_at I1 d) λt1 t2 _=>?_;refine⟨t1,t2,?_⟩;rw[m.trees];refine Calls.callWith_builtin rfl (Calls.evalArgs_plain (Calls.spliced_cons (thn (he Y s1 Z H1 _ I1 q1) λiv s2 ⟨y,H2,I2,ry,q2⟩ =>
  Calls.spliced_cons (thn (hf Y s2 Z H2 _ I2 q2) λfv s3 ⟨z,H3,I3,rz,ov,g,q3⟩=>Calls.spliced_nil ?_))))
 exact d_get2 hu I3 g ry rz λw' s4 I4 rw'=>⟨_,H3,I4,rw',q3⟩
end
end L2
namespace Att
open PySem PySem.W PySem.Calls PyProof.Rows
def ints_of_wellAll {P:Params}{h:Heap}:∀(ns:Yh) (vs:Yf),WellAll P h vs (ns.map WData.int)->IntsAre vs ns:=by
 intro ns
 induction ns with
 |nil =>
  intro vs w;rw[Xx] at w;cases w;exact .nil
 |cons n ns ih =>
  intro vs w;rw[Zl] at w;cases w with
  |cons a b =>
   cases a;exact .cons _ _ (ih _ b)
def script_of {l:OpenLaw}{n:Nat}(hn:l.most=some n){P:Params}{h:Heap}{args:List WData}{vals:Yf}
 (hpre:l.row.toRowW.claim.pre args=true) (hwl:WellAll P h vals args):
 ∃a vs ns,vals=[Value.ref a]/\args=[WData.list (ns.map WData.int)]/\h.get? a=some { cls:=.type "list",data:=.seq vs.toArray }/\IntsAre vs ns/\ns.length<=n:=by
 have hsh:WShape.hasAll [] args [.list .int]=true:=(pre_splitW hpre).1;have hc:l.pre.holds [] { args:=args }=true:=(pre_splitW hpre).2;refine zc2c (hasAllW_cons hsh) λd r zr2 h1 h2=>?_;subst zr2;obtain rfl:=hasAllW_nil h2;refine zc1b (hasW_list h1) λxs zr1 h3=>?_;subst zr1;obtain⟨ns,rfl⟩:=items_int h3;have hlen:ns.length<=n:=by
  unfold OpenLaw.pre at hc;have h4:(WTm.not (.lt (.lit (.int (n:Int))) (.len (.arg 0)))).holds [] { args:=[.list (ns.map .int)] }=true:=by
   have h4:=(holds_andW hc).1;rw[hn] at h4;exact h4
  have h5:=condW_of h4 (w_not (w_lt w_lit (w_len_list (w_arg rfl))));rw[Zql] at h5;refine Nat.le_of_not_lt λq=>?_;have q':(n:Int)<((ns.length:Nat):Int):=()
  first
   | (rw[Zp q'] at h5;exact Zn h5 (by decide))
   | (simp -iota at h5;omega)
 cases hwl with
 |cons w1 w2 =>
  cases w2;cases w1 with
  |list ho hall=>exact⟨_,_,ns,rfl,rfl,ho,ints_of_wellAll ns _ hall,hlen⟩
def post_true (l:OpenLaw)(args:List WData):l.row.toRowW.claim.post args (.bool true) args=true:=
 postW_of (r:=l.row.toRowW) (X:=(true == true))
  (show WShape.has [] (.bool true) .bool=true by first|rfl|decide|simp -iota [WShape.has,WShape.arms,WShape.armsAll])
  (show(WTm.eq .res (.lit (.bool true))).value [] { args:=args,res:=some (.bool true),after:=args }=some (.bool (true == true)) from w_eq_bool (w_res rfl) w_lit) rfl
def attach_call {l:OpenLaw}{n:Nat}{q:Program}{loose:Yk}{XP:(Ye)->Heap->Prop}{YP:World->Heap->Prop}{d:DefRec}
 (hn:l.most=some n) (hdf:d.params.defaults=[])
 (call:∀(w:World) (s₀ s₁:Shared) (mg mb:Ye) (fa:Addr) (o:Obj) (pm cd doc:Value) (a:Addr) (vs:Yf) (ns:Yh),
  Ground q loose [] XP w s₀ mg mb s₁.heap->YP w s₁.heap ->
  s₁.heap.get? fa=some o->o.data=.func (docDef d.name d.params d.body d.scope pm cd doc)->s₁.heap.CodeRec cd d.name->mg d.name=some (.ref fa) ->
  s₁.heap.get? a=some { cls:=.type "list",data:=.seq vs.toArray }->IntsAre vs ns->ns.length<=n->s₁.gens = #[] ->
  codeAny (model l.prog w) callerA (.call (.ref fa) ⟨[.ref a],[]⟩) (λr s'=>r=.ok (.ret (.bool true))/\OldK s₁.heap s'.heap/\s'.os=s₁.os/\AllBare s'.gens) s₁):
 WalkO q loose XP YP l.row.toRowW d [] (λf vs=>PySem.call f vs):=by
 intro w s₀ s₁ mg mb G Yy fa o pm cd doc dV kV ho hd hcd hD hmg hg args vals as hpre hlay hrd hwl hlo;obtain rfl:dV=.none:=Dflts.none hD hdf;obtain rfl:kV=.none:=Dflts.noKw hD;refine zc3a (script_of hn hpre hwl) λa vs ns zz=>xk zz λzr3 zr4 hobj hints hlen=>?_;subst zr3;subst zr4;refine enter_call (codeAny_mono (call w s₀ s₁ mg mb fa o pm cd doc a vs ns G Yy ho (fd_plain hd) hcd hmg hobj hints hlen hg) λr s' hq=>?_);refine pR hq λzr0 h2 h3 h4=>?_;subst zr0;exact⟨.inl ⟨.bool true,.bool true,[],rfl,λ_=>rfl,.bool true,post_true l _,λ_=>⟨List.Pairwise.nil,λ_ hm=>(nomatch hm)⟩⟩,h2,h3,h4⟩
end Att
namespace L2
def vals_ints:∀{vs:Yf} {ns:Yh},IntsAre vs ns->yi (ns.map V.int) vs:=λh=>by
 induction h with
 |nil=>exact .nil
 |cons n t _ ih=>exact .cons ⟨t,rfl⟩ ih
noncomputable def b7 (H:Hp):Prop:=∀b,H b=none\/∃o xs,H b=some (.frz o (.lst xs))
def law_call {P:Program}{w:World}{K:W.Frag}{mg mb:Ye}{CX:CXT}{k:Nat}{fa a:Addr}{fd:FuncData}{x:Str}{sp:Sp}{s₁:Shared}{vs:Yf}{ns:Yh}
 (KX:K.In s₁.heap) (hns:s₁.heap.Ns mainGlobals mg) (hb:s₁.heap.Ns builtinsNs mb) (hbb:∀x:Str,x ≠ "__name__" -> mb x=bootBuiltins x) (hlim:s₁.heap.NoLimit) (hg:s₁.gens = #[])
 (ha:s₁.heap.get? a=some { cls:=.type "list",data:=.seq vs.toArray }) (hi:IntsAre vs ns) (hl:ns.length<=sizeLine) (hr:Room k callerA)
 (F:∀base:Heap,K.In base->base.Ns mainGlobals mg->FnOk P w K mg base CX k fa fd [x] sp) (hbind:∀(s:Shared) (u:Value),BindsTo s fd ⟨[u],[]⟩ [(x,u)])
 (hsp:∀H:Hp,b7 H->SqL K H a (ns.map V.int)->sp [.ref a] H (λv _=>v=.bl true) λ_ _ _=>False)
 (hCX:∀H e s',CX [] H s₁ (λ_ _ _=>False) e s'->False):
 codeAny (model P w) callerA (.call (.ref fa) ⟨[.ref a],[]⟩) (λr s'=>r=.ok (.ret (.bool true))/\OldK s₁.heap s'.heap/\s'.os=s₁.os/\AllBare s'.gens) s₁:=by
 have rv:=vals_ints hi;have lenV:=hi.length;have core:∀H:Hp,b7 H->SqL K H a (ns.map V.int)->HOk P w H s₁.heap->(∀b,H b≠none->b=a)->(H a≠none->K.lookup a=none) ->
  codeAny (model P w) callerA (.call (.ref fa) ⟨[.ref a],[]⟩) (λr s'=>r=.ok (.ret (.bool true))/\OldK s₁.heap s'.heap/\s'.os=s₁.os/\AllBare s'.gens) s₁:=by
  intro H hO hS hok hA hK;have base_of:∀{b:Addr} {o:Obj},s₁.heap.get? b=some o->H b=none->(gH s₁.heap H).get? b=some o:=λe n=>hidT_get e n;have noA:∀{b:Addr} {o:Obj} {es:Array DictEntry} {ep:Nat},s₁.heap.get? b=some o->o.data=.dict es ep->H b=none:=λ{b o es ep} e d=>by
   cases q:H b with
   |none=>rfl
   |some u =>
    have e':b=a:=hA b (by rw[q];simp -iota);subst e';rw[ha] at e;cases e;have d':Data.seq vs.toArray _=Data.dict es ep:=d;cases d'
  have nsK:∀{b:Addr} {m:Ye},s₁.heap.Ns b m->(gH s₁.heap H).Ns b m:=λ{b m} ⟨o,es,ep,e,d,r⟩=>⟨o,es,ep,base_of e (noA e d),d,r⟩;have hKb:K.In (gH s₁.heap H):=λb o e=>base_of (KX b o e) (by
   cases q:H b with
   |none=>rfl
   |some u =>
    have e':b=a:=hA b (by rw[q];simp -iota);subst e';rw[hK (by rw[q];simp -iota)] at e;cases e)
  have hM:Mod K mg (gH s₁.heap H):=⟨hKb,nsK hns,⟨mb,nsK hb,hbb⟩,let ⟨mc,h1,h2⟩:=hlim;⟨mc,nsK h1,h2⟩⟩;have e0:Env0 P w K mg (gH s₁.heap H) callerA [] s₁ H:=⟨rfl,hM,λb o e=>of_hidT e,XO (hidT_size _ _),trivial,λb hb=>Zn (show b∈([]:Yl) from hb) (by simp -iota),hok,.of_eq hg⟩;refine codeAny_mono ((F _ hKb (nsK hns)).run callerA [] s₁ H ⟨[.ref a],[]⟩ [.ref a] [.ref a] _ _ hr e0 (hbind s₁ (.ref a)) (.cons rfl .nil) (hsp H hO hS)) λr s' h=>?_;cases r with
  |error e=>exact(hCX H e s' h).elim
  |ok fl =>
   cases fl with
   |next=>exact False.elim h
   |brk=>exact False.elim h
   |cont=>exact False.elim h
   |ret u =>
    refine zc2a h λv H' zz=>xk zz λos bare un hok' zz=>wG zz λr' q=>?_;have q':v=.bl true:=q;subst q';obtain rfl:u=Value.bool true:=r';refine⟨rfl,OldK.of_keep λb o e=>?_,os,bare⟩;cases q:H b with
    |none=>exact un.keep b o e q (by intro z;exact Zn (show b∈([]:Yl) from z) (by simp -iota)) (by simp -iota)
    |some u =>
     rcases hO b with z|⟨ob,xs,z⟩
     .rw[q] at z;cases z
     .have z2:=un.frzs b ob _ z;obtain⟨e1,_⟩:=hok b _ z;obtain⟨e2,_⟩:=hok' b _ z2;rw[e] at e1;cases e1;exact e2
 cases hk:K.lookup a with
 |some o =>
  have e:=KX a o hk;rw[ha] at e;cases e;refine core (λ_=>none) (λ_=>.inl rfl) (.inr ⟨_,vs.toArray,_,hk,rfl,rfl,rfl,by rw[Zm,lenV];exact hl,by simpa -iota using rv⟩) (λb u z=>by have z':(none:Option HO)=some u:=z;cases z') (λb z=>Zn rfl z) λz=>Zn rfl z
 |none =>
  refine core (λb=>if b=a then some (.frz { cls:=.type "list",data:=.seq vs.toArray } (.lst (ns.map V.int))) else none) (λb=>?_) (.inl (.inr ⟨{ cls:=.type "list",data:=.seq vs.toArray },Zd rfl⟩)) (λb u z=>?_) (λb z=>?_) λ_=>hk
  .by_cases hb:b=a
   .exact .inr ⟨_,_,Zd hb⟩
   .exact .inl (Ze hb)
  .by_cases hb:b=a
   .have z':=(Zd hb).symm.trans z;cases z';subst hb;exact⟨ha,by rw[Zql];exact hl,vs,_,rv,ha⟩
   .have z':=(Ze hb).symm.trans z;cases z'
  .by_cases hb:b=a
   .exact hb
   .exact Zn (Ze hb) z
def walk_of {l:W.OpenLaw}{n k:Nat}{q:Program}{loose:Yk}{XP:(Ye)->Heap->Prop}{YP:World->Heap->Prop}{d:DefRec}{K:Params->W.Frag}{CX:World->CXT}{sp:World->Sp}{x:Str}
 (hn:l.most=some n) (hn2:n<=sizeLine) (hdf:d.params.defaults=[]) (hr:Room k callerA)
 (hY:∀(w:World) (h:Heap),YP w h->(K w.params).In h)
 (F:∀(w:World) (mg:Ye) (fa:Addr) (h:Heap),(K w.params).In h->h.Ns mainGlobals mg->mg d.name=some (.ref fa) ->
  ∃fd:FuncData,(∀(s:Shared) (u:Value),BindsTo s fd ⟨[u],[]⟩ [(x,u)]) /\
   ∀base:Heap,(K w.params).In base->base.Ns mainGlobals mg->FnOk l.prog w (K w.params) mg base (CX w) k fa fd [x] (sp w))
 (hsp:∀(w:World) (H:Hp) (a:Addr) (ns:Yh),ns.length<=n->b7 H->SqL (K w.params) H a (ns.map V.int)->sp w [.ref a] H (λv _=>v=.bl true) λ_ _ _=>False)
 (hCX:∀(w:World) (H:Hp) (s:Shared) (e:Value) (s':Shared),CX w [] H s (λ_ _ _=>False) e s'->False):
 W.WalkO q loose XP YP l.row.toRowW d [] (λf vs=>PySem.call f vs):=by
 refine Att.attach_call hn hdf λw s₀ s₁ mg mb fa o pm cd doc a vs ns G Yy ho hd hcd hmg hobj hints hlen hg=>?_;have KX:=hY w _ Yy;refine zc1b (F w mg fa _ KX G.T.g hmg) λfd hb hF=>?_;exact law_call KX G.T.g G.T.b G.T.builtins G.T.nolimit hg hobj hints (Zh hlen hn2) hr hF hb (λH hO hS=>hsp w H a ns hlen hO hS) λH e s'=>hCX w H s₁ e s'
noncomputable def ui (s:Stmt):Arguments:=match s with
 | .FunctionDef _ a _ _ _ _ _ _ _ _=>a
 |_=>{ posonlyargs:=[],args:=[],vararg:=none,kwonlyargs:=[],kw_defaults:=[],kwarg:=none,defaults:=[] }
noncomputable def xz (s:Stmt):List Stmt:=match s with
 | .FunctionDef _ _ b _ _ _ _ _ _ _=>b
 |_=>[]
noncomputable def zj (s:Stmt):Scope:=match s with
 | .FunctionDef _ _ _ _ _ _ sc _ _ _=>sc
 |_=>{ kind:=.function,names:=[],isGenerator:=false,isCoroutine:=false }
abbrev CX0:CXT:=λ_ _ _ _ _ _=>False
abbrev E0:XK:=λ_ _ _=>False
def pass0 {X:Cx}:kq CX0 X E0:=λ_ _ _ _ _ _ _ h=>h.elim
structure Fun (K:W.Frag)(x qual:Str)(st:Stmt)(f:Addr)(fd:FuncData):Prop where
 ex:∃(oc:Value) (od:Option Addr) (kV doc pm:Value) (an:Option Addr) (cdv ct:Value) (osl:Array Yg),
  fd=W.fnOf x qual (ui st) (xz st) (zj st) .none kV doc pm an cdv ct/\K.lookup f=some ⟨oc,od,.func fd,osl⟩/\W.codeIn K cdv qual=true
 kp:W.keepIn K (.ref f)=true
section
variable {P:Program}{w:World}{K:W.Frag}{mg:Ye}{base:Heap}
def Fun.ok {x qual:Str}{st:Stmt}{f:Addr}{fd:FuncData}{N ps:Yk}{k:Nat}{sp:Sp}(F:Fun K x qual st f fd)(S:FnScope N ps (zj st))(len:∀vs H Q E,sp vs H Q E->vs.length=ps.length)
 (hbody:∀(cdv:Value) (A:Around) (outer:List Env) (s:Shared) (H:Hp) (vs:YB) (Q:VK) (E:XK),Room k (A.deeper (envOfC qual (zj st) s.heap.objs.size f cdv))->sp vs H Q E ->
  ∃t,PSs (rA CX0 P w K mg base N qual (zj st) f cdv A outer s H E).nox (xz st) t/\t { nx:=λ_ H'=>Q .non H',rt:=Q } (start N vs) H):FnOk P w K mg base CX0 (k+1) f fd ps sp:=by
 refine zc4a F.ex λoc od kV doc zz=>zc4a zz λpm an cdv ct zz=>zc1c zz λosl zr9 lk hcd=>?_;subst zr9;refine cM lk hcd S len λA outer s H vs Q E hr hsp=>?_;refine zc1b (hbody cdv A outer s H vs Q E hr hsp) λt h q=>?_;exact⟨t,h.nox,q⟩
def Fun.binds {x qual:Str}{st:Stmt}{f:Addr}{fd:FuncData}{ps:Yk}(F:Fun K x qual st f fd)
 (h:∀(kV doc pm:Value) (an:Option Addr) (cdv ct:Value) (us:Yf),us.length=ps.length->bindArgs (W.fnOf x qual (ui st) (xz st) (zj st) .none kV doc pm an cdv ct) ⟨us,[]⟩=pure (ps.zip us)):oX K fd ps []:=by
 refine zc4a F.ex λoc od kV doc zz=>zc4a zz λpm an cdv ct zz=>zc1c zz λosl zr9 lk hcd=>?_;subst zr9;exact .all (h kV doc pm an cdv ct)
def fun_mk {x qual:Str}{st:Stmt}{f:Addr}{oc:Value}{od an:Option Addr}{osl:Array Yg}{kV doc pm cdv ct:Value}(l:K.lookup f=some ⟨oc,od,.func (W.fnOf x qual (ui st) (xz st) (zj st) .none kV doc pm an cdv ct),osl⟩)
 (c:W.codeIn K cdv qual=true) (k:W.keepIn K (.ref f)=true):Fun K x qual st f (W.fnOf x qual (ui st) (xz st) (zj st) .none kV doc pm an cdv ct):=⟨⟨oc,od,kV,doc,pm,an,cdv,ct,osl,rfl,l,c⟩,k⟩
end
def yj {A:Around}{k:Nat}(hr:Room k A):A.units+1<cLine:=XL (Nat.add_le_add_left (by decide:1<=64) _) hr.units
def nt {n:Nat}(h:n<=1000):n<sizeLine:=XL h (by decide)
section
variable {X:Cx}
def pv (i:Nat){x:Str}{pos:Pos}(hN:autoParam (X.N[i]? = some x) zau._auto_1)(hv:Vis X.env.scope x:=by first|exact Or.inl rfl|exact Or.inr (Or.inl rfl)|exact Or.inr (Or.inr rfl))(hd:(x == ("__debug__" : Str))=false:=by decide)
 (hcd:autoParam ((x == ("__classdict__" : Str))=false) zav._auto_1):PE X (.Name x pos) (gN i):=pe_var hN hv hd hcd
end
noncomputable def yB (H H':Hp):Prop:=∀b o,H b=some o->H' b=some o
def yB.refl (H:Hp):yB H H:=λ_ _ h=>h
def yB.trans {H H1 H2:Hp}(a:yB H H1)(b:yB H1 H2):yB H H2:=λc o h=>b c o (a c o h)
def yB.free {H H':Hp}(e:yB H H'){l:Addr}(h:H' l=Option.none):H l=Option.none:=by
 cases q:H l with
 |none=>rfl
 |some o =>
  rw[e l o q] at h;cases h
def yB.seq {K:W.Frag}{H H':Hp}{a:Addr}{xs:YB}(e:yB H H')(h:SqL K H a xs):SqL K H' a xs:=by
 rcases h with (h|⟨o,h⟩)|h
 .exact .inl (.inl (e _ _ h))
 .exact .inl (.inr ⟨o,e _ _ h⟩)
 .exact .inr h
section
variable {X:Cx}
def call_lenD:zD X (.builtin "len") (λxs H Q=>∃a kvs,xs=[V.ref a]/\H a=some (.dK kvs)/\Q (.int kvs.length) H):=by
 intro Y s Z H xs us Q I r h;refine zc2c h λa kvs zr2 ha q=>?_;subst zr2;refine zc1b (vF r) λu zr1 ru=>?_;subst zr1;cases ru;exact d_len I (.inl ha) λt s' I'=>⟨.int kvs.length,H,I',⟨t,rfl⟩,q⟩
end
end L2
def zqn {P:Prop}{α:Type}{z:α}(h:none=some z):P:=by cases  h
def zqb {P:Prop}(h:false=true):P:=by cases  h
namespace L2
theorem sZ (env:Env):∀(names:List (Str×NameKind)) (acc:List (Str×Addr)),(∀y∈names,y.2=.free->∃c,env.cells.lookup y.1=some c) ->
 ∃cl,(forIn names acc λ(x:Str×NameKind) (r:List (Str×Addr))=>(match x with
  | (name,kind)=>if(kind == NameKind.free)=true then do let a <- cellOf env name;pure (ForInStep.yield ((name,a)::r)) else pure (ForInStep.yield r):Sem (ForInStep (List (Str×Addr)))))=(pure cl:Sem (List (Str×Addr))) /\
  (∀x c,cl.lookup x=some c->env.cells.lookup x=some c\/acc.lookup x=some c)/\(∀x c,acc.lookup x=some c->∃c',cl.lookup x=some c')/\∀y∈names,y.2=.free->∃c,cl.lookup y.1=some c
 | [],acc,_=>⟨acc,rfl,λ_ _ h=>.inr h,λx c h=>⟨c,h⟩,λ_ h=>nomatch h⟩
 | (n,k)::r,acc,h=>by
  rw[List.forIn_cons];cases hk:(k == NameKind.free) with
  |true =>
   have hk':k=.free:=by cases k<;>first|rfl|(exact Zn hk (by decide))
   obtain⟨c,hc⟩:=h (n,k) Zqs hk';refine zc1d (sZ env r ((n,c)::acc) λy hy=>h y (Zqm _ hy)) λcl e h1 h2 h3=>?_;refine⟨cl,?_,λx c' hx=>?_,λx c' hx=>?_,λy hy hf=>?_⟩
   .simp only[hk,if_true,cellOf,hc];exact e
   .rcases h1 x c' hx with q|q
    .exact .inl q
    .rw[List.lookup_cons] at q;cases hb:x == n with
     |true =>
      rw[hb] at q;cases q;have:x=n:=by simpa using hb
      subst this;exact .inl hc
     |false=>rw[hb] at q;exact .inr q
   .cases hb:x == n with
    |true=>exact h2 x c (by rw[List.lookup_cons,hb])
    |false=>exact h2 x c' (by rw[List.lookup_cons,hb];exact hx)
   .rcases ZD.mp hy with rfl|hy
    .exact h2 n c (by rw[List.lookup_cons,beq_self_eq_true])
    .exact h3 y hy hf
  |false =>
   refine zc1d (sZ env r acc λy hy=>h y (Zqm _ hy)) λcl e h1 h2 h3=>?_;refine⟨cl,?_,h1,h2,λy hy hf=>?_⟩
   .simp only[hk,ZO,if_false];exact e
   .rcases ZD.mp hy with rfl|hy
    .rw[show k=.free from hf] at hk;exact Zn hk (by decide)
    .exact h3 y hy hf
def clos_of (env:Env)(scope:Scope)(h:∀y∈scope.names,y.2=.free->∃c,env.cells.lookup y.1=some c):
 ∃cl,closureFor scope env=pure cl/\(∀x c,cl.lookup x=some c->env.cells.lookup x=some c)/\∀y∈scope.names,y.2=.free->∃c,cl.lookup y.1=some c:=by
 refine zc1d (sZ env scope.names [] h) λcl e h1 _ h3=>?_;refine⟨cl,?_,λx c hx=>(h1 x c hx).elim id (λq=>by simp at q),h3⟩;simp only[closureFor]
 first
 | (rw[e];rfl)
 |exact(Zt (· >>= λcs=>pure cs) e)
theorem xJ {env:Env}{x:Str}:∀{names:List (Str×NameKind)},
 (names.lookup x=some .free->(names.map λ(n,k)=>if(k == NameKind.free&&env.scope.kind == .function&&env.kindOf n == some .cell) then(n,NameKind.cell) else(n,k)).lookup x=some .cell\/(names.map λ(n,k)=>if(k == NameKind.free&&env.scope.kind == .function&&env.kindOf n == some .cell) then(n,NameKind.cell) else(n,k)).lookup x=some .free) /\
 (∀k',(names.map λ(n,k)=>if(k == NameKind.free&&env.scope.kind == .function&&env.kindOf n == some .cell) then(n,NameKind.cell) else(n,k)).lookup x=some k'->(k'=.cell\/k'=.free)->names.lookup x=some .free\/names.lookup x=some .cell)
 | []=>⟨λh=>by simp at h,λ_ h=>by simp at h⟩
 | (n,k)::r=>by
  obtain⟨ih1,ih2⟩:=@xJ env x r;simp only[Zl];cases hx:x == n with
  |true =>
   refine⟨λh=>?_,λk' h hk'=>?_⟩
   .simp only[List.lookup_cons,hx] at h;obtain rfl:=Zqi h;by_cases hc:(NameKind.free == NameKind.free&&env.scope.kind == .function&&env.kindOf n == some .cell)=true
    .rw[Zd hc];simp[List.lookup_cons,hx]
    .rw[Ze hc];simp[List.lookup_cons,hx]
   .rw[List.lookup_cons,hx];by_cases hq:(k == NameKind.free&&env.scope.kind == .function&&env.kindOf n == some .cell)=true
    .have:k=.free:=by
      cases k<;>first|rfl|(simp at hq)
     rw[this];exact .inl rfl
    .rw[Ze hq] at h;simp only[List.lookup_cons,hx] at h;have h:k=k':=by simpa using h
     subst h;rcases hk' with z|z
     .rw[z];exact .inr rfl
     .rw[z];exact .inl rfl
  |false =>
   refine⟨λh=>?_,λk' h hk'=>?_⟩
   .simp only[List.lookup_cons,hx] at h
    split<;>simp only[List.lookup_cons,hx]<;>exact ih1 h
   .rw[List.lookup_cons,hx];refine ih2 k' ?_ hk'
    split at h<;>simp only[List.lookup_cons,hx] at h<;>exact h
theorem yP:∀(names:List (Str×NameKind)) (n:Nat) (acc:List (Str×Addr)),cellsFrom n names acc=cellsFrom n names []++acc
 | [],_,_=>rfl
 | (name,kind)::r,n,acc=>by
  unfold cellsFrom
  split
  .rw[yP r (n+1) ((name,n)::acc),yP r (n+1) [(name,n)],ZJ];rfl
  .exact yP r n acc
theorem w6:∀(names:List (Str×NameKind)) (n:Nat) (acc:List (Str×Addr)),(x,c)∈cellsFrom n names acc->(x,c)∈acc\/(x,NameKind.cell)∈names
 | [],_,_,h=>.inl h
 | (name,kind)::r,n,acc,h=>by
  unfold cellsFrom at h
  split at h
  .rename_i hk;rcases w6 r (n+1) ((name,n)::acc) h with z|z
   .rcases ZD.mp z with z|z
    .cases z;have:kind=.cell:=by cases kind<;>first|rfl|(exact Zn hk (by decide))
     subst this;exact .inr Zqs
    .exact .inl z
   .exact .inr (Zqm _ z)
  .rcases w6 r n acc h with z|z
   .exact .inl z
   .exact .inr (Zqm _ z)
noncomputable def iV:Option NameKind->Bool
 |some .cell=>true
 |_=>false
def isCellK_inv (h:iV o=true):o=some .cell:=by
 cases o with
 |none=>exact zqb h
 |some k=>cases k<;>first|rfl|exact zqb h
structure CellsAt (scope:Scope)(env:Env)(cl:List (Str×Addr))(C:Addr)(h1:Heap):Prop where
 from_:∀x c,cl.lookup x=some c->(env.cells.lookup x=some c/\scope.names.lookup x≠some .cell)\/(C<c/\h1.IsCell c none)
 free:∀x,scope.names.lookup x=some .free->∃c,cl.lookup x=some c/\env.cells.lookup x=some c
 own:∀x,scope.names.lookup x=some .cell->∃c,cl.lookup x=some c
 inj:∀x y c,cl.lookup x=some c->cl.lookup y=some c->x=y
def cellsAt_of (he:∀x c,cl.lookup x=some c->env.cells.lookup x=some c)(hf:∀y∈scope.names,y.2=.free->∃c,cl.lookup y.1=some c)
 (inj:∀x y c,env.cells.lookup x=some c->env.cells.lookup y=some c->x=y) (low:∀x c,env.cells.lookup x=some c->c<=C) (hC:h0.objs.size=C+1) (hc:∀y∈scope.names,y.2=.cell->scope.names.lookup y.1=some .cell):
 CellsAt scope env (cellsFrom (C+1) scope.names cl) C (pushCells h0 scope.names):=by
 have ok:=cellsFrom_ok scope.names h0 (C+1) [] ⟨λ_ _ hm=>(nomatch hm),List.Pairwise.nil⟩ (XO hC.symm);rw[hC] at ok;have look:∀x c,(cellsFrom (C+1) scope.names cl).lookup x=some c->((x,c)∈cellsFrom (C+1) scope.names [])\/(cl.lookup x=some c/\scope.names.lookup x≠some .cell):=λx c e=>by
  rw[yP,List.lookup_append] at e;cases q:(cellsFrom (C+1) scope.names []).lookup x with
  |some d =>
   rw[q] at e;have e:some d=some c:=e;obtain rfl:=Zqi e;exact .inl (PySem.mem_of_lookup q)
  |none =>
   rw[q] at e;refine .inr ⟨e,λz=>?_⟩;have:=W.cellsFrom_some scope.names (C+1) [] (.inl z);rw[q] at this;exact zqb this
 refine⟨λx c e=>?_,λx e=>?_,λx e=>?_,λx y c e1 e2=>?_⟩
 .rcases look x c e with z|⟨z1,z2⟩
  .exact .inr ⟨(ok.empty x c z).2,(ok.empty x c z).1⟩
  .exact .inl ⟨he x c z1,z2⟩
 .obtain⟨c,hc'⟩:=hf (x,.free) (PySem.mem_of_lookup e) rfl;refine⟨c,?_,he x c hc'⟩;rw[yP,List.lookup_append];cases q:(cellsFrom (C+1) scope.names []).lookup x with
  |some d =>
   rcases w6 _ _ _ (PySem.mem_of_lookup q) with z|z
   .cases z
   .have:=hc (x,.cell) z rfl;rw[e] at this;cases this
  |none=>exact hc'
 .exact Option.isSome_iff_exists.mp (W.cellsFrom_some scope.names (C+1) cl (.inl e))
 .rcases look x c e1 with z|⟨z1,_⟩<;>rcases look y c e2 with w|⟨w1,_⟩
  .exact PySem.name_of_addr ok.apart z w
  .exact Zn (low y c (he y c w1)) (Nat.not_le_of_lt (ok.empty x c z).2)
  .exact Zn (low x c (he x c z1)) (Nat.not_le_of_lt (ok.empty y c w).2)
  .exact inj x y c (he x c z1) (he y c w1)
def wpAny_newCompEnv
 (hQ:Q (newEnv scope s.heap.objs.size globals (cellsFrom (s.heap.objs.size+1) scope.names cl) qual none .none (some env) builtinsNs) { s with heap:=pushCells (s.heap.push { cls:=.type "dict",data:=.dict #[] }) scope.names }):
 wpAny M A (newFunctionEnv scope globals cl [] qual none .none (some env)) Q E s:=by
 simp only[newFunctionEnv,Option.isSome_some,if_true];refine Za (wpAny_alloc ?_);refine Za (wpAny_layCells _ (λname kind cells=>by cases hkc:kind == NameKind.cell<;>simp[hkc]) _ _ _ _ ?_);rw[show({ s with heap:=s.heap.push { cls:=.type "dict",data:=.dict #[] } }:Shared).heap.objs.size=s.heap.objs.size+1 from Heap.size_push ..];rw[List.forIn_nil];exact Za (Zb (Zb hQ))
noncomputable def sY (X:Cx)(C:Addr):Ya:=λx s'=>∃m,s'.heap.Ns C m/\∀h',Heap.SameBut C s'.heap h'->∀cenv:Env,cenv.locals=C->YF X (passOn "comprehension.variables-let-go" x cenv:Sem Value) (λ_ _=>False) X.xe { s' with heap:=h' }
def zy (X:Cx)(scope:Scope)(N:Yk)(cl:List (Str×Addr))(C:Addr)(s:Shared)(H:Hp)(ex:Yl):Cx where
 prog:=X.prog
 w:=X.w
 K:=X.K
 mg:=X.mg
 base:=X.base
 A:=X.A
 N:=N
 s₀:=s
 H₀:=H
 env:=compEnvC scope cl C X.env
 outer:=X.stack
 stack:=X.stack
 ex:=ex
 fn:=λx=>iV (scope.names.lookup x)
 calm:=X.calm
 pn:=[]
 xe:=notedBy (model X.prog X.w) X.A (compEnvC scope cl C X.env) (sY X C)
def rg (X:Cx)(C:Addr)(s:Shared)(H:Hp)(ex:Yl):Prop:=∃Y Z,Inv X Y Z H s/\(∀b∈ex,gh X Y H b)/\s.heap.objs.size<=C
noncomputable def nZ (cap:List (Option Nat))(Z:St):St:=cap.map λo=>o.bind λj=>(Z[j]?).join
structure CompOk (X:Cx)(scope:Scope)(N:Yk)(cap:List (Option Nat)):Prop where
 kind:scope.kind=.function
 loc:∀y∈scope.names,y.2=.local->scope.names.lookup y.1=some .local
 cell:∀y∈scope.names,y.2=.cell->scope.names.lookup y.1=some .cell
 free:∀y∈scope.names,y.2=.free->X.env.kindOf y.1=some .cell\/X.env.kindOf y.1=some .free
 len:cap.length=N.length
 cap:∀(i j:Nat) (x:Str),cap[i]? = some (some j)->N[i]? = some x->X.N[j]? = some x/\scope.names.lookup x=some .free
noncomputable def yK (scope:Scope)(env:Env)(N' N:Yk)(cap:List (Option Nat)):Bool:=
 decide (scope.kind=.function)&&scope.names.all (λy => !decide (y.2=.local)||decide (scope.names.lookup y.1=some .local))&&scope.names.all (λy => !decide (y.2=.cell)||decide (scope.names.lookup y.1=some .cell)) &&
 scope.names.all (λy => !decide (y.2=.free)||(decide (env.kindOf y.1=some .cell)||decide (env.kindOf y.1=some .free)))&&decide (cap.length=N'.length) &&
 (N'.zip cap).all (λp=>match p.2 with|none=>true|some j=>decide (N[j]? = some p.1)&&decide (scope.names.lookup p.1=some .free))
def CompOk.of {X:Cx}{scope:Scope}{N:Yk}{cap:List (Option Nat)}(h:yK scope X.env N X.N cap=true):CompOk X scope N cap:=by
 unfold yK at h;simp only[ZQ,Xk,decide_eq_true_eq,X6,Bool.not_eq_true',decide_eq_false_iff_not] at h;obtain⟨⟨⟨⟨⟨h1,h2⟩,h3⟩,h4⟩,h5⟩,h6⟩:=h;refine⟨h1,λy hy hl=>?_,λy hy hl=>?_,λy hy hf=>?_,h5,λi j x e1 e2=>?_⟩
 .rcases h2 y hy with z|z
  .exact Zn hl z
  .exact z
 .rcases h3 y hy with z|z
  .exact Zn hl z
  .exact z
 .rcases h4 y hy with z|z
  .exact Zn hf z
  .exact z
 .have hm:(x,some j)∈N.zip cap:=by
   refine ZP (i:=i) ?_;rw[List.getElem?_zip_eq_some];exact⟨e2,e1⟩
  have q:=h6 (x,some j) hm;simpa using q
section
variable {X:Cx}{scope:Scope}{N:Yk}{cap:List (Option Nat)}{Y:Yb}{Z:St}{H:Hp}{s:Shared}{cl:List (Str×Addr)}{C D:Addr}{fp:Yl}
def comp_inv (ok:CompOk X scope N cap)(I:Inv X Y Z H s)(hf:∀b∈fp,gh X Y H b)(hlt:∀b∈fp,b<s.heap.objs.size)
 (hcl:CellsAt scope X.env cl C h1)
 (hC:s.heap.objs.size<=C) (old:∀b o,s.heap.get? b=some o->h1.get? b=some o) (hns:h1.Ns C m):
 Inv (zy X scope N cl C s H fp) [] (nZ cap Z) H { s with heap:=h1,toks:=tk }:=by
 have kf:∀x,(zy X scope N cl C s H fp).env.kindOf x=some .cell\/(zy X scope N cl C s H fp).env.kindOf x=some .free->scope.names.lookup x=some .free\/scope.names.lookup x=some .cell:=λx h=>by
  rcases h with h|h
  .exact(xJ (env:=X.env) (x:=x) (names:=scope.names)).2 _ h (.inl rfl)
  .exact(xJ (env:=X.env) (x:=x) (names:=scope.names)).2 _ h (.inr rfl)
 refine⟨⟨I.ok.mod,ok.kind,I.ok.glob,I.ok.blt,hC,hcl.inj,λx h=>?_,λx c z e=>?_,I.ok.hd,I.ok.frames,.inl rfl,λb hb=>⟨?_,λx c e=>?_⟩,I.bs,Zh I.ok.bsz I.sz,
  λb o e hb=>?_,λb hb z=>?_,I.stack,I.stkFree⟩,rfl,I.bare,Un.kept old,⟨m,hns,λi x v e1 e2 e3=>?_⟩,λx c e=>?_,I.hok.fresh hC,λx c e=>?_,λp hp=>Zn hp (by show ¬p∈([]:Yb)++[];simp),I.hok.kept old,?_⟩
 .rcases kf x h with q|q
  .refine zc1b (hcl.free x q) λc e _=>?_;exact⟨c,e⟩
  .exact hcl.own x q
 .rcases hcl.from_ x c e with ⟨_,q⟩|⟨q,_⟩
  .exact Zn (isCellK_inv z) q
  .exact Zh hC (Zy q)
 .exact Zi (Zg (hlt b hb) hC)
 .rcases hcl.from_ x c e with ⟨q,_⟩|⟨q,_⟩
  .exact(hf b hb).2.2.2.2.1 x c q
  .exact Nat.ne_of_gt (Xl (Zg (hlt b hb) hC) q)
 .rcases(hf b hb).2.2.2.1 with z|z
  .exact I.ok.noex b o e z
  .exact Zn (Zg (Zk e) (Zh I.ok.bsz z)) (Zx _)
 .rcases ZD.mp (I.stkSub b z) with q|q
  .exact(hf b hb).2.1 q
  .exact(hf b hb).2.2.1 q
 .have e1:N[i]? = some x:=e1;have hc:∃j,cap[i]? = some (some j) /\ Z[j]? = some (some v):=by
   have e2:(cap.map λo=>o.bind λj=>(Z[j]?).join)[i]? = some (some v):=e2;rw[Zv] at e2;cases q:cap[i]? with
   |none=>rw[q] at e2;exact zqn e2
   |some o =>
    rw[q] at e2;cases o with
    |none=>cases e2
    |some j =>
     have e2:some ((Z[j]?).join)=some (some v):=e2;cases q2:Z[j]? with
     |none=>rw[q2] at e2;cases e2
     |some w=>rw[q2] at e2;exact⟨j,rfl,by cases e2;exact q2⟩
  obtain⟨j,c1,c2⟩:=hc;obtain⟨n1,n2⟩:=ok.cap i j x c1 e1;refine zc1b I.loc λm0 _ hl=>?_;have fr:=ok.free (x,.free) (PySem.mem_of_lookup n2) rfl;obtain⟨u,r,l⟩:=hl j x v n1 c2 (fr.elim (λz=>.inr (.inl z)) λz=>.inr (.inr z));refine⟨u,r,.inr ⟨(xJ (env:=X.env) (x:=x) (names:=scope.names)).1 n2,?_⟩⟩;rcases l with ⟨k,_⟩|⟨_,c,ec,z⟩
  .have k:X.env.kindOf x=some .local:=k;rcases fr with f|f<;>· rw[k] at f;cases f
  .obtain⟨c',e',e''⟩:=hcl.free x n2;rw[ec] at e'';obtain rfl:=Zqi e'';exact⟨c,e',z.keeps old⟩
 .rcases hcl.from_ x c e with ⟨q,_⟩|⟨_,q⟩
  .obtain⟨v,z⟩:=I.cell x c q;exact⟨v,z.keeps old⟩
  .exact⟨none,q⟩
 .rcases hcl.from_ x c e with ⟨q,_⟩|⟨q,_⟩
  .exact I.freeC x c q
  .exact I.hok.fresh (Zh hC (Zy q))
 .show(cap.map _).length=N.length;rw[Zql];exact ok.len
def comp_end (I:Inv X Y Z H s)(hf:∀b∈fp,gh X Y H b)(hC:s.heap.objs.size<=C)(hD:s.heap.objs.size<=D)(hDC:D≠C)
 (J:Inv (zy X scope N cl C s H fp) [] Z' H' s') (hd:s'.heap.get? D=some { cls:=.type "list",data:=.seq its.toArray k }) (hn:H' D=none) (rv:yi ys its) (hz:ys.length<=sizeLine) (hs:Heap.SameBut C s'.heap h')
 (q:Q (.ref D) (upd H' D (.lst ys))):EP X Y Z Q (.ref D) { s' with heap:=h' }:=by
 have nC:∀b o,s.heap.get? b=some o->b≠C:=λb o e=>Zi (Zg (Zk e) hC);have nD:∀b o,s.heap.get? b=some o->b≠D:=λb o e=>Zi (Zg (Zk e) hD);have tD:∀b u,H' b=some u->b≠D:=λb u e z=>by rw[z,hn] at e;exact zqn e
 have tC:∀b u,H' b=some u->b≠C:=λb u e z=>by
  have:=J.free;rw[z] at e;rw[show H' C=none from this] at e;exact zqn e
 have B:Un (frs X.stack) fp H H' s.heap s'.heap:=J.base;refine⟨.ref D,upd H' D (.lst ys),I.call' (s':={ s' with heap:=h' }) (ch:=fp) J.os ?_ ?_ J.bare (λb hb=>⟨(hf b hb).2.2.2.1,(hf b hb).2.1,(hf b hb).2.2.2.2.1,(hf b hb).2.2.2.2.2⟩),rfl,q⟩
 .refine⟨λb o e n hb hx=>(hs.2 b (nC b o e)).trans (B.keep b o e n hb hx),λb o e n hb hx=>?_,λb o e n hx=>?_,λb o e hx=>?_,λb xs e=>?_,λb o u e=>?_,λb ps e=>?_⟩
  .obtain⟨sl,z⟩:=B.slot b o e n hb hx;exact⟨sl,(hs.2 b (nC b o e)).trans z⟩
  .rw[zC (nD b o e)];exact B.free b o e n hx
  .obtain⟨o',z⟩:=B.there b o e hx;exact⟨o',(hs.2 b (nC b o e)).trans z⟩
  .have z:=B.tups b xs e;rw[zC (tD b _ z)];exact z
  .have z:=B.frzs b o u e;rw[zC (tD b _ z)];exact z
  .obtain⟨more,z⟩:=B.tbls b ps e;exact⟨more,by rw[zC (tD b _ z)];exact z⟩
 .intro b u e;by_cases hb:b=D
  .subst hb;rw[zv] at e;obtain rfl:=Zqi e;exact⟨hz,its,k,rv,(hs.2 b hDC).trans hd⟩
  .rw[zC hb] at e;refine(J.hok b u e).stay (λc v hc z=>(hs.2 c ?_).trans z) (λc z=>by rw[zC (tD c _ z)];exact z) (λc xs z=>by rw[zC (tD c _ z)];exact z);rcases hc with hc|hc
   .rw[hc];exact tC b u e
   .exact tC c _ hc
end
def compR (cap:List (Option Nat))(g:TG)(te:TE)(Z:St)(Q:VK):It->Hp->Prop:=λJ H1=>∃W:Nat->Nat->YB->St->Hp->Prop,(∃m,W 0 m [] (nZ cap Z) H1)/\∀i m ys Z' H',W i m ys Z' H'->ys.length<sizeLine /\
 (
  (J.stop i H'/\∀D,H' D=none->Q (.ref D) (upd H' D (.lst ys))) \/
  (J.go i H'/\∀x H2,J.yld i H' x H2->g x Z' H2 λZ2 H3=>te Z2 H3 λy H4=>∃m',m'<m/\W (i+1) m' (ys++[y]) Z2 H4))
def iO (cap:List (Option Nat))(wi:TI)(g:TG)(te:TE):TE:=λZ H Q=>wi Z H (compR cap g te Z Q)
def compIfR (cap:List (Option Nat))(g:TG)(tt:TT)(te:TE)(Z:St)(Q:VK):It->Hp->Prop:=λJ H1=>∃W:Nat->Nat->YB->St->Hp->Prop,(∃m,W 0 m [] (nZ cap Z) H1)/\∀i m ys Z' H',W i m ys Z' H'->ys.length<sizeLine /\
 (
  (J.stop i H'/\∀D,H' D=none->Q (.ref D) (upd H' D (.lst ys))) \/
  (J.go i H'/\∀x H2,J.yld i H' x H2->g x Z' H2 λZ2 H3=>tt Z2 H3 λb H4=>if b=true then te Z2 H4 (λy H5=>∃m',m'<m/\W (i+1) m' (ys++[y]) Z2 H5) else ∃m',m'<m/\W (i+1) m' ys Z2 H4))
def ss (cap:List (Option Nat))(wi:TI)(g:TG)(tt:TT)(te:TE):TE:=λZ H Q=>wi Z H (compIfR cap g tt te Z Q)
section
variable {X:Cx}{tg iter elt c:Expr}{scope:Scope}{pos:Pos}{wi:TI}{g:TG}{te:TE}{tt:TT}
noncomputable def rp (X:Cx)(Y:Yb)(Z:St)(Q:VK)(use:Option (Value->Sem Unit))(R:Ya):Prop:=
 ∀(C D:Addr) (m:Ye) (s5:Shared) (r:Flow),s5.heap.Ns C m->¬C=X.env.locals->C∉X.fs->X.s₀.heap.objs.size<=C->(∀x c,X.env.cells.lookup x=some c->c≠C)->(∀p∈X.pn++Y,p.1≠C) ->
  (∀h',Heap.SameBut C s5.heap h'->EP X Y Z (λv H'=>H' C=none/\Q v H') (.ref D) { s5 with heap:=h' })->compPost (model X.prog X.w) X.A X.xe use R (.ref D) C (.ok r) s5
def lS:rp X Y Z Q none (EP X Y Z Q):=λC D m s5 r hm _ _ _ _ _ k=>⟨m,hm,λh' hs'=>by
 refine zc2d (k h' hs') λv H' I' rv _ q=>?_;exact⟨v,H',I',rv,q⟩⟩
noncomputable def TurnI (X:Cx)(tg elt:Expr)(it acc:Value)(env:Env)(R:Result->Yz)(I:Nat->Yz)(test:(Bool->Yz)->Yz)(n:Nat)(s:Shared):Prop:=
 let E:Ya:=notedBy (model X.prog X.w) X.A env λe s'=>R (.error e) s'
 YF X (pyNext it) (λr s1=>match r with
  |none=>R (.ok .next) s1
  |some v=>YF X (letOwnedTupleGo tg it v) (λ_ s2=>YF X (assign tg env v) (λ_ s3=>test (λok s4=>if ok=true then YF X (eval elt env) (λx s5=>YF X (call (.builtin "list.append") [acc,x]) (λ_ s6=>∃m,m<n/\I m s6) E s5) E s4 else ∃m,m<n/\I m s4) s3) E s2) E s1) E s
def mV {ifs:Ym}(N:Yk){test:Env->(Result->Yz)->(Bool->Yz)->Yz}
 (lp:∀{it acc:Value} {env:Env} {R:Result->Yz} {s:Shared} (I:Nat->Yz),(∀n s,I n s->TurnI X tg elt it acc env R I (test env R) n s)->∀n,I n s->codeAny (model X.prog X.w) X.A (.compLoop (.ListComp elt [⟨tg,iter,ifs,0⟩] scope pos) 0 it acc env) R s)
 (ht:∀cl C s H ex {Y:Yb} {s7:Shared} {Z7:St} {H7:Hp} {R:Result->Yz} {q:Bool->Hp->Prop} {Q:Bool->Yz},rg X C s H ex->(∀e s',sY X C e s'->R (.error e) s')->Inv (zy X scope N cl C s H ex) Y Z7 H7 s7->tt Z7 H7 q->(∀b s8 H8,Inv (zy X scope N cl C s H ex) Y Z7 H8 s8->q b H8->Q b s8)->test (compEnvC scope cl C X.env) R Q s7)
 (cap:List (Option Nat)) (hc:X.calm=true) (okB:yK scope X.env N X.N cap=true) (hi:PI X tg iter wi) (hg:∀cl C s H ex,PG (zy X scope N cl C s H ex) tg g) (he:∀cl C s H ex,rg X C s H ex->PE (zy X scope N cl C s H ex) elt te)
 (hs:∀x,foldedSetIterable iter X.env x=pure x) {use:Option (Value->Sem Unit)} {R:Ya} {fpos:Pos} {Y:Yb} {s:Shared} {Z:St} {H:Hp} {Q:VK} (I:Inv X Y Z H s) (h:ss cap wi g tt te Z H Q) (fin:rp X Y Z Q use R):
 YF X (comprehension (.ListComp elt [⟨tg,iter,ifs,0⟩] scope pos) scope X.env fpos (newList []) false (eval iter X.env) use) R X.xe s:=by
 have ok:=CompOk.of okB;obtain⟨cl0,hcl,hcl1,hcl2⟩:=clos_of X.env scope λy hy hf=>I.ok.has y.1 (ok.free y hy hf);refine wpAny_comprehension_free (use:=use) rfl hs hcl ok.kind ok.loc (thn (hi Y s Z H _ I h) λxv s1 h1=>thn h1 λitv s2 h2=>?_);obtain⟨it,fp,tn,J,H2,e,I2,T,st2,f2,W,⟨m0,w0⟩,turn⟩:=h2;subst e;have hlt:∀b∈fp,b<s2.heap.objs.size:=λb hb=>let ⟨_,e,_⟩:=T.obj _ _ st2 b hb;Zk e
 refine wpAny_newObj_type (wpAny_newCompEnv ?_);dsimp only;generalize hP:s2.heap.push { cls:=.type "list",dict:=none,data:=.seq ([]:Yf).toArray }=P2;have hC:P2.objs.size=s2.heap.objs.size+1:=by rw[<- hP,Heap.size_push]
 have hDC:s2.heap.objs.size≠P2.objs.size:=by rw[hC];exact Zi (Xi _)
 have hCle:s2.heap.objs.size<=P2.objs.size:=by rw[hC];exact Nat.le_succ _
 have below:∀b,b<s2.heap.objs.size->b≠P2.objs.size/\b≠s2.heap.objs.size:=λb hb=>⟨by rw[hC];exact Zi (Z7 hb),Zi hb⟩;have hcc:CellsAt scope X.env (cellsFrom (P2.objs.size+1) scope.names cl0) P2.objs.size (pushCells (P2.push { cls:=.type "dict",data:=.dict #[] }) scope.names):=
  cellsAt_of hcl1 hcl2 I2.ok.inj (λx c e=>Zh (Zy (let ⟨_,_,ho,_⟩:=I2.cell x c e;Zk ho)) hCle) (Heap.size_push ..) ok.cell
 have hns1:(pushCells (P2.push { cls:=.type "dict",data:=.dict #[] }) scope.names).Ns P2.objs.size (λ_=>none):=(Heap.Ns.new P2 (.type "dict")).keeps (pushCells_keeps _ _);generalize cellsFrom (P2.objs.size+1) scope.names cl0=cl at hcc ⊢;have old:∀b o,s2.heap.get? b=some o->(pushCells (P2.push { cls:=.type "dict",data:=.dict #[] }) scope.names).get? b=some o:=λb o e=>pushCells_keeps _ _ b o (Zq _ (hP ▸ Zq _ e));have hacc:(pushCells (P2.push { cls:=.type "dict",data:=.dict #[] }) scope.names).get? s2.heap.objs.size=some { cls:=.type "list",data:=.seq ([]:Yf).toArray 0 }:=pushCells_keeps _ _ _ _ (Zq _ (hP ▸ Zr _ rfl));generalize pushCells (P2.push { cls:=.type "dict",data:=.dict #[] }) scope.names=g1 at hcc hns1 old hacc ⊢;have stat:∀{H':Hp} {pl:Yb},(∀b∈fp,H' b=none)->(∀p∈pl,p.1∉fp)->∀b∈fp,gh (zy X scope N cl P2.objs.size s2 H2 fp) pl H' b:=λ{H' pl} hn hp b hb=>by
  refine⟨hn b hb,(below b (hlt b hb)).1,λz=>?_,.inl hb,λx c e=>?_,λp hq z=>?_⟩
  .rcases ZD.mp (I2.stkSub b z) with q|q
   .exact(f2 b hb).2.1 q
   .exact(f2 b hb).2.2.1 q
  .rcases hcc.from_ x c e with ⟨q,_⟩|⟨q,_⟩
   .exact(f2 b hb).2.2.2.2.1 x c q
   .exact Nat.ne_of_gt (Xl (Zg (hlt b hb) hCle) q)
  .have hq:p∈([]:Yb)++pl:=hq;rw[List.nil_append] at hq;exact hp p hq (by rw[z];exact hb)
 have nD:s2.heap.objs.size∉fp:=λz=>Zn (hlt _ z) (Zx _);have loop:∀s3:Shared,s3={ s2 with heap:=g1 } ->
  codeAny (model X.prog X.w) X.A (.compLoop (.ListComp elt [⟨tg,iter,ifs,0⟩] scope pos) 0 (.ref it) (.ref s2.heap.objs.size) (compEnvC scope cl P2.objs.size X.env))
   (compPost (model X.prog X.w) X.A X.xe use R (.ref s2.heap.objs.size) P2.objs.size) s3:=by
  rintro s3 rfl;have I0:=comp_inv (tk:=s2.toks) ok I2 f2 hlt hcc hCle old hns1;refine lp (λn s'=>∃i ys its k Z' H',Inv (zy X scope N cl P2.objs.size s2 H2 fp) [] Z' H' s'/\tn i s'.heap/\(∀b∈fp,H' b=none)/\s'.heap.get? s2.heap.objs.size=some { cls:=.type "list",data:=.seq (List.toArray its) k } /\
   H' s2.heap.objs.size=none/\yi ys its/\W i n ys Z' H') ?_ m0
   ⟨0,[],[],0,nZ cap Z,H2,I0,T.keep _ _ _ st2 (λb _ o e=>old b o e),λb hb=>(f2 b hb).1,hacc,I2.hok.fresh (Zf _),.nil,w0⟩
  have cat:rg X P2.objs.size s2 H2 fp:=⟨_,_,I2,f2,hCle⟩;have ce:∀e s',sY X P2.objs.size e s'->compPost (model X.prog X.w) X.A X.xe use R (.ref s2.heap.objs.size) P2.objs.size (.error e) s':=λe s' h=>by cases use<;>exact h
  have xe:∀e s',(zy X scope N cl P2.objs.size s2 H2 fp).xe e s'->notedBy (model X.prog X.w) X.A (compEnvC scope cl P2.objs.size X.env) (λe s'=>compPost (model X.prog X.w) X.A X.xe use R (.ref s2.heap.objs.size) P2.objs.size (.error e) s') e s':=λe s' h=>Zc h (λ_ s2 q=>ce e s2 q) λe s2 q=>ce e s2 q;rintro n s4 ⟨i,ys,its,k,Z4,H4,I4,st4,fr4,hd4,hn4,rv4,w4⟩;obtain⟨hz,tn4⟩:=turn i n ys Z4 H4 w4;have J4:Inv (zy X scope N cl P2.objs.size s2 H2 fp) [(s2.heap.objs.size,{ cls:=.type "list",data:=.seq its.toArray k })] Z4 H4 s4:=I4.pins_of λp hp=>by
   have e:=ZF.mp hp;subst e;refine⟨hd4,hn4,hDC,?_,λv z=>by cases z⟩;exact λz=>Zn (Zg (by
    rcases ZD.mp (I2.stkSub _ z) with q|q
    .exact XL (XO q) I2.lt
    .obtain⟨_,o,ho,_⟩:=I2.ok.funs.mem q;exact Zg (Zk ho) I2.sz) (Zf s2.heap.objs.size)) (Zx _)
  have np:∀p ∈ [(s2.heap.objs.size,({ cls:=.type "list",data:=.seq its.toArray k }:Obj))],p.1∉fp:=λp hp=>by
   have e:=ZF.mp hp;subst e;exact nD
  rcases tn4 with ⟨stop,qn⟩|⟨go,step⟩
  .refine Zc (T.done (zy X scope N cl P2.objs.size s2 H2 fp) rfl rfl rfl hc i _ s4 Z4 H4 (λ_ _=>False) J4 (stat fr4 np) st4 stop) (λr s5 h5=>?_) λ_ _ f=>f.elim;obtain⟨rfl,I5⟩:=h5;obtain⟨m,hm,_⟩:=id I5.loc;have p5:=I5.pin (s2.heap.objs.size,_) (ZK _ Zqs);refine fin _ _ m _ _ hm (Nat.ne_of_gt (Zg I2.lt hCle)) (I2.nofs hCle) (Zh I2.sz hCle) (λx c e z=>?_) (λp hp z=>?_) λh' hs'=>comp_end I2 f2 hCle (Zf _) hDC (I5.pins_of λp hp=>nomatch hp) p5.1 p5.2.1 rv4 (Zy hz) hs' ⟨by rw[zC (Ne.symm hDC)];exact I5.free,qn _ p5.2.1⟩
   .obtain⟨v,o,ho,hd⟩:=I2.cell x c e;have:=Zk ho;rw[z] at this;exact Zn (Zg this hCle) (Zx _)
   .have:=Zk (I2.pin p hp).1;rw[z] at this;exact Zn (Zg this hCle) (Zx _)
  .refine Zc (T.item (zy X scope N cl P2.objs.size s2 H2 fp) rfl rfl rfl hc i _ s4 Z4 H4 (λ_ _=>False) J4 (stat fr4 np) st4 go) (λr s5 h5=>?_) λ_ _ f=>f.elim;obtain⟨u,rfl,h5⟩:=h5;refine Zc h5 (λ_ s6 h6=>?_) λ_ _ f=>f.elim;obtain⟨x,H6,I6,r6,y6,st6,fr6⟩:=h6;have I6':=I6.pinned (stat fr6 np) (T.obj _ _ st6);refine Zc (hg cl P2.objs.size s2 H2 fp _ s6 Z4 H6 x u _ I6' r6 (step x H6 y6)) (λ_ s7 h7=>?_) xe;obtain⟨Z7,H7,I7,q7⟩:=h7;refine ht cl P2.objs.size s2 H2 fp cat ce I7 q7 λbv s8 H8 I8 q8=>?_;have keepT:∀(H9:Hp) (s9:Shared) (Z9:St),Inv (zy X scope N cl P2.objs.size s2 H2 fp) ([(s2.heap.objs.size,{ cls:=.type "list",data:=.seq its.toArray k })]++oU fp s6.heap) Z9 H9 s9->(∀b∈fp,∀o,s6.heap.get? b=some o->s9.heap.get? b=some o)/\∀b∈fp,H9 b=none:=λH9 s9 Z9 I9=>by
    refine⟨λb hb o e=>(I9.pin (b,o) (ZK _ (ZK _ (wV hb e)))).1,λb hb=>?_⟩;obtain⟨o,e,d⟩:=T.obj _ _ st6 b hb;exact(I9.pin (b,o) (ZK _ (ZK _ (wV hb e)))).2.1
   have p8:=I8.pin (s2.heap.objs.size,_) (ZK _ (ZY _ Zqs));cases bv with
   |false =>
    rw[Ze (by simp)] at q8 ⊢;obtain⟨m',hm',w8⟩:=q8;obtain⟨z1,z2⟩:=keepT _ _ _ I8;exact⟨m',hm',i+1,ys,its,k,Z7,H8,I8.pins_of (λp hp=>nomatch hp),T.keep _ _ _ st6 z1,z2,p8.1,p8.2.1,rv4,w8⟩
   |true =>
    rw[Zd rfl] at q8 ⊢;refine Zc (he cl P2.objs.size s2 H2 fp cat _ s8 Z7 H8 _ I8 q8) (λyv s9 h9=>?_) xe;obtain⟨y,H9,I9,ry,m',hm',w9⟩:=h9;have p9:=I9.pin (s2.heap.objs.size,_) (ZK _ (ZY _ Zqs));have hl:=rv4.length;refine append_at (hsz:=by show its.toArray.size<=sizeLine;rw[Zm,<- hl];exact Zy hz) p9.1 λh10 hs10 hd10=>?_;have I10:Inv (zy X scope N cl P2.objs.size s2 H2 fp) [] Z7 H9 { s9 with heap:=h10 }:=(I9.pins_of (Y':=[]) λp hp=>nomatch hp).turned (t':=s9.toks) (it:=s2.heap.objs.size) (λb o hb e=>(hs10.2 b hb).trans e) p9.2.1 hDC (.inr (Zf _))
     (λx c e z=>by
      obtain⟨v,o,ho,hd⟩:=I9.cell x c e;rw[z,p9.1] at ho;cases ho;cases hd) (λp hp=>Zn hp (by show ¬p∈([]:Yb)++[];simp))
    obtain⟨z1,z2⟩:=keepT _ _ _ I9;refine⟨m',hm',i+1,ys++[y],its++[yv],k+1,Z7,H9,I10,T.keep _ _ _ st6 (λb hb o e=>?_),z2,?_,p9.2.1,yi.append rv4 (.cons ry .nil),w9⟩
    .have hb':b≠s2.heap.objs.size:=λz=>nD (by rw[<- z];exact hb);exact(hs10.2 b hb').trans (z1 b hb o e)
    .refine hd10.trans ?_;simp
 exact codeAny_compStart_list (loop _ rfl) (T.self _ 0 _ _ _ (T.keep _ _ _ st2 (λb _ o e=>old b o e)) (loop _ rfl))
def iP (N:Yk)(cap:List (Option Nat))(hc:X.calm=true)(okB:yK scope X.env N X.N cap=true)(hi:PI X tg iter wi)(hg:∀cl C s H ex,PG (zy X scope N cl C s H ex) tg g)(he:∀cl C s H ex,rg X C s H ex->PE (zy X scope N cl C s H ex) elt te)
 (hs:∀x,foldedSetIterable iter X.env x=pure x) {use:Option (Value->Sem Unit)} {R:Ya} {fpos:Pos} {Y:Yb} {s:Shared} {Z:St} {H:Hp} {Q:VK} (I:Inv X Y Z H s) (h:iO cap wi g te Z H Q) (fin:rp X Y Z Q use R):
 YF X (comprehension (.ListComp elt [⟨tg,iter,[],0⟩] scope pos) scope X.env fpos (newList []) false (eval iter X.env) use) R X.xe s:=
 mV (tt:=λ_ H q=>q true H) (test:=λ_ _ Q s=>Q true s) N (λI turn n h=>W.kcp_loop I turn n h) (λ_ _ _ _ _ _ _ _ _ _ _ _ _ _ I q k=>k true _ _ I q) cap hc okB hi hg he hs I h fin
def lV (N:Yk)(cap:List (Option Nat))(hc:X.calm=true)(okB:yK scope X.env N X.N cap=true)(hi:PI X tg iter wi)(hg:∀cl C s H ex,PG (zy X scope N cl C s H ex) tg g)(he:∀cl C s H ex,rg X C s H ex->PE (zy X scope N cl C s H ex) elt te)
 (hs:autoParam (∀x,foldedSetIterable iter X.env x=pure x) zaw._auto_1):PE X (.ListComp elt [⟨tg,iter,[],0⟩] scope pos) (iO cap wi g te):=by
 intro Y s Z H Q I h;rw[eval_ListComp];exact iP N cap hc okB hi hg he hs I h lS
def pe_comp (N:Yk)(cap:List (Option Nat))(hc:X.calm=true)(okB:yK scope X.env N X.N cap=true)(hi:PI X tg iter wi)(hg:∀cl C s H ex,PG (zy X scope N cl C s H ex) tg g)(he:∀cl C s H ex,PE (zy X scope N cl C s H ex) elt te)
 (hs:autoParam (∀x,foldedSetIterable iter X.env x=pure x) zaw._auto_1):PE X (.ListComp elt [⟨tg,iter,[],0⟩] scope pos) (iO cap wi g te):=lV N cap hc okB hi hg (λcl C s H ex _=>he cl C s H ex) hs
end
mutual
noncomputable def Is (H:Hp):PyData->V->Prop
 | .none,v=>v=.non
 | .bool b,v=>v=.bl b
 | .int i,v=>v=.int i
 | .str x,v=>v=.str x
 | .list ds,v=>∃a xs,v=.ref a/\H a=some (.lst xs)/\zw H ds xs
 | .tuple ds,v=>∃a xs,v=.ref a/\H a=some (.tup xs)/\zw H ds xs
 | .dict _,_=>False
noncomputable def zw (H:Hp):List PyData->YB->Prop
 | [],xs=>xs=[]
 |d::ds,xs=>∃x r,xs=x::r/\Is H d x/\zw H ds r
end
mutual
theorem Is.same (e:yB H H'):∀(d:PyData) (v:V),Is H d v->Is H' d v
 | .none,_,h=>by unfold Is at h ⊢;exact h
 | .bool _,_,h=>by unfold Is at h ⊢;exact h
 | .int _,_,h=>by unfold Is at h ⊢;exact h
 | .str _,_,h=>by unfold Is at h ⊢;exact h
 | .list ds,v,h=>by
  unfold Is at h ⊢;refine zc2c h λa xs h1 h2 h3=>?_;exact⟨a,xs,h1,e _ _ h2,zw.same e ds xs h3⟩
 | .tuple ds,v,h=>by
  unfold Is at h ⊢;refine zc2c h λa xs h1 h2 h3=>?_;exact⟨a,xs,h1,e _ _ h2,zw.same e ds xs h3⟩
 | .dict _,_,h=>by unfold Is at h;exact h.elim
theorem zw.same (e:yB H H'):∀(ds:List PyData) (xs:YB),zw H ds xs->zw H' ds xs
 | [],_,h=>by unfold zw at h ⊢;exact h
 |d::ds,xs,h=>by
  unfold zw at h ⊢;refine zc2c h λx r h1 h2 h3=>?_;exact⟨x,r,h1,Is.same e d x h2,zw.same e ds r h3⟩
end
theorem zw.length:∀{ds:List PyData} {xs:YB},zw H ds xs->xs.length=ds.length
 | [],_,h=>by unfold zw at h;subst h;rfl
 |d::ds,xs,h=>by
  unfold zw at h;refine zc2c h λx r zr2 _ h3=>?_;subst zr2;rw[Zu,Zu,zw.length h3]
theorem zw.get:∀{ds:List PyData} {xs:YB} {i:Nat} {d:PyData},zw H ds xs->ds[i]? = some d->∃x,xs[i]? = some x/\Is H d x
 | [],_,_,_,_,e=>by simp at e
 |d::ds,xs,0,d',h,e=>by
  unfold zw at h;refine zc2c h λx r zr2 h2 _=>?_;subst zr2;simp at e;subst e;exact⟨x,rfl,h2⟩
 |d::ds,xs,i+1,d',h,e=>by
  unfold zw at h;refine zc2c h λx r zr2 _ h3=>?_;subst zr2;refine zc1b (zw.get (i:=i) h3 (by simpa using e)) λy h4 h5=>?_;exact⟨y,by simpa using h4,h5⟩
theorem qd:∀(ns:Yh),zw H (ns.map PyData.int) (ns.map V.int)
 | []=>by show zw H [] [];unfold zw;rfl
 |n::ns=>by
  show zw H (PyData.int n::ns.map PyData.int) (V.int n::ns.map V.int);unfold zw;exact⟨_,_,rfl,by unfold Is;rfl,qd ns⟩
theorem vd:∀{ns:Yh} {xs:YB},zw H (ns.map PyData.int) xs->xs=ns.map V.int
 | [],_,h=>by
  have h:zw H [] _:=h;unfold zw at h;exact h
 |n::ns,xs,h=>by
  have h:zw H (PyData.int n::ns.map PyData.int) xs:=h;unfold zw at h;obtain⟨x,r,rfl,h2,h3⟩:=h;unfold Is at h2;rw[h2,vd h3];rfl
def Is.list_iff:Is H (.list ds) v↔∃a xs,v=.ref a/\H a=some (.lst xs)/\zw H ds xs:=by unfold Is;exact Iff.rfl
def Is.tuple_iff:Is H (.tuple ds) v↔∃a xs,v=.ref a/\H a=some (.tup xs)/\zw H ds xs:=by unfold Is;exact Iff.rfl
mutual
noncomputable def ye:PyData->Bool
 | .int _=>true
 | .list xs=>y7 xs
 | .tuple xs=>y7 xs
 | .none=>false
 | .bool _=>false
 | .str _=>false
 | .dict _=>false
noncomputable def y7:List PyData->Bool
 | []=>true
 |x::xs=>ye x&&y7 xs
end
mutual
theorem sG:∀d:PyData,ye d=true->d.canLay0=true
 | .int _,_=>by unfold PyData.canLay0;rfl
 | .list xs,h=>by unfold ye at h;unfold PyData.canLay0;exact wL xs h
 | .tuple xs,h=>by unfold ye at h;unfold PyData.canLay0;exact wL xs h
 | .none,h=>by unfold ye at h;exact zqb h
 | .bool _,h=>by unfold ye at h;exact zqb h
 | .str _,h=>by unfold ye at h;exact zqb h
 | .dict _,h=>by unfold ye at h;exact zqb h
theorem wL:∀xs:List PyData,y7 xs=true->PyData.canLayAll0 xs=true
 | [],_=>by unfold PyData.canLayAll0;rfl
 |x::xs,h=>by
  unfold y7 at h;obtain⟨h1,h2⟩:=XR.mp h;unfold PyData.canLayAll0;rw[sG x h1,wL xs h2];rfl
end
mutual
theorem nM:∀d e:PyData,ye d=true->ye e=true->(PyData.eqv d e=true↔d=e)
 | .int i,.int j,_,_=>by unfold PyData.eqv;simp
 | .int i,.list ys,_,_=>by unfold PyData.eqv;simp
 | .int i,.tuple ys,_,_=>by unfold PyData.eqv;simp
 | .list xs,.int j,_,_=>by unfold PyData.eqv;simp
 | .list xs,.list ys,h1,h2=>by
  unfold ye at h1 h2;have q:=uk xs ys h1 h2;unfold PyData.eqv;rw[q];simp
 | .list xs,.tuple ys,_,_=>by unfold PyData.eqv;simp
 | .tuple xs,.int j,_,_=>by unfold PyData.eqv;simp
 | .tuple xs,.list ys,_,_=>by unfold PyData.eqv;simp
 | .tuple xs,.tuple ys,h1,h2=>by
  unfold ye at h1 h2;have q:=uk xs ys h1 h2;unfold PyData.eqv;rw[q];simp
 | .none,_,h,_=>by unfold ye at h;exact zqb h
 | .bool _,_,h,_=>by unfold ye at h;exact zqb h
 | .str _,_,h,_=>by unfold ye at h;exact zqb h
 | .dict _,_,h,_=>by unfold ye at h;exact zqb h
 |_,.none,_,h=>by unfold ye at h;exact zqb h
 |_,.bool _,_,h=>by unfold ye at h;exact zqb h
 |_,.str _,_,h=>by unfold ye at h;exact zqb h
 |_,.dict _,_,h=>by unfold ye at h;exact zqb h
theorem uk:∀xs ys:List PyData,y7 xs=true->y7 ys=true->(PyData.eqvAll xs ys=true↔xs=ys)
 | [],[],_,_=>by unfold PyData.eqvAll;simp
 | [],y::ys,_,_=>by unfold PyData.eqvAll;simp
 |x::xs,[],_,_=>by unfold PyData.eqvAll;simp
 |x::xs,y::ys,h1,h2=>by
  unfold y7 at h1 h2;obtain⟨a1,a2⟩:=XR.mp h1;obtain⟨b1,b2⟩:=XR.mp h2;unfold PyData.eqvAll;rw[XR,nM x y a1 b1,uk xs ys a2 b2];simp
end
def eqv_ne (h1:ye d=true)(h2:ye e=true)(h:d≠e):PyData.eqv d e=false:=by
 cases q:PyData.eqv d e with
 |false=>rfl
 |true=>exact Zn ((nM d e h1 h2).mp q) h
def eqv_self (h1:ye d=true):PyData.eqv d d=true:=(nM d d h1 h1).mpr rfl
section
variable {X:Cx}
noncomputable def uZ:Yh->Int
 | []=>0
 |x::r=>r.foldl max x
noncomputable def kT:Yh->Int
 | []=>0
 |x::r=>r.foldl min x
theorem uW:∀(r:Yh) (x:Int),x<=r.foldl max x/\(∀y∈r,y<=r.foldl max x)/\(r.foldl max x=x\/r.foldl max x∈r)
 | [],x=>⟨Int.le_refl _,(λ_ h=>nomatch h),.inl rfl⟩
 |y::r,x=>by
  refine xF (uW r (max x y)) λh1 h2 h3=>?_;show x<=r.foldl max (max x y)/\(∀z∈y::r,z<=r.foldl max (max x y))/\(r.foldl max (max x y)=x\/r.foldl max (max x y)∈y::r);refine⟨(),λz hz=>?_,?_⟩
  .rcases ZD.mp hz with rfl|hz
   .omega
   .exact h2 z hz
  .rcases h3 with h3|h3
   .by_cases hxy:x<=y
    .right;rw[h3,Int.max_eq_right hxy];exact Zqs
    .left;rw[h3,Int.max_eq_left ()]
   .right;exact Zqm _ h3
def yV (h:l ≠ []):uZ l∈l/\∀y∈l,y<=uZ l:=by
 cases l with
 |nil=>exact Zn rfl h
 |cons x r =>
  refine xF (uW r x) λh1 h2 h3=>?_;refine⟨?_,λy hy=>?_⟩
  .rcases h3 with h3|h3
   .show r.foldl max x∈x::r;rw[h3];exact Zqs
   .exact Zqm _ h3
  .rcases ZD.mp hy with rfl|hy
   .exact h1
   .exact h2 y hy
def m7 (h1:M∈l)(h2:∀y∈l,y<=M):M=uZ l:=by
 obtain⟨q1,q2⟩:=yV (l:=l) (by intro e;rw[e] at h1;cases h1);have a:=q2 M h1;have b:=h2 _ q1;omega
theorem uO:∀(r:Yh) (x:Int),r.foldl min x<=x/\(∀y∈r,r.foldl min x<=y)/\(r.foldl min x=x\/r.foldl min x∈r)
 | [],x=>⟨Int.le_refl _,(λ_ h=>nomatch h),.inl rfl⟩
 |y::r,x=>by
  refine xF (uO r (min x y)) λh1 h2 h3=>?_;show r.foldl min (min x y)<=x/\(∀z∈y::r,r.foldl min (min x y)<=z)/\(r.foldl min (min x y)=x\/r.foldl min (min x y)∈y::r);refine⟨(),λz hz=>?_,?_⟩
  .rcases ZD.mp hz with rfl|hz
   .omega
   .exact h2 z hz
  .rcases h3 with h3|h3
   .by_cases hxy:x<=y
    .left;rw[h3,Int.min_eq_left hxy]
    .right;rw[h3,Int.min_eq_right ()];exact Zqs
   .right;exact Zqm _ h3
def vD (h:l ≠ []):kT l∈l/\∀y∈l,kT l<=y:=by
 cases l with
 |nil=>exact Zn rfl h
 |cons x r =>
  refine xF (uO r x) λh1 h2 h3=>?_;refine⟨?_,λy hy=>?_⟩
  .rcases h3 with h3|h3
   .show r.foldl min x∈x::r;rw[h3];exact Zqs
   .exact Zqm _ h3
  .rcases ZD.mp hy with rfl|hy
   .exact h1
   .exact h2 y hy
def nQ (h1:M∈l)(h2:∀y∈l,M<=y):M=kT l:=by
 obtain⟨q1,q2⟩:=vD (l:=l) (by intro e;rw[e] at h1;cases h1);have a:=q2 M h1;have b:=h2 _ q1;omega
def call_maxL (hc:X.calm=true):zD X (.builtin "max") (λxs H Q=>∃a ns,xs=[.ref a]/\SqL X.K H a (ns.map V.int)/\ns ≠ []/\Q (.int (uZ ns)) H):=by
 intro Y s Z H xs us Q I r h;refine zc2d h λa ns zr2 hl hne q=>?_;subst zr2;refine zc1b (vF r) λu zr1 ru=>?_;subst zr1;obtain rfl:u=Value.ref a:=ru;refine zc1c (I.list hl) λits rv p hz=>?_;have hi:IntsAre its ns:=uo rv;obtain⟨ys,e⟩:=hi.allInts.items;have hns:ns=ys.toList.map (·.1):=by
  rw[<- hi.numsOf,<- nums_intItems,<- e]
 have hsz:0<ys.size:=by
  have h3:0<ns.length:=XC.mpr hne;rw[hns,Zql,ZM] at h3;exact h3
 have hl':=p.isList;rw[e] at hl';refine max_intList (I.ok.hd hc) hl' hsz λv h' tk hv hk=>?_;obtain⟨t,rfl⟩:=intItems_at hv;obtain⟨h1,h2⟩:=argBest_gt (numAt ys) (ys.size-1);refine⟨.int (uZ ns),H,I.kept hk,⟨t,?_⟩,q⟩
 congr 1
 refine m7 ?_ λb hb=>?_
 .rw[hns,numAt_eq];exact PySem.getD_mem (by rw[Zql,ZM];omega)
 .rw[hns] at hb;refine zc1b (PySem.mem_getD hb) λj hj zr2=>?_;subst zr2;rw[Zql,ZM] at hj;rw[<- numAt_eq];exact h2 j ()
def call_minL (hc:X.calm=true):zD X (.builtin "min") (λxs H Q=>∃a ns,xs=[.ref a]/\SqL X.K H a (ns.map V.int)/\ns ≠ []/\Q (.int (kT ns)) H):=by
 intro Y s Z H xs us Q I r h;refine zc2d h λa ns zr2 hl hne q=>?_;subst zr2;refine zc1b (vF r) λu zr1 ru=>?_;subst zr1;obtain rfl:u=Value.ref a:=ru;refine zc1c (I.list hl) λits rv p hz=>?_;have hi:IntsAre its ns:=uo rv;obtain⟨ys,e⟩:=hi.allInts.items;have hns:ns=ys.toList.map (·.1):=by
  rw[<- hi.numsOf,<- nums_intItems,<- e]
 have hsz:0<ys.size:=by
  have h3:0<ns.length:=XC.mpr hne;rw[hns,Zql,ZM] at h3;exact h3
 have hl':=p.isList;rw[e] at hl';refine min_intList (I.ok.hd hc) hl' hsz λv h' tk hv hk=>?_;obtain⟨t,rfl⟩:=intItems_at hv;obtain⟨h1,h2⟩:=argBest_lt (numAt ys) (ys.size-1);refine⟨.int (kT ns),H,I.kept hk,⟨t,?_⟩,q⟩
 congr 1
 refine nQ ?_ λb hb=>?_
 .rw[hns,numAt_eq];exact PySem.getD_mem (by rw[Zql,ZM];omega)
 .rw[hns] at hb;refine zc1b (PySem.mem_getD hb) λj hj zr2=>?_;subst zr2;rw[Zql,ZM] at hj;rw[<- numAt_eq];exact h2 j ()
def call_isi:zD X (.builtin "isinstance") (λxs H Q=>∃x n t b,xs=[x,.ty n]/\TyOf X.K H x t/\W.kitOne X.K t (.type n)=some b/\Q (.bl b) H):=by
 intro Y s Z H xs us Q I r h;refine zc4a h λx n t b zz=>pR zz λzr4 ty e q=>?_;subst zr4;refine zc2c (iE r) λu w' zr2 rx rn=>?_;subst zr2;obtain rfl:w'=Value.type n:=rn;exact isinst_ok I rx ty e λtk=>⟨.bl b,H,I.tok tk,rfl,q⟩
def z7 (P:Program)(w:World)(K:W.Frag)(mg:Ye)(base:Heap)(name:Str)(k:Nat)(ps:Yk)(sp:Sp):Prop:=
 ∃f fd,FnOk P w K mg base CX0 k f fd ps sp/\oX K fd ps []/\W.keepIn K (.ref f)=true/\mg name=some (.ref f)
theorem z7.mono {P:Program}{w:World}{K:W.Frag}{mg:Ye}{base:Heap}{name:Str}{j k:Nat}{ps:Yk}{sp:Sp}(c:z7 P w K mg base name j ps sp)(h:j<=k):z7 P w K mg base name k ps sp:=by
 refine zc2b c λf fd F r=>?_;exact⟨f,fd,F.mono h,r⟩
def dE (c:z7 X.prog X.w X.K X.mg X.base name k ps sp)(hr:Room k X.A)(hg:Gl X name)(ha:PA X (e::es) t)
 (hdb:autoParam ((name == ("__debug__" : Str))=false) zav._auto_1) (he:starEach (e::es) X.env=(false,eval e X.env)::starEach es X.env:=by rfl) (hpl:(backTo pos (starEach es X.env)).any (·.1)=false:=by rfl):
 PE X (.Call (.Name name p) (e::es) [] pos) (eU sp [] E0 t):=by
 refine zc2d c λf fd F b hk hm=>?_;exact jY F hr hg hm hk b .nil pass0 ha hdb he hpl
end
def yW (h:H p=none)(o:HO):yB H (upd H p o):=λb u q=>by rw[zC (xa q h)];exact q
def v0 (h:n<=1000):n<=sizeLine:=Zy (nt h)
noncomputable def pD (p:Int×Int):PyData:=.tuple [.int p.1,.int p.2]
noncomputable def rD (r:X8):PyData:=.tuple (r.map pD)
def pj:Is H (pD p) v↔∃a,v=.ref a/\H a=some (.tup [.int p.1,.int p.2]):=by
 unfold pD;rw[Is.tuple_iff];constructor
 .rintro⟨a,xs,h1,h2,h3⟩;have e:xs=[.int p.1,.int p.2]:=vd (ns:=[p.1,p.2]) h3;subst e;exact⟨a,h1,h2⟩
 .rintro⟨a,h1,h2⟩;exact⟨a,_,h1,h2,qd [p.1,p.2]⟩
def lB (o:HO)(s:yB H H')(h:H l=none):yB H (upd H' l o):=λb u e=>by
 rw[zC (xa e h)];exact s b u e
theorem rV:∀ns:Yh,y7 (ns.map PyData.int)=true
 | []=>by show y7 []=true;unfold y7;rfl
 |n::ns=>by
  show y7 (PyData.int n::ns.map PyData.int)=true;unfold y7;rw[rV ns];unfold ye;rfl
def vP (p:Int×Int):ye (pD p)=true:=by unfold pD ye;exact rV [p.1,p.2]
theorem rK:∀ns:Yh,PyData.depthAll (ns.map PyData.int)=0
 | []=>by show PyData.depthAll []=0;unfold PyData.depthAll;rfl
 |n::ns=>by
  show PyData.depthAll (PyData.int n::ns.map PyData.int)=0;unfold PyData.depthAll;rw[rK ns];unfold PyData.depth;rfl
def sX:bootBuiltins "len" = some (.builtin "len"):=boot_len
def ki:bootBuiltins "max" = some (.builtin "max"):=boot_max
def fD:bootBuiltins "min" = some (.builtin "min"):=boot_min
def yX:bootBuiltins "isinstance" = some (.builtin "isinstance"):=boot_isinstance
def ua:bootBuiltins "sorted" = some (.builtin "sorted"):=boot_sorted
def bt_sum:bootBuiltins "sum" = some (.builtin "sum"):=boot_sum
def bt_int:bootBuiltins "int" = some (.type "int"):=boot_int
def bt_bool:bootBuiltins "bool" = some (.type "bool"):=boot_bool
def me:bootBuiltins "list" = some (.type "list"):=boot_list
def xK:bootBuiltins "tuple" = some (.type "tuple"):=boot_tuple
def qE:bootBuiltins "dict" = some (.type "dict"):=boot_dict
def bt_set:bootBuiltins "set" = some (.type "set"):=boot_set
def sj:entryFor table "dict.update.loop" = some Builtin.«dict.update.loop»:=entryFor_of_tree (by kernel_rfl)
def wA:plainId "dict.update.loop" = true:=by decide +kernel
section
variable {prog:Program}{w:World}{K:Type}[DecidableEq K]{knd:KeyKind prog w K}
def dloop (knd:KeyKind prog w K)(it t d:Addr)(items:Yn)(ps:List (K×Value))(h0:Heap)(hlen:items.size=ps.length)
 (hit:∀(j:Nat) k v,ps[j]? = some (k,v)->∃ta key,items[j]? = some (.ref ta)/\h0.IsTuple ta #[key,v]/\knd.is k key=true/\ta≠it/\ta≠d)
 (ht0:h0.IsTuple t items) (n1:t≠it) (n2:t≠d) (n3:d≠it) (m:Nat):
 ∀i:Nat,ps.length-i=m->∀(A:Around) (R:Result->Yz) (s:Shared) (kvs:List (K×Value)),A.handled=none->s.heap.IsTupleIter it t i->(∀b o,b≠it->b≠d->h0.get? b=some o->s.heap.get? b=some o) ->
  s.heap.DictOf knd d kvs->kvs.length+(ps.length-i)<=sizeLine ->
  (∀h' tk,h'.DictOf knd d (merged kvs (ps.drop i))->(∀b o,b≠it->b≠d->h0.get? b=some o->h'.get? b=some o)->R (.ok (.ret .none)) { s with heap:=h',toks:=tk }) ->
  wpAny (model prog w) A.in1 (Builtin.«dict.update.loop» ⟨[.ref d,.ref it,rawInt i,.none],[]⟩) (λfin s'=>match fin with | .done f=>R (.ok f) s' | .again c'=>c'.quiet=true/\codeAny (model prog w) A c' R s') (λe s'=>R (.error e) s') s:=by
 induction m with
 |zero =>
  intro i hm A R s kvs hh st keep hD hz hR;have hx:items[i]? = none:=by rw[Array.getElem?_eq_none_iff];omega
  have ht:s.heap.IsTuple t items:=by
   refine zc1b ht0 λo ho r=>?_;exact⟨o,keep t o n1 n2 ho,r⟩
  unfold Builtin.«dict.update.loop»;refine Za (wpAny_pyNext_tuple_end hh st ht hx λh' eb=>?_);have hd0:ps.drop i=[]:=Xy ();rw[hd0] at hR;have hD':h'.DictOf knd d kvs:=by
   refine zc3b hD λo es ep ho r=>?_;exact⟨o,es,ep,eb d o n3 ho,r⟩
  have fin:=hR h' s.toks hD' (λb o h1 h2 e=>eb b o h1 (keep b o h1 h2 e));unfold Builtin.Dict.addKeywords;exact Za (Zb (Zb fin))
 |succ m ih =>
  intro i hm A R s kvs hh st keep hD hz hR;have hlt:i<ps.length:=()
  obtain⟨kv,hkv⟩:∃kv,ps[i]? = some kv:=⟨_,Zqg hlt⟩;refine zc2a (hit i kv.1 kv.2 hkv) λta key zz=>xk zz λhx hta hkey a1 a2=>?_;have ht:s.heap.IsTuple t items:=by
   refine zc1b ht0 λo ho r=>?_;exact⟨o,keep t o n1 n2 ho,r⟩
  unfold Builtin.«dict.update.loop»;refine Za (wpAny_pyNext_tuple_item st ht hx λh1 st1 sb1=>?_);refine zc1c hta λot hot hoc zz=>zc1a zz λnn hod=>?_;have hot1:h1.get? ta=some ot:=(sb1.2 ta a1).trans (keep ta ot a1 a2 hot);have hD1:h1.DictOf knd d kvs:=by
   refine zc3b hD λo es ep ho r=>?_;exact⟨o,es,ep,(sb1.2 d n3).trans ho,r⟩
  dsimp only;refine Za (wpAny_holding (Za (wpAny_tryCatch ?_)));unfold Builtin.Dict.pairItems;refine Za (wpAny_typeOf (T:= "tuple") ⟨ot,hot1,hoc⟩ ?_);rw[Zd (by decide)];refine Za (wpAny_seqItems hot1 hod (Zb ?_));show wpAny _ _ (holding [key,kv.2] (dictSet d key kv.2)) _ _ _;refine wpAny_holding (wpAny_dictSet_pairs hkey hD1 (λh2 hD2 sb2=>?_) ());have hc:((i:Int)+1)=((i+1:Nat):Int):=by push_cast;rfl
  refine Zb ?_;rw[hc];have st2:h2.IsTupleIter it t (i+1):=by
   refine zc1b st1 λo ho r=>?_;exact⟨o,(sb2.2 it (Ne.symm n3)).trans ho,r⟩
  have k2:∀b o,b≠it->b≠d->h0.get? b=some o->h2.get? b=some o:=λb o b1 b2 e=>(sb2.2 b b2).trans ((sb1.2 b b1).trans (keep b o b1 b2 e));have z2:(stored kvs kv.1 kv.2).length+(ps.length-(i+1))<=sizeLine:=by
   have:(stored kvs kv.1 kv.2).length<=kvs.length+1:=by
    unfold stored
    split
    .rw[Zql];omega
    .rw[ZC,ZT];omega
   omega
  have e:merged kvs (ps.drop i)=merged (stored kvs kv.1 kv.2) (ps.drop (i+1)):=by
   rw[ZU hlt];have:ps[i]=kv:=by
    have:=Zqg hlt;rw[this] at hkv;exact Zqi hkv
   rw[this];rfl
  exact⟨plainId_quiet wA _,codeAny_builtin sj (by
   rw[Around.under_plainId wA _];exact ih (i+1) () A R { s with heap:=h2,toks:=s.toks+1 } (stored kvs kv.1 kv.2) hh st2 k2 hD2 z2 λh' tk hD' kk=>hR h' tk (by rw[e];exact hD') kk)⟩
end
def no_keys_lookup:typeLookup (.type "tuple") "keys" = pure none:=by rw[typeLookup_type,builtinLookup_eq_fast];kernel_rfl
theorem getAttrQ_miss_tuple
 (hx:s.heap.get? a=some o) (hc:o.cls=.type "tuple") (hdat:o.data=.seq xs k) (hd:o.dict=none) (hmiss:typeLookup (.type "tuple") name=pure none) (hname:(["__module__", "__name__", "__qualname__", "__doc__", "__annotations__"]:Yk).contains name=false) (hA:A.handled=none)
 (h:∀h' tk,(∀b o,s.heap.get? b=some o->h'.get? b=some o)->Q none { s with heap:=h',toks:=tk }) (hsz:name.length+100<=sizeLine:=by size_fits):
 YG prog w A (getAttr? (.ref a) name) Q E s:=by
 obtain⟨c,dct,dat,sl⟩:=o;simp only at hc hdat hd;subst hc hdat hd;obtain⟨hp,g,d,tk,os⟩:=s;have hT:∀tk',(⟨hp,g,d,tk',os⟩:Shared).TypeIs (.ref a) "tuple" := λ_=>⟨_,hx,rfl⟩;have f1:=sub_AttributeError;have f3:=F.slot_tuple_getattribute.lookup;have f4:=F.slot_tuple_getattribute.bind (.ref a);have f5:=am_tuple_getattr_none;unfold getAttr? getAttrBy? getAttrBy
 repeat (any_goals (first|assumption|exact hT _|((with_reducible show wpAny _ _ (call (Value.builtin "tuple.__getattribute__") _ _) _ _ _);refine call_meets F.slot_tuple_getattribute (hT _) am_entry_tuple_getattribute (F.args_tuple_getattribute_2 _ _) (meets_getattribute_miss_tuple a xs k sl name _ hmiss hname hsz) ⟨hx,hA,λh' tk' e hx'=>?_⟩)|wp_step))
 refine zc2a hx'.there λt' u' he=>?_;show wpAny _ _ (getattributeRaised _ _ _ _ _ _ _) _ _ _;unfold getattributeRaised
 repeat (any_goals (first|assumption|wp_step))
 exact h _ _ hx'.of.keeps
section
variable {prog:Program}{w:World}{K:Type}[DecidableEq K]{A:Around}{E:Ya}{s:Shared}
def dict_of_pairs (knd:KeyKind prog w K)(hA:A.handled=none)(ho:s.heap.get? t=some o)(hc:o.cls=.type "tuple")(hdat:o.data=.seq items n)(hd:o.dict=none)
 (hlen:items.size=ps.length) (hit:∀(j:Nat) k v,ps[j]? = some (k,v)->∃ta key,items[j]? = some (.ref ta)/\s.heap.IsTuple ta #[key,v]/\knd.is k key=true) (hz:ps.length<=sizeLine)
 (h:∀h' tk,h'.DictOf knd s.heap.objs.size (merged [] ps)->(∀b u,s.heap.get? b=some u->h'.get? b=some u)->Q (.ref s.heap.objs.size) { s with heap:=h',toks:=tk }):
 YG prog w A (call (.type "dict") [.ref t]) Q E s:=by
 refine callType_codes (Q₁:=λobj s₁=>obj=.ref s.heap.objs.size/\s₁={ s with heap:=s.heap.push { cls:=.type "dict",data:=.dict #[] } }) F.kt_called_dict (F.kt_typeCall_dict_1 _) F.entry_dict_init (kt_code_dict_new _ ⟨rfl,rfl⟩) ?_;rintro obj s₁ ⟨rfl,rfl⟩;have hnew:(s.heap.push { cls:=.type "dict",data:=.dict #[] }).DictOf knd s.heap.objs.size []:=Heap.DictOf.new s.heap;refine⟨hnew.typeIs,F.args_dict_init_2 _ _,?_⟩;have ho1:(s.heap.push { cls:=.type "dict",data:=.dict #[] }).get? t=some o:=Zq _ ho;unfold Builtin.«dict.__init__»;refine Za ?_;unfold Builtin.Dict.selfAndRest;refine Za (wpAny_notOrdered_dict hnew.typeIs ?_);show wpAny _ _ (pure (s.heap.objs.size,[Value.ref t])) _ _ _;refine Zb ?_;show wpAny _ _ (Builtin.Dict.updateFrom "dict.__init__" s.heap.objs.size (.ref t) [] .none) _ _ _;unfold Builtin.Dict.updateFrom;refine Za (wpAny_typeOf (T:= "tuple") ⟨o,ho1,hc⟩ ?_);rw[Zd (by decide)];refine Za (getAttrQ_miss_tuple ho1 hc hdat hd no_keys_lookup (by decide +kernel) hA (λh2 tk2 k2=>?_) (by decide));rw[Zd (by rfl)];have ht2:h2.IsTuple t items:=⟨o,k2 _ _ ho1,hc,n,hdat⟩;have lt:s.heap.objs.size<h2.objs.size:=by
  refine zc3b hnew λod _ _ e _=>?_;exact Zk (k2 _ _ e)
 have D2:h2.DictOf knd s.heap.objs.size []:=by
  refine zc3b hnew λod es ep e r=>?_;exact⟨od,es,ep,k2 _ _ e,r⟩
 refine Za (wpAny_rule ?_);refine Za (wpAny_pyIter_tuple ht2 ?_);have lt0:∀b u,s.heap.get? b=some u->b≠s.heap.objs.size/\b≠h2.objs.size:=λb u e=>by
  have z:=Zk e;exact⟨Zi z,Zi (Xl z lt)⟩
 have up:∀b u,s.heap.get? b=some u->h2.get? b=some u:=λb u e=>k2 b u (Zq _ e);have hit2:∀(j:Nat) k v,ps[j]? = some (k,v)->∃ta key,items[j]? = some (.ref ta)/\h2.IsTuple ta #[key,v]/\knd.is k key=true/\ta≠h2.objs.size/\ta≠s.heap.objs.size:=λj k v e=>by
  refine zc2c (hit j k v e) λta key a1 zr3 a4=>?_;obtain⟨oa,a2,a3⟩:=zr3;exact⟨ta,key,a1,⟨oa,up _ _ a2,a3⟩,a4,(lt0 ta oa a2).2,(lt0 ta oa a2).1⟩
 refine Zb ⟨plainId_quiet wA _,codeAny_builtin sj ?_⟩;rw[Around.under_plainId wA _];refine dloop knd h2.objs.size t s.heap.objs.size items ps h2 hlen hit2 ht2 (lt0 t o ho).2 (lt0 t o ho).1 (Zi lt) ps.length 0 (by simp) A.in1 _ _ [] hA ⟨_,Zr _ rfl,rfl,rfl⟩ (λb u _ _ e=>Zq _ e) ?_ (by simpa using hz) ?_
 .refine zc3b D2 λod es ep e r=>?_;exact⟨od,es,ep,Zq _ e,r⟩
 .intro h' tk hD' kk;exact⟨rfl,h h' tk hD' λb u e=>kk b u (lt0 b u e).2 (lt0 b u e).1 (up b u e)⟩
end
noncomputable def kvR (r:X8):List (Key×V):=r.map λp=>(Sum.inl p.1,V.int p.2)
def iu (r:X8):List (Key×V):=sI [] (kvR r)
theorem vf (ok:HOk P w H h):∀{r:X8} {xs:YB} {us:Yf},zw H (r.map pD) xs->yi xs us ->
 ∃ps:List (Key×Value),KV (kvR r) ps/\us.length=ps.length/\∀(j:Nat) k v,ps[j]? = some (k,v)->∃ta key,us[j]? = some (.ref ta)/\h.IsTuple ta #[key,v]/\(yb P w).is k key=true
 | [],xs,us,ha,r=>by
  have ha:zw H [] xs:=ha;unfold zw at ha;subst ha;cases r;exact⟨[],.nil,rfl,λj k v e=>by simp at e⟩
 |p::r,xs,us,ha,rv=>by
  have ha:zw H (pD p::r.map pD) xs:=ha;unfold zw at ha;refine zc2c ha λx ys zr2 h1 h2=>?_;subst zr2;cases rv with
  | @cons _ u _ us' r1 r2 =>
   refine zc1c (vf ok h2 r2) λps k1 k2 k3=>?_;refine zc1b (pj.mp h1) λa zr1 ht=>?_;subst zr1;obtain rfl:u=Value.ref a:=r1;refine wG ((show yr P w H h a (.tup [.int p.1,.int p.2]) from ok a _ ht)) λ_ zz=>zc1b zz λits ri zz=>zc1c zz λo e1 e2 zz=>zc1a zz λn e3=>?_;refine zc2c (iE ri) λu1 u2 zr2 q1 q2=>?_;subst zr2;obtain⟨t1,rfl⟩:=(show ∃t,u1=Value.int p.1 t from q1);refine⟨(Sum.inl p.1,u2)::ps,.cons ⟨rfl,q2⟩ k1,by rw[Zu,Zu,k2],λj k v e=>?_⟩;cases j with
   |zero =>
    have e:some ((Sum.inl p.1:Key),u2)=some (k,v):=e;cases e;exact⟨a,.int p.1 t1,rfl,⟨o,e1,e2,n,e3⟩,o8 p.1 t1⟩
   |succ j =>
    exact k3 j k v (by simpa using e)
section
variable {X:Cx}
def call_dictP (hc:X.calm=true):zD X (.type "dict") (λxs H Q=>∃a r,xs=[.ref a]/\Is H (rD r) (.ref a)/\r.length<=100/\∀p,H p=none->Q (.ref p) (upd H p (.dK (iu r)))):=by
 intro Y s Z H xs us Q I rv h;refine zc2d h λa r zr2 hr hz q=>?_;subst zr2;refine zc1b (vF rv) λu zr1 ru=>?_;subst zr1;obtain rfl:u=Value.ref a:=ru;unfold rD at hr;rw[Is.tuple_iff] at hr;refine zc2c hr λa' xs ea ht hA=>?_;cases ea;refine wG ((show yr X.prog X.w H s.heap a (.tup xs) from I.hok a _ ht)) λzr0 zz=>zc1b zz λits ri zz=>zc1c zz λo e1 e2 zz=>zc1a zz λn e3=>?_;obtain⟨hl,od,e0,d0⟩:=zr0;rw[e0] at e1;obtain rfl:=Zqi e1;refine zc1c (vf I.hok hA ri) λps k1 k2 k3=>?_;have lk:=k1.length;have lr:(kvR r).length=r.length:=Zql _;refine dict_of_pairs (yb X.prog X.w) (I.ok.hd hc) e0 e2 e3 d0 (by rw[Zm];exact k2) (λj k v e=>?_) (by rw[<- lk,lr];exact v0 ()) λh' tk hD hk=>?_
 .refine zc2c (k3 j k v e) λta key b1 b2 b3=>?_;exact⟨ta,key,by simpa using b1,b2,b3⟩
 .refine⟨.ref s.heap.objs.size,upd H s.heap.objs.size (.dK (iu r)),I.laid (a:=s.heap.objs.size) (o:=.dK (iu r)) (t':=tk) hk (Zf _) ?_,rfl,q _ (I.hok.fresh (Zf _))⟩;refine fI ?_ (beq_eq_false_iff_ne.mpr (Ne.symm (Zi I.big))) (KV.merge k1 .nil) hD;have z:=vS (kvR r) [];rw[ZB,lr] at z;exact v0 (by unfold iu;omega)
end
noncomputable def zk:X8->Int->Option Int
 | [],_=>none
 |p::r,t=>match zk r t with
  |some w=>some w
  |none=>if p.1=t then some p.2 else none
def lookR_append (r s:X8)(t:Int):zk (r++s) t=match zk s t with|some w=>some w|none=>zk r t:=by
 induction r with
 |nil=>simp[zk];cases zk s t<;>rfl
 |cons p r ih =>
  rw[List.cons_append,zk,ih];cases zk s t with
  |none=>rw[zk]
  |some w=>rfl
def zx (h:zk r t=some w):(t,w)∈r:=by
 induction r with
 |nil=>simp[zk] at h
 |cons p r ih =>
  rw[zk] at h;cases q:zk r t with
  |some v =>
   rw[q] at h;obtain rfl:=Zqi h;exact Zqm _ (ih q)
  |none =>
   rw[q] at h;by_cases e:p.1=t
   .rw[Zd e] at h;obtain rfl:=Zqi h;subst e;exact Zqs
   .rw[Ze e] at h;exact zqn h
def rQ (h:zk r t=none):∀w,(t,w)∉r:=by
 induction r with
 |nil=>intro w hw;cases hw
 |cons p r ih =>
  intro w hw;rw[zk] at h;cases q:zk r t with
  |some v=>rw[q] at h;cases h
  |none =>
   rw[q] at h;rcases ZD.mp hw with e|e
   .rw[Zd (by rw[<- e])] at h;cases h
   .exact ih q w e
noncomputable def yE (r:X8):Prop:=(r.map (·.1)).Nodup
def yE.eq (h:yE r)(h1:(t,v)∈r)(h2:(t,w)∈r):v=w:=by
 induction r with
 |nil=>cases h1
 |cons p r ih =>
  obtain⟨n1,n2⟩:=List.nodup_cons.mp (show(p.1::r.map (·.1)).Nodup from h);rcases ZD.mp h1 with e1|e1<;>rcases ZD.mp h2 with e2|e2
  .rw[<- e1] at e2;cases e2;rfl
  .exact Zn (ZE.mpr ⟨(t,w),e2,by rw[<- e1]⟩) n1
  .exact Zn (ZE.mpr ⟨(t,v),e1,by rw[<- e2]⟩) n1
  .exact ih n2 e1 e2
def yE.look (h:yE r)(hm:(t,w)∈r):zk r t=some w:=by
 cases q:zk r t with
 |none=>exact Zn hm (rQ q w)
 |some v=>rw[h.eq (zx q) hm]
def nB (o:X8)(p:Int×Int):Bool:=match zk o p.1 with
 |some w=>decide (p.2<=w)
 |none=>false
def zl (r o:X8):Bool:=r.all (nB o)
def nA (h:yE r)(hl:∀p∈r,p.1<t):yE (r++[(t,w)]):=by
 unfold yE at h ⊢;rw[ZR,List.nodup_append];refine⟨h,by simp,?_⟩;intro a ha b hb;refine zc1b (ZE.mp ha) λp hp zr2=>?_;subst zr2;have:=hl p hp;simp at hb;subst hb;omega
def wn {r o:X8}{i:Nat}{p:Int×Int}(hp:r[i]? = some p)(h:nB o p=false):zl r o=false:=by
 unfold zl;rw[List.all_eq_false];exact⟨p,ZP hp,by rw[h];simp⟩
def yt {α:Type}{r:List α}{p:α}(hp:r[i]? = some p):r.take (i+1)=r.take i++[p]:=by
 rw[List.take_succ,hp];rfl
def qh {r o:X8}{i:Nat}{p:Int×Int}(hp:r[i]? = some p)(h:zl (r.take i) o=true)(h1:nB o p=true):zl (r.take (i+1)) o=true:=by
 rw[yt hp];unfold zl at h ⊢;rw[List.all_append,h,Xw,h1];rfl
open PySem PyProof.Rows
def fE {l r k x:Nat}(h:l<r)(gap:r-l<=k-x):∃m,(l+r) / 2=m/\l<=m/\m<r/\m-l<=k-(x+1)/\r-(m+1)<=k-(x+1):=by
 have a:l<=(l+r) / 2:=()
 have b:(l+r) / 2<r:=()
 generalize (l+r) / 2=m at a b ⊢;exact⟨m,rfl,a,b,Nat.le_pred_of_lt (Zg (Nat.sub_lt_sub_right a b) gap),Nat.pred_le_pred (Zh (Nat.sub_le_sub_left a r) gap)⟩
structure Wk (lt:Yd):Prop where
 asy:∀i j,lt i j=true->lt j i=false
 neg:∀i j k,lt i k=true->lt i j=true\/lt j k=true
noncomputable def Bef (lt:Yd)(i j:Nat):Prop:=lt i j=true\/(lt j i=false/\i<j)
section
variable {lt:Yd}(W:Wk lt)
include W
theorem Bef.no {i j:Nat}(h:Bef lt i j):lt j i=false:=by
 rcases h with h|h
 .exact W.asy _ _ h
 .exact h.1
theorem Bef.trans {i j k:Nat}(h1:Bef lt i j)(h2:Bef lt j k):Bef lt i k:=by
 have n1:=Bef.no W h1;have n2:=Bef.no W h2;have n3:lt k i=false:=by
  cases q:lt k i with
  |false=>rfl
  |true =>
   rcases W.neg k j i q with z|z
   .rw[n2] at z;exact zqb z
   .rw[n1] at z;exact zqb z
 rcases h1 with a|a
 .rcases W.neg i k j a with z|z
  .exact .inl z
  .rw[n2] at z;exact zqb z
 .rcases h2 with b|b
  .rcases W.neg j i k b with z|z
   .rw[a.1] at z;exact zqb z
   .exact .inl z
  .exact .inr ⟨n3,()⟩
end
noncomputable def gx (ix:Yi)(k:Nat):Nat:=(ix[k]?).getD 0
def i8 {ix:Yi}{k:Nat}(h:k<ix.size):ix[k]? = some (gx ix k):=by
 unfold gx;rw[ZI h];rfl
def oW {ix:Yi}{src d:Nat}(hs:src<ix.size)(hd:d<=src)(k:Nat):gx (bubble ix src d) k=if k=src-d then gx ix src else if src-d<k/\k<=src then gx ix (k-1) else gx ix k:=by
 unfold gx;rw[getElem?_bubble hs d hd k]
 repeat' split
 all_goals rfl
def wJ {ix:Yi}{i j:Nat}(hj:j<=ix.size)(k:Nat):gx (mirror ix i j ((j-i) / 2)) k=if i<=k/\k<j then gx ix (i+j-1-k) else gx ix k:=by
 unfold gx;rw[getElem?_mirror_all hj k]
 split
 all_goals rfl
def swap_map {α β: Type}(f:α -> β)(xs:Array α)(i j:Nat):(xs.map f).swapIfInBounds i j=(xs.swapIfInBounds i j).map f:=by
 apply Array.ext_getElem?;intro k;by_cases hi:i<xs.size
 .by_cases hj:j<xs.size
  .rw[getElem?_swapIB (by simpa -iota using hi) (by simpa -iota using hj),Xn,Xn,Xn,Xn,getElem?_swapIB hi hj]
   repeat' split
   all_goals rfl
  .rw[Array.swapIfInBounds_def,Array.swapIfInBounds_def,dif_pos (by simpa -iota using hi),dif_neg (by simpa -iota using hj),dif_pos hi,dif_neg hj]
 .rw[Array.swapIfInBounds_def,Array.swapIfInBounds_def,dif_neg (by simpa -iota using hi),dif_neg hi]
theorem sP {α β γ: Type}(f:α -> β)(p q:γ -> Nat):∀(l:List γ) (xs:Array α),l.foldl (λa k=>a.swapIfInBounds (p k) (q k)) (xs.map f)=(l.foldl (λa k=>a.swapIfInBounds (p k) (q k)) xs).map f
 | [],xs=>rfl
 |k::l,xs=>by
  rw[Xg,Xg,swap_map,sP f p q l]
def bubble_map {α β: Type}(f:α -> β)(xs:Array α)(src d:Nat):bubble (xs.map f) src d=(bubble xs src d).map f:=sP f _ _ _ xs
def mirror_map {α β: Type}(f:α -> β)(xs:Array α)(i j d:Nat):mirror (xs.map f) i j d=(mirror xs i j d).map f:=sP f _ _ _ xs
structure Pl (n:Nat)(ix:Yi)(k:Nat):Prop where
 size:ix.size=n
 perm:ix.Perm (Array.range n)
 pre:∀a,a<k->gx ix a<k
 suf:∀a,k<=a->a<n->gx ix a=a
def Pl.lt {n k a:Nat}{ix:Yi}(h:Pl n ix k)(hk:k<=n)(ha:a<n):gx ix a<n:=by
 by_cases c:a<k
 .exact Zg (h.pre a c) hk
 .rw[h.suf a () ha];exact ha
def Up (lt:Yd)(ix:Yi)(k:Nat):Prop:=∀a b,a<b->b<k->Bef lt (gx ix a) (gx ix b)
structure SB (it:Nat->Keyed)(kind:SortKind)(ix:Yi)(st:SortSt):Prop where
 arr:arrOf st=ix.map it
 kd:kindOf st=kind
 fl:failedOf st=none
 pd:pendingOf st = #[]
noncomputable def Orc (prog:Program)(w:World)(A:Around)(s:Shared)(kind:SortKind)(it:Nat->Keyed)(lt:Yd)(n:Nat):Prop:=
 ∀i j,i<n->j<n->∀(E:Ya) (Q:Bool->Yz),Q (lt i j) s->YG prog w A (keyLt' kind (it i).1 (it j).1) Q E s
end L2
section
variable {prog:Program}{w:World}{A:Around}{E:Ya}{s:Shared}{kind:SortKind}{it:Nat->Keyed}{lt:Yd}{N n lo ia ib na nb m g mg ac bc k t i j:Nat}{st st0:SortSt}{xs ys ix bs:Yi}{o:Yj}{v:Array Keyed}
namespace L2
noncomputable def wP:Bool->Keyed->Array Keyed->Nat->Nat->Nat->StateT SortSt Sem (Option Nat):=sortPriv% PySem.Builtin.gallop
noncomputable def qH:Array Keyed->Array Keyed->StateT SortSt Sem (Array Keyed):=sortPriv% PySem.Builtin.mergeLo
noncomputable def pA:Array Keyed->Array Keyed->StateT SortSt Sem (Array Keyed):=sortPriv% PySem.Builtin.mergeHi
abbrev KA:=Array Keyed
abbrev SM:=StateT SortSt Sem
abbrev C3:=Option (Option Nat)×Nat×Nat
noncomputable def be (lt:Yd)(left:Bool)(x k:Nat):Bool:=if left then lt x k else !lt k x
section
def pW {i j:Nat}{Q:Option Bool->Yy}(O:Orc prog w A s kind it lt N)(kd:kindOf st=kind)(hi:i<N)(hj:j<N)(h:Q (some (lt i j)) st):YH prog w A E s (lt' (it i) (it j)) Q st:=by
 rw[lt'_eq];refine Yo (wpS_get ?_);rw[kd];exact Yo (wpS_lift (wpAny_attempt (O _ _ hi hj _ _ ⟨rfl,Yp h⟩)))
def xP {xs:Yi}{p:Nat}{Q:Keyed->Yy}(hp:p<xs.size)(h:Q (it (gx xs p)) st):YH prog w A E s (elem' (xs.map it) p) Q st:=by
 have e:(xs.map it)[p]? = some (it (gx xs p)):=by rw[Xn,i8 hp];rfl
 rw[elem'_eq,e];exact Yp h
def wi {α:Type}{c:Prop}[Decidable c]{m n:SM α}{Q:α -> Yy}(h:c->YH prog w A E s m Q st)(k:¬c->YH prog w A E s n Q st):YH prog w A E s (if c then m else n) Q st:=by
 by_cases z:c
 .rw[Zd z];exact h z
 .rw[Ze z];exact k z
noncomputable def gaB (left:Bool)(key:Keyed)(arr:KA)(base i:Nat):SM (Option Bool):=elem' arr (base+i) >>= λx=>if left=true then lt' x key else lt' key x >>= λr=>pure (r.map λb => !b)
def ga_B {left:Bool}{k:Nat}{xs:Yi}{p base:Nat}{Q:Option Bool->Yy}(O:Orc prog w A s kind it lt N)(kd:kindOf st=kind)(kn:k<N)(hp:base+p<xs.size)(xn:gx xs (base+p)<N)(h:Q (some (be lt left (gx xs (base+p)) k)) st):
 YH prog w A E s (gaB left (it k) (xs.map it) base p) Q st:=by
 refine Yo (xP hp ?_);cases left with
 |true=>exact pW O kd xn kn h
 |false=>exact Yo (pW O kd kn xn (Yp h))
noncomputable def gaI (b:Nat->SM (Option Bool))(lo hi:Nat):SM (ForInStep C3):=if lo ≥ hi then pure (.done (none,lo,hi)) else b (lo+(hi-lo) / 2) >>= λr=>match r with
 |some t=>if t=true then pure (.yield (none,lo+(hi-lo) / 2+1,hi)) else pure (.yield (none,lo,lo+(hi-lo) / 2))
 |_=>pure (.done (some none,lo,hi))
def gaJ (b:Nat->SM (Option Bool))(n lo hi:Nat):SM (Option Nat):=(forIn [:n] ((none,lo,hi):C3) λ_ c=>gaI b c.2.1 c.2.2) >>= λc=>match c.1 with
 |some r=>pure r
 |none=>pure (some c.2.2)
noncomputable def gaF (b:Nat->SM (Option Bool))(hint mx l o:Nat):SM (ForInStep C3):=if o ≥ mx then pure (.done (none,l,o)) else b (hint+o) >>= λr=>match r with
 |some t=>if(!t)=true then pure (.done (none,l,o)) else pure (.yield (none,o,2*o+1))
 |_=>pure (.done (some none,l,o))
noncomputable def gaG (b:Nat->SM (Option Bool))(hint mx l o:Nat):SM (ForInStep C3):=if o ≥ mx then pure (.done (none,l,o)) else b (hint-o) >>= λr=>match r with
 |some t=>if t=true then pure (.done (none,l,o)) else pure (.yield (none,o,2*o+1))
 |_=>pure (.done (some none,l,o))
def gaR (b:Nat->SM (Option Bool))(n hint:Nat):SM (Option Nat):=(forIn [:n] ((none,0,1):C3) λ_ c=>gaF b hint (n-hint) c.2.1 c.2.2) >>= λc=>match c.1 with
 |some r=>pure r
 |none=>gaJ b n (hint+c.2.1+1) (hint+min c.2.2 (n-hint))
def gaL (b:Nat->SM (Option Bool))(n hint:Nat):SM (Option Nat):=(forIn [:n] ((none,0,1):C3) λ_ c=>gaG b hint (hint+1) c.2.1 c.2.2) >>= λc=>match c.1 with
 |some r=>pure r
 |none=>gaJ b n (hint+1-min c.2.2 (hint+1)) (hint-c.2.1)
set_option smartUnfolding false in
def ga_eq {left:Bool}{k:Keyed}{a:KA}{base n hint:Nat}:wP left k a base n hint=(gaB left k a base hint >>= λr=>match r with
 |some t=>if t=true then gaR (gaB left k a base) n hint else gaL (gaB left k a base) n hint
 |_=>pure none):=rfl
section
variable {P:Nat->Bool}{b:Nat->SM (Option Bool)}{Q:Option Nat->Yy}(hb:∀{i:Nat} {Q:Option Bool->Yy},i<n->Q (some (P i)) st->YH prog w A E s (b i) Q st)
 (mono:∀i j,i<j->j<n->P j=true->P i=true) (h:∀m,m<=n->(∀i,i<m->P i=true)->(∀i,m<=i->i<n->P i=false)->Q (some m) st)
include hb mono h
theorem bV {lo hi:Nat}(h0:lo<=hi)(hn:hi<=n)(t:∀i,i<lo->P i=true)(u:∀i,hi<=i->i<n->P i=false):YH prog w A E s (gaJ b n lo hi) Q st:=by
 refine Yo (Yq (Yr (I:=λx c sx=>sx=st/\∃lo hi,c=(none,lo,hi)/\lo<=hi/\hi<=n/\(∀i,i<lo->P i=true)/\(∀i,hi<=i->i<n->P i=false)/\hi-lo<=n-x) (Q:=λc sx=>sx=st/\∃m,c=(none,m,m)/\m<=n/\(∀i,i<m->P i=true)/\∀i,m<=i->i<n->P i=false) ?_ ?_ ⟨rfl,lo,hi,rfl,h0,hn,t,u,()⟩) ?_)
 .rintro x c sx _ hx ⟨rfl,lo,hi,rfl,h0,hn,t,u,g⟩;refine wi (λc=>?_) λc=>?_
  .have e:lo=hi:=Nat.le_antisymm h0 c;subst e;exact Yp ⟨rfl,lo,rfl,hn,t,u⟩
  .have c:lo<hi:=XU c;obtain⟨m,em,m0,m1⟩:∃m,lo+(hi-lo) / 2=m/\lo<=m/\m<hi:=⟨_,rfl,ZX _ _,Nat.add_lt_of_lt_sub' (Nat.div_lt_self (Nat.sub_pos_of_lt c) (by decide))⟩;have g1:hi-(m+1)<=n-(x+1):=Nat.pred_le_pred (Zh (Nat.sub_le_sub_left m0 hi) g);have g2:m-lo<=n-(x+1):=Nat.le_pred_of_lt (Zg (Nat.sub_lt_sub_right m0 m1) g);show wpS _ _ _ _ (b (lo+(hi-lo) / 2) >>= _) _ _;rw[em];refine Yo (hb (Zg m1 hn) (wi (λq=>Yp ⟨rfl,_,_,rfl,m1,hn,λi hi'=>?_,u,g1⟩) λq=>Yp ⟨rfl,_,_,rfl,m0,Zh (Zy m1) hn,t,λi h1 h2=>?_,g2⟩))
   .by_cases z:i=m
    .rw[z];exact q
    .exact mono _ _ () (Zg m1 hn) q
   .cases y:P i with
    |false=>rfl
    |true =>
     by_cases z:i=m
     .rw[z] at y;exact Zn y q
     .exact Zn (mono _ _ () h2 y) q
 .rintro c sx ⟨rfl,lo,hi,rfl,h0,hn,t,u,g⟩;rw[Nat.zero_max,Nat.sub_self] at g;have e:lo=hi:=Nat.le_antisymm h0 (Nat.le_of_sub_eq_zero (Nat.le_zero.mp g));subst e;exact⟨rfl,lo,rfl,hn,t,u⟩
 .rintro c sx ⟨rfl,m,rfl,m1,m2,m3⟩;exact Yp (h m m1 m2 m3)
theorem ga_R {hint:Nat}(hh:hint<n)(e:P hint=true):YH prog w A E s (gaR b n hint) Q st:=by
 refine Yo (Yq (Yr (I:=λx c sx=>sx=st/\∃l o,c=(none,l,o)/\l<o/\x+1<=o/\hint+l<n/\P (hint+l)=true) (Q:=λc sx=>sx=st/\∃l o,c=(none,l,o)/\l<o/\hint+l<n/\P (hint+l)=true/\(n-hint<=o\/(o<n-hint/\P (hint+o)=false))) ?_ ?_ ⟨rfl,0,1,rfl,Yu,Zf _,hh,e⟩) ?_)
 .rintro x c sx _ _ ⟨rfl,l,o,rfl,h1,h2,h3,h4⟩;refine wi (λc=>Yp ⟨rfl,l,o,rfl,h1,h3,h4,.inl c⟩) λc=>?_;have c1:o<n-hint:=XU c;have c2:hint+o<n:=()
  refine Yo (hb c2 (wi (λq=>Yp ⟨rfl,l,o,rfl,h1,h3,h4,.inr ⟨c1,by simpa using q⟩⟩) λq=>Yp ⟨rfl,o,2*o+1,rfl,(),(),c2,by simpa using q⟩))
 .rintro c sx ⟨rfl,l,o,rfl,h1,h2,h3,h4⟩;rw[Nat.zero_max] at h2;exact⟨rfl,l,o,rfl,h1,h3,h4,.inl (Zh (Nat.sub_le _ _) (Z8 h2))⟩
 .rintro c sx ⟨rfl,l,o,rfl,h1,h3,h4,h5⟩;show wpS _ _ _ _ (gaJ b n (hint+l+1) (hint+min o (n-hint))) _ _;refine bV hb mono h (Nat.add_lt_add_left (Nat.lt_min.mpr ⟨h1,Nat.lt_sub_iff_add_lt'.mpr h3⟩) hint) (Zh (Nat.add_le_add_left (Nat.min_le_right _ _) _) (XO (Nat.add_sub_of_le (Zy hh)))) (λi hi=>?_) λi h6 h7=>?_
  .by_cases z:i=hint+l
   .rw[z];exact h4
   .exact mono _ _ () h3 h4
  .rcases h5 with h5|⟨h5,h8⟩
   .omega
   .cases y:P i with
    |false=>rfl
    |true =>
     by_cases z:i=hint+o
     .rw[z,h8] at y;cases y
     .rw[mono _ _ () h7 y] at h8;cases h8
theorem ga_L {hint:Nat}(hh:hint<n)(e:P hint=false):YH prog w A E s (gaL b n hint) Q st:=by
 refine Yo (Yq (Yr (I:=λx c sx=>sx=st/\∃l o,c=(none,l,o)/\l<o/\x+1<=o/\l<=hint/\P (hint-l)=false) (Q:=λc sx=>sx=st/\∃l o,c=(none,l,o)/\l<o/\l<=hint/\P (hint-l)=false/\(hint+1<=o\/(o<hint+1/\P (hint-o)=true))) ?_ ?_ ⟨rfl,0,1,rfl,Yu,Zf _,Nat.zero_le _,e⟩) ?_)
 .rintro x c sx _ _ ⟨rfl,l,o,rfl,h1,h2,h3,h4⟩;refine wi (λc=>Yp ⟨rfl,l,o,rfl,h1,h3,h4,.inl c⟩) λc=>?_;have c1:o<hint+1:=XU c;refine Yo (hb () (wi (λq=>Yp ⟨rfl,l,o,rfl,h1,h3,h4,.inr ⟨c1,q⟩⟩) λq=>Yp ⟨rfl,o,2*o+1,rfl,(),(),Z9 c1,Xz.mpr q⟩))
 .rintro c sx ⟨rfl,l,o,rfl,h1,h2,h3,h4⟩;rw[Nat.zero_max] at h2;exact⟨rfl,l,o,rfl,h1,h3,h4,.inl (Zh hh (Z8 h2))⟩
 .rintro c sx ⟨rfl,l,o,rfl,h1,h3,h4,h5⟩;show wpS _ _ _ _ (gaJ b n (hint+1-min o (hint+1)) (hint-l)) _ _;refine bV hb mono h (Zh (Nat.sub_le_sub_left (Nat.lt_min.mpr ⟨h1,Nat.lt_succ_of_le h3⟩) (hint+1)) (XO (Nat.add_sub_add_right hint 1 l))) (Zh (Nat.sub_le _ _) (Zy hh)) (λi hi=>?_) λi h6 h7=>?_
  .rcases h5 with h5|⟨h5,h8⟩
   .omega
   .by_cases z:i=hint-o
    .rw[z];exact h8
    .exact mono _ _ () () h8
  .cases y:P i with
   |false=>rfl
   |true =>
    by_cases z:i=hint-l
    .rw[z,h4] at y;cases y
    .rw[mono _ _ () h7 y] at h4;cases h4
end
def we {left:Bool}{k:Nat}{xs:Yi}{base n hint:Nat}{Q:Option Nat->Yy}(O:Orc prog w A s kind it lt N)(kd:kindOf st=kind)(kn:k<N)(hz:base+n<=xs.size)(xn:∀i,i<n->gx xs (base+i)<N)(hh:hint<n)
 (mono:∀i j,i<j->j<n->be lt left (gx xs (base+j)) k=true->be lt left (gx xs (base+i)) k=true)
 (h:∀m,m<=n->(∀i,i<m->be lt left (gx xs (base+i)) k=true)->(∀i,m<=i->i<n->be lt left (gx xs (base+i)) k=false)->Q (some m) st):YH prog w A E s (wP left (it k) (xs.map it) base n hint) Q st:=by
 have hb:∀{i:Nat} {Q:Option Bool->Yy},i<n->Q (some (be lt left (gx xs (base+i)) k)) st->YH prog w A E s (gaB left (it k) (xs.map it) base i) Q st:=λhi q=>ga_B O kd kn (Zg (Nat.add_lt_add_left hi _) hz) (xn _ hi) q;rw[ga_eq];exact Yo (hb hh (wi (λe=>ga_R (P:=λi=>be lt left (gx xs (base+i)) k) hb mono h hh e) λe=>ga_L (P:=λi=>be lt left (gx xs (base+i)) k) hb mono h hh (Xz.mpr e)))
end
structure MInv (lt:Yd)(xs ys:Yi)(ia ib:Nat)(o:Yj):Prop where
 a:(o++xs.toList.drop ia).Pairwise (Bef lt)
 b:(o++ys.toList.drop ib).Pairwise (Bef lt)
 pm:(o++xs.toList.drop ia++ys.toList.drop ib).Perm (xs.toList++ys.toList)
def Mrg (lt:Yd)(xs ys:Yi)(o:Yj):Prop:=o.Perm (xs.toList++ys.toList)/\o.Pairwise (Bef lt)
section
def uK {ix:Yi}{i:Nat}(h:i<ix.size):ix.toList.drop i=gx ix i::ix.toList.drop (i+1):=by
 rw[ZU (by simpa using h)]
 congr 1
 unfold gx;rw[ZI h];simp
def yU {ix:Yi}{i:Nat}(h:i<ix.size):gx ix i∈ix.toList:=by
 unfold gx;rw[ZI h];simp
def iI {ix:Yi}{i x:Nat}(h:x∈ix.toList.drop i):∃j,i<=j/\j<ix.size/\x=gx ix j:=by
 obtain⟨j,hj,e⟩:=List.mem_iff_getElem.mp h;rw[X0] at hj;have hz:i+j<ix.size:=by simpa using (show i+j<ix.toList.length from ())
 refine⟨i+j,(),hz,?_⟩;rw[<- e,List.getElem_drop];unfold gx;rw[ZI hz];simp
def MInv.addA {k:Nat}(M:MInv lt xs ys ia ib o)(hb:∀c∈(xs.toList.drop ia).take k,∀y∈ys.toList.drop ib,Bef lt c y):MInv lt xs ys (ia+k) ib (o++(xs.toList.drop ia).take k):=by
 have e:xs.toList.drop ia=(xs.toList.drop ia).take k++xs.toList.drop (ia+k):=by rw[<- List.drop_drop,Xe]
 have ma:=M.a;have mb:=M.b;have mp:=M.pm;generalize (xs.toList.drop ia).take k=c at e hb;rw[e] at ma mp;rw[<- ZJ] at ma mp;refine⟨ma,?_,mp⟩;rw[Xd] at ma mb ⊢;refine⟨ma.1,mb.2.1,λx hx y hy=>?_⟩;rcases ZL.mp hx with z|z
 .exact mb.2.2 x z y hy
 .exact hb x z y hy
def MInv.addB {k:Nat}(M:MInv lt xs ys ia ib o)(hb:∀c∈(ys.toList.drop ib).take k,∀x∈xs.toList.drop ia,Bef lt c x):MInv lt xs ys ia (ib+k) (o++(ys.toList.drop ib).take k):=by
 have e:ys.toList.drop ib=(ys.toList.drop ib).take k++ys.toList.drop (ib+k):=by rw[<- List.drop_drop,Xe]
 have ma:=M.a;have mb:=M.b;have mp:=M.pm;generalize (ys.toList.drop ib).take k=c at e hb;rw[e] at mb mp;rw[<- ZJ] at mb;refine⟨?_,mb,?_⟩
 .rw[Xd] at ma mb ⊢;refine⟨mb.1,ma.2.1,λx hx y hy=>?_⟩;rcases ZL.mp hx with z|z
  .exact ma.2.2 x z y hy
  .exact hb x z y hy
 .refine List.Perm.trans ?_ mp;rw[ZJ,ZJ,ZJ];refine List.Perm.append_left _ ?_;rw[<- ZJ,<- ZJ];exact List.Perm.append_right _ List.perm_append_comm
def MInv.doneA (M:MInv lt xs ys ia ib o)(h:ys.size<=ib):Mrg lt xs ys (o++xs.toList.drop ia++ys.toList.drop ib):=by
 have e:ys.toList.drop ib=[]:=Xy (by simpa using h);refine⟨M.pm,?_⟩;rw[e,Zz];exact M.a
def MInv.doneB (M:MInv lt xs ys ia ib o)(h:xs.size<=ia):Mrg lt xs ys (o++xs.toList.drop ia++ys.toList.drop ib):=by
 have e:xs.toList.drop ia=[]:=Xy (by simpa using h);refine⟨M.pm,?_⟩;rw[e,Zz];exact M.b
def MInv.last (M:MInv lt xs ys ia ib o)(h:ia+1=xs.size)(hl:∀y∈ys.toList,Bef lt y (gx xs ia)):Mrg lt xs ys (o++ys.toList.drop ib++xs.toList.drop ia):=by
 have e:xs.toList.drop ia=[gx xs ia]:=by
  rw[uK (),Xy (by simpa using (show xs.size<=ia+1 from ()))]
 have ma:=M.a;have mb:=M.b;refine⟨List.Perm.trans ?_ M.pm,?_⟩
 .rw[ZJ,ZJ];exact List.Perm.append_left _ List.perm_append_comm
 .rw[e] at ma ⊢;rw[Xd] at ma ⊢;refine⟨mb,Xu _ _,λx hx y hy=>?_⟩;rw[ZF.mp hy];rcases ZL.mp hx with z|z
  .exact ma.2.2 x z _ (ZF.mpr rfl)
  .exact hl x (List.mem_of_mem_drop z)
def MInv.one (W:Wk lt)(M:MInv lt xs ys ia ib o)(hib:ib<ys.size)(hia:ia<xs.size)(q:lt (gx ys ib) (gx xs ia)=true):MInv lt xs ys ia (ib+1) (o++[gx ys ib]):=by
 have e:(ys.toList.drop ib).take 1=[gx ys ib]:=by rw[uK hib];rfl
 have:=M.addB (k:=1) λc hc x hx=>by
  rw[e] at hc;rw[ZF.mp hc];have hs:=(Xd.mp M.a).2.1;rw[uK hia] at hx hs;rcases ZD.mp hx with z|z
  .rw[z];exact .inl q
  .exact Bef.trans W (.inl q) ((Z5.mp hs).1 x z)
 rw[e] at this;exact this
def MInv.two (W:Wk lt)(hxy:∀x∈xs.toList,∀y∈ys.toList,x<y)(M:MInv lt xs ys ia ib o)(hib:ib<ys.size)(hia:ia<xs.size)(q:lt (gx ys ib) (gx xs ia)=false):MInv lt xs ys (ia+1) ib (o++[gx xs ia]):=by
 have e:(xs.toList.drop ia).take 1=[gx xs ia]:=by rw[uK hia];rfl
 have r:Bef lt (gx xs ia) (gx ys ib):=.inr ⟨q,hxy _ (yU hia) _ (yU hib)⟩;have:=M.addA (k:=1) λc hc y hy=>by
  rw[e] at hc;rw[ZF.mp hc];have hs:=(Xd.mp M.b).2.1;rw[uK hib] at hy hs;rcases ZD.mp hy with z|z
  .rw[z];exact r
  .exact Bef.trans W r ((Z5.mp hs).1 y z)
 rw[e] at this;exact this
end
noncomputable def ar (it:Nat->Keyed)(o:Yj):Array Keyed:=(o.map it).toArray
section
def jE {x:Nat}:(ar it o).push (it x)=ar it (o++[x]):=by simp[ar]
def qf:(xs.map it).extract i j=ar it ((xs.toList.take j).drop i):=by
 apply Array.ext';simp only[ar,Array.toList_extract,Array.toList_map,List.extract_eq_drop_take,List.map_drop,List.map_take,List.drop_take]
def qw {p:Yj}:ar it o++ar it p=ar it (o++p):=by simp[ar]
def f8:(ar it o).reverse=ar it o.reverse:=by simp[ar]
def mW {x:Nat} : #[it x]=ar it [x]:=by simp[ar]
def cut_k:(xs.toList.take (i+k)).drop i=(xs.toList.drop i).take k:=by rw[List.drop_take];congr 1;omega
def hV:(xs.toList.take xs.size).drop i=xs.toList.drop i:=by rw[Z4 (by simp)]
def bL:ar it o++(xs.map it).extract i xs.size++(ys.map it).extract j ys.size=ar it (o++xs.toList.drop i++ys.toList.drop j):=by
 rw[qf,qf,hV,hV,qw,qw]
def kL (h:xs.toList.Pairwise R)(ij:i<j)(hj:j<xs.size):R (gx xs i) (gx xs j):=by
 have:=ZZ.mp h i j (by simp;omega) (by simpa using hj) ij;unfold gx;rw[ZI (),ZI hj];simpa using this
def mF {x:Nat}(h:x∈(xs.toList.drop i).take k):∃j,j<k/\i+j<xs.size/\x=gx xs (i+j):=by
 obtain⟨j,hj,e⟩:=List.mem_iff_getElem.mp h;rw[ZV,X0] at hj;have hz:i+j<xs.size:=by simpa using (show i+j<xs.toList.length from ())
 refine⟨j,(),hz,?_⟩;rw[<- e,List.getElem_take,List.getElem_drop];unfold gx;rw[ZI hz];simp
end
structure SEq (s t:SortSt):Prop where
 arr:arrOf t=arrOf s
 kd:kindOf t=kindOf s
 fl:failedOf t=failedOf s
 pd:pendingOf t=pendingOf s
def SEq.refl (s:SortSt):SEq s s:=⟨rfl,rfl,rfl,rfl⟩
theorem SEq.trans {s t u:SortSt}(h:SEq s t)(k:SEq t u):SEq s u:=⟨k.arr.trans h.arr,k.kd.trans h.kd,k.fl.trans h.fl,k.pd.trans h.pd⟩
section
variable (W:Wk lt)
include W
theorem eB {k:Nat}(px:xs.toList.Pairwise (Bef lt)){n:Nat}(hn:ia+n<=xs.size):∀i j,i<j->j<n->be lt false (gx xs (ia+j)) k=true->be lt false (gx xs (ia+i)) k=true:=λi j ij jn h=>by
 have b:=Bef.no W (kL px (show ia+i<ia+j from ()) ());have h:(!lt k (gx xs (ia+j)))=true:=h;show(!lt k (gx xs (ia+i)))=true;cases q:lt k (gx xs (ia+i)) with
 |false=>rfl
 |true =>
  rcases W.neg _ (gx xs (ia+j)) _ q with z|z
  .rw[z] at h;cases h
  .rw[b] at z;cases z
theorem fX {k:Nat}(px:xs.toList.Pairwise (Bef lt)){n:Nat}(hn:ia+n<=xs.size):∀i j,i<j->j<n->be lt true (gx xs (ia+j)) k=true->be lt true (gx xs (ia+i)) k=true:=λi j ij jn h=>by
 have b:=Bef.no W (kL px (show ia+i<ia+j from ()) ());have h:lt (gx xs (ia+j)) k=true:=h;show lt (gx xs (ia+i)) k=true;rcases W.neg _ (gx xs (ia+i)) _ h with z|z
 .rw[b] at z;cases z
 .exact z
theorem MInv.galA (hxy:∀x∈xs.toList,∀y∈ys.toList,x<y)(py:ys.toList.Pairwise (Bef lt))(M:MInv lt xs ys ia ib o)(hb:ib<ys.size)(h:∀i,i<m->be lt false (gx xs (ia+i)) (gx ys ib)=true):MInv lt xs ys (ia+m) ib (o++(xs.toList.drop ia).take m):=by
 refine M.addA λc hc y hy=>?_;obtain⟨j,hj,hz,rfl⟩:=mF hc;obtain⟨l,l1,l2,rfl⟩:=iI hy;have q:(!lt (gx ys ib) (gx xs (ia+j)))=true:=h j hj;have q:lt (gx ys ib) (gx xs (ia+j))=false:=by simpa using q
 have r:Bef lt (gx xs (ia+j)) (gx ys ib):=.inr ⟨q,hxy _ (yU hz) _ (yU hb)⟩;by_cases z:ib=l
 .rw[<- z];exact r
 .exact Bef.trans W r (kL py () l2)
theorem MInv.galB (px:xs.toList.Pairwise (Bef lt))(M:MInv lt xs ys ia ib o)(ha:ia<xs.size)(h:∀i,i<m->be lt true (gx ys (ib+i)) (gx xs ia)=true):MInv lt xs ys ia (ib+m) (o++(ys.toList.drop ib).take m):=by
 refine M.addB λc hc y hy=>?_;obtain⟨j,hj,hz,rfl⟩:=mF hc;obtain⟨l,l1,l2,rfl⟩:=iI hy;have r:Bef lt (gx ys (ib+j)) (gx xs ia):=.inl (h j hj);by_cases z:ia=l
 .rw[<- z];exact r
 .exact Bef.trans W r (kL px () l2)
end
section
structure MH (lt:Yd)(N:Nat)(xs ys:Yi):Prop where
 W:Wk lt
 xn:∀x∈xs.toList,x<N
 yn:∀y∈ys.toList,y<N
 hxy:∀x∈xs.toList,∀y∈ys.toList,x<y
 px:xs.toList.Pairwise (Bef lt)
 py:ys.toList.Pairwise (Bef lt)
abbrev G7 (α β γ: Type):=Option KA × α × β × γ × Nat×Nat×Nat
abbrev G6 (α β γ: Type):=Option KA × α × β × γ × Nat×Nat
abbrev G5 (α β γ: Type):=Option KA × α × β × γ × Nat
noncomputable def gn:Nat->SM PUnit:=sortPriv% PySem.Builtin.setMinGallop
def nL {m:Nat}{st0:SortSt}{Q:PUnit->Yy}(se:SEq st0 st)(h:∀s',SEq st0 s'->Q ⟨⟩ s'):YH prog w A E s (gn m) Q st:=wpS_modify (h _ (se.trans ⟨rfl,rfl,rfl,rfl⟩))
section
variable {α β γ: Type}(n:Nat)(f:Nat -> α -> β -> γ -> Nat->Nat->SM (ForInStep (G6 α β γ)))(k:α -> β -> γ -> Nat->Nat->Nat->SM (ForInStep (G7 α β γ)))
def mC (c:G7 α β γ):SM (ForInStep (G5 α β γ)):=match c.1 with
 |some r=>pure (.done (some r,c.2.1,c.2.2.1,c.2.2.2.1,c.2.2.2.2.1))
 |none=>gn (c.2.2.2.2.1+1) >>= λ_=>pure (.yield (none,c.2.1,c.2.2.1,c.2.2.2.1,c.2.2.2.2.1+1))
noncomputable def m2 (x:α)(y:β)(z:γ)(mg ac bc:Nat):SM (ForInStep (G7 α β γ)):=if mg > 1 then k x y z ac bc (mg-1) else k x y z ac bc mg
noncomputable def mB (mg:Nat)(c:G6 α β γ):SM (ForInStep (G5 α β γ)):=match c.1 with
 |some r=>pure (.done (some r,c.2.1,c.2.2.1,c.2.2.2.1,mg))
 |none=>(liftM (rule "list.sort.gallop"):SM PUnit) >>= λ_=>(forIn [:n] ((none,c.2.1,c.2.2.1,c.2.2.2.1,mg+1,c.2.2.2.2.1,c.2.2.2.2.2):G7 α β γ) λ_ c=>m2 k c.2.1 c.2.2.1 c.2.2.2.1 c.2.2.2.2.1 c.2.2.2.2.2.1 c.2.2.2.2.2.2) >>= mC
noncomputable def mA (c:G5 α β γ):SM (ForInStep (G5 α β γ)):=
 (forIn [:n] ((none,c.2.1,c.2.2.1,c.2.2.2.1,0,0):G6 α β γ) λ_ d=>f c.2.2.2.2 d.2.1 d.2.2.1 d.2.2.2.1 d.2.2.2.2.1 d.2.2.2.2.2) >>= mB n k c.2.2.2.2
noncomputable def mT (x:α)(y:β)(z:γ):SM KA:=get >>= λs=>(forIn [:n] ((none,x,y,z,gallopOf s):G5 α β γ) λ_ c=>mA n f k c) >>= λc=>match c.1 with
 |some r=>pure r
 |none=>liftM (unsupported "internal:list.sort.merge-bound")
variable {n f k}{P:Nat -> α -> β -> γ -> Prop}{D:KA->Prop}
structure MR (P:α -> β -> γ -> Prop)(D:KA->Prop)(st0:SortSt)(R:ForInStep (G7 α β γ)->Yy):Prop where
 dn:∀{v t sy},SEq st0 sy->D v->R (.done (some v,t)) sy
 go:∀{x y z mg ac bc sy},SEq st0 sy->P x y z->R (.done (none,x,y,z,mg,ac,bc)) sy/\R (.yield (none,x,y,z,mg,ac,bc)) sy
def m_2 {x:α}{y:β}{z:γ}{mg ac bc:Nat}{R:ForInStep (G7 α β γ)->Yy}(h:∀mg,YH prog w A E s (k x y z ac bc mg) R st):YH prog w A E s (m2 k x y z mg ac bc) R st:=wi (λ_=>h _) λ_=>h _
def m_T {x:α}{y:β}{z:γ}{Q:KA->Yy}(kd:kindOf st=kind)(p0:P 1 x y z)(n1:∀{g x y z},P g x y z->1<=n/\g<=n)(le:∀{g g' x y z},P g x y z->g'<=g->P g' x y z)
 (h1:∀{g mg x y z ac bc st} {R:ForInStep (G6 α β γ)->Yy},kindOf st=kind->P g x y z->(∀{v t},D v->R (.done (some v,t)) st)->(∀{x y z ac bc},P (g+1) x y z->R (.done (none,x,y,z,ac,bc)) st/\R (.yield (none,x,y,z,ac,bc)) st)->YH prog w A E s (f mg x y z ac bc) R st)
 (h2:∀{g x y z ac bc mg st' R},MR (P g) D st R->SEq st st'->P g x y z->YH prog w A E s (k x y z ac bc mg) R st')
 (h:∀{v st'},SEq st st'->D v->Q v st'):YH prog w A E s (mT n f k x y z) Q st:=by
 refine Yo (wpS_get (Yo (Yq (Yr (I:=λg c sx=>SEq st sx/\c.1=none/\P (g+1) c.2.1 c.2.2.1 c.2.2.2.1) (Q:=λc sx=>SEq st sx/\∃v,D v/\c.1=some v) ?_ ?_ ⟨.refl _,rfl,p0⟩) ?_)))
 .rintro g c sx _ _ ⟨se,_,p⟩;refine Yo (Yq (Yr (I:=λy c sy=>sy=sx/\c.1=none/\P (g+1+y) c.2.1 c.2.2.1 c.2.2.2.1) (Q:=λc sy=>sy=sx/\((∃v,D v/\c.1=some v)\/c.1=none/\P (g+2) c.2.1 c.2.2.1 c.2.2.2.1)) ?_ ?_ ⟨rfl,rfl,p⟩) ?_)
  .rintro y c sy _ _ ⟨rfl,_,p⟩;exact h1 (se.kd.trans kd) p (λd=>⟨rfl,.inl ⟨_,d,rfl⟩⟩) λp=>⟨⟨rfl,.inr ⟨rfl,le p ()⟩⟩,rfl,rfl,p⟩
  .rintro c sy ⟨rfl,e,p⟩;exact⟨rfl,.inr ⟨e,le p (by have:=(n1 p).1;omega)⟩⟩
  .rintro c sy ⟨rfl,⟨v,d,e⟩|⟨e,p⟩⟩
   .unfold mB;rw[e];exact Yp ⟨se,v,d,rfl⟩
   .unfold mB;rw[e];refine Yo (wpS_lift (wpAny_rule ⟨rfl,?_⟩));refine Yo (Yq (Yr (I:=λ_ c sy=>SEq st sy/\c.1=none/\P (g+2) c.2.1 c.2.2.1 c.2.2.2.1) (Q:=λc sy=>SEq st sy/\((∃v,D v/\c.1=some v)\/c.1=none/\P (g+2) c.2.1 c.2.2.1 c.2.2.2.1)) ?_ (λc sy h=>⟨h.1,.inr h.2⟩) ⟨se,rfl,p⟩) ?_)
    .rintro y c sy _ _ ⟨se,_,p⟩;exact m_2 λ_=>h2 ⟨λse d=>⟨se,.inl ⟨_,d,rfl⟩⟩,λse p=>⟨⟨se,.inr ⟨rfl,p⟩⟩,se,rfl,p⟩⟩ se p
    .rintro c sy ⟨se,⟨v,d,e⟩|⟨e,p⟩⟩
     .unfold mC;rw[e];exact Yp ⟨se,v,d,rfl⟩
     .unfold mC;rw[e];exact Yo (nL se λsy se=>Yp ⟨se,rfl,p⟩)
 .rintro c sx ⟨_,_,p⟩;have:=(n1 p).2;omega
 .rintro c sx ⟨se,v,d,e⟩;rw[e];exact Yp (h se d)
end
def sz {xs:Yi}:(xs.map it).size=xs.size:=Z0
def bz {xs:Yi}{p:Nat}(h:(p == (xs.map it).size)=true):p=xs.size:=(Ys.mp h).trans sz
def nz {xs:Yi}{p:Nat}(h:¬(p == (xs.map it).size)=true):p≠xs.size:=λe=>h (Ys.mpr (e.trans sz.symm))
def psh {v:KA}{o:Yj}{x:Nat}(e:v=ar it o):v.push (it x)=ar it (o++[x]):=by rw[e,jE]
def cr {xs:Yi}{v:KA}{o:Yj}{i k:Nat}(e:v=ar it o):v++(xs.map it).extract i (i+k)=ar it (o++(xs.toList.drop i).take k):=by rw[e,qf,cut_k,qw]
def MD (lt:Yd)(it:Nat->Keyed)(xs ys:Yi)(v:KA):Prop:=∃o,Mrg lt xs ys o/\v=ar it o
abbrev L7:=G7 KA Nat Nat
noncomputable def loD (a b o:KA)(i j:Nat):KA:=o++a.extract i a.size++b.extract j b.size
noncomputable def loL (a b o:KA)(i j:Nat):KA:=o++b.extract j b.size++a.extract i a.size
def lo7 (a b:KA)(mg ac bc i:Nat)(o:KA)(j:Nat):SM (ForInStep L7):=
 elem' a i >>= λx=>if(i+1+1 == a.size)=true then pure (.done (some (loL a b (o.push x) (i+1) j),o.push x,i+1,j,mg,ac,bc))
  else if(decide (ac<7)&&decide (bc<7))=true then pure (.done (none,o.push x,i+1,j,mg,ac,bc)) else pure (.yield (none,o.push x,i+1,j,mg,ac,bc))
def lo6 (a b:KA)(mg ac i:Nat)(o:KA)(j k:Nat):SM (ForInStep L7):=
 if k > 0 then if(j+k == b.size)=true then pure (.done (some (loD a b (o++b.extract j (j+k)) i (j+k)),o++b.extract j (j+k),i,j+k,mg,ac,k))
  else lo7 a b mg ac k i (o++b.extract j (j+k)) (j+k) else lo7 a b mg ac k i o j
def lo5 (a b:KA)(mg ac bc j:Nat)(o:KA)(i:Nat):SM (ForInStep L7):=
 elem' b j >>= λx=>if(j+1 == b.size)=true then pure (.done (some (loD a b (o.push x) i (j+1)),o.push x,i,j+1,mg,ac,bc))
  else elem' a i >>= λy=>wP true y b (j+1) (b.size-(j+1)) 0 >>= λr=>match r with
   |some k=>lo6 a b mg ac i (o.push x) (j+1) k
   |_=>pure (.done (some (loD a b (o.push x) i (j+1)),o.push x,i,j+1,mg,ac,bc))
def lo4 (a b:KA)(bc j:Nat)(o:KA)(i mg k:Nat):SM (ForInStep L7):=
 if k > 0 then if(i+k+1 == a.size)=true then pure (.done (some (loL a b (o++a.extract i (i+k)) (i+k) j),o++a.extract i (i+k),i+k,j,mg,k,bc))
  else if(i+k == a.size)=true then pure (.done (some (loD a b (o++a.extract i (i+k)) (i+k) j),o++a.extract i (i+k),i+k,j,mg,k,bc))
  else lo5 a b mg k bc j (o++a.extract i (i+k)) (i+k) else lo5 a b mg k bc j o i
def lo3 (a b o:KA)(i j ac bc mg:Nat):SM (ForInStep L7):=
 gn mg >>= λ_=>elem' b j >>= λx=>wP false x a i (a.size-i) 0 >>= λr=>match r with
  |some k=>lo4 a b bc j o i mg k
  |_=>pure (.done (some (loD a b o i j),o,i,j,mg,ac,bc))
def lo1 (a b:KA)(mg:Nat)(o:KA)(i j ac bc:Nat):SM (ForInStep (G6 KA Nat Nat)):=
 elem' b j >>= λx=>elem' a i >>= λy=>lt' x y >>= λr=>match r with
  |some t=>if t=true then elem' b j >>= λx=>if(j+1 == b.size)=true then pure (.done (some (loD a b (o.push x) i (j+1)),o.push x,i,j+1,0,bc+1))
   else if bc+1 ≥ mg then pure (.done (none,o.push x,i,j+1,0,bc+1)) else pure (.yield (none,o.push x,i,j+1,0,bc+1))
   else elem' a i >>= λx=>if(i+1+1 == a.size)=true then pure (.done (some (loL a b (o.push x) (i+1) j),o.push x,i+1,j,ac+1,0))
    else if ac+1 ≥ mg then pure (.done (none,o.push x,i+1,j,ac+1,0)) else pure (.yield (none,o.push x,i+1,j,ac+1,0))
  |_=>pure (.done (some (loD a b o i j),o,i,j,ac,bc))
set_option smartUnfolding false in
def lo_eq {a b:KA}:qH a b=((liftM (rule "list.sort.merge-lo"):SM PUnit) >>= λ_=>elem' b 0 >>= λx=>if(1 == b.size)=true then pure (loD a b #[x] 0 1) else if(0+1 == a.size)=true then pure (loL a b #[x] 0 1)
 else mT (a.size+b.size) (lo1 a b) (lo3 a b) #[x] 0 1):=rfl
end
structure LI (lt:Yd)(xs ys:Yi)(g i j:Nat)(o:Yj):Prop where
 M:MInv lt xs ys i j o
 a:i+1<xs.size
 b:j<ys.size
 g:g<=i+j
noncomputable def LP (lt:Yd)(it:Nat->Keyed)(xs ys:Yi)(g:Nat)(v:KA)(i j:Nat):Prop:=∃o,LI lt xs ys g i j o/\v=ar it o
section
variable {R:ForInStep L7->Yy}
def pV (e:v=ar it o):loD (xs.map it) (ys.map it) v i j=ar it (o++xs.toList.drop i++ys.toList.drop j):=by
 unfold loD;rw[sz,sz,e,bL]
def lN (e:v=ar it o):loL (xs.map it) (ys.map it) v i j=ar it (o++ys.toList.drop j++xs.toList.drop i):=by
 unfold loL;rw[sz,sz,e,bL]
variable (lst:∀y∈ys.toList,Bef lt y (gx xs (xs.size-1)))
include lst
theorem lsA (M:MInv lt xs ys i j o)(z:i+1=xs.size):Mrg lt xs ys (o++ys.toList.drop j++xs.toList.drop i):=M.last z (by rw[show i=xs.size-1 by omega];exact lst)
variable (H:MH lt N xs ys)(L:LI lt xs ys g i j o)(e:v=ar it o)
include H L e
section
variable (C:MR (LP lt it xs ys g) (MD lt it xs ys) st0 R)(se:SEq st0 st)
include C se
theorem bO (q:lt (gx ys j) (gx xs i)=false):YH prog w A E s (lo7 (xs.map it) (ys.map it) mg ac bc i v j) R st:=by
 have a:=Xr L.a;refine Yo (xP a ?_);have M2:=L.M.two H.W H.hxy L.b a q;refine wi (λz=>Yp (C.dn se ⟨_,lsA lst M2 (bz z),lN (psh e)⟩)) λz=>?_;have L2:=C.go (mg:=mg) (ac:=ac) (bc:=bc) se ⟨_,⟨M2,Xo L.a (nz z),L.b,by have:=L.g;omega⟩,psh e⟩;exact wi (λ_=>Yp L2.1) λ_=>Yp L2.2
theorem lo_6 (k2:j+k<=ys.size)(k3:∀m,m<k->be lt true (gx ys (j+m)) (gx xs i)=true)(q:j+k<ys.size->lt (gx ys (j+k)) (gx xs i)=false):YH prog w A E s (lo6 (xs.map it) (ys.map it) mg ac i v j k) R st:=by
 refine wi (λk0=>?_) λk0=>?_
 .have M4:=L.M.galB H.W H.px (Xr L.a) k3;refine wi (λz=>Yp (C.dn se ⟨_,M4.doneA (XO (bz z).symm),pV (cr e)⟩)) λz=>?_;have b:j+k<ys.size:=Xo k2 (nz z);exact bO lst H ⟨M4,L.a,b,by have:=L.g;omega⟩ (cr e) C se (q b)
 .have e0:k=0:=Nat.eq_zero_of_not_pos k0;subst e0;exact bO lst H L e C se (q L.b)
variable (O:Orc prog w A s kind it lt N)(kd:kindOf st0=kind)
include O kd
theorem bR (q:lt (gx ys j) (gx xs i)=true):YH prog w A E s (lo5 (xs.map it) (ys.map it) mg ac bc j v i) R st:=by
 have a:=Xr L.a;refine Yo (xP L.b ?_);have M3:=L.M.one H.W L.b a q;refine wi (λz=>Yp (C.dn se ⟨_,M3.doneA (XO (bz z).symm),pV (psh e)⟩)) λz=>?_;have b:j+1<ys.size:=Xo L.b (nz z);have z:(ys.map it).size=ys.size:=sz;refine Yo (xP a (Yo (we O (se.kd.trans kd) (H.xn _ (yU a)) () (λi hi=>H.yn _ (yU ())) () (fX H.W H.py ()) λk k2 k3 k4=>?_)));exact lo_6 lst H ⟨M3,L.a,b,by have:=L.g;omega⟩ (psh e) C se () k3 λy=>k4 k (Zf _) ()
theorem lo_3:YH prog w A E s (lo3 (xs.map it) (ys.map it) v i j ac bc mg) R st:=by
 have a:=L.a;have z:(xs.map it).size=xs.size:=sz;refine Yo (nL se λst se=>Yo (xP L.b (Yo (we O (se.kd.trans kd) (H.yn _ (yU L.b)) () (λi hi=>H.xn _ (yU ())) () (eB H.W H.px ()) λk k2 k3 k4=>?_))));have q:i+k<xs.size->lt (gx ys j) (gx xs (i+k))=true:=λhz=>by
  have:(!lt (gx ys j) (gx xs (i+k)))=false:=k4 k (Zf _) ();simpa using this
 refine wi (λk0=>?_) λk0=>?_
 .have M2:=L.M.galA H.W H.hxy H.py L.b k3;refine wi (λz=>Yp (C.dn se ⟨_,lsA lst M2 (bz z),lN (cr e)⟩)) λz1=>wi (λz=>Yp (C.dn se ⟨_,M2.doneB (XO (bz z).symm),pV (cr e)⟩)) λz2=>?_;have z1:=nz z1;have z2:=nz z2;exact bR lst H ⟨M2,(),L.b,by have:=L.g;omega⟩ (cr e) C se O kd (q ())
 .have e0:k=0:=Nat.eq_zero_of_not_pos k0;subst e0;exact bR lst H L e C se O kd (q (Xr a))
end
theorem lo_1 {R:ForInStep (G6 KA Nat Nat)->Yy}(O:Orc prog w A s kind it lt N)(kd:kindOf st=kind)(dn:∀{v t},MD lt it xs ys v->R (.done (some v,t)) st)(go:∀{v i j ac bc},LP lt it xs ys (g+1) v i j->R (.done (none,v,i,j,ac,bc)) st/\R (.yield (none,v,i,j,ac,bc)) st):
 YH prog w A E s (lo1 (xs.map it) (ys.map it) mg v i j ac bc) R st:=by
 have a:=Xr L.a;refine Yo (xP L.b (Yo (xP a (Yo (pW O kd (H.yn _ (yU L.b)) (H.xn _ (yU a)) ?_)))));refine wi (λq=>Yo (xP L.b ?_)) λq=>Yo (xP a ?_)
 .have M2:=L.M.one H.W L.b a q;refine wi (λz=>Yp (dn ⟨_,M2.doneA (XO (bz z).symm),pV (psh e)⟩)) λz=>?_;have L2:=go (ac:=0) (bc:=bc+1) ⟨_,⟨M2,L.a,Xo L.b (nz z),Nat.succ_le_succ L.g⟩,psh e⟩;exact wi (λ_=>Yp L2.1) λ_=>Yp L2.2
 .have M2:=L.M.two H.W H.hxy L.b a (Xz.mpr q);refine wi (λz=>Yp (dn ⟨_,lsA lst M2 (bz z),lN (psh e)⟩)) λz=>?_;have L2:=go (ac:=ac+1) (bc:=0) ⟨_,⟨M2,Xo L.a (nz z),L.b,by have:=L.g;omega⟩,psh e⟩;exact wi (λ_=>Yp L2.1) λ_=>Yp L2.2
end
section
def sl_mergeLo {Q:Array Keyed->Yy}(H:MH lt N xs ys)(O:Orc prog w A s kind it lt N)(kd:kindOf st=kind)(x1:1<=xs.size)(y1:1<=ys.size)(fst:lt (gx ys 0) (gx xs 0)=true)(lst:∀y∈ys.toList,Bef lt y (gx xs (xs.size-1)))
 (h:∀o st',SEq st st'->Mrg lt xs ys o->Q (ar it o) st'):YH prog w A E s (qH (xs.map it) (ys.map it)) Q st:=by
 have M1:MInv lt xs ys 0 1 [gx ys 0]:=(MInv.one (o:=[]) (ia:=0) (ib:=0) H.W ⟨H.px,H.py,List.Perm.refl _⟩ y1 x1 fst);rw[lo_eq];refine Yo (wpS_lift (wpAny_rule ⟨rfl,Yo (xP y1 ?_)⟩));refine wi (λz=>?_) λz1=>wi (λz=>?_) λz2=>?_
 .rw[pV mW];exact Yp (h _ _ (.refl _) (M1.doneA (XO (bz z).symm)))
 .rw[lN mW];exact Yp (h _ _ (.refl _) (lsA lst M1 (bz z)))
 have z1:=nz z1;have z2:=nz z2;have L1:LI lt xs ys 1 0 1 [gx ys 0]:=⟨M1,(),(),()⟩;have e1:(xs.map it).size=xs.size:=sz;have e2:(ys.map it).size=ys.size:=sz;exact m_T (P:=LP lt it xs ys) (D:=MD lt it xs ys) kd ⟨_,L1,mW⟩ (λzh=>by
  obtain⟨_,L,_⟩:=zh;have:=L.a;have:=L.b;have:=L.g;omega) (λ⟨o,L,e⟩ h=>⟨o,⟨L.M,L.a,L.b,Zh h L.g⟩,e⟩) (λkd ⟨_,L,e⟩ dn go=>lo_1 lst H L e O kd dn go) (λC se ⟨_,L,e⟩=>lo_3 lst H L e C se O kd) λse ⟨o,m,e⟩=>by rw[e];exact h o _ se m
end
structure MInvH (lt:Yd)(xs ys:Yi)(na nb:Nat)(o:Yj):Prop where
 a:(xs.toList.take na++o).Pairwise (Bef lt)
 b:(ys.toList.take nb++o).Pairwise (Bef lt)
 pm:(xs.toList.take na++ys.toList.take nb++o).Perm (xs.toList++ys.toList)
section
def arH_push {x:Nat}:(ar it o.reverse).push (it x)=ar it (x::o).reverse:=by rw[jE,List.reverse_cons]
def arH_app {p:Yj}:ar it o.reverse++(ar it p).reverse=ar it (p++o).reverse:=by rw[f8,qw,List.reverse_append]
def finH:(xs.map it).extract 0 i++(ys.map it).extract 0 j++(ar it o.reverse).reverse=ar it (xs.toList.take i++ys.toList.take j++o):=by
 rw[qf,qf,f8,List.reverse_reverse,qw,qw];rfl
def io (h:i<=j):xs.toList.take j=xs.toList.take i++(xs.toList.take j).drop i:=by
 conv=>lhs;rw[<- Xe i (xs.toList.take j)]
 rw[List.take_take,XS h]
def jN {x:Nat}(h:x∈(xs.toList.take j).drop i):∃l,i<=l/\l<j/\l<xs.size/\x=gx xs l:=by
 obtain⟨m,hm,e⟩:=List.mem_iff_getElem.mp h;rw[X0,ZV] at hm;have hz:i+m<xs.size:=by simpa using (show i+m<xs.toList.length from ())
 refine⟨i+m,(),(),hz,?_⟩;rw[<- e,List.getElem_drop,List.getElem_take];unfold gx;rw[ZI hz];simp
def mh (h:j<=xs.size)(h1:1<=j):(xs.toList.take j).drop (j-1)=[gx xs (j-1)]:=by
 have hz:j-1<xs.size:=()
 have e:j=j-1+1:=()
 rw[List.drop_take,uK hz,show j-(j-1)=1 by omega];rfl
def fR {x:Nat}(h:x∈xs.toList.take j):∃l,l<j/\l<xs.size/\x=gx xs l:=by
 obtain⟨l,_,l2,l3,l4⟩:=jN (i:=0) (j:=j) (xs:=xs) (x:=x) (by simpa using h);exact⟨l,l2,l3,l4⟩
end
section
def MInvH.addA (M:MInvH lt xs ys na nb o)(hm:m<=na)(hb:∀c∈(xs.toList.take na).drop m,∀y∈ys.toList.take nb,Bef lt y c):MInvH lt xs ys m nb ((xs.toList.take na).drop m++o):=by
 have e:=io (xs:=xs) hm;have ma:=M.a;have mb:=M.b;have mp:=M.pm;generalize (xs.toList.take na).drop m=c at e hb;rw[e] at ma mp;rw[ZJ] at ma;refine⟨ma,?_,?_⟩
 .rw[Xd] at ma mb ⊢;refine⟨mb.1,ma.2.1,λy hy x hx=>?_⟩;rcases ZL.mp hx with z|z
  .exact hb x z y hy
  .exact mb.2.2 y hy x z
 .refine List.Perm.trans ?_ mp;rw[ZJ,ZJ,ZJ];refine List.Perm.append_left _ ?_;rw[<- ZJ,<- ZJ];exact List.Perm.append_right _ List.perm_append_comm
def MInvH.addB (M:MInvH lt xs ys na nb o)(hm:m<=nb)(hb:∀c∈(ys.toList.take nb).drop m,∀x∈xs.toList.take na,Bef lt x c):MInvH lt xs ys na m ((ys.toList.take nb).drop m++o):=by
 have e:=io (xs:=ys) hm;have ma:=M.a;have mb:=M.b;have mp:=M.pm;generalize (ys.toList.take nb).drop m=c at e hb;rw[e] at mb mp;rw[ZJ] at mb;refine⟨?_,mb,?_⟩
 .rw[Xd] at ma mb ⊢;refine⟨ma.1,mb.2.1,λy hy x hx=>?_⟩;rcases ZL.mp hx with z|z
  .exact hb x z y hy
  .exact ma.2.2 y hy x z
 .refine List.Perm.trans ?_ mp;rw[ZJ,ZJ,ZJ]
def MInvH.doneA (M:MInvH lt xs ys na nb o)(h:na=0):Mrg lt xs ys (xs.toList.take na++ys.toList.take nb++o):=by
 refine⟨M.pm,?_⟩;rw[h,List.take_zero,List.nil_append];exact M.b
def MInvH.doneB (M:MInvH lt xs ys na nb o)(h:nb=0):Mrg lt xs ys (xs.toList.take na++ys.toList.take nb++o):=by
 refine⟨M.pm,?_⟩;rw[h,List.take_zero,Zz];exact M.a
def MInvH.first (M:MInvH lt xs ys na nb o)(h:nb=1)(y1:1<=ys.size)(hl:∀x∈xs.toList,Bef lt (gx ys 0) x):Mrg lt xs ys (ys.toList.take nb++xs.toList.take na++o):=by
 have ma:=M.a;have mb:=M.b;have e:ys.toList.take 1=[gx ys 0]:=by
  have:=mh (xs:=ys) (j:=1) y1 (Zf _);simpa using this
 refine⟨List.Perm.trans (List.Perm.append_right _ List.perm_append_comm) M.pm,?_⟩;rw[h,e] at mb ⊢;rw[ZJ,Xd];rw[Xd] at mb;refine⟨Xu _ _,ma,λy hy x hx=>?_⟩;rcases ZL.mp hx with z|z
 .rw[ZF.mp hy];exact hl x (Xv z)
 .exact mb.2.2 y hy x z
variable (W:Wk lt)
include W
theorem MInvH.galA (py:ys.toList.Pairwise (Bef lt))(M:MInvH lt xs ys na nb o)(hm:m<=na)(b1:1<=nb)(hb:nb<=ys.size)(h:∀i,m<=i->i<na->lt (gx ys (nb-1)) (gx xs i)=true):MInvH lt xs ys m nb ((xs.toList.take na).drop m++o):=by
 refine M.addA hm λc hc y hy=>?_;obtain⟨j,j1,j2,j3,rfl⟩:=jN hc;obtain⟨l,l1,l2,rfl⟩:=fR hy;have r:Bef lt (gx ys (nb-1)) (gx xs j):=.inl (h j j1 j2);by_cases z:l=nb-1
 .rw[z];exact r
 .exact Bef.trans W (kL py () ()) r
theorem MInvH.galB (hxy:∀x∈xs.toList,∀y∈ys.toList,x<y)(px:xs.toList.Pairwise (Bef lt))(M:MInvH lt xs ys na nb o)(hm:m<=nb)(a1:1<=na)(ha:na<=xs.size)(h:∀i,m<=i->i<nb->lt (gx ys i) (gx xs (na-1))=false):MInvH lt xs ys na m ((ys.toList.take nb).drop m++o):=by
 refine M.addB hm λc hc x hx=>?_;obtain⟨j,j1,j2,j3,rfl⟩:=jN hc;obtain⟨l,l1,l2,rfl⟩:=fR hx;have r:Bef lt (gx xs (na-1)) (gx ys j):=.inr ⟨h j j1 j2,hxy _ (yU ()) _ (yU j3)⟩;by_cases z:l=na-1
 .rw[z];exact r
 .exact Bef.trans W (kL px () ()) r
theorem MInvH.one (py:ys.toList.Pairwise (Bef lt))(M:MInvH lt xs ys na nb o)(a1:1<=na)(ha:na<=xs.size)(b1:1<=nb)(hb:nb<=ys.size)(q:lt (gx ys (nb-1)) (gx xs (na-1))=true):MInvH lt xs ys (na-1) nb (gx xs (na-1)::o):=by
 have:=M.galA (m:=na-1) W py () b1 hb λi h1 h2=>by rw[show i=na-1 by omega];exact q
 rw[mh ha a1] at this;exact this
theorem MInvH.two (hxy:∀x∈xs.toList,∀y∈ys.toList,x<y)(px:xs.toList.Pairwise (Bef lt))(M:MInvH lt xs ys na nb o)(a1:1<=na)(ha:na<=xs.size)(b1:1<=nb)(hb:nb<=ys.size)(q:lt (gx ys (nb-1)) (gx xs (na-1))=false):MInvH lt xs ys na (nb-1) (gx ys (nb-1)::o):=by
 have:=M.galB (m:=nb-1) W hxy px () a1 ha λi h1 h2=>by rw[show i=nb-1 by omega];exact q
 rw[mh hb b1] at this;exact this
end
abbrev H7:=G7 Nat Nat KA
noncomputable def hiD (a b:KA)(i j:Nat)(o:KA):KA:=a.extract 0 i++b.extract 0 j++o.reverse
def hi7 (a b:KA)(mg ac bc i j:Nat)(o:KA):SM (ForInStep H7):=
 elem' a (i-1) >>= λx=>if(i-1 == 0)=true then pure (.done (some (hiD a b (i-1) j (o.push x)),i-1,j,o.push x,mg,ac,bc))
  else if(decide (ac<7)&&decide (bc<7))=true then pure (.done (none,i-1,j,o.push x,mg,ac,bc)) else pure (.yield (none,i-1,j,o.push x,mg,ac,bc))
def hi6 (a b:KA)(mg ac i j:Nat)(o:KA)(t:Nat):SM (ForInStep H7):=
 if j-t > 0 then if(t == 1)=true then pure (.done (some (hiD b a t i (o++(b.extract t j).reverse)),i,t,o++(b.extract t j).reverse,mg,ac,j-t))
  else if(t == 0)=true then pure (.done (some (hiD a b i t (o++(b.extract t j).reverse)),i,t,o++(b.extract t j).reverse,mg,ac,j-t))
  else hi7 a b mg ac (j-t) i t (o++(b.extract t j).reverse) else hi7 a b mg ac (j-t) i j o
def hi5 (a b:KA)(mg ac bc j i:Nat)(o:KA):SM (ForInStep H7):=
 elem' b (j-1) >>= λx=>if(j-1 == 1)=true then pure (.done (some (hiD b a (j-1) i (o.push x)),i,j-1,o.push x,mg,ac,bc))
  else elem' a (i-1) >>= λy=>wP true y b 0 (j-1) (j-1-1) >>= λr=>match r with
   |some t=>hi6 a b mg ac i (j-1) (o.push x) t
   |_=>pure (.done (some (hiD a b i (j-1) (o.push x)),i,j-1,o.push x,mg,ac,bc))
def hi4 (a b:KA)(bc j i:Nat)(o:KA)(mg t:Nat):SM (ForInStep H7):=
 if i-t > 0 then if(t == 0)=true then pure (.done (some (hiD a b t j (o++(a.extract t i).reverse)),t,j,o++(a.extract t i).reverse,mg,i-t,bc))
  else hi5 a b mg (i-t) bc j t (o++(a.extract t i).reverse) else hi5 a b mg (i-t) bc j i o
def hi3 (a b:KA)(i j:Nat)(o:KA)(ac bc mg:Nat):SM (ForInStep H7):=
 gn mg >>= λ_=>elem' b (j-1) >>= λx=>wP false x a 0 i (i-1) >>= λr=>match r with
  |some t=>hi4 a b bc j i o mg t
  |_=>pure (.done (some (hiD a b i j o),i,j,o,mg,ac,bc))
def hi1 (a b:KA)(mg i j:Nat)(o:KA)(ac bc:Nat):SM (ForInStep (G6 Nat Nat KA)):=
 elem' b (j-1) >>= λx=>elem' a (i-1) >>= λy=>lt' x y >>= λr=>match r with
  |some t=>if t=true then elem' a (i-1) >>= λx=>if(i-1 == 0)=true then pure (.done (some (hiD a b (i-1) j (o.push x)),i-1,j,o.push x,ac+1,0))
   else if ac+1 ≥ mg then pure (.done (none,i-1,j,o.push x,ac+1,0)) else pure (.yield (none,i-1,j,o.push x,ac+1,0))
   else elem' b (j-1) >>= λx=>if(j-1 == 1)=true then pure (.done (some (hiD b a (j-1) i (o.push x)),i,j-1,o.push x,0,bc+1))
    else if bc+1 ≥ mg then pure (.done (none,i,j-1,o.push x,0,bc+1)) else pure (.yield (none,i,j-1,o.push x,0,bc+1))
  |_=>pure (.done (some (hiD a b i j o),i,j,o,ac,bc))
set_option smartUnfolding false in
def hi_eq {a b:KA}:pA a b=((liftM (rule "list.sort.merge-hi"):SM PUnit) >>= λ_=>elem' a (a.size-1) >>= λx=>if(a.size-1 == 0)=true then pure (hiD a b (a.size-1) b.size #[x]) else if(b.size == 1)=true then pure (hiD b a b.size (a.size-1) #[x])
 else mT (a.size+b.size) (hi1 a b) (hi3 a b) (a.size-1) b.size #[x]):=rfl
structure HI (lt:Yd)(xs ys:Yi)(g i j:Nat)(o:Yj):Prop where
 M:MInvH lt xs ys i j o
 a:1<=i
 b:2<=j
 ax:i<=xs.size
 bx:j<=ys.size
 g:g+i+j<=xs.size+ys.size
noncomputable def HL (lt:Yd)(it:Nat->Keyed)(xs ys:Yi)(g i j:Nat)(v:KA):Prop:=∃o,HI lt xs ys g i j o/\v=ar it o.reverse
section
variable {R:ForInStep H7->Yy}
def vE (e:v=ar it o.reverse):hiD (xs.map it) (ys.map it) i j v=ar it (xs.toList.take i++ys.toList.take j++o):=by
 unfold hiD;rw[e,finH]
def fS {x:Nat}(e:v=ar it o.reverse):v.push (it x)=ar it (x::o).reverse:=by rw[e,arH_push]
def cA (e:v=ar it o.reverse):v++((xs.map it).extract t i).reverse=ar it ((xs.toList.take i).drop t++o).reverse:=by rw[e,qf,arH_app]
variable (fst:∀x∈xs.toList,Bef lt (gx ys 0) x)(H:MH lt N xs ys)(L:HI lt xs ys g i j o)(e:v=ar it o.reverse)
include fst H L e
section
variable (C:MR (HL lt it xs ys g) (MD lt it xs ys) st0 R)(se:SEq st0 st)
include C se
theorem bJ (q:lt (gx ys (j-1)) (gx xs (i-1))=true):YH prog w A E s (hi7 (xs.map it) (ys.map it) mg ac bc i j v) R st:=by
 have a:=L.a;have c:=L.ax;refine Yo (xP () ?_);have M2:=L.M.one H.W H.py a c (Z8 L.b) L.bx q;refine wi (λz=>Yp (C.dn se ⟨_,M2.doneA (Ys.mp z),vE (fS e)⟩)) λz=>?_;have L2:=C.go (mg:=mg) (ac:=ac) (bc:=bc) se ⟨_,⟨M2,Nat.pos_of_ne_zero λy=>z (Ys.mpr y),L.b,(),L.bx,by have:=L.g;omega⟩,fS e⟩;exact wi (λ_=>Yp L2.1) λ_=>Yp L2.2
theorem hi_6 (t2:t<=j)(t4:∀m,t<=m->m<j->lt (gx ys m) (gx xs (i-1))=false)(q:1<=t->lt (gx ys (t-1)) (gx xs (i-1))=true):YH prog w A E s (hi6 (xs.map it) (ys.map it) mg ac i j v t) R st:=by
 have b:=L.b;have c:=L.bx;refine wi (λk0=>?_) λk0=>?_
 .have M4:=L.M.galB (m:=t) H.W H.hxy H.px t2 L.a L.ax t4;refine wi (λz=>Yp (C.dn se ⟨_,M4.first (Ys.mp z) () fst,vE (cA e)⟩)) λz1=>wi (λz=>Yp (C.dn se ⟨_,M4.doneB (Ys.mp z),vE (cA e)⟩)) λz2=>?_;have t0:2<=t:=by
   have z1:t≠1:=λy=>z1 (Ys.mpr y);have z2:t≠0:=λy=>z2 (Ys.mpr y);omega
  exact bJ fst H ⟨M4,L.a,t0,L.ax,Zh t2 c,by have:=L.g;omega⟩ (cA e) C se (q (Z8 t0))
 .have e0:t=j:=()
  subst e0;exact bJ fst H L e C se (q (Z8 b))
variable (O:Orc prog w A s kind it lt N)(kd:kindOf st0=kind)
include O kd
theorem bU (q:lt (gx ys (j-1)) (gx xs (i-1))=false):YH prog w A E s (hi5 (xs.map it) (ys.map it) mg ac bc j i v) R st:=by
 have a:=L.a;have b:=L.b;have c:=L.bx;have c2:=L.ax;refine Yo (xP () ?_);have M3:=L.M.two H.W H.hxy H.px a c2 (Z8 b) c q;refine wi (λz=>Yp (C.dn se ⟨_,M3.first (Ys.mp z) () fst,vE (fS e)⟩)) λz=>?_;have z:j-1≠1:=λy=>z (Ys.mpr y);have p:i-1<xs.size:=()
 refine Yo (xP p (Yo (we O (se.kd.trans kd) (H.xn _ (yU p)) () (λi hi=>H.yn _ (yU ())) () (fX H.W H.py ()) λt t2 t3 t4=>?_)));simp only[Nat.zero_add] at t3 t4;exact hi_6 fst H ⟨M3,a,(),c2,(),by have:=L.g;omega⟩ (fS e) C se t2 t4 λy=>t3 (t-1) (Nat.sub_lt y Yu)
theorem hi_3:YH prog w A E s (hi3 (xs.map it) (ys.map it) i j v ac bc mg) R st:=by
 have a:=L.a;have b:=L.b;have c:=L.bx;have c2:=L.ax;have p:j-1<ys.size:=()
 refine Yo (nL se λst se=>Yo (xP p (Yo (we O (se.kd.trans kd) (H.yn _ (yU p)) () (λi hi=>H.xn _ (yU ())) () (eB H.W H.px ()) λt t2 t3 t4=>?_))));simp only[Nat.zero_add] at t3 t4;have q:1<=t->lt (gx ys (j-1)) (gx xs (t-1))=false:=λhz=>by
  have:(!lt (gx ys (j-1)) (gx xs (t-1)))=true:=t3 (t-1) (Nat.sub_lt hz Yu);simpa using this
 refine wi (λk0=>?_) λk0=>?_
 .have M2:=L.M.galA (m:=t) H.W H.py t2 (Z8 b) c λi h1 h2=>by
   have:(!lt (gx ys (j-1)) (gx xs i))=false:=t4 i h1 h2;simpa using this
  refine wi (λz=>Yp (C.dn se ⟨_,M2.doneA (Ys.mp z),vE (cA e)⟩)) λz=>?_;have t0:1<=t:=Nat.pos_of_ne_zero λy=>z (Ys.mpr y);exact bU fst H ⟨M2,t0,b,Zh t2 c2,c,by have:=L.g;omega⟩ (cA e) C se O kd (q t0)
 .have e0:t=i:=()
  subst e0;exact bU fst H L e C se O kd (q a)
end
theorem hi_1 {R:ForInStep (G6 Nat Nat KA)->Yy}(O:Orc prog w A s kind it lt N)(kd:kindOf st=kind)(dn:∀{v t},MD lt it xs ys v->R (.done (some v,t)) st)(go:∀{i j v ac bc},HL lt it xs ys (g+1) i j v->R (.done (none,i,j,v,ac,bc)) st/\R (.yield (none,i,j,v,ac,bc)) st):
 YH prog w A E s (hi1 (xs.map it) (ys.map it) mg i j v ac bc) R st:=by
 have a:=L.a;have b:=L.b;have c:=L.bx;have c2:=L.ax;have g9:=L.g;have p1:i-1<xs.size:=()
 have p2:j-1<ys.size:=()
 refine Yo (xP p2 (Yo (xP p1 (Yo (pW O kd (H.yn _ (yU p2)) (H.xn _ (yU p1)) ?_)))));refine wi (λq=>Yo (xP p1 ?_)) λq=>Yo (xP p2 ?_)
 .have M2:=L.M.one H.W H.py a c2 (Z8 b) c q;refine wi (λz=>Yp (dn ⟨_,M2.doneA (Ys.mp z),vE (fS e)⟩)) λz=>?_;have L2:=go (ac:=ac+1) (bc:=0) ⟨_,⟨M2,Nat.pos_of_ne_zero λy=>z (Ys.mpr y),b,Zy p1,c,()⟩,fS e⟩;exact wi (λ_=>Yp L2.1) λ_=>Yp L2.2
 .have M2:=L.M.two H.W H.hxy H.px a c2 (Z8 b) c (Xz.mpr q);refine wi (λz=>Yp (dn ⟨_,M2.first (Ys.mp z) (Zh (Z8 b) c) fst,vE (fS e)⟩)) λz=>?_;have L2:=go (ac:=0) (bc:=bc+1) ⟨_,⟨M2,a,by have:j-1≠1:=λy=>z (Ys.mpr y);omega,c2,Zy p2,()⟩,fS e⟩;exact wi (λ_=>Yp L2.1) λ_=>Yp L2.2
end
section
def sl_mergeHi {Q:Array Keyed->Yy}(H:MH lt N xs ys)(O:Orc prog w A s kind it lt N)(kd:kindOf st=kind)(x1:1<=xs.size)(y1:1<=ys.size)(fst:∀x∈xs.toList,Bef lt (gx ys 0) x)(lst:lt (gx ys (ys.size-1)) (gx xs (xs.size-1))=true)
 (h:∀o st',SEq st st'->Mrg lt xs ys o->Q (ar it o) st'):YH prog w A E s (pA (xs.map it) (ys.map it)) Q st:=by
 have M1:MInvH lt xs ys (xs.size-1) ys.size [gx xs (xs.size-1)]:=by
  refine MInvH.one (o:=[]) (na:=xs.size) (nb:=ys.size) H.W H.py ⟨?_,?_,?_⟩ x1 (Zf _) y1 (Zf _) lst
  .rw[Z4 (by simp),Zz];exact H.px
  .rw[Z4 (by simp),Zz];exact H.py
  .rw[Z4 (by simp),Z4 (by simp),Zz]
 rw[hi_eq,sz,sz];have p:xs.size-1<xs.size:=Nat.sub_lt x1 Yu;have o1: #[it (gx xs (xs.size-1))]=ar it [gx xs (xs.size-1)].reverse:=mW;refine Yo (wpS_lift (wpAny_rule ⟨rfl,Yo (xP p ?_)⟩));refine wi (λz=>?_) λz1=>wi (λz=>?_) λz2=>?_
 .rw[vE o1];exact Yp (h _ _ (.refl _) (M1.doneA (Ys.mp z)))
 .rw[vE o1];exact Yp (h _ _ (.refl _) (M1.first (Ys.mp z) y1 fst))
 have z1:xs.size-1≠0:=λy=>z1 (Ys.mpr y);have z2:ys.size≠1:=λy=>z2 (Ys.mpr y);have L1:HI lt xs ys 1 (xs.size-1) ys.size [gx xs (xs.size-1)]:=⟨M1,(),(),(),(),()⟩;exact m_T (P:=HL lt it xs ys) (D:=MD lt it xs ys) kd ⟨_,L1,o1⟩ (λzh=>by
  obtain⟨_,L,_⟩:=zh;have:=L.a;have:=L.b;have:=L.g;omega) (λ⟨o,L,e⟩ h=>⟨o,⟨L.M,L.a,L.b,L.ax,L.bx,by have:=L.g;omega⟩,e⟩) (λkd ⟨_,L,e⟩ dn go=>hi_1 fst H L e O kd dn go) (λC se ⟨_,L,e⟩=>hi_3 fst H L e C se O kd) λse ⟨o,m,e⟩=>by rw[e];exact h o _ se m
end
theorem mJ {α:Type}(k:Nat):∀(l:List α) (i:Nat) (a:Array α),k+i+l.length<=a.size->((l.zipIdx i).foldl (λa (p:α × Nat)=>a.setIfInBounds (k+p.2) p.1) a).toList=a.toList.take (k+i)++l++a.toList.drop (k+i+l.length)
 | [],i,a,h=>by simp
 |x::r,i,a,h=>by
  rw[Zu] at h;rw[List.zipIdx_cons,Xg,mJ k r (i+1) _ (by rw[Array.size_setIfInBounds];omega),Array.toList_setIfInBounds,Zu];have e1:(a.toList.set (k+i) x).take (k+(i+1))=a.toList.take (k+i)++[x]:=by
   rw[show k+(i+1)=(k+i)+1 by omega,List.take_succ,List.take_set_of_le (Zf _),Xj (by simp;omega)];rfl
  rw[e1,List.drop_set_of_lt (),show k+(i+1)+r.length=k+i+(r.length+1) by omega,ZJ,ZJ,ZJ];rfl
def hJ {α β: Type}(f:α -> β)(xs:Array α)(i j:Nat):(xs.map f).extract i j=(xs.extract i j).map f:=by
 apply Array.ext';simp[List.map_take,List.map_drop]
def oH {ix:Yi}{i j a:Nat}(h:i+a<j)(hj:j<=ix.size):gx (ix.extract i j) a=gx ix (i+a):=by
 unfold gx;rw[Array.getElem?_extract,Zd ()]
section
def sl_set {sy:SortSt}{Q:PUnit->Yy}(h:Q ⟨⟩ sy):YH prog w A E s (set sy:StateT SortSt Sem PUnit) Q st:=by
 unfold YH wpS;rw[StateT.run_set];exact Zb ⟨rfl,h⟩
def uR {ix:Yi}{i j x:Nat}(hj:j<=ix.size)(h:x∈(ix.extract i j).toList):∃l,i<=l/\l<j/\x=gx ix l:=by
 rw[Array.toList_extract,List.extract_eq_drop_take] at h;obtain⟨l,l1,l2,l3⟩:=mF (xs:=ix) (i:=i) (k:=j-i) h;exact⟨i+l,(),(),l3⟩
def fA {ix:Yi}{R:Nat->Nat->Prop}{i j:Nat}(hj:j<=ix.size)(h:∀a b,i<=a->a<b->b<j->R (gx ix a) (gx ix b)):(ix.extract i j).toList.Pairwise R:=by
 rw[ZZ];intro a b ha hb ab;have sz:(ix.extract i j).size=j-i:=by simp;omega
 have hb':b<j-i:=by rw[<- sz,<- ZM];exact hb
 have e:∀c (hc:c<(ix.extract i j).toList.length),c<j-i->(ix.extract i j).toList[c]=gx ix (i+c):=λc hc h=>by
  rw[<- oH (i:=i) (j:=j) (a:=c) () hj];unfold gx;rw[ZI (by rw[sz];exact h)];simp
 rw[e a ha (),e b hb hb'];exact h _ _ () () ()
def mono_f1 {x y k:Nat}(W:Wk lt)(b:Bef lt x y)(h:be lt false y k=true):be lt false x k=true:=by
 have b:=Bef.no W b;have h:(!lt k y)=true:=h;show(!lt k x)=true;cases q:lt k x with
 |false=>rfl
 |true =>
  rcases W.neg _ y _ q with z|z
  .rw[z] at h;cases h
  .rw[b] at z;cases z
def mono_t1 {x y k:Nat}(W:Wk lt)(b:Bef lt x y)(h:be lt true y k=true):be lt true x k=true:=by
 have b:=Bef.no W b;have h:lt y k=true:=h;show lt x k=true;rcases W.neg _ x _ h with z|z
 .rw[b] at z;cases z
 .exact z
end
structure PlO (lo N:Nat)(bs ix:Yi)(k:Nat):Prop where
 size:ix.size=N
 perm:ix.Perm (Array.range N)
 low:∀a,a<lo->gx ix a=gx bs a
 mid:∀a,lo<=a->a<k->lo<=gx ix a/\gx ix a<k
 suf:∀a,k<=a->a<N->gx ix a=a
def jq {N a:Nat}{ix:Yi}(p:ix.Perm (Array.range N))(ha:a<ix.size):gx ix a<N:=by
 have:=(Array.perm_iff_toList_perm.mp p).mem_iff.mp (yU ha);simpa using this
section
def PlO.all (h:PlO lo N bs ix k){a:Nat}(ha:a<N):gx ix a<N:=jq h.perm (by rw[h.size];exact ha)
def PlO.succ (h:PlO lo N bs ix k)(hl:lo<=k)(hk:k<N):PlO lo N bs ix (k+1):=by
 refine⟨h.size,h.perm,h.low,λa h0 ha=>?_,λa h1 h2=>h.suf a () h2⟩;by_cases c:a<k
 .have:=h.mid a h0 c;omega
 .have:a=k:=()
  subst this;rw[h.suf a (Zf _) hk];omega
def PlO.rev {i:Nat}(h:PlO lo N bs ix k)(hk:k<=N)(li:lo<=i)(hi:i<=k):PlO lo N bs (mirror ix i k ((k-i) / 2)) k:=by
 have hz:k<=ix.size:=by rw[h.size];exact hk
 refine⟨by rw[mirror_size];exact h.size,(mirror_perm _ _ _ _).trans h.perm,λa ha=>?_,λa h0 ha=>?_,λa h1 h2=>?_⟩
 .rw[wJ hz,Ze ()];exact h.low a ha
 .rw[wJ hz]
  split
  .exact h.mid _ () ()
  .exact h.mid a h0 ha
 .rw[wJ hz,Ze ()];exact h.suf a h1 h2
end
def UpO (lt:Yd)(lo:Nat)(ix:Yi)(k:Nat):Prop:=∀a b,lo<=a->a<b->b<k->Bef lt (gx ix a) (gx ix b)
def DnO (lt:Yd)(lo:Nat)(ix:Yi)(k:Nat):Prop:=∀a b,lo<=a->a<b->b<k->Bef lt (gx ix b) (gx ix a)
structure SBp (it:Nat->Keyed)(kind:SortKind)(pn:Array (Nat×Nat×Nat))(ix:Yi)(st:SortSt):Prop where
 arr:arrOf st=ix.map it
 kd:kindOf st=kind
 fl:failedOf st=none
 pd:pendingOf st=pn
structure EqO (lt:Yd)(lo:Nat)(ix:Yi)(x u:Nat):Prop where
 le:lo<=u
 ux:u<x
 out:∀a b,lo<=a->a<b->b<x->a<u->lt (gx ix b) (gx ix a)=true\/(b<u/\Bef lt (gx ix b) (gx ix a))
 same:∀a b,u<=a->a<x->u<=b->b<x->lt (gx ix a) (gx ix b)=false
 rise:∀a b,u<=a->a<b->b<x->gx ix a<gx ix b
def uU {ix:Yi}{i j k:Nat}(hj:j<=ix.size)(h1:i<=k)(h2:k<j):∃m,i<=m/\m<j/\k+m+1=i+j/\gx (mirror ix i j ((j-i) / 2)) k=gx ix m:=by
 refine⟨i+j-1-k,(),(),(),?_⟩;rw[wJ hj,Zd ⟨h1,h2⟩]
def rl {ix:Yi}{i j k:Nat}(hj:j<=ix.size)(h:k<i\/j<=k):gx (mirror ix i j ((j-i) / 2)) k=gx ix k:=by
 rw[wJ hj,Ze ()]
section
variable (W:Wk lt)
include W
theorem pc {a:Nat}:lt a a=false:=by
 cases z:lt a a with
 |false=>rfl
 |true=>have:=W.asy _ _ z;rw[z] at this;exact zqb this.symm
theorem EqO.down {x u:Nat}(h:EqO lt lo ix x u)(hz:x<=ix.size):DnO lt lo (mirror ix u x ((x-u) / 2)) x:=by
 intro a b la ab bx;by_cases cb:u<=b
 .obtain⟨b',b1,b2,b3,e⟩:=uU (i:=u) hz cb bx;rw[e];by_cases ca:u<=a
  .obtain⟨a',a1,a2,a3,e⟩:=uU (i:=u) hz ca (Xl ab bx);rw[e];exact .inr ⟨h.same _ _ a1 a2 b1 b2,h.rise _ _ b1 () a2⟩
  .have ca:=XU ca;rw[rl hz (.inl ca)];rcases h.out a b' la (Zg ca b1) b2 ca with z|z
   .exact .inl z
   .exact z.2
 .have cb:=XU cb;have ca:=Xl ab cb;rw[rl hz (.inl cb),rl hz (.inl ca)];rcases h.out a b la ab bx ca with z|z
  .exact .inl z
  .exact z.2
theorem EqO.down0 {x:Nat}(h:EqO lt lo ix (x+1) x):DnO lt lo ix (x+1):=by
 intro a b la ab bx;rcases h.out a b la ab bx (Zg ab (Z9 bx)) with z|z
 .exact .inl z
 .exact z.2
theorem EqO.less {x y:Nat}(hy:y+1=x)(hx:lo<=y)(D:DnO lt lo ix x)(hl:lt (gx ix x) (gx ix y)=true):EqO lt lo ix (x+1) x:=by
 have top:∀a,lo<=a->a<x->lt (gx ix x) (gx ix a)=true:=λa la ax=>by
  by_cases c:a=y
  .rw[c];exact hl
  .rcases W.neg _ (gx ix a) _ hl with z|z
   .exact z
   .rw[Bef.no W (D a y la () ())] at z;exact zqb z
 have eq:∀{a},x<=a->a<x+1->a=x:=λh k=>Nat.le_antisymm (Z9 k) h;refine⟨(),Xi _,λa b la ab bx ax=>?_,λa b a1 a2 b1 b2=>?_,λa b a1 ab bx=>()⟩
 .by_cases c:b<x
  .exact .inr ⟨c,D a b la ab c⟩
  .rw[eq (Nat.le_of_not_lt c) bx];exact .inl (top a la ax)
 .rw[eq a1 a2,eq b1 b2];exact pc W
theorem EqO.more {x y u:Nat}(h:EqO lt lo ix x u)(hy:y+1=x)(hx:gx ix x=x)(pre:∀a,lo<=a->a<x->gx ix a<x)(n1:lt (gx ix x) (gx ix y)=false)(n2:lt (gx ix y) (gx ix x)=false):EqO lt lo ix (x+1) u:=by
 have le:=h.le;have ux:=h.ux;have up:∀k,lt (gx ix y) k=true->lt (gx ix x) k=true:=λk z=>by
  rcases W.neg _ (gx ix x) _ z with y|y
  .rw[n2] at y;exact zqb y
  .exact y
 have dn:∀k,lt k (gx ix x)=true->lt k (gx ix y)=true:=λk z=>by
  rcases W.neg _ (gx ix y) _ z with y|y
  .exact y
  .rw[n2] at y;exact zqb y
 have up':∀k,lt (gx ix x) k=true->lt (gx ix y) k=true:=λk z=>by
  rcases W.neg _ (gx ix y) _ z with y|y
  .rw[n1] at y;exact zqb y
  .exact y
 have yx:y<x:=()
 have uy:u<=y:=()
 have lt1:∀{b},b<x+1->¬b=x->b<x:=λh k=>Xo (Z9 h) k;refine⟨le,Z7 ux,λa b la ab bx ax=>?_,λa b a1 a2 b1 b2=>?_,λa b a1 ab bx=>?_⟩
 .by_cases c:b=x
  .rw[c];rcases h.out a y la (Zg ax uy) yx ax with z|z
   .exact .inl (up _ z)
   .exact Zn z.1 (Nat.not_lt_of_le uy)
  .exact h.out a b la ab (lt1 bx c) ax
 .by_cases ca:a=x
  .by_cases cb:b=x
   .rw[ca,cb];exact pc W
   .rw[ca];cases z:lt (gx ix x) (gx ix b) with
    |false=>rfl
    |true =>
     have w:=up' _ z;rw[h.same y b uy yx b1 (lt1 b2 cb)] at w;exact zqb w
  .by_cases cb:b=x
   .rw[cb];cases z:lt (gx ix a) (gx ix x) with
    |false=>rfl
    |true =>
     have w:=dn _ z;rw[h.same a y a1 (lt1 a2 ca) uy yx] at w;exact zqb w
   .exact h.same a b a1 (lt1 a2 ca) b1 (lt1 b2 cb)
 .by_cases cb:b=x
  .rw[cb,hx];exact pre a (Zh le a1) (cb ▸ ab)
  .exact h.rise a b a1 ab (lt1 bx cb)
end
abbrev C2:=Option (Option Nat)×Nat
noncomputable def crS (p c:Nat):SM (ForInStep C2):=ltAt' p (p-1) >>= λr=>match r with
 |some t=>if t=true then pure (.done (none,c)) else pure (.yield (none,c+1))
 |_=>pure (.done (some none,c))
def cr4 (lo nr n:Nat):SM (Option Nat):=reverseSlice' lo (lo+n) >>= λ_=>(forIn [n:nr] ((none,n):C2) λ_ c=>crS (lo+c.2) c.2) >>= λc=>match c.1 with
 |some r=>pure r
 |none=>pure (some c.2)
def cr3 (lo nr n q:Nat):SM (Option Nat):=if q > 0 then reverseSlice' (lo+n-(q+1)) (lo+n) >>= λ_=>cr4 lo nr n else cr4 lo nr n
noncomputable def crD (p n q:Nat):SM (ForInStep C3):=ltAt' p (p-1) >>= λr=>match r with
 |some t=>if t=true then(if q > 0 then reverseSlice' (p-(q+1)) p >>= λ_=>pure (.yield (none,n+1,0)) else pure (.yield (none,n+1,0)))
  else ltAt' (p-1) p >>= λr=>match r with
   |some t=>if t=true then pure (.done (none,n,q)) else pure (.yield (none,n+1,q+1))
   |_=>pure (.done (some none,n,q))
 |_=>pure (.done (some none,n,q))
def cr2 (lo nr n:Nat):SM (Option Nat):=(liftM (rule "list.sort.descending-run"):SM PUnit) >>= λ_=>(forIn [n+1:nr] ((none,n+1,0):C3) λ_ c=>crD (lo+c.2.1) c.2.1 c.2.2) >>= λc=>match c.1 with
 |some r=>pure r
 |none=>cr3 lo nr c.2.1 c.2.2
def cr1 (lo nr n:Nat):SM (Option Nat):=if(n == nr)=true then pure (some n) else if n > 1 then ltAt' lo (lo+n-1) >>= λr=>match r with
 |some t=>if t=true then pure (some n) else reverseSlice' lo (lo+n) >>= λ_=>cr2 lo nr n
 |_=>pure none
 else cr2 lo nr n
set_option smartUnfolding false in
def cr_eq {lo nr:Nat}:countRun' lo nr=((forIn [1:nr] ((none,1):C2) λ_ c=>crS (lo+c.2) c.2) >>= λc=>match c.1 with|some r=>pure r|none=>cr1 lo nr c.2):=rfl
section
variable {pn:Array (Nat×Nat×Nat)}
def iW {a b k:Nat}{Q:Option Bool->Yy}(O:Orc prog w A s kind it lt N)(B:SBp it kind pn ix st)(L:PlO lo N bs ix k)(ha:a<N)(hb:b<N)(h:Q (some (lt (gx ix a) (gx ix b))) st):
 YH prog w A E s (ltAt' a b) Q st:=by
 have e1:(arrOf st)[a]? = some (it (gx ix a)):=by rw[B.arr,Xn,i8 (by rw[L.size];exact ha)];rfl
 have e2:(arrOf st)[b]? = some (it (gx ix b)):=by rw[B.arr,Xn,i8 (by rw[L.size];exact hb)];rfl
 rw[ltAt'_eq];refine Yo (wpS_get ?_);show wpS _ _ _ _ (elem' (arrOf st) a >>= λx=>elem' (arrOf st) b >>= λy=>lt' x y) Q st;rw[elem'_eq,elem'_eq,e1,e2];exact Yo (Yp (Yo (Yp (pW O B.kd (L.all ha) (L.all hb) h))))
def SBp.set {jx:Yi}(B:SBp it kind pn ix st){xs:Array Keyed}(e:xs=jx.map it):SBp it kind pn jx (setArr st xs):=⟨e,B.kd,B.fl,B.pd⟩
def SBp.rev {i j m:Nat}(B:SBp it kind pn ix st):SBp it kind pn (mirror ix i j m) (setArr st (mirror (arrOf st) i j m)):=B.set (by rw[B.arr,mirror_map])
variable (W:Wk lt)(O:Orc prog w A s kind it lt N)
include W O
theorem so_crS {p c:Nat}{R:ForInStep C2->Yy}(pN:p<N)(lp:lo<p)(B:SBp it kind pn ix st)(L:PlO lo N bs ix p)(U:UpO lt lo ix p)
 (dn:lt (gx ix p) (gx ix (p-1))=true->R (.done (none,c)) st) (go:PlO lo N bs ix (p+1)->UpO lt lo ix (p+1)->R (.yield (none,c+1)) st):YH prog w A E s (crS p c) R st:=by
 obtain⟨y,rfl⟩:∃y,p=y+1:=⟨p-1,()⟩;have ly:=Z9 lp;refine Yo (iW O B L pN (Xr pN) (wi (λq=>Yp (dn q)) λq=>Yp (go (L.succ (XX ly) pN) λi j li ij jx=>?_)));have last:Bef lt (gx ix y) (gx ix (y+1)):=.inr ⟨Xz.mpr q,by rw[L.suf _ (Zf _) pN];exact(L.mid _ ly (Xi _)).2⟩;by_cases c:j<y+1
 .exact U i j li ij c
 .have e:j=y+1:=()
  subst e;by_cases d:i=y
  .rw[d];exact last
  .exact Bef.trans W (U i y li () (Xi _)) last
theorem fW {a nr:Nat}{Q:C2->Yy}
 (hn:lo+nr<=N) (ha:1<=a) (han:a<=nr) (B:SBp it kind pn ix st) (L:PlO lo N bs ix (lo+a)) (U:UpO lt lo ix (lo+a))
 (h:∀m,a<=m->m<=nr->PlO lo N bs ix (lo+m)->UpO lt lo ix (lo+m)->(m=nr\/lt (gx ix (lo+m)) (gx ix (lo+m-1))=true)->Q (none,m) st):YH prog w A E s (forIn [a:nr] ((none,a):C2) λ_ c=>crS (lo+c.2) c.2) Q st:=by
 refine Yr (I:=λx c sx=>sx=st/\c=(none,x)/\PlO lo N bs ix (lo+x)/\UpO lt lo ix (lo+x)) ?_ ?_ ⟨rfl,rfl,L,U⟩
 .rintro x c sx ax xn ⟨rfl,rfl,Lx,Ux⟩;exact so_crS W O () () B Lx Ux (λq=>h x ax (Zy xn) Lx Ux (.inr q)) λl u=>⟨rfl,rfl,l,u⟩
 .rintro c sx ⟨rfl,rfl,Lx,Ux⟩;rw[Nat.max_eq_right han] at Lx Ux ⊢;exact h nr han (Zf _) Lx Ux (.inl rfl)
variable {nr x q u:Nat}{Q:Option Nat->Yy}(hn:lo+nr<=N)(h:∀k jx st',SBp it kind pn jx st'->1<=k->k<=nr->PlO lo N bs jx (lo+k)->UpO lt lo jx (lo+k)->Q (some k) st')
include hn h
theorem fJ (x1:1<=x)(x2:x<=nr)(B:SBp it kind pn ix st)(L:PlO lo N bs ix (lo+x))(D:DnO lt lo ix (lo+x)):YH prog w A E s (cr4 lo nr x) Q st:=by
 have hz:lo+x<=ix.size:=by rw[L.size];omega
 have L3:=L.rev (i:=lo) () (Zf _) ();refine Yo (wpS_reverse (Yo (fW W O hn x1 x2 B.rev L3 (λa b la ab bm=>?_) λk k1 k2 Lk Uk _=>Yp (h k _ _ B.rev (Zh x1 k1) k2 Lk Uk))));obtain⟨a',a1,a2,a3,e⟩:=uU hz la (Xl ab bm);obtain⟨b',b1,b2,b3,e'⟩:=uU hz (Zy (XL la ab)) bm;rw[e,e'];exact D _ _ b1 () a2
theorem so_cr3 (x1:1<=x)(x2:x<=nr)(B:SBp it kind pn ix st)(L:PlO lo N bs ix (lo+x))(X:EqO lt lo ix (lo+x) u)(e:u+(q+1)=lo+x):YH prog w A E s (cr3 lo nr x q) Q st:=by
 refine wi (λhq=>?_) λhq=>?_
 .rw[show lo+x-(q+1)=u by omega];have le:=X.le;have ux:=X.ux;exact Yo (wpS_reverse (fJ W O hn h x1 x2 B.rev (L.rev () le (Zy ux)) (X.down W (by rw[L.size];omega))))
 .have q0:q=0:=Nat.eq_zero_of_not_pos hq;subst q0;rw[<- e] at X;exact fJ W O hn h x1 x2 B L (e ▸ X.down0 W)
omit hn h in
theorem so_crD {p:Nat}{R:ForInStep C3->Yy}(pN:p<N)(B:SBp it kind pn ix st)(L:PlO lo N bs ix p)(X:EqO lt lo ix p u)(e:u+(q+1)=p)
 (dn:R (.done (none,x,q)) st) (go:∀jx u q st',SBp it kind pn jx st'->PlO lo N bs jx (p+1)->EqO lt lo jx (p+1) u->u+(q+1)=p+1->R (.yield (none,x+1,q)) st'):YH prog w A E s (crD p x q) R st:=by
 have le:=X.le;have ux:=X.ux;have hz:p<=ix.size:=by rw[L.size];exact Zy pN
 obtain⟨y,rfl⟩:∃y,p=y+1:=⟨p-1,()⟩;have y2:=Xr pN;have ly:lo<=y:=Zh le (Z9 ux);refine Yo (iW O B L pN y2 (wi (λz=>wi (λhq=>?_) λhq=>?_) λz=>?_))
 .have z:lt (gx ix (y+1)) (gx ix y)=true:=z;rw[show y+1-(q+1)=u by omega];refine Yo (wpS_reverse (Yp (go _ _ 0 _ B.rev ((L.rev (Zy pN) le (Zy ux)).succ (XX ly) pN) (EqO.less W rfl ly (X.down W hz) ?_) rfl)));obtain⟨m,m1,m2,_,e⟩:=uU hz (Z9 ux) (Xi y);rw[rl hz (.inr (Zf _)),e];rcases W.neg _ (gx ix m) _ z with y|y
  .exact y
  .rw[X.same _ _ m1 m2 (Z9 ux) (Xi _)] at y;exact zqb y
 .have q0:q=0:=Nat.eq_zero_of_not_pos hq;subst q0;have e:u=y:=Nat.succ.inj e;subst e;exact Yp (go ix _ 0 st B (L.succ (XX ly) pN) (EqO.less W rfl ly (X.down0 W) z) rfl)
 .refine Yo (iW O B L y2 pN (wi (λ_=>Yp dn) λz2=>?_));exact Yp (go ix u _ st B (L.succ (XX ly) pN) (X.more W rfl (L.suf _ (Zf _) pN) (λa la ha=>(L.mid a la ha).2) (Xz.mpr z) (Xz.mpr z2)) (Zt (· + 1) e))
theorem fZ (x2:x+1<=nr)(B:SBp it kind pn ix st)(L:PlO lo N bs ix (lo+x+1))(X:EqO lt lo ix (lo+x+1) (lo+x)):YH prog w A E s (cr2 lo nr x) Q st:=by
 refine Yo (wpS_lift (wpAny_rule ⟨rfl,?_⟩));refine Yo (Yq (Yr (I:=λx c sx=>∃u q kx,c=(none,x,q)/\SBp it kind pn kx sx/\PlO lo N bs kx (lo+x)/\EqO lt lo kx (lo+x) u/\u+(q+1)=lo+x) (Q:=λc sx=>∃y u q kx,c=(none,y,q)/\1<=y/\y<=nr/\SBp it kind pn kx sx/\PlO lo N bs kx (lo+y)/\EqO lt lo kx (lo+y) u/\u+(q+1)=lo+y) ?_ ?_ ⟨lo+x,0,ix,rfl,B,L,X,rfl⟩) ?_)
 .rintro y c sx mx xn ⟨u,q,kx,rfl,Bx,Lx,Ex,e⟩;exact so_crD W O (show lo+y<N from ()) Bx Lx Ex e ⟨y,u,q,kx,rfl,Zh (Nat.le_add_left 1 x) mx,Zy xn,Bx,Lx,Ex,e⟩ λjx u q st' b l x e=>⟨u,q,jx,rfl,b,l,x,e⟩
 .rintro c sx ⟨u,q,kx,rfl,Bx,Lx,Ex,e⟩;rw[Nat.max_eq_right x2] at Lx Ex e ⊢;exact⟨nr,u,q,kx,rfl,Zh (Nat.le_add_left 1 x) x2,Zf _,Bx,Lx,Ex,e⟩
 .rintro c sx ⟨x,u,q,kx,rfl,x1,x2,Bx,Lx,Ex,e⟩;exact so_cr3 W O hn h x1 x2 Bx Lx Ex e
theorem so_count (h1:1<=nr)(B:SBp it kind pn ix st)(L:PlO lo N bs ix (lo+1)):YH prog w A E s (countRun' lo nr) Q st:=by
 rw[cr_eq];refine Yo (fW W O hn (Zf 1) h1 B L (λa b la ab b1=>()) λm m1 m2 Lm Um why=>?_);refine wi (λ_=>Yp (h m ix st B m1 m2 Lm Um)) λmn=>?_;have mn:m≠nr:=λz=>mn (Ys.mpr z);have hl:lt (gx ix (lo+m)) (gx ix (lo+m-1))=true:=why.resolve_left mn;have m2:m+1<=nr:=Xo m2 mn;have pN:lo+m<N:=()
 have lp:lo<lo+m:=()
 have hz:lo+m<=ix.size:=by rw[Lm.size];exact Zy pN
 refine wi (λgt=>?_) λgt=>?_
 .have key:=λ{ix' st'}=>fZ (E:=E) (bs:=bs) (ix:=ix') (st:=st') W O hn h m2;have hh:=h m ix st B m1 (Z8 m2) Lm Um;generalize lo+m=p at *;obtain⟨y,rfl⟩:∃y,p=y+1:=⟨p-1,()⟩;have hl:lt (gx ix (y+1)) (gx ix y)=true:=hl;have ly:=Z9 lp;have y2:=Xr pN;have yy:=Xi y;refine Yo (iW O B Lm (Xl lp pN) y2 (wi (λ_=>Yp hh) λrose=>?_));have rose:lt (gx ix lo) (gx ix y)=false:=Xz.mpr rose;have flat:∀a b,lo<=a->a<y+1->lo<=b->b<y+1->lt (gx ix a) (gx ix b)=false:=λa b la am lb bm=>by
   cases z:lt (gx ix a) (gx ix b) with
   |false=>rfl
   |true =>
    rcases W.neg _ (gx ix lo) _ z with w|w
    .by_cases a0:a=lo
     .rw[a0,pc W] at w;exact zqb w
     .rw[Bef.no W (Um lo a (Zf _) () am)] at w;exact zqb w
    .rcases W.neg _ (gx ix y) _ w with u|u
     .rw[rose] at u;exact zqb u
     .by_cases bm':b=y
      .rw[bm',pc W] at u;exact zqb u
      .rw[Bef.no W (Um b y lb () yy)] at u;exact zqb u
  have rise:∀a b,lo<=a->a<b->b<y+1->gx ix a<gx ix b:=λa b la ab bm=>by
   rcases Um a b la ab bm with z|z
   .rw[flat a b la (Xl ab bm) (Zh la (Zy ab)) bm] at z;exact zqb z
   .exact z.2
  refine Yo (wpS_reverse (key B.rev ((Lm.rev (Zy pN) (Zf _) (Zy lp)).succ (Zy lp) pN) (EqO.less W rfl ly (λa b la ab bm=>?_) ?_)))
  .obtain⟨a',a1,a2,a3,e⟩:=uU hz la (Xl ab bm);obtain⟨b',b1,b2,b3,e'⟩:=uU hz (Zh la (Zy ab)) bm;rw[e,e'];exact .inr ⟨flat _ _ a1 a2 b1 b2,rise _ _ b1 () a2⟩
  .obtain⟨m,a1,a2,_,e⟩:=uU hz ly yy;rw[rl hz (.inr (Zf _)),e];rcases W.neg _ (gx ix m) _ hl with z|z
   .exact z
   .rw[flat _ _ a1 a2 ly yy] at z;exact zqb z
 .have e1:m=1:=()
  subst e1;exact fZ W O hn h m2 B (Lm.succ (ZX _ _) pN) (EqO.less W rfl (Zf _) (λa b la ab b1=>()) hl)
omit hn h
omit O W in
theorem rR {ix:Yi}{p l k:Nat}(hs:p<ix.size)(hl:l<=p)(hk:k<=p):(k<l/\gx (bubble ix p (p-l)) k=gx ix k)\/(k=l/\gx (bubble ix p (p-l)) k=gx ix p)\/∃j,k=j+1/\l<=j/\j<p/\gx (bubble ix p (p-l)) k=gx ix j:=by
 rw[oW hs (Nat.sub_le _ _),show p-(p-l)=l by omega];by_cases c:k=l
 .exact .inr (.inl ⟨c,Zd c⟩)
 .by_cases d:l<k
  .exact .inr (.inr ⟨k-1,(),(),(),by rw[Ze c,Zd ⟨d,hk⟩]⟩)
  .exact .inl ⟨(),by rw[Ze c,Ze λz=>d z.1]⟩
omit O W in
theorem so_bub {p l:Nat}(pN:p<N)(hl:l<=p)(ll:lo<=l)(L:PlO lo N bs ix p)(U:UpO lt lo ix p)(low:∀i,lo<=i->i<l->lt p (gx ix i)=false)(hi:∀i,l<=i->i<p->lt p (gx ix i)=true):PlO lo N bs (bubble ix p (p-l)) (p+1)/\UpO lt lo (bubble ix p (p-l)) (p+1):=by
 have hs:p<ix.size:=by rw[L.size];exact pN
 have ep:gx ix p=p:=L.suf p (Zf _) pN;have md:∀{i},lo<=i->i<p->lo<=gx ix i/\gx ix i<p+1:=λh k=>⟨(L.mid _ h k).1,Z7 (L.mid _ h k).2⟩;refine⟨⟨by rw[bubble_size];exact L.size,(bubble_perm _ _ _).trans L.perm,λa ha=>?_,λa h0 ha=>?_,λa a1 a2=>?_⟩,λa b la ab bp=>?_⟩
 .rcases rR hs hl (Zy (Zg ha (Zh ll hl))) with ⟨_,e⟩|⟨z,_⟩|⟨j,z,h,_⟩
  .rw[e];exact L.low a ha
  .omega
  .omega
 .rcases rR hs hl (Z9 ha) with ⟨z,e⟩|⟨z,e⟩|⟨j,z,h,k,e⟩
  .rw[e];exact md h0 (Zg z hl)
  .rw[e,ep];exact⟨Zh ll hl,Xi _⟩
  .rw[e];exact md (Zh ll h) k
 .rw[oW hs (Nat.sub_le _ _),Ze (),Ze ()];exact L.suf a (Z8 a1) a2
 .have bp:=Z9 bp;rcases rR hs hl (Zh (Zy ab) bp) with ⟨z,e⟩|⟨z,e⟩|⟨i,z,h,k,e⟩
  .rcases rR hs hl bp with ⟨z',e'⟩|⟨z',e'⟩|⟨j,z',h',k',e'⟩
   .rw[e,e'];exact U a b la ab (Zg z' hl)
   .rw[e,e',ep];exact .inr ⟨low a la z,(L.mid a la (Zg z hl)).2⟩
   .rw[e,e'];exact U a j la (Zg z h') k'
  .rcases rR hs hl bp with ⟨z',e'⟩|⟨z',e'⟩|⟨j,z',h',k',e'⟩
   .omega
   .omega
   .rw[e,e',ep];exact .inl (hi j h' k')
  .rcases rR hs hl bp with ⟨z',e'⟩|⟨z',e'⟩|⟨j,z',h',k',e'⟩
   .omega
   .omega
   .rw[e,e'];exact U i j (Zh ll h) () k'
theorem so_bin {fc ok:Nat}{Q:Bool->Yy}(hfc:lo+fc<=N)(hok:ok<=fc)(h1:1<=ok)(B:SBp it kind pn ix st)(L:PlO lo N bs ix (lo+ok))(U:UpO lt lo ix (lo+ok))
 (h:∀jx st',SBp it kind pn jx st'->PlO lo N bs jx (lo+fc)->UpO lt lo jx (lo+fc)->Q true st'):YH prog w A E s (binarySort' lo fc ok) Q st:=by
 rw[binarySort'_eq];have hm:max ok 1=ok:=()
 rw[hm];refine Yo (Yq (Yr (I:=λk c st'=>c=(none,Yt)/\∃jx,SBp it kind pn jx st'/\PlO lo N bs jx (lo+k)/\UpO lt lo jx (lo+k)) (Q:=λc st'=>c=(none,Yt)/\∃jx,SBp it kind pn jx st'/\PlO lo N bs jx (lo+fc)/\UpO lt lo jx (lo+fc)) ?_ ?_ ⟨rfl,ix,B,L,U⟩) ?_)
 .rintro k c sk hk1 hk2 ⟨rfl,jx,Bk,Lk,Uk⟩;have ek:gx jx (lo+k)=lo+k:=Lk.suf _ (Zf _) ();refine Yo (Yq (Yr (I:=λx c sx=>sx=sk/\∃l r,c=(none,l,r)/\l<=r/\r<=k/\r-l<=k-x/\(∀i,i<l->lt (lo+k) (gx jx (lo+i))=false)/\(∀i,r<=i->i<k->lt (lo+k) (gx jx (lo+i))=true))
   (Q:=λc sx=>sx=sk/\∃l r,c=(none,l,r)/\l<=k/\(∀i,i<l->lt (lo+k) (gx jx (lo+i))=false)/\(∀i,l<=i->i<k->lt (lo+k) (gx jx (lo+i))=true)) ?_ ?_ ⟨rfl,0,k,rfl,(),(),(),λi hi=>(),λi a b=>()⟩) ?_)
  .rintro x c sx _ hx ⟨rfl,l,r,rfl,lr,rk,gap,low,hi⟩;dsimp only;by_cases ge:l ≥ r
   .rw[Zd ge];have e:l=r:=()
    subst e;exact Yp ⟨rfl,l,l,rfl,rk,low,hi⟩
   .rw[Ze ge];obtain⟨m,hm,m1,m2,m3,m4⟩:=fE (XU ge) gap;rw[hm];have mk:=Zg m2 rk;refine Yo (iW O Bk Lk () () ?_);rw[ek];cases q:lt (lo+k) (gx jx (lo+m)) with
    |true =>
     simp only[if_true];refine Yp ⟨rfl,l,m,rfl,m1,Zy mk,m3,low,λi a b=>?_⟩;by_cases im:i=m
     .rw[im];exact q
     .rcases W.neg (lo+k) (gx jx (lo+i)) _ q with z|z
      .exact z
      .rw[Bef.no W (Uk (lo+m) (lo+i) () () ())] at z;exact zqb z
    |false =>
     simp only[ZO,if_false];refine Yp ⟨rfl,m+1,r,rfl,m2,rk,m4,λi a=>?_,hi⟩;by_cases im:i=m
     .rw[im];exact q
     .cases z:lt (lo+k) (gx jx (lo+i)) with
      |false=>rfl
      |true =>
       rcases W.neg (lo+k) (gx jx (lo+m)) _ z with y|y
       .rw[q] at y;exact zqb y
       .rw[Bef.no W (Uk (lo+i) (lo+m) () () ())] at y;exact zqb y
  .rintro c sx ⟨rfl,l,r,rfl,lr,rk,gap,low,hi⟩;have e:l=r:=()
   subst e;exact⟨rfl,l,l,rfl,rk,low,hi⟩
  .rintro c sx ⟨rfl,l,r,rfl,lk,low,hi⟩;show wpS _ _ _ _ (moveDown' (lo+k) (lo+l) >>= λ_=>pure (ForInStep.yield (none,Yt))) _ _;rw[moveDown'_eq];have low:∀i,lo<=i->i<lo+l->lt (lo+k) (gx jx i)=false:=λi h1 h2=>by
    obtain⟨d,rfl⟩:=Nat.exists_eq_add_of_le h1;exact low d (XF h2)
   have hi:∀i,lo+l<=i->i<lo+k->lt (lo+k) (gx jx i)=true:=λi h1 h2=>by
    obtain⟨d,rfl⟩:=Nat.exists_eq_add_of_le (Zh (ZX _ _) h1);exact hi d (Nat.le_of_add_le_add_left h1) (XF h2)
   have L2:=so_bub (show lo+k<N from ()) (Nat.add_le_add_left lk lo) (ZX _ _) Lk Uk low hi;exact Yo (wpS_modify (Yp ⟨rfl,bubble jx (lo+k) (lo+k-(lo+l)),Bk.set (by rw[Bk.arr,bubble_map]),L2.1,L2.2⟩))
 .rintro c sk ⟨rfl,jx,b1,b2,b3⟩;have e:max ok fc=fc:=()
  rw[e] at b2 b3;exact⟨rfl,jx,b1,b2,b3⟩
 .rintro c sk ⟨rfl,jx,b1,b2,b3⟩;exact Yp (h jx sk b1 b2 b3)
end
structure Seg (lt:Yd)(ix:Yi)(a b:Nat):Prop where
 pl:∀i,a<=i->i<b->a<=gx ix i/\gx ix i<b
 up:∀i j,a<=i->i<j->j<b->Bef lt (gx ix i) (gx ix j)
def Seg.same {lt:Yd}{ix jx:Yi}{a b:Nat}(S:Seg lt ix a b)(h:∀i,a<=i->i<b->gx jx i=gx ix i):Seg lt jx a b:=⟨λi h1 h2=>by rw[h i h1 h2];exact S.pl i h1 h2,λi j h1 h2 h3=>by rw[h i h1 (),h j () h3];exact S.up i j h1 h2 h3⟩
section
def Seg.join {a m b:Nat}{ix:Yi}(W:Wk lt)(S:Seg lt ix a m)(T:Seg lt ix m b)(h2:m<b)(k:∀i,a<=i->i<m->Bef lt (gx ix i) (gx ix m))(am:a<=m):Seg lt ix a b:=by
 refine⟨λi h1 h3=>?_,λi j h1 ij jb=>?_⟩
 .by_cases z:i<m
  .have:=S.pl i h1 z;omega
  .have:=T.pl i () h3;omega
 .by_cases z:j<m
  .exact S.up i j h1 ij z
  .by_cases y:m<=i
   .exact T.up i j y ij jb
   .by_cases e:j=m
    .rw[e];exact k i h1 ()
    .exact Bef.trans W (k i h1 ()) (T.up m j (Zf _) () jb)
def Seg.put {a n1 b m k:Nat}{ix:Yi}{o:Yj}(W:Wk lt)(S:Seg lt ix a n1)(T:Seg lt ix n1 b)(hb:b<=ix.size)(ham:a<=m)(hm:m<n1)(hk:1<=k)(hkn:n1+k<=b)(pre:∀i,a<=i->i<m->lt (gx ix n1) (gx ix i)=false)(suf:∀i,n1+k<=i->i<b->lt (gx ix i) (gx ix (n1-1))=false)
 (M:Mrg lt (ix.extract m n1) (ix.extract n1 (n1+k)) o):∃jx:Yi,jx.toList=ix.toList.take m++o++ix.toList.drop (n1+k)/\o.length=n1+k-m/\jx.Perm ix/\Seg lt jx a b/\∀i,i<a\/b<=i->gx jx i=gx ix i:=by
 have ol:o.length=n1+k-m:=by
  rw[M.1.length_eq,ZC,ZM,ZM,X5,X5,XS (),XS ()];omega
 have ew:m+o.length=n1+k:=()
 have whole:ix.toList.take m++((ix.extract m n1).toList++(ix.extract n1 (n1+k)).toList)++ix.toList.drop (n1+k)=ix.toList:=by
  have ex:(ix.extract m n1).toList++ix.toList.drop n1=ix.toList.drop m:=by
   rw[Array.toList_extract,List.extract_eq_drop_take];have:ix.toList.drop n1=(ix.toList.drop m).drop (n1-m):=by rw[List.drop_drop,Nat.add_sub_of_le (Zy hm)]
   rw[this,Xe]
  have ey:(ix.extract n1 (n1+k)).toList++ix.toList.drop (n1+k)=ix.toList.drop n1:=by
   rw[Array.toList_extract,List.extract_eq_drop_take,X1,<- List.drop_drop,Xe]
  rw[ZJ,ZJ,ey,ex,Xe]
 have pm:(ix.toList.take m++o++ix.toList.drop (n1+k)).Perm ix.toList:=by
  conv=>rhs;rw[<- whole]
  exact List.Perm.append_right _ (List.Perm.append_left _ M.1)
 have inx:∀x∈o,(∃b,m<=b/\b<n1/\x=gx ix b)\/∃b,n1<=b/\b<n1+k/\x=gx ix b:=λx hx=>by
  rcases ZL.mp (M.1.mem_iff.mp hx) with z|z
  .exact .inl (uR () z)
  .exact .inr (uR (Zh hkn hb) z)
 obtain⟨jx,ej⟩:∃jx:Yi,jx=(ix.toList.take m++o++ix.toList.drop (n1+k)).toArray:=⟨_,rfl⟩;have jl:jx.toList=ix.toList.take m++o++ix.toList.drop (n1+k):=by rw[ej]
 have lt1:(ix.toList.take m).length=m:=by rw[ZV,ZM];exact XS ()
 have at1:∀i,i<m->gx jx i=gx ix i:=λi h=>by
  unfold gx;rw[<- XG,<- XG,jl,ZJ,Xq (by rw[lt1];exact h),List.getElem?_take,Zd h]
 have at2:∀j (h:j<o.length),gx jx (m+j)=o[j]:=λj h=>by
  unfold gx;rw[<- XG,jl,ZJ,Xh (by rw[lt1];exact ZX _ _),lt1,X1,Xq h,Zqg h];rfl
 have at3:∀j,gx jx (n1+k+j)=gx ix (n1+k+j):=λj=>by
  unfold gx;rw[<- XG,<- XG,jl,Xh (by rw[ZC,lt1,ew];exact ZX _ _),ZC,lt1,ew,X1,List.getElem?_drop]
 have tri:∀i,i<m\/(∃j,j<o.length/\i=m+j)\/∃j,i=n1+k+j:=λi=>by
  by_cases c1:i<m
  .exact .inl c1
  .by_cases c2:i<n1+k
   .exact .inr (.inl ⟨i-m,(),()⟩)
   .exact .inr (.inr ⟨i-(n1+k),()⟩)
 have pq:∀i j,a<=i->i<m->n1<=j->j<b->Bef lt (gx ix i) (gx ix j):=λi j h0 h h1 h2=>by
  have nb:=XL h1 h2;have pk:Bef lt (gx ix i) (gx ix n1):=.inr ⟨pre i h0 h,Zg (S.pl i h0 (Xl h hm)).2 (T.pl n1 (Zf _) nb).1⟩;by_cases z:j=n1
  .rw[z];exact pk
  .exact Bef.trans W pk (T.up n1 j (Zf _) () h2)
 have sq:∀i c,a<=i->i<n1->n1+k<=c->c<b->Bef lt (gx ix i) (gx ix c):=λi c h0 h1 h2 h3=>by
  have sk:Bef lt (gx ix (n1-1)) (gx ix c):=.inr ⟨suf c h2 h3,Zg (S.pl (n1-1) () ()).2 (T.pl c (Zh (ZX _ _) h2) h3).1⟩;by_cases z:i=n1-1
  .rw[z];exact sk
  .exact Bef.trans W (S.up i (n1-1) h0 () ()) sk
 have sp:∀{y},a<=y->y<n1->a<=gx ix y/\gx ix y<b:=λh1 h2=>⟨(S.pl _ h1 h2).1,by have:=(S.pl _ h1 h2).2;omega⟩;have tp:∀{y},n1<=y->y<b->a<=gx ix y/\gx ix y<b:=λh1 h2=>⟨by have:=(T.pl _ h1 h2).1;omega,(T.pl _ h1 h2).2⟩;refine⟨jx,jl,ol,?_,⟨λi h1 h2=>?_,λi j h1 ij jb=>?_⟩,λi h=>?_⟩
 .rw[Array.perm_iff_toList_perm,jl];exact pm
 .rcases tri i with c|⟨j,c,rfl⟩|⟨j,rfl⟩
  .rw[at1 i c];exact sp h1 (Xl c hm)
  .rw[at2 j c];rcases inx _ (Z6 c) with ⟨y,y1,y2,y3⟩|⟨y,y1,y2,y3⟩
   .rw[y3];exact sp (Zh ham y1) y2
   .rw[y3];exact tp y1 (Zg y2 hkn)
  .rw[at3 j];exact tp () h2
 .rcases tri i with c|⟨i,c,rfl⟩|⟨i,rfl⟩
  .rw[at1 i c];rcases tri j with d|⟨j,d,rfl⟩|⟨j,rfl⟩
   .rw[at1 j d];exact S.up i j h1 ij (Xl d hm)
   .rw[at2 j d];rcases inx _ (Z6 d) with ⟨y,y1,y2,y3⟩|⟨y,y1,y2,y3⟩
    .rw[y3];exact S.up i y h1 (Zg c y1) y2
    .rw[y3];exact pq i y h1 c y1 (Zg y2 hkn)
   .rw[at3 j];exact pq i _ h1 c () jb
  .rw[at2 i c];rcases tri j with d|⟨j,d,rfl⟩|⟨j,rfl⟩
   .omega
   .rw[at2 j d];exact ZZ.mp M.2 i j c d (XF ij)
   .rw[at3 j];rcases inx _ (Z6 c) with ⟨y,y1,y2,y3⟩|⟨y,y1,y2,y3⟩
    .rw[y3];exact sq y _ (Zh ham y1) y2 (ZX _ _) jb
    .rw[y3];exact T.up y _ y1 (Zg y2 (ZX _ _)) jb
  .rcases tri j with d|⟨j,d,rfl⟩|⟨j,rfl⟩
   .omega
   .omega
   .rw[at3 i,at3 j];exact T.up _ _ () ij jb
 .rcases h with z|z
  .exact at1 i (Zg z ham)
  .obtain⟨j,rfl⟩:=Nat.exists_eq_add_of_le (Zh hkn z);exact at3 j
def pend_set {l r:Yc}{x y z:Nat×Nat×Nat}:((l++x::y::r).toArray.setIfInBounds l.length z).eraseIdxIfInBounds (l.length+1)=(l++z::r).toArray:=by
 apply Array.ext';rw[List.setIfInBounds_toArray];unfold Array.eraseIdxIfInBounds;rw[dif_pos (by simp)];rw[Array.toList_eraseIdx];simp[List.eraseIdx_append_of_length_le]
noncomputable def mgP (sa:Nat)(v:KA):SM Bool:=(modify λs=>setArr s (List.foldl (λa x=>match x with|(p,j)=>a.setIfInBounds (sa+j) p) (arrOf s) v.toList.zipIdx)) >>= λ_=>get >>= λz=>pure (failedOf z).isNone
def mg3 (a:KA)(sa na sb k:Nat):SM Bool:=if(k == 0)=true then pure true else if na<=k then qH (a.extract sa sb) (a.extract sb (sb+k)) >>= mgP sa else pA (a.extract sa sb) (a.extract sb (sb+k)) >>= mgP sa
def mg2 (a:KA)(sa na sb nb:Nat):SM Bool:=if(na == 0)=true then pure true else elem' a (sa+na-1) >>= λx=>wP true x a sb nb (nb-1) >>= λr=>match r with
 |some k=>mg3 a sa na sb k
 |_=>pure false
def mg1 (a:KA)(sa na sb nb:Nat):SM Bool:=elem' a sb >>= λx=>wP false x a sa na 0 >>= λr=>match r with
 |some k=>mg2 a (sa+k) (na-k) sb nb
 |_=>pure false
set_option smartUnfolding false in
def mg_eq {i:Nat}:mergeAt' i=(get >>= λz=>match (pendingOf z)[i]?,(pendingOf z)[i+1]? with
 |some (sa,na,pw),some (sb,nb,_)=>set (setPending z (((pendingOf z).setIfInBounds i (sa,na+nb,pw)).eraseIdxIfInBounds (i+1))) >>= λ_=>mg1 (arrOf z) sa na sb nb
 |_,_=>liftM (unsupported "internal:list.sort.pending")):=rfl
def j6 {p:Array (Nat×Nat×Nat)}:pendingOf (setPending st p)=p:=by cases st;rfl
section
variable {a b q am u x y:Nat}{pn:Array (Nat×Nat×Nat)}{Q:Bool->Yy}(W:Wk lt)(S:Seg lt ix a (q+1))(T:Seg lt ix (q+1) b)(hz:ix.size=N)(hb:b<=N)(B:SBp it kind pn ix st)
 (h:∀jx st',SBp it kind pn jx st'->jx.Perm ix->Seg lt jx a b->(∀i,i<a\/b<=i->gx jx i=gx ix i)->Q true st')
include W S T hz hb B h
theorem fB {o:Yj}{s2:SortSt}(am1:a<=am)(am2:am<q+1)(k1:1<=k)(kb:q+1+k<=b)(m3:∀i,a<=i->i<am->lt (gx ix (q+1)) (gx ix i)=false)(k4:∀i,q+1+k<=i->i<b->lt (gx ix i) (gx ix q)=false)
 (se:SEq st s2) (M:Mrg lt (ix.extract am (q+1)) (ix.extract (q+1) (q+1+k)) o):YH prog w A E s (mgP am (ar it o)) Q s2:=by
 obtain⟨jx,j1,j2,j3,j4,j5⟩:=S.put W T (by rw[hz];exact hb) am1 am2 k1 kb m3 k4 M;refine Yo (wpS_modify (Yo (wpS_get (Yp ?_))));have f:failedOf s2=none:=se.fl.trans B.fl;show Q (failedOf s2).isNone _;rw[f];refine h jx _ ⟨?_,se.kd.trans B.kd,f,se.pd.trans B.pd⟩ j3 j4 j5;show List.foldl _ (arrOf s2) _=_;rw[se.arr,B.arr];apply Array.ext';have ol:(ar it o).toList=o.map it:=by simp[ar]
 refine Eq.trans (Zt (λz=>(List.foldl (λ(a:Array Keyed) (x:Keyed×Nat)=>a.setIfInBounds (am+x.2) x.1) (ix.map it) z.zipIdx).toList) ol) ?_;have e1:am+o.length=q+1+k:=()
 rw[mJ am (o.map it) 0 _ (by rw[Z0,Zql];omega),Array.toList_map,Array.toList_map,j1,Zql,Nat.add_zero,e1,ZR,ZR,List.map_take,List.map_drop]
theorem iU (j:∀i,a<=i->i<q+1->Bef lt (gx ix i) (gx ix (q+1)))(aq:a<=q+1)(qb:q+1<b):Q true st:=h ix st B (.refl _) (S.join W T qb j aq) λ_ _=>rfl
variable (O:Orc prog w A s kind it lt N)(lo1:∀i,i<N->gx ix i<N)
include O lo1
theorem mg_3 (e:am+u=q+1)(u1:1<=u)(am1:a<=am)(qb:q+1<b)(kb:q+1+k<=b)(m3:∀i,a<=i->i<am->lt (gx ix (q+1)) (gx ix i)=false)(m4:∀i,am<=i->i<q+1->lt (gx ix (q+1)) (gx ix i)=true)
 (k3:∀i,q+1<=i->i<q+1+k->lt (gx ix i) (gx ix q)=true) (k4:∀i,q+1+k<=i->i<b->lt (gx ix i) (gx ix q)=false):YH prog w A E s (mg3 (ix.map it) am u (q+1) k) Q st:=by
 have am2:am<q+1:=()
 have bz:b<=ix.size:=by rw[hz];exact hb
 refine wi (λc=>Yp (iU W S T hz hb B h (λi h3 hi=>?_) (Zy (XL am1 am2)) qb)) λc=>?_
 .have c:k=0:=Ys.mp c;subst c;have b:Bef lt (gx ix q) (gx ix (q+1)):=.inr ⟨k4 _ (Zf _) qb,Zg (S.pl q (Zh am1 (Z9 am2)) (Xi _)).2 (T.pl _ (Zf _) qb).1⟩;by_cases z:i=q
  .rw[z];exact b
  .exact Bef.trans W (S.up i q h3 () (Xi _)) b
 have k1:1<=k:=Nat.pos_of_ne_zero λy=>c (Ys.mpr y);have qz:q+1<=ix.size:=()
 have kz:=Zh kb bz;have xn:∀x∈(ix.extract am (q+1)).toList,x<N:=λx hx=>by
  obtain⟨l,l1,l2,rfl⟩:=uR qz hx;exact lo1 _ ()
 have yn:∀y∈(ix.extract (q+1) (q+1+k)).toList,y<N:=λx hx=>by
  obtain⟨l,l1,l2,rfl⟩:=uR kz hx;exact lo1 _ ()
 have hxy:∀x∈(ix.extract am (q+1)).toList,∀y∈(ix.extract (q+1) (q+1+k)).toList,x<y:=λx hx y hy=>by
  obtain⟨l,l1,l2,rfl⟩:=uR qz hx;obtain⟨l',l1',l2',rfl⟩:=uR kz hy;exact Zg (S.pl l (Zh am1 l1) l2).2 (T.pl l' l1' (Zg l2' kb)).1
 have px:=fA (ix:=ix) (R:=Bef lt) (i:=am) (j:=q+1) qz λa b h ab bm=>S.up a b (Zh am1 h) ab bm;have py:=fA (ix:=ix) (R:=Bef lt) (i:=q+1) (j:=q+1+k) kz λa b h ab bm=>T.up a b h ab (Zg bm kb);have H:MH lt N (ix.extract am (q+1)) (ix.extract (q+1) (q+1+k)):=⟨W,xn,yn,hxy,px,py⟩;have sx:(ix.extract am (q+1)).size=u:=by rw[X5];omega
 have sy:(ix.extract (q+1) (q+1+k)).size=k:=by rw[X5];omega
 have gx0:gx (ix.extract am (q+1)) 0=gx ix am:=oH am2 qz;have gxl:gx (ix.extract am (q+1)) (u-1)=gx ix q:=by rw[oH () qz,show am+(u-1)=q by omega]
 have gy0:gx (ix.extract (q+1) (q+1+k)) 0=gx ix (q+1):=oH () kz;have gyl:gx (ix.extract (q+1) (q+1+k)) (k-1)=gx ix (q+k):=by rw[oH () kz,show q+1+(k-1)=q+k by omega]
 rw[hJ,hJ];refine wi (λ_=>Yo (sl_mergeLo H O B.kd (by rw[sx];exact u1) (by rw[sy];exact k1) (by rw[gy0,gx0];exact m4 am (Zf _) am2) (λy hy=>?_) λo s2 se M=>fB W S T hz hb B h am1 am2 k1 kb m3 k4 se M))
  λ_=>Yo (sl_mergeHi H O B.kd (by rw[sx];exact u1) (by rw[sy];exact k1) (λx hx=>?_) (by rw[sx,sy,gyl,gxl];exact k3 _ () ()) λo s2 se M=>fB W S T hz hb B h am1 am2 k1 kb m3 k4 se M)
 .obtain⟨l,l1,l2,rfl⟩:=uR kz hy;rw[sx,gxl];exact .inl (k3 l l1 l2)
 .obtain⟨l,l1,l2,rfl⟩:=uR qz hx;rw[gy0];exact .inl (m4 l l1 l2)
theorem mg_2 (e:am+u=q+1)(y1:1<=y)(eb:q+1+y=b)(am1:a<=am)(m3:∀i,a<=i->i<am->lt (gx ix (q+1)) (gx ix i)=false)(m4:∀i,am<=i->i<q+1->lt (gx ix (q+1)) (gx ix i)=true):YH prog w A E s (mg2 (ix.map it) am u (q+1) y) Q st:=by
 have qb:q+1<b:=()
 have qN:q+1<N:=Zg qb hb;have aq:a<=q+1:=Zh am1 (Nat.le.intro e);refine wi (λc=>Yp (iU W S T hz hb B h (λi h3 hi=>.inr ⟨m3 i h3 ?_,Zg (S.pl i h3 hi).2 (T.pl _ (Zf _) qb).1⟩) aq qb)) λc=>?_
 .have c:u=0:=Ys.mp c;subst c;have e:am=q+1:=e;rw[e];exact hi
 have u1:1<=u:=Nat.pos_of_ne_zero λy=>c (Ys.mpr y);rw[show am+u-1=q by rw[e];rfl];refine Yo (xP () (Yo (we O B.kd (lo1 _ (Xr qN)) () (λi hi=>lo1 _ ()) () (λi j ij jn q=>mono_t1 W (T.up _ _ (ZX _ _) (Nat.add_lt_add_left ij _) ()) q) λk k2 k3 k4=>?_)));refine mg_3 W S T hz hb B h O lo1 e u1 am1 qb () m3 m4 (λi h1 h2=>?_) λi h1 h2=>?_
 .obtain⟨d,rfl⟩:=Nat.exists_eq_add_of_le h1;exact k3 d (XF h2)
 .obtain⟨d,rfl⟩:=Nat.exists_eq_add_of_le (Zh (ZX _ _) h1);exact k4 d (Nat.le_of_add_le_add_left h1) ()
theorem mg_1 (e:a+x=q+1)(x1:1<=x)(y1:1<=y)(eb:q+1+y=b):YH prog w A E s (mg1 (ix.map it) a x (q+1) y) Q st:=by
 have qN:q+1<N:=()
 refine Yo (xP () (Yo (we O B.kd (lo1 _ qN) () (λi hi=>lo1 _ ()) x1 (λi j ij jn q=>mono_f1 W (S.up _ _ (ZX _ _) (Nat.add_lt_add_left ij _) ()) q) λm m2 m3 m4=>?_)));refine mg_2 W S T hz hb B h O lo1 () y1 eb (ZX _ _) (λi h1 h2=>?_) λi h1 h2=>?_
 .obtain⟨d,rfl⟩:=Nat.exists_eq_add_of_le h1;have z:(!lt (gx ix (q+1)) (gx ix (a+d)))=true:=m3 d (XF h2);simpa using z
 .obtain⟨d,rfl⟩:=Nat.exists_eq_add_of_le (Zh (ZX _ _) h1);have z:(!lt (gx ix (q+1)) (gx ix (a+d)))=false:=m4 d (Nat.le_of_add_le_add_left h1) ();simpa using z
end
def sl_mergeG {a x y pw p2:Nat}{l r:Yc}{ix:Yi}{Q:Bool->Yy}(W:Wk lt)(O:Orc prog w A s kind it lt N)(B:SBp it kind (l++(a,x,pw)::(a+x,y,p2)::r).toArray ix st)(hz:ix.size=N)(pm:ix.Perm (Array.range N))(S:Seg lt ix a (a+x))(T:Seg lt ix (a+x) (a+x+y))(h1:1<=x)(h2:1<=y)(hb:a+x+y<=N)
 (h:∀jx st',SBp it kind (l++(a,x+y,pw)::r).toArray jx st'->jx.Perm ix->Seg lt jx a (a+x+y)->(∀i,i<a\/a+x+y<=i->gx jx i=gx ix i)->Q true st'):YH prog w A E s (mergeAt' l.length) Q st:=by
 have e0:(pendingOf st)[l.length]? = some (a,x,pw):=by rw[B.pd];simp
 have e1:(pendingOf st)[l.length+1]? = some (a+x,y,p2):=by
  rw[B.pd,List.getElem?_toArray,Xh (ZX _ _),X1];rfl
 rw[mg_eq];refine Yo (wpS_get ?_);rw[e0,e1];refine Yo (sl_set ?_);rw[B.arr];have B':SBp it kind (l++(a,x+y,pw)::r).toArray ix (setPending st (((pendingOf st).setIfInBounds l.length (a,x+y,pw)).eraseIdxIfInBounds (l.length+1))):=⟨B.arr,B.kd,B.fl,by rw[j6,B.pd];exact pend_set⟩;clear B;obtain⟨q,e⟩:∃q,a+x=q+1:=⟨a+x-1,()⟩;rw[e] at S T hb h ⊢;exact mg_1 W S T hz hb B' h O (λi hi=>jq pm (by rw[hz];exact hi)) e h1 h2 rfl
noncomputable def wd (lt:Yd)(ix:Yi):Nat->List (Nat×Nat×Nat)->Nat->Prop
 |a,[],b=>a=b
 |a,p::r,b=>p.1=a/\1<=p.2.1/\Seg lt ix a (a+p.2.1)/\wd lt ix (a+p.2.1) r b
theorem wd.le {ix:Yi}:∀{l:Yc} {a b:Nat},wd lt ix a l b->a+l.length<=b
 | [],a,b,h=>by rw[show a=b from h];exact Zf _
 |p::r,a,b,⟨_,h2,_,h4⟩=>by have:=h4.le;rw[Zu];omega
theorem wd.app {ix:Yi}:∀{l r:Yc} {a b:Nat},wd lt ix a (l++r) b->∃c,wd lt ix a l c/\wd lt ix c r b
 | [],r,a,b,h=>⟨a,rfl,h⟩
 |p::l,r,a,b,⟨h1,h2,h3,h4⟩=>by
  obtain⟨c,c1,c2⟩:=wd.app (l:=l) h4;exact⟨c,⟨h1,h2,h3,c1⟩,c2⟩
theorem wd.cat {ix:Yi}:∀{l r:Yc} {a b c:Nat},wd lt ix a l c->wd lt ix c r b->wd lt ix a (l++r) b
 | [],r,a,b,c,h,k=>by rw[show a=c from h];exact k
 |p::l,r,a,b,c,⟨h1,h2,h3,h4⟩,k=>⟨h1,h2,h3,wd.cat h4 k⟩
theorem wd.same {ix jx:Yi}:∀{l:Yc} {a b:Nat},wd lt ix a l b->(∀i,a<=i->i<b->gx jx i=gx ix i)->wd lt jx a l b
 | [],a,b,h,_=>h
 |p::r,a,b,⟨h1,h2,h3,h4⟩,k=>⟨h1,h2,h3.same λi x y=>k i x (by have:=h4.le;omega),h4.same λi x y=>k i () y⟩
structure RI (it:Nat->Keyed)(kind:SortKind)(lt:Yd)(N:Nat)(ps:Yc)(lo:Nat)(ix:Yi)(st:SortSt):Prop where
 b:SBp it kind ps.toArray ix st
 size:ix.size=N
 perm:ix.Perm (Array.range N)
 ch:wd lt ix 0 ps lo
 le:lo<=N
def kr {i lo:Nat}{ps:Yc}{ix:Yi}{Q:Bool->Yy}(W:Wk lt)(O:Orc prog w A s kind it lt N)(R:RI it kind lt N ps lo ix st)(hi:i+1<ps.length)
 (h:∀ps' jx st',ps'.length+1=ps.length->RI it kind lt N ps' lo jx st'->(∀i,lo<=i->gx jx i=gx ix i)->Q true st'):YH prog w A E s (mergeAt' i) Q st:=by
 obtain⟨l,x,y,r,rfl,hl⟩:∃l x y r,ps=l++x::y::r/\l.length=i:=⟨ps.take i,ps[i],ps[i+1],ps.drop (i+2),by
  rw[<- ZU hi,<- ZU (),Xe],by rw[ZV];omega⟩
 obtain⟨c,c1,c2⟩:=R.ch.app;obtain⟨x1,x2,xp⟩:=x;obtain⟨y1,y2,yp⟩:=y;obtain⟨d1,d2,d3,d4,d5,d6,d7⟩:=c2;have q1:x1=c:=d1;have q4:y1=c+x2:=d4;have q2:1<=x2:=d2;have q5:1<=y2:=d5;have q3:Seg lt ix c (c+x2):=d3;have q6:Seg lt ix (c+x2) (c+x2+y2):=d6;have q7:wd lt ix (c+x2+y2) r lo:=d7;clear d1 d2 d3 d4 d5 d6 d7;subst q1 q4;have lr:=q7.le;have le:=R.le;have B:=R.b;subst hl;refine sl_mergeG W O B R.size R.perm q3 q6 q2 q5 () λjx st' B' p' S' k'=>h (l++(x1,x2+y2,xp)::r) jx st' (by rw[ZC,ZC];rfl) ⟨B',by rw[p'.size_eq];exact R.size,p'.trans R.perm,?_,R.le⟩ λi h1=>k' i (.inr ());rw[Nat.add_assoc] at S';refine(c1.same λi _ h2=>k' i (.inl h2)).cat ⟨rfl,Zh q2 (ZX _ _),S',?_⟩;show wd lt jx (x1+(x2+y2)) r lo;rw[<- Nat.add_assoc];exact q7.same λi h1 _=>k' i (.inr h1)
def pend_mod {l:Yc}{x:Nat×Nat×Nat}(f:Nat×Nat×Nat->Nat×Nat×Nat):(l++[x]).toArray.modify ((l++[x]).toArray.size-1) f=(l++[f x]).toArray:=by
 apply Array.ext';have e:∀l:Yc,(l++[x]).modify l.length f=l++[f x]:=λl=>by
  induction l with
  |nil=>rfl
  |cons y l ih=>show y::(l++[x]).modify l.length f=_;rw[ih];rfl
 simp[e]
abbrev U2:=Option Unit×Unit
abbrev U1:=Option Unit×Nat
noncomputable def srG (pw:Nat):SM (ForInStep U2):=get >>= λz=>match (if(pendingOf z).size > 1 then(pendingOf z)[(pendingOf z).size-2]? else none) with
 |some (_,_,older)=>if older<=pw then pure (.done (none,Yt)) else mergeAt' ((pendingOf z).size-2) >>= λb=>if(!b)=true then pure (.done (some Yt,Yt)) else pure (.yield (none,Yt))
 |_=>pure (.done (none,Yt))
noncomputable def srE (lo n:Nat):SM (ForInStep U1):=(modify λs=>setPending s ((pendingOf s).push (lo,n,0))) >>= λ_=>pure (.yield (none,lo+n))
def srQ (lo n pw:Nat)(c:U2):SM (ForInStep U1):=match c.1 with
 |some r=>pure (.done (some r,lo))
 |none=>(modify λs=>setPending s ((pendingOf s).modify ((pendingOf s).size-1) λ(st,len,_)=>(st,len,pw))) >>= λ_=>srE lo n
def srP (N lo n:Nat):SM (ForInStep U1):=get >>= λz=>match (pendingOf z).back? with
 |some (s1,n1,_)=>(forIn [:N] ((none,Yt):U2) λ_ _=>srG (power' N (2*s1+n1) (2*s1+n1+n1+n) N)) >>= srQ lo n (power' N (2*s1+n1) (2*s1+n1+n1+n) N)
 |_=>srE lo n
def srB (N mr lo:Nat):SM (ForInStep U1):=if lo ≥ N then pure (.done (none,lo)) else countRun' lo (N-lo) >>= λr=>match r with
 |some n=>if n<mr then(liftM (rule "list.sort.binary-insertion"):SM PUnit) >>= λ_=>binarySort' lo (min (N-lo) mr) n >>= λb=>if(!b)=true then pure (.done (some Yt,lo)) else srP N lo (min (N-lo) mr) else srP N lo n
 |_=>pure (.done (some Yt,lo))
noncomputable def srI (p:Array (Nat×Nat×Nat)):Nat:=if Option.any (λx=>decide (x<p[p.size-2+1]?.elim 0 λx=>x.2.1)) (if p.size-2 > 0 then p[p.size-2-1]?.map (λx=>x.2.1) else none)=true then p.size-2-1 else p.size-2
def srF:SM (ForInStep U2):=get >>= λz=>if(pendingOf z).size<=1 then pure (.done (none,Yt)) else mergeAt' (srI (pendingOf z)) >>= λb=>if(!b)=true then pure (.done (some Yt,Yt)) else pure (.yield (none,Yt))
set_option smartUnfolding false in
def sr_eq:sortRuns'=(get >>= λz=>(forIn [:(arrOf z).size] ((none,0):U1) λ_ c=>srB (arrOf z).size (minRun' (arrOf z).size (arrOf z).size 0) c.2) >>= λc=>match c.1 with
 |some r=>pure r
 |none=>(forIn [:(arrOf z).size] ((none,Yt):U2) λ_ _=>srF) >>= λc=>match c.1 with
  |some r=>pure r
  |none=>pure Yt):=rfl
def ite_le {c:Prop}[Decidable c]{x y z:Nat}(h:x<=z)(k:y<=z):(if c then x else y)<=z:=by split<;>assumption
def srI_le {p:Array (Nat×Nat×Nat)}:srI p<=p.size-2:=ite_le (Nat.sub_le _ _) (Zf _)
section
variable {ps:Yc}{pw:Nat}{jx px:Yi}{R:ForInStep U1->Yy}(Sg:Seg lt jx lo (lo+k))(k1:1<=k)(k2:lo+k<=N)(suf:∀i,lo+k<=i->i<N->gx jx i=i)
 (go:∀ps jx st',RI it kind lt N ps (lo+k) jx st'->(∀i,lo+k<=i->i<N->gx jx i=i)->R (.yield (none,lo+k)) st')
include Sg k1 k2 suf go
theorem fF (R4:RI it kind lt N ps lo jx st):YH prog w A E s (srE lo k) R st:=
 Yo (wpS_modify (Yp (go (ps++[(lo,k,0)]) jx _ ⟨⟨R4.b.arr,R4.b.kd,R4.b.fl,by rw[j6,R4.b.pd];simp⟩,R4.size,R4.perm,R4.ch.cat ⟨rfl,k1,Sg,rfl⟩,k2⟩ suf)))
theorem so_srQ (p1:1<=ps.length)(R4:RI it kind lt N ps lo jx st):YH prog w A E s (srQ lo k pw (none,Yt)) R st:=by
 rcases List.eq_nil_or_concat ps with z|⟨l2,v,z⟩
 .rw[z] at p1;cases p1
 .subst z;rw[List.concat_eq_append] at R4;obtain⟨v1,v2,v3⟩:=v;refine Yo (wpS_modify (fF (ps:=l2++[(v1,v2,pw)]) (jx:=jx) Sg k1 k2 suf go ⟨⟨R4.b.arr,R4.b.kd,R4.b.fl,?_⟩,R4.size,R4.perm,?_,R4.le⟩))
  .rw[j6,R4.b.pd];exact pend_mod _
  .obtain⟨c,c1,d1,d2,d3,d4⟩:=R4.ch.app;exact c1.cat (r:=[(v1,v2,pw)]) ⟨d1,d2,d3,d4⟩
end
def so_srG {ps:Yc}{lo pw:Nat}{jx:Yi}{Q:ForInStep U2->Yy}(W:Wk lt)(O:Orc prog w A s kind it lt N)(p1:1<=ps.length)(R4:RI it kind lt N ps lo jx st)(dn:Q (.done (none,Yt)) st)
 (go:∀ps' kx st',1<=ps'.length->RI it kind lt N ps' lo kx st'->(∀i,lo<=i->gx kx i=gx jx i)->Q (.yield (none,Yt)) st'):YH prog w A E s (srG pw) Q st:=by
 refine Yo (wpS_get ?_);rw[R4.b.pd]
 split
 .rename_i o1 o2 older ho;have hp:2<=ps.length:=by
   split at ho
   .rename_i z;rw[Zm] at z;exact z
   .exact zqn ho
  refine wi (λ_=>Yp dn) λ_=>Yo (kr W O R4 (by rw[Zm];omega) λps' kx st' l' R' u'=>Yp (go ps' kx st' () R' u'))
 .exact Yp dn
def fK {ps:Yc}{lo k:Nat}{ix px:Yi}{R:ForInStep U1->Yy}(W:Wk lt)(O:Orc prog w A s kind it lt N)(B:SBp it kind ps.toArray px st)(L:PlO lo N ix px (lo+k))(U:UpO lt lo px (lo+k))(ch:wd lt ix 0 ps lo)(le:lo<=N)(k1:1<=k)(k2:lo+k<=N)
 (go:∀ps jx st',RI it kind lt N ps (lo+k) jx st'->(∀i,lo+k<=i->i<N->gx jx i=i)->R (.yield (none,lo+k)) st'):YH prog w A E s (srP N lo k) R st:=by
 have Sg:Seg lt px lo (lo+k):=⟨L.mid,U⟩;have R3:RI it kind lt N ps lo px st:=⟨B,L.size,L.perm,ch.same λi _ h2=>L.low i h2,le⟩;refine Yo (wpS_get ?_);rw[B.pd];rcases List.eq_nil_or_concat ps with z|⟨l,y,z⟩
 .subst z;exact fF Sg k1 k2 L.suf go R3
 .have p1:1<=ps.length:=by rw[z,List.concat_eq_append,ZC];exact Nat.le_add_left _ _
  rw[show ps.toArray.back? = some y by rw[z,List.concat_eq_append];simp];refine Yo (Yq (Yr (I:=λ_ c sy=>c=(none,Yt)/\∃ps jx,1<=ps.length/\RI it kind lt N ps lo jx sy/\∀i,lo<=i->gx jx i=gx px i) (Q:=λc sy=>c=(none,Yt)/\∃ps jx,1<=ps.length/\RI it kind lt N ps lo jx sy/\∀i,lo<=i->gx jx i=gx px i) ?_ (λ_ _ z=>z) ⟨rfl,_,px,p1,R3,λ_ _=>rfl⟩) ?_)
  .rintro y c sy _ _ ⟨rfl,ps,jx,p1,R4,un⟩;exact so_srG W O p1 R4 ⟨rfl,ps,jx,p1,R4,un⟩ λps' kx st' l' R' u'=>⟨rfl,ps',kx,l',R',λi hi=>(u' i hi).trans (un i hi)⟩
  .rintro c sy ⟨rfl,ps,jx,p1,R4,un⟩;exact so_srQ (Sg.same λi h1 h2=>un i h1) k1 k2 (λi h1 h2=>(un i (Zh (ZX _ _) h1)).trans (L.suf i h1 h2)) go p1 R4
def so_srF {ps:Yc}{jx:Yi}{Q:ForInStep U2->Yy}(W:Wk lt)(O:Orc prog w A s kind it lt N)(R:RI it kind lt N ps N jx st)(dn:ps.length<=1->Q (.done (none,Yt)) st)
 (go:∀ps' kx st',ps'.length+1=ps.length->RI it kind lt N ps' N kx st'->Q (.yield (none,Yt)) st'):YH prog w A E s srF Q st:=by
 refine Yo (wpS_get ?_);rw[R.b.pd];refine wi (λc=>Yp (dn c)) λc=>Yo (kr W O R ?_ λps' jx st' l' R' _=>Yp (go ps' jx st' l' R'));have c:¬ps.length<=1:=c;have:=srI_le (p:=ps.toArray);rw[Zm] at this;omega
def so_all {ix:Yi}{Q:Unit->Yy}(W:Wk lt)(O:Orc prog w A s kind it lt N)(R0:RI it kind lt N [] 0 ix st)(suf:∀i,i<N->gx ix i=i)(h2:2<=N)
 (h:∀jx st',arrOf st'=jx.map it->failedOf st'=none->Pl N jx N->Up lt jx N->Q Yt st'):YH prog w A E s sortRuns' Q st:=by
 have sz:(arrOf st).size=N:=by rw[R0.b.arr,Z0];exact R0.size
 rw[sr_eq];refine Yo (wpS_get ?_);rw[sz];refine Yo (Yq (Yr (I:=λx c sx=>∃lo ps ix,c=(none,lo)/\x<=lo/\RI it kind lt N ps lo ix sx/\∀i,lo<=i->i<N->gx ix i=i) (Q:=λc sx=>∃ps ix,c=(none,N)/\RI it kind lt N ps N ix sx) ?_ ?_ ⟨0,[],ix,rfl,Zf _,R0,λi _ hi=>suf i hi⟩) ?_)
 .rintro x c sx _ xn ⟨lo,ps,ix,rfl,xl,R,suf⟩;have le:=R.le;refine wi (λge=>?_) λge=>?_
  .have e:lo=N:=Nat.le_antisymm le ge;subst e;exact Yp ⟨ps,ix,rfl,R⟩
  have ge:lo<N:=XU ge;have L1:PlO lo N ix ix (lo+1):=⟨R.size,R.perm,λ_ _=>rfl,λa h1 h2=>by
   rw[suf a h1 (Zg h2 ge)];exact⟨h1,h2⟩,λa h1 h2=>suf a (Z8 h1) h2⟩
  exact Yo (so_count W O () (λm kx s2 B2 m1 m2 L2 U2=>wi (λmn=>Yo (wpS_lift (wpAny_rule ⟨rfl,Yo (so_bin W O () () m1 B2 L2 U2 λpx s3 B3 L3 U3=>fK W O B3 L3 U3 R.ch le () () λps jx st' R' s'=>⟨_,ps,jx,rfl,(),R',s'⟩)⟩))) λ_=>fK W O B2 L2 U2 R.ch le m1 () λps jx st' R' s'=>⟨_,ps,jx,rfl,(),R',s'⟩) () R.b L1)
 .rintro c sx ⟨lo,ps,ix,rfl,xl,R,suf⟩;have le:=R.le;have e:lo=N:=()
  subst e;exact⟨ps,ix,rfl,R⟩
 .rintro c sx ⟨ps,ix,rfl,R⟩;refine Yo (Yq (Yr (I:=λx c sy=>∃ps ix,c=(none,Yt)/\(ps.length<=1\/ps.length+x<=N)/\RI it kind lt N ps N ix sy) (Q:=λc sy=>∃ps ix,c=(none,Yt)/\ps.length<=1/\RI it kind lt N ps N ix sy) ?_ ?_ ⟨ps,ix,rfl,.inr (by have:=R.ch.le;omega),R⟩) ?_)
  .rintro x c sy _ xn ⟨ps,ix,rfl,lp,R⟩;exact so_srF W O R (λc1=>⟨ps,ix,rfl,c1,R⟩) λps' jx st' l' R'=>⟨ps',jx,rfl,(),R'⟩
  .rintro c sy ⟨ps,ix,rfl,lp,R⟩;exact⟨ps,ix,rfl,(),R⟩
  .rintro c sy ⟨ps,ix,rfl,lp,R⟩;cases ps with
   |nil =>
    have:0=N:=R.ch;omega
   |cons p r =>
    have e:r=[]:=List.eq_nil_of_length_eq_zero (Nat.le_zero.mp (Nat.le_of_succ_le_succ lp));subst e;obtain⟨d1,d2,d3,d4⟩:=R.ch;have d4:0+p.2.1=N:=d4;rw[d4] at d3;exact Yp (h ix sy R.b.arr R.b.fl ⟨R.size,R.perm,λa ha=>(d3.pl a (Nat.zero_le _) ha).2,λa h1 h2=>Zn h2 (Nat.not_lt_of_le h1)⟩ λa b ab bn=>d3.up a b (Nat.zero_le _) ab bn)
end
open PySem PyProof.Rows
section
def iQ (W:Wk lt)(O:Orc prog w A s kind it lt n){Q:Unit->Yy}(B:SB it kind ix st)(L:Pl n ix 1)(h2:2<=n)(h64:n<1000)
 (h:∀jx st',arrOf st'=jx.map it->failedOf st'=none->Pl n jx n->Up lt jx n->Q Yt st'):YH prog w A E s sortRuns' Q st:=
 so_all W O ⟨⟨B.arr,B.kd,B.fl,B.pd⟩,L.size,L.perm,rfl,Nat.zero_le _⟩ (λi hi=>if z:i=0 then by rw[z];have:=L.pre 0 ();omega else L.suf i () hi) h2 h
end
end L2
end
namespace L2
noncomputable def xw (vs:Yf)(i:Nat):Value:=vs.getD i .none
def sT (vs:Yf):vs.toArray.zip vs.toArray=(Array.range vs.length).map λi=>(xw vs i,xw vs i):=by
 apply Array.ext_getElem?;intro k;rw[Xn];by_cases h:k<vs.length
 .rw[XY,Zd h];have e:xw vs k=vs[k]:=by unfold xw;rw[ZG,Zqg h];rfl
  simp[Array.getElem?_zip_eq_some,h,e]
 .rw[XY,Ze h,Xp (by simp;omega)];rfl
def mM (h:k<n):gx (Array.range n) k=k:=by
 unfold gx;rw[XY,Zd h];rfl
def tI (n k:Nat)(hk:k<=n):Pl n (Array.range n) k:=by
 refine⟨Array.size_range,Array.Perm.refl _,λa ha=>?_,λa _ h=>mM h⟩;rw[mM ()];exact ha
section
variable {prog:Program}{w:World}{A:Around}{E:Ya}{s:Shared}{lt:Yd}
def cQ (prog:Program)(w:World)(A:Around)(s:Shared)(vs:Yf)(lt:Yd):Prop:=
 ∃kind,(∀(E:Ya) (Q:SortKind->Yz),Q kind s->YG prog w A (keyKind' vs.toArray) Q E s)/\Orc prog w A s kind (λi=>(xw vs i,xw vs i)) lt vs.length
def qa (W:Wk lt)(ho:s.heap.get? a=some (seqObj "list" vs.toArray n))(h64:vs.length<1000)
 (hk:∀h',(∀b o,b≠a->s.heap.get? b=some o->h'.get? b=some o)->2<=vs.length->cQ prog w A { s with heap:=h' } vs lt)
 (h:∀jx,Pl vs.length jx vs.length->Up lt jx vs.length->P (.done (.ret .none)) { s with heap:=sortedHeap s.heap a vs (jx.map (xw vs)) }):
 YG prog w A (Builtin.«list.sort» ⟨[.ref a],[]⟩) P E s:=by
 rw[list_sort_plain];have la:a<s.heap.objs.size:=Zk ho;obtain⟨c1,g1⟩:∃c1,(s.heap.update a (Obj.mapSeq λ_ => #[])).get? a=some (seqObj "list" #[] c1):=⟨_,get?_update_seq ho (λ_ => #[])⟩;refine Za (listItems_at ho rfl (Za (listUpdate_at ho rfl (Za (seqEpoch_at g1 rfl (Za (wpAny_newTuple (Za (wpAny_newList (wpAny_holding ?_))))))))));have ne1:∀b,b<s.heap.objs.size->b≠(s.heap.update a (Obj.mapSeq λ_ => #[])).objs.size:=λb hb=>by
  rw[Heap.size_update];exact Zi hb
 have ne2:∀b,b<s.heap.objs.size->b≠((s.heap.update a (Obj.mapSeq λ_ => #[])).push (seqObj "tuple" vs.toArray 0)).objs.size:=λb hb=>by
  rw[size_push',Heap.size_update];exact Zi (Z7 hb)
 have g6:(((s.heap.update a (Obj.mapSeq λ_ => #[])).push (seqObj "tuple" vs.toArray 0)).push (seqObj "list" #[] 0)).get? a=some (seqObj "list" #[] c1):=by
  rw[Heap.get?_push_ne _ _ _ (ne2 a la),Heap.get?_push_ne _ _ _ (ne1 a la)];exact g1
 have kp:∀b o,b≠a->s.heap.get? b=some o->(((s.heap.update a (Obj.mapSeq λ_ => #[])).push (seqObj "tuple" vs.toArray 0)).push (seqObj "list" #[] 0)).get? b=some o:=λb o hb e=>by
  rw[Heap.get?_push_ne _ _ _ (ne2 b (Zk e)),Heap.get?_push_ne _ _ _ (ne1 b (Zk e)),Heap.get?_update_ne _ _ _ _ hb];exact e
 have ms:∀(jx:Yi),(jx.map λi=>(xw vs i,xw vs i)).map (·.2)=jx.map (xw vs):=λjx=>by
  rw[Array.map_map];rfl
 show YG prog w A _ P E { s with heap:=((s.heap.update a (Obj.mapSeq λ_ => #[])).push (seqObj "tuple" vs.toArray 0)).push (seqObj "list" #[] 0) };dsimp only;have sz:vs.toArray.size=vs.length:=by simp
 by_cases few:vs.toArray.size<2
 .rw[Zd few,Zd few];refine Za (Zb ?_);rw[StateT.run_pure];refine Za (Zb ?_);dsimp only;refine Za (seqEpoch_at g6 rfl (Za (listUpdate_at g6 rfl ?_ (hsz2:=by rw[Z0,sT,Z0,Array.size_range,sizeLine_eq];omega))));simp only[bne_self_eq_false,ZO,if_false];have fin:=h (Array.range vs.length) (tI _ _ (Zf _)) λi j ij jn=>()
  rw[<- ms,<- sT] at fin;exact Zb fin
 .rw[Ze few,Ze few];refine zc1b (hk _ kp ()) λkind k1 k2=>?_;refine Za (k1 _ _ ?_);refine Za (Zc (iQ W k2 (ix:=Array.range vs.length) (st:=SortSt.mk' kind (vs.toArray.zip vs.toArray) #[] 7 none) (Q:=λ_ st'=>∃jx,arrOf st'=jx.map (λi=>(xw vs i,xw vs i))/\failedOf st'=none/\Pl vs.length jx vs.length/\Up lt jx vs.length)
   ⟨sT vs,rfl,rfl,rfl⟩ (tI _ _ ()) () h64 λjx st' a1 a2 a3 a4=>⟨jx,a1,a2,a3,a4⟩) ?_ λ_ _ e=>e)
  rintro⟨⟨⟩,st'⟩ s' ⟨rfl,jx,q1,q2,q3,q4⟩;dsimp only;refine Za (seqEpoch_at g6 rfl (Za (listUpdate_at g6 rfl ?_ (hsz2:=by
   rw[Z0,q1,Z0,q3.size,sizeLine_eq];omega))))
  rw[q2];simp only[bne_self_eq_false,ZO,if_false];have fin:=h jx q3 q4;rw[<- ms,<- q1] at fin;exact Zb fin
def pT (W:Wk lt)
 (hc:wpAny (model prog w) A.in1 (collect x) (λvs s1=>vs.length<1000/\(∀h',(∀b o,s1.heap.get? b=some o->h'.get? b=some o)->2<=vs.length->cQ prog w A.in1.in1 { s1 with heap:=h' } vs lt) /\
  ∀jx h' l,Pl vs.length jx vs.length->Up lt jx vs.length->(∀b o,s1.heap.get? b=some o->h'.get? b=some o)->s1.heap.objs.size<=l->(∃e,h'.get? l=some (seqObj "list" (jx.map (xw vs)) e))->Q (.ref l) { s1 with heap:=h' }) E s):
 YG prog w A (call (.builtin "sorted") [x]) Q E s:=by
 refine Calls.call_function_entry kind_sorted plain_sorted entry_sorted (args_sorted1 _) ?_;unfold Builtin.«sorted»;refine Za (m:=checkCount "sorted" 1 1 _) (Zb (Za (Zc hc (λvs s1 z=>?_) λ_ _ e=>e)));obtain⟨h64,hk,hq⟩:=z;have gl:(s1.heap.push (seqObj "list" vs.toArray 0)).get? s1.heap.objs.size=some (seqObj "list" vs.toArray 0):=Zr _ rfl;have nl:∀b o,s1.heap.get? b=some o->b≠s1.heap.objs.size:=λb o e=>Zi (Zk e);refine Za (wpAny_newList (Za (wpAny_holding (wpAny_call_entry slot_list_sort ⟨_,gl,rfl⟩ entry_list_sort (qa (s:={ s1 with heap:=s1.heap.push (seqObj "list" vs.toArray 0) }) W gl h64 (λh' kp=>hk h' λb o e=>kp b o (nl b o e) (Zq _ e)) λjx p u=>⟨_,rfl,Zb ⟨_,rfl,?_⟩⟩) (args_list_sort _)))));refine hq jx _ _ p u (λb o e=>?_) (Zf _) (sortedHeap_at gl);rw[sortedHeap_old (nl b o e) (by rw[size_push'];exact Z7 (Zk e))];exact Zq _ e
end
structure Tot {α:Type}(ltb:α -> α -> Bool):Prop where
 asy:∀a b,ltb a b=true->ltb b a=false
 neg:∀a b c,ltb a c=true->ltb a b=true\/ltb b c=true
 tot:∀a b,ltb a b=false->ltb b a=false->a=b
def Tot.irr {α:Type}{ltb:α -> α -> Bool}(T:Tot ltb)(a:α):ltb a a=false:=by
 cases q:ltb a a with
 |false=>rfl
 |true=>have:=T.asy _ _ q;rw[q] at this;cases this
def Tot.wk {α:Type}{ltb:α -> α -> Bool}(T:Tot ltb)(f:Nat -> α):Wk λi j=>ltb (f i) (f j):=⟨λi j=>T.asy _ _,λi j k=>T.neg _ _ _⟩
noncomputable def wH (p q:Int×Int):Bool:=decide (p.1<q.1)||(decide (p.1=q.1)&&decide (p.2<q.2))
def xh:wH p q=true↔p.1<q.1\/(p.1=q.1/\p.2<q.2):=by
 unfold wH;simp
def sU:wH p q=false↔¬(p.1<q.1\/(p.1=q.1/\p.2<q.2)):=by
 rw[<- xh];simp
def xS:Tot wH:=by
 refine⟨λa b h=>?_,λa b c h=>?_,λa b h1 h2=>?_⟩
 .rw[xh] at h;rw[sU];omega
 .rw[xh] at h;rw[xh,xh];omega
 .rw[sU] at h1 h2;exact Prod.ext () ()
def yF:X8->X8->Bool
 | [],[]=>false
 | [],_::_=>true
 |_::_,[]=>false
 |p::r,q::s=>if p=q then yF r s else wH p q
def yR (p q:Int×Int)(r s:X8):yF (p::r) (q::s)=if p=q then yF r s else wH p q:=rfl
theorem iM:∀a b:X8,yF a b=true->yF b a=false
 | [],[],h=>by exact zqb h
 | [],_::_,_=>rfl
 |_::_,[],h=>by exact zqb h
 |p::r,q::s,h=>by
  rw[yR] at h ⊢;by_cases e:p=q
  .rw[Zd e] at h;rw[Zd e.symm];exact iM r s h
  .rw[Ze e] at h;rw[Ze (λz=>e z.symm)];exact xS.asy _ _ h
theorem jF:∀a b c:X8,yF a c=true->yF a b=true\/yF b c=true
 | [],[],c,h=>.inr h
 | [],_::_,_,_=>.inl rfl
 |_::_,_,[],h=>by exact zqb h
 |p::r,[],q::s,_=>.inr rfl
 |p::r,x::t,q::s,h=>by
  rw[yR] at h;rw[yR,yR];by_cases e:p=q
  .rw[Zd e] at h;by_cases e1:p=x
   .rw[Zd e1,Zd (e1.symm.trans e)];exact jF r t s h
   .rw[Ze e1,Ze (λz=>e1 (e.trans z.symm))];cases z:wH p x with
    |true=>exact .inl rfl
    |false =>
     right;rw[<- e];cases y:wH x p with
     |true=>rfl
     |false=>exact Zn (xS.tot _ _ z y) e1
  .rw[Ze e] at h;by_cases e1:p=x
   .rw[Zd e1,Ze (λz=>e (e1.trans z))];right;rw[<- e1];exact h
   .rw[Ze e1];by_cases e2:x=q
    .left;rw[e2];exact h
    .rw[Ze e2];exact xS.neg _ _ _ h
theorem j9:∀a b:X8,yF a b=false->yF b a=false->a=b
 | [],[],_,_=>rfl
 | [],_::_,h,_=>by cases h
 |_::_,[],_,h=>by cases h
 |p::r,q::s,h1,h2=>by
  rw[yR] at h1 h2;by_cases e:p=q
  .rw[Zd e] at h1;rw[Zd e.symm] at h2;rw[e,j9 r s h1 h2]
  .rw[Ze e] at h1;rw[Ze (λz=>e z.symm)] at h2;exact Zn (xS.tot _ _ h1 h2) e
def zR:Tot yF:=⟨iM,jF,j9⟩
section
variable {α:Type}(ltb:α -> α -> Bool)
noncomputable def dW (x:α):List α -> List α
 | []=>[x]
 |y::r=>if ltb x y=true then x::y::r else y::dW x r
def zY:List α -> List α
 | []=>[]
 |x::r=>dW ltb x (zY r)
noncomputable def Sd (l:List α):Prop:=l.Pairwise λa b=>ltb b a=false
variable {ltb}
theorem sM (x:α):∀l:List α,(dW ltb x l).Perm (x::l)
 | []=>List.Perm.refl _
 |y::r=>by
  unfold dW
  split
  .exact List.Perm.refl _
  .exact((sM x r).cons y).trans (List.Perm.swap x y r)
theorem zt:∀l:List α,(zY ltb l).Perm l
 | []=>List.Perm.refl _
 |x::r=>(sM x _).trans ((zt r).cons x)
theorem j0 (T:Tot ltb)(x:α):∀l:List α,Sd ltb l->Sd ltb (dW ltb x l)
 | [],_=>Xu _ _
 |y::r,h=>by
  obtain⟨h1,h2⟩:=Z5.mp h;unfold dW
  split
  .rename_i c;refine Z5.mpr ⟨λz hz=>?_,h⟩;rcases ZD.mp hz with e|e
   .rw[e];exact T.asy _ _ c
   .cases q:ltb z x with
    |false=>rfl
    |true =>
     have n1:=h1 z e;rcases T.neg x z y c with u|u
     .rw[T.asy _ _ u] at q;exact zqb q
     .rw[n1] at u;exact zqb u
  .rename_i c;refine Z5.mpr ⟨λz hz=>?_,j0 T x r h2⟩;rcases ZD.mp ((sM x r).mem_iff.mp hz) with e|e
   .rw[e];cases q:ltb x y with
    |false=>rfl
    |true=>exact Zn q c
   .exact h1 z e
theorem xM (T:Tot ltb):∀l:List α,Sd ltb (zY ltb l)
 | []=>List.Pairwise.nil
 |x::r=>j0 T x _ (xM T r)
theorem lM (T:Tot ltb):∀{a b:List α},a.Perm b->Sd ltb a->Sd ltb b->a=b
 | [],b,p,_,_=>p.nil_eq
 |x::r,b,p,ha,hb=>by
  cases b with
  |nil=>exact Zn p.length_eq (by simp)
  |cons y t =>
   obtain⟨a1,a2⟩:=Z5.mp ha;obtain⟨b1,b2⟩:=Z5.mp hb;have e:x=y:=by
    rcases ZD.mp (p.mem_iff.mp Zqs) with z|z
    .exact z
    .rcases ZD.mp (p.mem_iff.mpr Zqs) with u|u
     .exact u.symm
     .exact T.tot _ _ (b1 x z) (a1 y u)
   subst e;rw[lM T p.cons_inv a2 b2]
def wy (T:Tot ltb){l:List α}{d:α}(p:Pl l.length jx l.length)(u:Up (λi j=>ltb (l.getD i d) (l.getD j d)) jx l.length):jx.toList.map (λi=>l.getD i d)=zY ltb l:=by
 refine lM T ?_ ?_ (xM T l)
 .refine List.Perm.trans ?_ (zt l).symm;have q:jx.toList.Perm (List.range l.length):=by
   have:=Array.perm_iff_toList_perm.mp p.perm;simpa using this
  refine(q.map _).trans (List.Perm.of_eq ?_);apply List.ext_getElem
  .simp
  .intro i h1 h2;simp[h2]
 .refine ZZ.mpr λa b ha hb ab=>?_;rw[List.getElem_map,List.getElem_map];have sz:jx.toList.length=l.length:=by rw[ZM,p.size]
  rw[Zql] at ha hb;have ea:jx.toList[a]=gx jx a:=by
   unfold gx;rw[ZI (by rw[p.size];omega)];simp
  have eb:jx.toList[b]=gx jx b:=by
   unfold gx;rw[ZI (by rw[p.size];omega)];simp
  rw[ea,eb];exact Bef.no (T.wk λi=>l.getD i d) (u a b ab ())
end
def z6 {α:Type}{l:List α}{d x:α}(h:l[i]? = some x):l.getD i d=x:=by
 rw[ZG,h];rfl
noncomputable def vj (h:Heap)(vs:Yf)(ps:X8):Prop:=vs.length=ps.length/\∀(i:Nat) p,ps[i]? = some p->∃a o n t u,vs[i]? = some (.ref a)/\h.get? a=some o/\o.cls=.type "tuple" /\ o.data=.seq #[.int p.1 t,.int p.2 u] n
section
variable {prog:Program}{w:World}{A:Around}{s:Shared}
theorem uS:∀{vs:Yf} {ps:X8},vj h vs ps->∃fs,W.KatTups h vs fs/\fs.length=vs.length/\∀v∈fs,∃k t,v=Value.int k t
 | [],ps,q=>⟨[],.nil,rfl,λv hv=>nomatch hv⟩
 |v::vs,[],q=>by have:=q.1;simp at this
 |v::vs,p::ps,q=>by
  refine zc4a (q.2 0 p rfl) λa o n t zz=>zc1d zz λu e1 e2 e3 e4=>?_;have e1:some v=some (Value.ref a):=e1;obtain rfl:=Zqi e1;refine zc1c (uS (h:=h) (vs:=vs) (ps:=ps) ⟨by have:=q.1;simpa using this,λi p hp=>q.2 (i+1) p hp⟩) λfs k1 k2 k3=>?_;refine⟨.int p.1 t::fs,.cons e2 e3 e4 rfl k1,by simp[k2],λv hv=>?_⟩;rcases ZD.mp hv with z|z
  .exact⟨p.1,t,z⟩
  .exact k3 v z
def keys_pairs (q:vj s.heap vs ps)(h2:2<=vs.length):cQ prog w A s vs λi j=>wH (ps.getD i (0,0)) (ps.getD j (0,0)):=by
 refine zc1c (uS q) λfs k1 k2 k3=>?_;refine⟨tuples' (Value.type "int" != Value.type "tuple"),λE Q h=>W.kat_kind (T:=Value.type "int") k1 () (λv hv=>?_) rfl h,λi j hi hj E Q h=>?_⟩
 .refine zc2a (k3 v hv) λk t zr2=>?_;subst zr2;exact W.Looks.of_pure rfl
 .have l1:=q.1;obtain⟨p,hp⟩:∃p,ps[i]? = some p:=⟨_,Zqg ()⟩;obtain⟨p',hp'⟩:∃p,ps[j]? = some p:=⟨_,Zqg ()⟩;refine zc4a (q.2 i p hp) λa o n t zz=>zc1d zz λu e1 e2 e3 e4=>?_;refine zc4a (q.2 j p' hp') λa' o' n' t' zz=>zc1d zz λu' f1 f2 f3 f4=>?_;dsimp only at h;rw[z6 hp,z6 hp'] at h;show YG prog w A (keyLt' _ (xw vs i) (xw vs j)) Q E s;unfold xw;rw[z6 e1,z6 f1];refine W.kat_lt e2 e4 f2 f4 ?_;refine W.kat_cons (PySem.SeqAt.EqAt.int_int p.1 t p'.1 t' prog w _ _ ?_);by_cases c:p.1=p'.1
  .rw[show(p.1 == p'.1)=true by simpa using c];refine W.kat_yes (W.kat_cons (PySem.SeqAt.EqAt.int_int p.2 u p'.2 u' prog w _ _ ?_));by_cases d:p.2=p'.2
   .rw[show(p.2 == p'.2)=true by simpa using d];refine W.kat_yes (W.kat_nil ?_);have z:wH p p'=false:=by rw[sU];omega
    rw[z] at h;exact h
   .rw[show(p.2 == p'.2)=false by simpa using d];refine W.kat_no (W.kat_one _ _ (lt_int ?_));have z:wH p p'=decide (p.2<p'.2):=by
     by_cases g:p.2<p'.2
     .rw[Zp g,xh];omega
     .rw[Zo g,sU];omega
    rw[z] at h;exact h
  .rw[show(p.1 == p'.1)=false by simpa using c];refine W.kat_no (oneLt_int ?_);have z:wH p p'=decide (p.1<p'.1):=by
    by_cases g:p.1<p'.1
    .rw[Zp g,xh];omega
    .rw[Zo g,sU];omega
   rw[z] at h;exact h
structure RowAt (h:Heap)(v:Value)(r:X8)(a:Addr)(o:Obj)(us:Yf)(n:Nat):Prop where
 isv:v=.ref a
 get:h.get? a=some o
 cls:o.cls=.type "tuple"
 dat:o.data=.seq us.toArray n
 prs:vj h us r
def ir (ok:HOk P w H h)(hr:Is H (rD r) x)(rv:yw x v):∃a o us n,RowAt h v r a o us n:=by
 unfold rD at hr;rw[Is.tuple_iff] at hr;refine zc2c hr λa xs zr2 ht ha=>?_;subst zr2;obtain rfl:v=Value.ref a:=rv;refine wG ((show yr P w H h a (.tup xs) from ok a _ ht)) λ_ zz=>zc1b zz λits ri zz=>zc1c zz λo e1 e2 zz=>zc1a zz λn e3=>?_;refine⟨a,o,its,n,rfl,e1,e2,e3,?_,λi p hp=>?_⟩
 .have l1:=ha.length;have l2:=ri.length;rw[Zql] at l1;omega
 .refine zc1b (ha.get (i:=i) (d:=pD p) (by rw[Zv,hp];rfl)) λx hx hi=>?_;refine zc1b (ri.get hx) λu hu ru=>?_;refine zc1b (pj.mp hi) λb zr1 hb=>?_;subst zr1;obtain rfl:u=Value.ref b:=ru;refine wG ((show yr P w H h b (.tup [.int p.1,.int p.2]) from ok b _ hb)) λ_ zz=>zc1b zz λits2 r2 zz=>zc1c zz λo2 g1 g2 zz=>zc1a zz λn2 g3=>?_;refine zc2c (iE r2) λu1 u2 zr2 q1 q2=>?_;subst zr2;obtain⟨t1,rfl⟩:=(show ∃t,u1=Value.int p.1 t from q1);obtain⟨t2,rfl⟩:=(show ∃t,u2=Value.int p.2 t from q2);exact⟨b,o2,n2,t1,t2,hu,g1,g2,g3⟩
theorem oq (hu:A.units+4<cLine){fin:Bool}{E:Ya}{Q:Bool->Yz}:∀{r r':X8} {us us':Yf} (i:Nat),vj s.heap us r->vj s.heap us' r' ->
 fin=decide (r.length<r'.length)->Q (yF r r') s->W.KatLex prog w A false fin Q (us.zip us') i s
 | [],[],us,us',i,q,q',hf,h=>by
  obtain rfl:us=[]:=ZS.mp q.1;refine W.kat_nil ?_;rw[hf];exact h
 | [],p::r',us,us',i,q,q',hf,h=>by
  obtain rfl:us=[]:=ZS.mp q.1;refine W.kat_nil ?_;rw[hf,Zp (by simp)];exact h
 |p::r,[],us,us',i,q,q',hf,h=>by
  obtain rfl:us'=[]:=ZS.mp q'.1;rw[List.zip_nil_right];refine W.kat_nil ?_;rw[hf,Zo (by simp)];exact h
 |p::r,p'::r',us,us',i,q,q',hf,h=>by
  refine zc4a (q.2 0 p rfl) λa o n t zz=>zc1d zz λu e1 e2 e3 e4=>?_;refine zc4a (q'.2 0 p' rfl) λa' o' n' t' zz=>zc1d zz λu' f1 f2 f3 f4=>?_;cases us with
  |nil=>exact zqn e1
  |cons v us =>
   cases us' with
   |nil=>exact zqn f1
   |cons v' us' =>
    have e1:some v=some (Value.ref a):=e1;have f1:some v'=some (Value.ref a'):=f1;obtain rfl:=Zqi e1;obtain rfl:=Zqi f1;have R1:Reads s.heap (.ref a) (pD p) _:=.tuple e2 e3 e4 (.cons (.int p.1 t) (.cons (.int p.2 u) .nil));have R2:Reads s.heap (.ref a') (pD p') _:=.tuple f2 f3 f4 (.cons (.int p'.1 t') (.cons (.int p'.2 u') .nil));have dp:∀z:Int×Int,(pD z).depth=1:=λz=>by
     unfold pD PyData.depth;show PyData.depthAll ([z.1,z.2].map PyData.int)+1=1;rw[rK]
    rw[XJ];refine W.kat_cons (PySem.SeqAt.eqAt_reads _ _ A s _ _ _ _ R1 R2 (sG _ (vP p)) (sG _ (vP p')) (by rw[dp,dp];omega) prog w _ _ ?_);rw[yR] at h;by_cases c:p=p'
    .subst c;rw[eqv_self (vP p)];rw[Zd rfl] at h;refine W.kat_yes (oq hu (E:=E) (i+1) ⟨by have:=q.1;simpa using this,λi z hz=>q.2 (i+1) z hz⟩ ⟨by have:=q'.1;simpa using this,λi z hz=>q'.2 (i+1) z hz⟩ (by rw[hf];simp) h)
    .rw[Ze c] at h;have ne:pD p≠pD p':=λz=>c (by
      unfold pD at z;injection z with z
      injection z with z1 z
      injection z with z2 z
      injection z1 with z1
      injection z2 with z2
      exact Prod.ext z1 z2)
     rw[eqv_ne (vP p) (vP p') ne];refine W.kat_no ?_;rw[Bool.false_and];have I1:IntsAre (#[Value.int p.1 t,Value.int p.2 u]:Yn).toList [p.1,p.2]:=.cons _ _ (.cons _ _ .nil);have I2:IntsAre (#[Value.int p'.1 t',Value.int p'.2 u']:Yn).toList [p'.1,p'.2]:=.cons _ _ (.cons _ _ .nil);refine W.kat_one _ _ (HT.lt_tupInts ⟨o,e2,e3,n,e4⟩ ⟨o',f2,f3,n',f4⟩ I1 I2 () ?_);have z:HT.lexLt [p.1,p.2] [p'.1,p'.2]=wH p p':=by
      rw[HT.lexLt_cons,HT.lexLt_cons,HT.lexLt_nil_nil];unfold wH;by_cases g:p.1=p'.1
      .have g2:¬p.2=p'.2:=λz=>c (Prod.ext g z);simp[g,g2]
      .simp[g]
     rw[z];exact h
def oD {P:Program}{H:Hp}{rs:X9}{xs:YB}{vs:Yf}(hu:A.units+4<cLine)(ok:HOk P w H s.heap)(ha:zw H (rs.map rD) xs)(rv:yi xs vs)(hne:∀r∈rs,r ≠ [])(h2:2<=vs.length):
 cQ prog w A s vs λi j=>yF (rs.getD i []) (rs.getD j []):=by
 have l1:=ha.length;have l2:=rv.length;rw[Zql] at l1;have at_:∀(i:Nat) r,rs[i]? = some r->∃v a o us n,vs[i]? = some v/\RowAt s.heap v r a o us n:=λi r hr=>by
  refine zc1b (ha.get (i:=i) (d:=rD r) (by rw[Zv,hr];rfl)) λx hx hi=>?_;refine zc1b (rv.get hx) λv hv ru=>?_;refine zc4a (ir ok hi ru) λa o us n R=>?_;exact⟨v,a,o,us,n,hv,R⟩
 have firsts:∀(vs:Yf) (rs:X9),vs.length=rs.length->(∀r∈rs,r ≠ [])->(∀(i:Nat) r,rs[i]? = some r->∃v a o us n,vs[i]? = some v/\RowAt s.heap v r a o us n)->∃fs,W.KatTups s.heap vs fs/\fs.length=vs.length/\∀v∈fs,∃b ob,v=Value.ref b/\s.heap.get? b=some ob/\ob.cls=.type "tuple" := by
  intro vs
  induction vs with
  |nil=>exact λ_ _ _ _=>⟨[],.nil,rfl,λv hv=>nomatch hv⟩
  |cons v vs ih =>
   intro rs hl hne hat;cases rs with
   |nil=>simp at hl
   |cons r rs =>
    refine zc4a (hat 0 r rfl) λv' a o us zz=>zc1b zz λn e1 R=>?_;have e1:some v=some v':=e1;obtain rfl:=Zqi e1;refine zc1c (ih rs (by simpa using hl) (λr hr=>hne r (Zqm _ hr)) λi r hr=>hat (i+1) r hr) λfs k1 k2 k3=>?_;cases r with
    |nil=>exact Zn rfl (hne [] Zqs)
    |cons p r =>
     refine zc4a (R.prs.2 0 p rfl) λb ob nb t zz=>zc1d zz λu g1 g2 g3 g4=>?_;obtain rfl:v=Value.ref a:=R.isv;refine⟨.ref b::fs,.cons R.get R.cls R.dat (by simpa using g1) k1,by simp[k2],λz hz=>?_⟩;rcases ZD.mp hz with y|y
     .exact⟨b,ob,y,g2,g3⟩
     .exact k3 z y
 refine zc1c (firsts vs rs () hne at_) λfs k1 k2 k3=>?_;refine⟨tuples' (Value.type "tuple" != Value.type "tuple"),λE Q h=>W.kat_kind (T:=Value.type "tuple") k1 () (λv hv=>?_) rfl h,λi j hi hj E Q h=>?_⟩
 .refine zc2c (k3 v hv) λb ob zr2 g1 g2=>?_;subst zr2;rw[<- g2];exact(W.Looks.ld g1).andThen .now
 .obtain⟨r,hr⟩:∃r,rs[i]? = some r:=⟨_,Zqg ()⟩;obtain⟨r',hr'⟩:∃r,rs[j]? = some r:=⟨_,Zqg ()⟩;refine zc4a (at_ i r hr) λv a o us zz=>zc1b zz λn e1 R=>?_;refine zc4a (at_ j r' hr') λv' a' o' us' zz=>zc1b zz λn' f1 R'=>?_;dsimp only at h;rw[z6 hr,z6 hr'] at h;show YG prog w A (keyLt' _ (xw vs i) (xw vs j)) Q E s;unfold xw;rw[z6 e1,z6 f1,R.isv,R'.isv];refine W.kat_lt R.get R.dat R'.get R'.dat ?_;exact oq hu (E:=E) 0 R.prs R'.prs (by rw[Zm,Zm,R.prs.1,R'.prs.1]) h
end
section
variable {X:Cx}{tg iter elt c:Expr}{scope:Scope}{pos:Pos}{wi:TI}{g:TG}{te:TE}{tt:TT}
def oG (N:Yk)(cap:List (Option Nat))(hc:X.calm=true)(okB:yK scope X.env N X.N cap=true)(hi:PI X tg iter wi)(hg:∀cl C s H ex,PG (zy X scope N cl C s H ex) tg g)(ht:∀cl C s H ex,PT (zy X scope N cl C s H ex) c tt)(he:∀cl C s H ex,PE (zy X scope N cl C s H ex) elt te)
 (hs:∀x,foldedSetIterable iter X.env x=pure x) {use:Option (Value->Sem Unit)} {R:Ya} {fpos:Pos} {Y:Yb} {s:Shared} {Z:St} {H:Hp} {Q:VK} (I:Inv X Y Z H s) (h:ss cap wi g tt te Z H Q) (fin:rp X Y Z Q use R):
 YF X (comprehension (.ListComp elt [⟨tg,iter,[c],0⟩] scope pos) scope X.env fpos (newList []) false (eval iter X.env) use) R X.xe s:=
 mV (test:=λenv R Q s=>YF X (isTrue c env (eval c env)) Q (notedBy (model X.prog X.w) X.A env λe s'=>R (.error e) s') s) N (λI turn n h=>W.kct_loop I turn n h)
  (λcl C s H ex _ _ _ _ _ _ _ _ hR I q k=>Zc (ht cl C s H ex _ _ _ _ _ I q) (λb s8 z=>by obtain⟨H8,I8,q8⟩:=z;exact k b s8 H8 I8 q8) λe s' hx=>Zc hx (λ_ s'' z=>hR _ _ z) λ_ _ z=>hR _ _ z) cap hc okB hi hg (λcl C s H ex _=>he cl C s H ex) hs I h fin
def pe_compIf (N:Yk)(cap:List (Option Nat))(hc:X.calm=true)(okB:yK scope X.env N X.N cap=true)(hi:PI X tg iter wi)(hg:∀cl C s H ex,PG (zy X scope N cl C s H ex) tg g)(ht:∀cl C s H ex,PT (zy X scope N cl C s H ex) c tt)(he:∀cl C s H ex,PE (zy X scope N cl C s H ex) elt te)
 (hs:autoParam (∀x,foldedSetIterable iter X.env x=pure x) zaw._auto_1):PE X (.ListComp elt [⟨tg,iter,[c],0⟩] scope pos) (ss cap wi g tt te):=by
 intro Y s Z H Q I h;rw[eval_ListComp];exact oG N cap hc okB hi hg ht he hs I h lS
end
def lookup_mem {L:List (Addr×HO)}{b:Addr}{u:HO}(h:L.lookup b=some u):(b,u)∈L:=by
 induction L with
 |nil=>exact zqn h
 |cons p r ih =>
  rw[List.lookup_cons] at h;cases c:b == p.1 with
  |true =>
   rw[c] at h;have e:b=p.1:=by simpa using c
   have h:some p.2=some u:=h;obtain rfl:=Zqi h;subst e;exact Zqs
  |false =>
   rw[c] at h;exact Zqm _ (ih h)
noncomputable def pE (H:Hp)(L:List (Addr×HO)):Hp:=λb=>match L.lookup b with
 |some o=>some o
 |none=>H b
def tH (h:∀p∈L,p.1≠b):pE H L b=H b:=by
 unfold pE;have e:L.lookup b=none:=by
  induction L with
  |nil=>rfl
  |cons p r ih =>
   rw[List.lookup_cons];have:(b == p.1)=false:=by
    have:=h p Zqs;simp;exact λz=>this z.symm
   rw[this];exact ih λq hq=>h q (Zqm _ hq)
 rw[e]
def lO (nd:(L.map (·.1)).Nodup)(h:(a,o)∈L):pE H L a=some o:=by
 unfold pE;have e:L.lookup a=some o:=by
  induction L with
  |nil=>cases h
  |cons p r ih =>
   obtain⟨n1,n2⟩:=List.nodup_cons.mp (show(p.1::r.map (·.1)).Nodup from nd);rw[List.lookup_cons];rcases ZD.mp h with z|z
   .rw[<- z,beq_self_eq_true]
   .have:(a == p.1)=false:=by
     simp;intro y;exact n1 (ZE.mpr ⟨(a,o),z,y⟩)
    rw[this];exact ih n2 z
 rw[e]
def pO (h:pE H L b=some u):(b,u)∈L\/((∀p∈L,p.1≠b)/\H b=some u):=by
 unfold pE at h;cases e:L.lookup b with
 |some o =>
  rw[e] at h;obtain rfl:=Zqi h;exact .inl (lookup_mem e)
 |none =>
  rw[e] at h;refine .inr ⟨λp hp z=>?_,h⟩;have:(b == p.1)=true:=by simp[z]
  have q:(L.lookup b).isSome=true:=by
   clear h
   induction L with
   |nil=>cases hp
   |cons q r ih =>
    rw[List.lookup_cons];cases c:b == q.1 with
    |true=>rfl
    |false =>
     rcases ZD.mp hp with y|y
     .rw[y] at this;rw[this] at c;cases c
     .rw[List.lookup_cons,c] at e;exact ih e y
  rw[e] at q;exact zqb q
def Inv.laidMany (I:Inv X Y Z H s)(k:∀b u,s.heap.get? b=some u->h'.get? b=some u)(hp:∀p∈L,s.heap.objs.size<=p.1)
 (ok:∀p∈L,yr X.prog X.w (pE H L) h' p.1 p.2):Inv X Y Z (pE H L) { s with heap:=h',toks:=t' }:=by
 have old:∀b u,s.heap.get? b=some u->∀p∈L,p.1≠b:=λb u e p hq z=>Zn (Zg (Zk e) (by rw[<- z];exact hp p hq)) (Zx _);have oldH:∀b u,H b=some u->pE H L b=some u:=λb u e=>by
  rw[tH λp hq z=>Zn (Zg (I.hok.lt e) (by rw[<- z];exact hp p hq)) (Zx _)];exact e
 refine I.un ⟨λb u q _ _ _=>k b u q,λb u q _ _ _=>⟨u.slots,k b u q⟩,λb u q n _=>by rw[tH (old b u q)];exact n,λb u q _=>⟨u,k b u q⟩,λb xs q=>oldH b _ q,λb u xs q=>oldH b _ q,λb ps q=>⟨#[],by rw[oldH b _ q];simp⟩⟩ λb u e=>?_;rcases pO e with z|⟨z,e'⟩
 .exact ok (b,u) z
 .exact(I.hok b u e').stay (λc v _ q=>k c v q) (λc q=>oldH c _ q) λc xs q=>oldH c _ q
theorem oK:∀{L:Yj},(∀i∈L,Is H (f i) (g i))->zw H (L.map f) (L.map g)
 | [],_=>by show zw H [] [];unfold zw;rfl
 |i::L,h=>by
  show zw H (f i::L.map f) (g i::L.map g);unfold zw;exact⟨_,_,rfl,h i Zqs,oK λj hj=>h j (Zqm _ hj)⟩
theorem wW:∀{L:Yj},(∀i∈L,yw (g i) (u i))->yi (L.map g) (L.map u)
 | [],_=>.nil
 |i::L,h=>.cons (h i Zqs) (wW λj hj=>h j (Zqm _ hj))
def Pl.mem (p:Pl n jx n)(h:i∈jx.toList):i<n:=by
 have q:=(Array.perm_iff_toList_perm.mp p.perm).mem_iff.mp h;simpa using q
def Pl.len (p:Pl n jx k):jx.toList.length=n:=by rw[ZM,p.size]
section
variable {X:Cx}
def call_sortedRows (hu:X.A.units+64<cLine):zD X (.builtin "sorted") (λxs H Q=>∃a ys rs,xs=[.ref a]/\Rd H a (.lst ys)/\zw H (rs.map rD) ys/\(∀r∈rs,r ≠ [])/\rs.length<1000 /\
 ∀(l:Addr) (ix:Yj),H l=none->(∀i∈ix,i<rs.length)->ix.map (λi=>rs.getD i [])=zY yF rs->Q (.ref l) (upd H l (.lst (ix.map λi=>ys.getD i .non)))):=by
 intro Y s Z H xs us Q I rv h;obtain⟨a,ys,rs,rfl,ha,hA,hne,h64,q⟩:=h;obtain⟨u,rfl,ru⟩:=vF rv;obtain rfl:u=Value.ref a:=ru;obtain⟨its,ri,pl,hz⟩:=I.list (.inl ha);have l1:=hA.length;have l2:=ri.length;rw[Zql] at l1;have lw:its.length=rs.length:=()
 have up:∀b o,s.heap.get? b=some o->((s.heap.push (seqObj "list" #[] 0)).update s.heap.objs.size (Obj.mapSeq (· ++ its.toArray))).get? b=some o:=λb o e=>by
  rw[Heap.get?_update_ne _ _ _ _ (Zi (Zk e)),Heap.get?_push_ne _ _ _ (Zi (Zk e))];exact e
 refine pT (zR.wk λi=>rs.getD i []) (collect_list pl.isList ⟨(),λh' kp h2=>oD (by show X.A.units+1+1+4<cLine;omega) (I.hok.kept λb o e=>kp b o (up b o e)) hA ri hne h2,λjx h' l p u kp hl gl=>?_⟩ (by rw[lw];exact v0 ()));obtain⟨e,gl⟩:=gl;rw[lw] at p u;have szl:s.heap.objs.size<=l:=by
  have:((s.heap.push (seqObj "list" #[] 0)).update s.heap.objs.size (Obj.mapSeq (· ++ its.toArray))).objs.size=s.heap.objs.size+1:=by rw[Heap.size_update,size_push']
  have hl:((s.heap.push (seqObj "list" #[] 0)).update s.heap.objs.size (Obj.mapSeq (· ++ its.toArray))).objs.size<=l:=hl;omega
 have at_:∀i∈jx.toList,∃x v,ys[i]? = some x/\its[i]? = some v/\yw x v/\Is H (rD (rs.getD i [])) x:=λi hi=>by
  have hn:=p.mem hi;obtain⟨x,hx,hr⟩:=hA.get (i:=i) (d:=rD (rs.getD i [])) (by
   rw[Zv,Zqg hn,z6 (Zqg hn)];rfl)
  obtain⟨v,hv,rr⟩:=ri.get hx;exact⟨x,v,hx,hv,rr,hr⟩
 refine⟨.ref l,upd H l (.lst (jx.toList.map λi=>ys.getD i .non)),I.laid (a:=l) (o:=.lst (jx.toList.map λi=>ys.getD i .non)) (t':=s.toks) (λb o e=>kp b o (up b o e)) szl ⟨?_,jx.toList.map (xw its),e,?_,?_⟩,rfl,q l jx.toList (I.hok.fresh szl) (λi hi=>p.mem hi) (wy zR p u)⟩
 .rw[Zql,p.len];exact v0 ()
 .refine wW λi hi=>?_;obtain⟨x,v,hx,hv,rr,_⟩:=at_ i hi;unfold xw;rw[z6 hx,z6 hv];exact rr
 .rw[gl]
  congr 3
  apply Array.ext';simp
noncomputable def oN (vw d:Addr):HO:=.ext λh=>h.IsItemsView vw d
def mt_items:MtR X "dict.items" (λx vs H Q=>∃d kvs,x=.ref d/\vs=[]/\H d=some (.dK kvs)/\∀p,H p=none->Q (.ref p) (upd H p (oN p d))):=by
 intro Y s Z H x vs v us Q I rx rv h;refine zc2d h λd kvs zr2 zr3 hd q=>?_;subst zr2;subst zr3;obtain rfl:v=Value.ref d:=rx;obtain rfl:us=[]:=yi.zero rv;refine xF (dh I.hok hd) λz lo zz=>zc1b zz λws rel dd=>?_;refine call_meetsIn PySem.F.slot_dict_items dd.typeIs PySem.F.entry_dict_items (PySem.F.args_dict_items_1 _) (meets_dict_items (yb X.prog X.w) d lo) ⟨⟨ws,dd⟩,?_⟩;refine⟨.ref s.heap.objs.size,upd H s.heap.objs.size (oN s.heap.objs.size d),I.laid (t':=s.toks) (λb o e=>Zq _ e) (Zf _) ?_,rfl,q _ (I.hok.fresh (Zf _))⟩;exact⟨⟨_,Zr _ rfl,rfl,rfl⟩,⟨_,Zr _ rfl⟩,λh1 h2 z kk=>by
  refine zc1b z λo e r=>?_;exact⟨o,kk o e,r⟩⟩
def call_sortedItems (hc:X.calm=true):zD X (.builtin "sorted") (λxs H Q=>∃vw d r,xs=[.ref vw]/\H vw=some (oN vw d)/\H d=some (.dK (kvR r))/\r ≠ []/\r.length<1000 /\
 ∀l L,(∀p∈L,H p.1=none)->(L.map (·.1)).Nodup->(∀G,Is (pE G L) (.list ((zY wH r).map pD)) (.ref l))->Q (.ref l) (pE H L)):=by
 intro Y s Z H xs us Q I rv h;refine zc3a h λvw d r zz=>xk zz λzr3 hv hd hne zz=>wG zz λh64 q=>?_;subst zr3;refine zc1b (vF rv) λu zr1 ru=>?_;subst zr1;obtain rfl:u=Value.ref vw:=ru;refine xF ((show yr X.prog X.w H s.heap vw (oN vw d) from I.hok vw _ hv)) λhview _ _=>?_;refine xF (dh I.hok hd) λz lo zz=>zc1b zz λws rel zz=>zc3a zz λod es ep zz=>xk zz λd1 d2 d3 d4 zz=>wG zz λd5 d6=>?_;have lk:=rel.length;have lr:(kvR r).length=r.length:=Zql _;have hat:s.heap.DictAt (yb X.prog X.w) d ws ep:=⟨od,es,d1,d2,d3,d4,d5,d6⟩;refine pT (xS.wk λi=>r.getD i (0,0)) (W.kdx_collect (knd:=yb X.prog X.w) (I.ok.hd hc) hview hat (by rw[<- lk,lr];exact v0 ()) λh1 tk as kp1 la G=>?_);have lv:(as.map Value.ref).length=r.length:=by rw[Zql];omega
 have pa:∀h',(∀b o,h1.get? b=some o->h'.get? b=some o)->vj h' (as.map Value.ref) r:=λh' kp=>by
  refine⟨lv,λi p hp=>?_⟩;have hi:i<as.length:=by
   have:=(ZH.mp hp).1;omega
  refine zc3c (G.pairs i as[i] (Zqg hi)) λkey k x g1 g2 g3=>?_;have kv:KV (kvR r) ws:=rel;have hk:(kvR r)[i]? = some (Sum.inl p.1,V.int p.2):=by unfold kvR;rw[Zv,hp];rfl
  have both:∀{l1:List (Key×V)} {l2:List (Key×Value)} {i:Nat} {a:Key×V} {b:Key×Value},KV l1 l2->l1[i]? = some a->l2[i]? = some b->a.1=b.1/\yw a.2 b.2:=by
   intro l1 l2 i a b hkv;unfold KV at hkv
   induction hkv generalizing i with
   |nil=>intro e;simp at e
   |cons hh tt ih =>
    cases i with
    |zero =>
     intro e1 e2;simp at e1 e2;subst e1 e2;exact hh
    |succ i =>
     intro e1 e2;exact ih (by simpa using e1) (by simpa using e2)
  obtain⟨b1,b2⟩:=both kv hk g1;have b1:(Sum.inl p.1:Key)=k:=b1;subst b1;obtain⟨t1,rfl⟩:=(show ∃t,x=Value.int p.2 t from b2);obtain⟨t0,rfl⟩:∃t,key=Value.int p.1 t:=by
   rcases zX (show mj (Sum.inl p.1) key=true from g2) with ⟨i0,t,e1,e2⟩|⟨x0,t,e1,e2⟩
   .cases e1;exact⟨t,e2⟩
   .cases e1
  exact⟨as[i],_,_,t0,t1,by rw[Zv,Zqg hi];rfl,kp _ _ g3,rfl,rfl⟩
 refine⟨(),λh' kp h2=>keys_pairs (pa h' kp) h2,λjx h' l p u kp hl gl=>?_⟩;obtain⟨e,gl⟩:=gl;rw[lv] at p u;have kk:∀b o,s.heap.get? b=some o->h'.get? b=some o:=λb o e=>kp b o (kp1 b o e);have asl:∀a∈as,s.heap.objs.size<a:=G.above;have ash:∀a∈as,a<l:=λa ha=>Zg (G.there ha) hl;have szl:s.heap.objs.size<=l:=by
  cases as with
  |nil=>exact Zn (ZS.mp (by rw[<- lv];rfl)) hne
  |cons a as'=>exact Zy (Xl (asl a Zqs) (ash a Zqs))
 obtain⟨L,hL⟩:∃L:List (Addr×HO),L=(l,.lst (jx.toList.map λi=>V.ref (as.getD i 0)))::(as.zip r).map λz=>(z.1,HO.tup [.int z.2.1,.int z.2.2]):=⟨_,rfl⟩;have keysL:L.map (·.1)=l::as:=by
  rw[hL,Zl,Zw];show l::(as.zip r).map (λz=>z.1)=_;rw[List.map_fst_zip ()]
 have nd:(L.map (·.1)).Nodup:=by
  rw[keysL];refine List.nodup_cons.mpr ⟨λm=>Zx _ (ash l m),?_⟩;exact G.rise.imp λhlt=>Zi hlt
 have inL:∀p∈L,s.heap.objs.size<=p.1:=λp hp=>by
  have:p.1∈L.map (·.1):=ZE.mpr ⟨p,hp,rfl⟩;rw[keysL] at this;rcases ZD.mp this with z|z
  .rw[z];exact szl
  .exact Zy (asl _ z)
 have tupAt:∀(G:Hp) (i:Nat) p,r[i]? = some p->pE G L (as.getD i 0)=some (.tup [.int p.1,.int p.2]):=λG i p hp=>by
  have hi:i<as.length:=by
   have:=(ZH.mp hp).1;omega
  refine lO nd ?_;rw[hL];refine Zqm _ (ZE.mpr ⟨(as[i],p),?_,by rw[z6 (Zqg hi)]⟩);refine ZP (i:=i) ?_;rw[List.getElem?_zip_eq_some];exact⟨Zqg hi,hp⟩
 refine⟨.ref l,pE H L,I.laidMany (t':=tk) kk inL λy hy=>?_,rfl,q l L (λp hp=>I.hok.fresh (inL p hp)) nd λG'=>?_⟩
 .rw[hL] at hy;rcases ZD.mp hy with z'|z'
  .rw[z'];refine⟨?_,jx.toList.map (xw (as.map Value.ref)),e,?_,?_⟩
   .rw[Zql,p.len];exact v0 ()
   .refine wW λi hi=>?_;have hn:=p.mem hi;have hi':i<as.length:=()
    unfold xw;rw[z6 (Zqg hi'),z6 (x:=Value.ref as[i]) (by rw[Zv,Zqg hi'];rfl)];rfl
   .rw[gl]
    congr 3
    apply Array.ext';simp
  .refine zc1b (ZE.mp z') λzr0 hm zr2=>?_;obtain⟨a,p'⟩:=zr0;subst zr2;obtain⟨i,hi⟩:=List.mem_iff_getElem?.mp hm;rw[List.getElem?_zip_eq_some] at hi;obtain⟨i1,i2⟩:=hi;refine zc4a ((pa h' kp).2 i p' i2) λa' o' n' t' zz=>zc1d zz λu' f1 f2 f3 f4=>?_;rw[Zv,i1] at f1;cases f1;refine zc3c (G.pairs i a i1) λkey k x g1 g2 g3=>?_;have g3':=kp _ _ g3;rw[g3'] at f2;obtain rfl:=Zqi f2;exact⟨⟨(by show 2<=sizeLine;decide),_,g3',rfl⟩,[.int p'.1 t',.int p'.2 u'],.cons ⟨t',rfl⟩ (.cons ⟨u',rfl⟩ .nil),_,g3',rfl,n',f4⟩
 .rw[Is.list_iff];refine⟨l,_,rfl,lO nd (by rw[hL];exact Zqs),?_⟩;rw[<- wy xS p u,Zw];refine oK λi hi=>?_;have hn:=p.mem hi;refine pj.mpr ⟨as.getD i 0,rfl,?_⟩;have:=tupAt G' i (r.getD i (0,0)) (by rw[z6 (Zqg hn)];exact Zqg hn);exact this
end
noncomputable def pL (r:X8)(t w:Int):X8:=if(r.any λp=>decide (p.1=t))=true then r.map (λp=>if p.1=t then(p.1,w) else p) else r++[(t,w)]
def jd:decide ((Sum.inl a:Key)=Sum.inl b)=decide (a=b):=by
 by_cases h:a=b
 .rw[h,Zp rfl,Zp rfl]
 .rw[Zo h,Zo (λz=>h (by injection z))]
def putK_kvR (r:X8)(t w:Int):rT (kvR r) (Sum.inl t) (V.int w)=kvR (pL r t w):=by
 have e:((kvR r).any λkv=>decide (kv.1=Sum.inl t))=r.any λp=>decide (p.1=t):=by
  unfold kvR;rw[List.any_map]
  congr 1
  funext p
  exact jd
 unfold rT pL;rw[e]
 split
 .unfold kvR;rw[Zw,Zw];apply XD;intro p _;by_cases c:p.1=t
  .simp[c]
  .have c':¬(Sum.inl p.1:Key)=Sum.inl t:=λz=>c (by injection z);simp[c]
 .unfold kvR;rw[ZR];rfl
def xg (p:Int×Int)(r:X8)(t:Int):zk (p::r) t=match zk r t with|some w=>some w|none=>if p.1=t then some p.2 else none:=rfl
def lookR_map (r:X8)(t w j:Int):zk (r.map λp=>if p.1=t then(p.1,w) else p) j=(zk r j).map λx=>if j=t then w else x:=by
 induction r with
 |nil=>rfl
 |cons p r ih =>
  rw[Zl,xg,xg,ih];cases q:zk r j with
  |some x=>rfl
  |none =>
   dsimp only[Option.map];by_cases c:p.1=t
   .rw[Zd c];by_cases d:p.1=j
    .rw[Zd d,Zd d];show some w=some (if j=t then w else p.2);rw[Zd (d.symm.trans c)]
    .rw[Ze d,Ze d]
   .rw[Ze c];by_cases d:p.1=j
    .rw[Zd d];show some p.2=some (if j=t then w else p.2);rw[Ze (λz=>c (d.trans z))]
    .rw[Ze d]
def any_look (r:X8)(t:Int):(r.any λp=>decide (p.1=t))=(zk r t).isSome:=by
 cases q:zk r t with
 |none =>
  rw[Option.isSome_none,List.any_eq_false];rintro⟨a,b⟩ hm;by_cases e:a=t
  .subst e;exact Zn hm (rQ q b)
  .simp[e]
 |some w =>
  rw[Option.isSome_some,Xb];exact⟨_,zx q,by simp⟩
def look_putR (r:X8)(t w j:Int):zk (pL r t w) j=if j=t then some w else zk r j:=by
 unfold pL;rw[any_look];by_cases a:(zk r t).isSome=true
 .rw[Zd a,lookR_map];by_cases e:j=t
  .rw[Zd e,e];obtain⟨x,hx⟩:=Option.isSome_iff_exists.mp a;rw[hx];simp
  .rw[Ze e];cases zk r j with
   |none=>rfl
   |some x=>simp[e]
 .rw[Ze a,lookR_append];have n:zk r t=none:=by
   cases q:zk r t with
   |none=>rfl
   |some x=>rw[q] at a;exact Zn rfl a
  rw[xg];show(match (if t=j then some w else none) with|some w=>some w|none=>zk r j)=_;by_cases e:j=t
  .rw[Zd e,Zd e.symm]
  .rw[Ze e,Ze (λz=>e z.symm)]
def putR_fst (r:X8)(t w:Int):(pL r t w).map (·.1)=if(r.any λp=>decide (p.1=t))=true then r.map (·.1) else r.map (·.1)++[t]:=by
 unfold pL
 split
 .rw[Zw];apply XD;intro p _;by_cases c:p.1=t
  .simp[c]
  .simp[c]
 .rw[ZR];rfl
def once_putR (h:yE r):yE (pL r t w):=by
 unfold yE;rw[putR_fst]
 split
 .exact h
 .rename_i c;unfold yE at h;rw[List.nodup_append];refine⟨h,by simp,λa ha b hb=>?_⟩;simp at hb;subst hb;rintro rfl;refine zc1b (ZE.mp ha) λp hp e=>?_;exact c (Xb.mpr ⟨p,hp,by simp[e]⟩)
def putR_len (r:X8)(t w:Int):(pL r t w).length<=r.length+1:=by
 unfold pL
 split
 .rw[Zql];omega
 .rw[ZC];exact Zf _
theorem oP:∀(r acc:X8),sI (kvR acc) (kvR r)=kvR (r.foldl (λa p=>pL a p.1 p.2) acc)
 | [],acc=>rfl
 |p::r,acc=>by
  have e:sI (kvR acc) (kvR (p::r))=sI (rT (kvR acc) (Sum.inl p.1) (V.int p.2)) (kvR r):=rfl;rw[e,putK_kvR,oP r];rfl
theorem o7:∀(r acc:X8),yE (acc++r)->r.foldl (λa p=>pL a p.1 p.2) acc=acc++r
 | [],acc,_=>by simp
 |p::r,acc,h=>by
  have hn:(acc.any λq=>decide (q.1=p.1))=false:=by
   rw[List.any_eq_false];intro q hq;simp;intro e;unfold yE at h;rw[ZR,List.nodup_append] at h;exact h.2.2 q.1 (ZE.mpr ⟨q,hq,rfl⟩) p.1 (by simp) e
  have e:pL acc p.1 p.2=acc++[p]:=by
   unfold pL;rw[hn];simp
  rw[Xg,e,o7 r (acc++[p]) (by rw[ZJ];exact h),ZJ];rfl
noncomputable def jw:Option Int->Option Int->Option Int
 |none,b=>b
 |some x,none=>some x
 |some x,some y=>some (if x > y then x else y)
def xu (acc:X8)(p:Int×Int):X8:=pL acc p.1 (if(zk acc p.1).getD p.2 > p.2 then(zk acc p.1).getD p.2 else p.2)
def yO (r o:X8):X8:=o.foldl xu r
def joinStep_look (acc:X8)(p:Int×Int)(t:Int):zk (xu acc p) t=if t=p.1 then jw (zk acc t) (some p.2) else zk acc t:=by
 unfold xu;rw[look_putR];by_cases e:t=p.1
 .rw[Zd e,Zd e,e];cases zk acc p.1 with
  |none=>simp[jw]
  |some x=>simp[jw]
 .rw[Ze e,Ze e]
theorem wU (t:Int):∀(o r:X8),yE o->zk (yO r o) t=jw (zk r t) (zk o t)
 | [],r,_=>by
  show zk r t=jw (zk r t) none;cases zk r t<;>rfl
 |p::o,r,h=>by
  obtain⟨h1,h2⟩:=List.nodup_cons.mp (show(p.1::o.map (·.1)).Nodup from h);have e:yO r (p::o)=yO (xu r p) o:=rfl;rw[e,wU t o _ h2,joinStep_look,xg];by_cases c:t=p.1
  .have n:zk o t=none:=by
    cases q:zk o t with
    |none=>rfl
    |some w=>exact Zn (ZE.mpr ⟨_,zx q,c⟩) h1
   rw[Zd c,n];dsimp only;rw[Zd c.symm];cases jw (zk r t) (some p.2)<;>rfl
  .rw[Ze c];cases zk o t with
   |some w=>rfl
   |none =>
    dsimp only;rw[Ze (λz=>c z.symm)]
theorem wa:∀(o r:X8),yE r->yE (yO r o)
 | [],r,h=>h
 |p::o,r,h=>wa o _ (once_putR h)
theorem rq:∀(o r:X8),(yO r o).length<=r.length+o.length
 | [],r=>Zf _
 |p::o,r=>by
  have a:=rq o (xu r p);have b:(xu r p).length<=r.length+1:=putR_len _ _ _;show(yO (xu r p) o).length<=_;rw[Zu];omega
def lc (h:r ≠ [])(wo:yE o):yO r o ≠ []:=by
 intro z;cases r with
 |nil=>exact h rfl
 |cons p r =>
  have q:=wU p.1 o (p::r) wo;rw[z] at q;have:∃x,zk (p::r) p.1=some x:=by
   rw[xg];cases zk r p.1 with
   |some x=>exact⟨x,rfl⟩
   |none=>exact⟨p.2,Zd rfl⟩
  obtain⟨x,hx⟩:=this;rw[hx] at q;cases hq:zk o p.1 with
  |none=>rw[hq] at q;exact zqn q
  |some y=>rw[hq] at q;exact zqn q
def tF (h:yE r):(t,w)∈r↔zk r t=some w:=⟨λm=>h.look m,zx⟩
theorem yZ {α:Type}{ltb:α -> α -> Bool}(T:Tot ltb):∀{a b:List α},a.Pairwise (λx y=>ltb x y=true)->b.Pairwise (λx y=>ltb x y=true)->(∀x,x∈a↔x∈b)->a=b
 | [],[],_,_,_=>rfl
 | [],y::b,_,_,h=>by
  have z:y∈([]:List α):=(h y).mpr Zqs;cases z
 |x::a,[],_,_,h=>by
  have z:x∈([]:List α):=(h x).mp Zqs;cases z
 |x::a,y::b,ha,hb,h=>by
  obtain⟨a1,a2⟩:=Z5.mp ha;obtain⟨b1,b2⟩:=Z5.mp hb;have e:x=y:=by
   rcases ZD.mp ((h x).mp Zqs) with z|z
   .exact z
   .rcases ZD.mp ((h y).mpr Zqs) with u|u
    .exact u.symm
    .have:=T.asy _ _ (b1 x z);rw[a1 y u] at this;cases this
  subst e
  congr 1
  refine yZ T a2 b2 λz=>⟨λhz=>?_,λhz=>?_⟩
  .rcases ZD.mp ((h z).mp (Zqm _ hz)) with u|u
   .rw[u] at hz;have:=a1 x hz;rw[T.irr] at this;exact zqb this
   .exact u
  .rcases ZD.mp ((h z).mpr (Zqm _ hz)) with u|u
   .rw[u] at hz;have:=b1 x hz;rw[T.irr] at this;exact zqb this
   .exact u
theorem uT {α β: Type}(f:α -> β):∀{l:List α},(l.map f).Nodup->l.Nodup
 | [],_=>List.nodup_nil
 |x::r,h=>by
  rw[Zl,List.nodup_cons] at h;exact List.nodup_cons.mpr ⟨λm=>h.1 (List.mem_map_of_mem m),uT f h.2⟩
def uM (h:yE r):(zY wH r).Pairwise λx y=>wH x y=true:=by
 have hp:=zt (ltb:=wH) r;have nd:(zY wH r).Nodup:=hp.nodup_iff.mpr (uT (λp:Int×Int=>p.1) h);have sd:=xM xS r;have both:(zY wH r).Pairwise λx y=>wH y x=false/\x≠y:=List.Pairwise.and sd nd;refine both.imp λ{x y} z=>?_;cases q:wH x y with
 |true=>rfl
 |false=>exact Zn (xS.tot _ _ q z.1) z.2
end L2
namespace L2.DL
def qT {c:Prop}{_:Decidable c}{α:Type}{a z:α}(h:(if c then some a else none)=some z):c/\a=z:=by
 by_cases q:c
 .rw[Zd q] at h;exact⟨q,Zqi h⟩
 .rw[Ze q] at h;exact zqn h
set_option genInjectivity false in
inductive D where
 |non|bl (b:Bool)|int (i:Int)|str (x:Str)|ty (n:String)|scr (ns:Yh)
 |tup (ds:List D)|lst (ds:List D)|dct (ks:List Key) (ds:List D)|ins (c:Str) (fs:Yk) (ds:List D)
 |exc (c:Str)|ucl (c:Str)
 |adr (a:Addr)|dcf (ks:List Key) (ds:List D)
abbrev _root_.YD:=List D
abbrev _root_.YE:=Option D
inductive Res (α:Type) where
 |ok (a:α)|ex (c:Str) (fs:YD)|no
noncomputable def Res.bind {α β: Type}(r:Res α)(g:α -> Res β):Res β:= match r with
 | .ok a=>g a
 | .ex c fs=>.ex c fs
 | .no=>.no
noncomputable def Res.need {α:Type}(r:Res α)(p:α -> Prop)(q:Str->YD->Prop):Prop:=match r with
 | .ok a=>p a
 | .ex c fs=>q c fs
 | .no=>False
@[simp]def Res.bind_ok {α β: Type}(a:α)(g:α -> Res β):(Res.ok a).bind g=g a:=rfl
@[simp]def Res.bind_ex {α β: Type}(c:Str)(fs:YD)(g:α -> Res β):(Res.ex c fs:Res α).bind g=.ex c fs:=rfl
@[simp]def Res.bind_no {α β: Type}(g:α -> Res β):(Res.no:Res α).bind g=.no:=rfl
def Res.need_bind {α β: Type}{r:Res α}{g:α -> Res β}{p:β -> Prop}(h:(r.bind g).need p q):r.need (λa=>(g a).need p q) q:=by
 cases r<;>exact h
def Res.need.mono {α:Type}{r:Res α}{p p': α -> Prop}(h:r.need p q)(hp:∀a,p a->p' a)(hq:∀c fs,q c fs->q' c fs):r.need p' q':=by
 cases r with
 |ok a=>exact hp a h
 |ex c fs=>exact hq c fs h
 |no=>exact h
def Res.need.monoE {α:Type}{r:Res α}{p p': α -> Prop}(h:r.need p q)(hp:∀a,r=.ok a->p a->p' a)(hq:∀c fs,q c fs->q' c fs):r.need p' q':=by
 cases r with
 |ok a=>exact hp a rfl h
 |ex c fs=>exact hq c fs h
 |no=>exact h
noncomputable def bW (C x:Addr):HO:=.ext λh=>∃o,h.get? x=some o/\o.cls=.ref C
noncomputable def gc (_:W.Frag)(H:Hp)(a:Addr)(xs:YB):Prop:=H a=some (.tup xs)
def gc.same {K:W.Frag}{H H':Hp}{a:Addr}{xs:YB}(e:yB H H')(h:gc K H a xs):gc K H' a xs:=e _ _ h
def gc.of {K:W.Frag}{H:Hp}{a:Addr}{xs:YB}(h:H a=some (.tup xs)):gc K H a xs:=h
def gc.sq {K:W.Frag}{H:Hp}{a:Addr}{xs:YB}(h:gc K H a xs):SqT K H a xs:=SqT.of h
noncomputable def kI (_:W.Frag)(H:Hp)(a:Addr)(xs:YB):Prop:=Rd H a (.lst xs)
def kI.same {K:W.Frag}{H H':Hp}{a:Addr}{xs:YB}(e:yB H H')(h:kI K H a xs):kI K H' a xs:=h.imp (λq=>e _ _ q) (by rintro⟨o,q⟩;exact⟨o,e _ _ q⟩)
def kI.of {K:W.Frag}{H:Hp}{a:Addr}{xs:YB}(h:H a=some (.lst xs)):kI K H a xs:=.inl h
def kI.sq {K:W.Frag}{H:Hp}{a:Addr}{xs:YB}(h:kI K H a xs):SqL K H a xs:=.inl h
section
variable (K:W.Frag)
mutual
noncomputable def IsD (H:Hp):D->V->Prop
 | .non,v=>v=.non
 | .bl b,v=>v=.bl b
 | .int i,v=>v=.int i
 | .str x,v=>v=.str x
 | .ty n,v=>v=.ty n
 | .scr ns,v=>∃a,v=.ref a/\SqL K H a (ns.map V.int)
 | .tup ds,v=>∃a xs,v=.ref a/\gc K H a xs/\zo H ds xs
 | .lst ds,v=>∃a xs,v=.ref a/\kI K H a xs/\zo H ds xs
 | .dct ks ds,v=>∃a xs,v=.ref a/\H a=some (.dK (ks.zip xs))/\ks.length=xs.length/\zo H ds xs
 | .ins c fs ds,v=>∃a C dx xs,v=.ref a/\W.nsIn K mainGlobals c=some (some (.ref C))/\H a=some (.ins C dx (fs.zip xs))/\fs.length=xs.length/\zo H ds xs
 | .exc c,v=>∃a C,v=.ref a/\W.nsIn K mainGlobals c=some (some (.ref C))/\H a=some (bW C a)
 | .ucl c,v=>∃C,v=.ref C/\W.nsIn K mainGlobals c=some (some (.ref C))
 | .adr a,v=>v=.ref a
 | .dcf ks ds,v=>∃a o xs,v=.ref a/\H a=some (.frz o (.dK (ks.zip xs)))/\ks.length=xs.length/\zo H ds xs
noncomputable def zo (H:Hp):YD->YB->Prop
 | [],xs=>xs=[]
 |d::ds,xs=>∃x r,xs=x::r/\IsD H d x/\zo H ds r
end
end
section
variable {K:W.Frag}{H H':Hp}
def IsD.non_iff:IsD K H .non v↔v=.non:=.rfl
def IsD.bl_iff:IsD K H (.bl b) v↔v=.bl b:=.rfl
def IsD.int_iff:IsD K H (.int i) v↔v=.int i:=.rfl
def IsD.str_iff:IsD K H (.str x) v↔v=.str x:=.rfl
def IsD.ty_iff:IsD K H (.ty n) v↔v=.ty n:=.rfl
def IsD.scr_iff:IsD K H (.scr ns) v↔∃a,v=.ref a/\SqL K H a (ns.map V.int):=.rfl
def IsD.tup_iff:IsD K H (.tup ds) v↔∃a xs,v=.ref a/\gc K H a xs/\zo K H ds xs:=.rfl
def IsD.lst_iff:IsD K H (.lst ds) v↔∃a xs,v=.ref a/\kI K H a xs/\zo K H ds xs:=.rfl
def IsD.dct_iff:IsD K H (.dct ks ds) v↔∃a xs,v=.ref a/\H a=some (.dK (ks.zip xs))/\ks.length=xs.length/\zo K H ds xs:=.rfl
def IsD.ins_iff:IsD K H (.ins c fs ds) v↔∃a C dx xs,v=.ref a/\W.nsIn K mainGlobals c=some (some (.ref C))/\H a=some (.ins C dx (fs.zip xs))/\fs.length=xs.length/\zo K H ds xs:=.rfl
def IsD.exc_iff:IsD K H (.exc c) v↔∃a C,v=.ref a/\W.nsIn K mainGlobals c=some (some (.ref C))/\H a=some (bW C a):=.rfl
def IsD.ucl_iff:IsD K H (.ucl c) v↔∃C,v=.ref C/\W.nsIn K mainGlobals c=some (some (.ref C)):=.rfl
def IsD.adr_iff:IsD K H (.adr a) v↔v=.ref a:=.rfl
def IsD.dcf_iff:IsD K H (.dcf ks ds) v↔∃a o xs,v=.ref a/\H a=some (.frz o (.dK (ks.zip xs)))/\ks.length=xs.length/\zo K H ds xs:=.rfl
def zo.nil_iff:zo K H [] xs↔xs=[]:=.rfl
def zo.cons_iff:zo K H (d::ds) xs↔∃x r,xs=x::r/\IsD K H d x/\zo K H ds r:=.rfl
mutual
theorem IsD.same (e:yB H H'):∀(d:D) (v:V),IsD K H d v->IsD K H' d v
 | .non,_,h=>h
 | .bl _,_,h=>h
 | .int _,_,h=>h
 | .str _,_,h=>h
 | .ty _,_,h=>h
 | .scr _,_,h=>by
  refine zc1b (IsD.scr_iff.mp h) λa h1 h2=>?_;exact IsD.scr_iff.mpr ⟨a,h1,yB.seq e h2⟩
 | .tup ds,_,h=>by
  refine zc2c (IsD.tup_iff.mp h) λa xs h1 h2 h3=>?_;exact IsD.tup_iff.mpr ⟨a,xs,h1,h2.same e,zo.same e ds xs h3⟩
 | .lst ds,_,h=>by
  refine zc2c (IsD.lst_iff.mp h) λa xs h1 h2 h3=>?_;exact IsD.lst_iff.mpr ⟨a,xs,h1,h2.same e,zo.same e ds xs h3⟩
 | .dct ks ds,_,h=>by
  refine zc2d (IsD.dct_iff.mp h) λa xs h1 h2 h4 h3=>?_;exact IsD.dct_iff.mpr ⟨a,xs,h1,e _ _ h2,h4,zo.same e ds xs h3⟩
 | .ins c fs ds,_,h=>by
  refine zc4a (IsD.ins_iff.mp h) λa C dx xs zz=>xk zz λh1 h5 h2 h4 h3=>?_;exact IsD.ins_iff.mpr ⟨a,C,dx,xs,h1,h5,e _ _ h2,h4,zo.same e ds xs h3⟩
 | .exc _,_,h=>by
  refine zc2c (IsD.exc_iff.mp h) λa C h1 h2 h3=>?_;exact IsD.exc_iff.mpr ⟨a,C,h1,h2,e _ _ h3⟩
 | .ucl _,_,h=>h
 | .adr _,_,h=>h
 | .dcf ks ds,_,h=>by
  obtain⟨a,o,xs,h1,h2,h4,h3⟩:=IsD.dcf_iff.mp h;exact IsD.dcf_iff.mpr ⟨a,o,xs,h1,e _ _ h2,h4,zo.same e ds xs h3⟩
theorem zo.same (e:yB H H'):∀(ds:YD) (xs:YB),zo K H ds xs->zo K H' ds xs
 | [],_,h=>h
 |d::ds,_,h=>by
  refine zc2c (zo.cons_iff.mp h) λx r h1 h2 h3=>?_;exact zo.cons_iff.mpr ⟨x,r,h1,IsD.same e d x h2,zo.same e ds r h3⟩
end
def zo.mk (h:IsD K H d x)(r:zo K H ds xs):zo K H (d::ds) (x::xs):=zo.cons_iff.mpr ⟨x,xs,rfl,h,r⟩
def zo.nil:zo K H [] []:=zo.nil_iff.mpr rfl
theorem zo.length:∀{ds:YD} {xs:YB},zo K H ds xs->xs.length=ds.length
 | [],xs,h=>by rw[zo.nil_iff] at h;subst h;rfl
 |d::ds,xs,h=>by
  rw[zo.cons_iff] at h;obtain⟨x,r,rfl,_,h3⟩:=h;rw[Zu,Zu,zo.length h3]
theorem zo.get:∀{ds:YD} {xs:YB} {i:Nat} {d:D},zo K H ds xs->ds[i]? = some d->∃x,xs[i]? = some x/\IsD K H d x
 | [],_,_,_,_,e=>by exact zqn e
 |d::ds,xs,i,e,h,q=>by
  rw[zo.cons_iff] at h;refine zc2c h λx r zr2 h2 h3=>?_;subst zr2;cases i with
  |zero=>cases q;exact⟨x,rfl,h2⟩
  |succ i=>exact zo.get (i:=i) h3 q
def zo.getV {ds:YD}{xs:YB}{i:Nat}{x:V}(h:zo K H ds xs)(q:xs[i]? = some x):∃d,ds[i]? = some d/\IsD K H d x:=by
 have hl:=h.length;have hi:i<ds.length:=by rw[<- hl];exact(ZH.mp q).1
 refine zc1b (h.get (Zqg hi)) λy h1 h2=>?_;rw[q] at h1;obtain rfl:=Zqi h1;exact⟨_,Zqg hi,h2⟩
theorem zo.append:∀{ds es:YD} {xs ys:YB},zo K H ds xs->zo K H es ys->zo K H (ds++es) (xs++ys)
 | [],_,xs,_,h,h'=>by rw[zo.nil_iff] at h;subst h;exact h'
 |d::ds,_,xs,_,h,h'=>by
  rw[zo.cons_iff] at h;refine zc2c h λx r zr2 h2 h3=>?_;subst zr2;exact zo.mk h2 (zo.append h3 h')
def zo.snoc (h:zo K H ds xs)(h':IsD K H d x):zo K H (ds++[d]) (xs++[x]):=h.append (.mk h' .nil)
theorem zo.take:∀(n:Nat) {ds:YD} {xs:YB},zo K H ds xs->zo K H (ds.take n) (xs.take n)
 | 0,_,_,_=>.nil
 |n+1,[],xs,h=>by rw[zo.nil_iff] at h;subst h;exact .nil
 |n+1,d::ds,xs,h=>by
  rw[zo.cons_iff] at h;obtain⟨x,r,rfl,h2,h3⟩:=h;exact zo.mk h2 (zo.take n h3)
theorem zo.drop:∀(n:Nat) {ds:YD} {xs:YB},zo K H ds xs->zo K H (ds.drop n) (xs.drop n)
 | 0,_,_,h=>h
 |n+1,[],xs,h=>by rw[zo.nil_iff] at h;subst h;exact .nil
 |n+1,d::ds,xs,h=>by
  rw[zo.cons_iff] at h;obtain⟨x,r,rfl,h2,h3⟩:=h;exact zo.drop n h3
theorem zo.set:∀(n:Nat) {ds:YD} {xs:YB} {d:D} {x:V},zo K H ds xs->IsD K H d x->zo K H (ds.set n d) (xs.set n x)
 |_,[],xs,_,_,h,_=>by rw[zo.nil_iff] at h;subst h;exact .nil
 | 0,d::ds,xs,_,_,h,q=>by
  rw[zo.cons_iff] at h;refine zc2c h λx r zr2 h2 h3=>?_;subst zr2;exact zo.mk q h3
 |n+1,d::ds,xs,_,_,h,q=>by
  rw[zo.cons_iff] at h;refine zc2c h λx r zr2 h2 h3=>?_;subst zr2;exact zo.mk h2 (zo.set n h3 q)
theorem zo.ints:∀(ns:Yh),zo K H (ns.map D.int) (ns.map V.int)
 | []=>.nil
 |n::ns=>.mk (IsD.int_iff.mpr rfl) (zo.ints ns)
theorem zo.ints_iff:∀{ns:Yh} {xs:YB},zo K H (ns.map D.int) xs->xs=ns.map V.int
 | [],_,h=>zo.nil_iff.mp h
 |n::ns,xs,h=>by
  rw[Zl,zo.cons_iff] at h;obtain⟨x,r,rfl,h2,h3⟩:=h;rw[IsD.int_iff] at h2;rw[h2,zo.ints_iff h3];rfl
end
structure Ext (F H F' H':Hp):Prop where
 ff:yB F F'
 fh:yB F' H'
 hh:yB H H'
 new:∀a,F a=none->H a≠none->F' a=none
theorem Ext.refl (h:yB F H):Ext F H F H:=⟨.refl _,h,.refl _,λ_ e _=>e⟩
theorem Ext.trans (a:Ext F H F1 H1)(b:Ext F1 H1 F2 H2):Ext F H F2 H2:=
 ⟨a.ff.trans b.ff,b.fh,a.hh.trans b.hh,λx e n=>b.new x (a.new x e n) (by
  cases q:H x with
  |none=>exact Zn q n
  |some o=>rw[a.hh _ _ q];simp)⟩
def zF (h:yB F H)(hp:H p=none):F p=none:=h.free hp
def Ext.alloc (h:yB F H)(hp:H p=none)(o:HO):Ext F H (upd F p o) (upd H p o):=
 ⟨yW (h.free hp) o,λb u e=>by
  by_cases q:b=p
  .subst q;rw[zv] at e ⊢;exact e
  .rw[zC q] at e ⊢;exact h _ _ e,yW hp o,λa e n=>by
  have q:a≠p:=λz=>n (by rw[z];exact hp);rw[zC q];exact e⟩
def Ext.keep (h:yB F H)(hp:H p=none)(o:HO):Ext F H F (upd H p o):=
 ⟨.refl _,h.trans (yW hp o),yW hp o,λ_ e _=>e⟩
def Ext.grow (h:yB F H)(hh:yB H H'):Ext F H F H':=⟨.refl _,h.trans hh,hh,λ_ e _=>e⟩
set_option genInjectivity false in
inductive SV where
 |val (d:D)|own (p:Bool) (d:D)
set_option genInjectivity false in
structure Bs where
 F0:Hp
 H0:Hp
 pa:Nat->Option (Addr×YB)
abbrev SD:=List (Option SV)
def tV (K:W.Frag)(F H:Hp)(l:Addr):D->Prop
 | .lst ds=>∃xs,H l=some (.lst xs)/\zo K F ds xs
 | .dct ks ds=>∃xs,H l=some (.dK (ks.zip xs))/\ks.length=xs.length/\zo K F ds xs
 | .ins c fs ds=>∃C dx xs,W.nsIn K mainGlobals c=some (some (.ref C))/\H l=some (.ins C dx (fs.zip xs))/\fs.length=xs.length/\zo K F ds xs
 |_=>False
def tV.has {K:W.Frag}{F H:Hp}{l:Addr}{d:D}(h:tV K F H l d):∃o,H l=some o:=by
 cases d with
 |lst ds=>obtain⟨xs,e,_⟩:=h;exact⟨_,e⟩
 |dct ks ds=>obtain⟨xs,e,_⟩:=h;exact⟨_,e⟩
 |ins c fs ds=>obtain⟨C,dx,xs,_,e,_⟩:=h;exact⟨_,e⟩
 |_=>exact False.elim h
def tV.ext {K:W.Frag}{F H F' H':Hp}{l:Addr}{d:D}(h:tV K F H l d)(ff:yB F F')(hh:∀o,H l=some o->H' l=some o):tV K F' H' l d:=by
 cases d with
 |lst ds=>obtain⟨xs,e,q⟩:=h;exact⟨xs,hh _ e,zo.same ff _ _ q⟩
 |dct ks ds=>obtain⟨xs,e,z,q⟩:=h;exact⟨xs,hh _ e,z,zo.same ff _ _ q⟩
 |ins c fs ds=>obtain⟨C,dx,xs,k,e,z,q⟩:=h;exact⟨C,dx,xs,k,hh _ e,z,zo.same ff _ _ q⟩
 |_=>exact False.elim h
def tV.frz {K:W.Frag}{F H:Hp}{l:Addr}{d:D}{o:HO}(h:tV K F H l d)(e:H l=Option.some o)(n:F l=none):IsD K (upd F l o) d (.ref l):=by
 cases d with
 |lst ds =>
  refine zc1b h λxs e' q=>?_;rw[e] at e';obtain rfl:=Zqi e';exact IsD.lst_iff.mpr ⟨l,xs,rfl,.of zv,zo.same (yW n _) _ _ q⟩
 |dct ks ds =>
  refine zc1c h λxs e' z q=>?_;rw[e] at e';obtain rfl:=Zqi e';exact IsD.dct_iff.mpr ⟨l,xs,rfl,zv,z,zo.same (yW n _) _ _ q⟩
 |ins c fs ds =>
  refine zc3a h λC dx xs zz=>pR zz λk e' z q=>?_;rw[e] at e';obtain rfl:=Zqi e';exact IsD.ins_iff.mpr ⟨l,C,dx,xs,rfl,k,zv,z,zo.same (yW n _) _ _ q⟩
 |_=>exact False.elim h
noncomputable def gZ (H:Hp)(l:Addr)(o:Option (Addr×YB)):Prop:=∃xs,o=some (l,xs)/\H l=some (.lst xs)
structure RS (K:W.Frag)(B:Bs)(F H:Hp)(sd:SD)(Z:St):Prop where
 ext:Ext B.F0 B.H0 F H
 len:Z.length=sd.length
 val:∀{i:Nat} {d:D},sd[i]? = some (some (.val d))->∃v,Z[i]? = some (some v)/\IsD K F d v
 own:∀{i:Nat} {p:Bool} {d:D},sd[i]? = some (some (.own p d))->∃l,Z[i]? = some (some (.ref l))/\B.H0 l=none/\F l=none/\tV K F H l d/\(p=true->gZ H l (B.pa i))
 apart:∀{i j:Nat} {p q:Bool} {d e:D} {l:Addr},i≠j->sd[i]? = some (some (.own p d))->sd[j]? = some (some (.own q e)) -> Z[i]? = some (some (.ref l)) -> Z[j]? ≠ some (some (.ref l))
section
variable {K:W.Frag}{B:Bs}{F H F' H':Hp}{sd:SD}{Z:St}
def gZ.mono (h:gZ H l o)(k:∀u,H l=some u->H' l=some u):gZ H' l o:=let ⟨xs,h1,h2⟩:=h;⟨xs,h1,k _ h2⟩
def RS.step (r:RS K B F H sd Z)(e:Ext F H F' H'):RS K B F' H' sd Z where
 ext:=r.ext.trans e
 len:=r.len
 val:=λh=>let ⟨v,h1,h2⟩:=r.val h;⟨v,h1,IsD.same e.ff _ _ h2⟩
 own:=λh=>by
  refine zc1e (r.own h) λl h1 h2 h3 h4 h5=>?_;obtain⟨o,ho⟩:=h4.has;exact⟨l,h1,h2,e.new l h3 (by rw[ho];simp),h4.ext e.ff λo q=>e.hh _ _ q,λp=>(h5 p).mono λu q=>e.hh _ _ q⟩
 apart:=r.apart
def z8 {α:Type}{l:List α}{a:α}(h:i≠j):(l.set i a)[j]? = l[j]?:= List.getElem?_set_ne h
def zI {α:Type}{l:List α}{a b:α}(h:(l.set i a)[i]? = some b):b=a/\i<l.length:=by
 have hi:i<l.length:=by
  have:=(ZH.mp h).1
  rwa [XE] at this
 rw[Xj hi] at h;exact⟨(Zqi h).symm,hi⟩
def RS.setVal (r:RS K B F H sd Z)(h:IsD K F d v):RS K B F H (sd.set i (some (.val d))) (Z.set i (some v)) where
 ext:=r.ext
 len:=by rw[XE,XE,r.len]
 val:=λ{j e} q=>by
  by_cases z:i=j
  .subst z;obtain⟨e1,hi⟩:=zI q;cases e1;exact⟨v,Xj (by rw[r.len];exact hi),h⟩
  .rw[z8 z] at q ⊢;exact r.val q
 own:=λ{j p e} q=>by
  by_cases z:i=j
  .subst z;obtain⟨e1,_⟩:=zI q;cases e1
  .rw[z8 z] at q ⊢;exact r.own q
 apart:=λ{j k p1 p2 d1 d2 l} n q1 q2 q3=>by
  have z1:i≠j:=λz=>by subst z;obtain⟨e1,_⟩:=zI q1;cases e1
  have z2:i≠k:=λz=>by subst z;obtain⟨e1,_⟩:=zI q2;cases e1
  rw[z8 z1] at q1 q3;rw[z8 z2] at q2 ⊢;exact r.apart n q1 q2 q3
def RS.setOwn (r:RS K B F H sd Z)(h0:B.H0 l=none)(hf:F l=none)(h:tV K F H l d)(fr:∀(j:Nat) (p:Bool) (e:D),sd[j]? = some (some (SV.own p e)) -> Z[j]? ≠ some (some (.ref l))):
 RS K B F H (sd.set i (some (.own false d))) (Z.set i (some (.ref l))) where
 ext:=r.ext
 len:=by rw[XE,XE,r.len]
 val:=λ{j e} q=>by
  by_cases z:i=j
  .subst z;obtain⟨e1,_⟩:=zI q;cases e1
  .rw[z8 z] at q ⊢;exact r.val q
 own:=λ{j p e} q=>by
  by_cases z:i=j
  .subst z;obtain⟨e1,hi⟩:=zI q;cases e1;exact⟨l,Xj (by rw[r.len];exact hi),h0,hf,h,λz=>by cases z⟩
  .rw[z8 z] at q ⊢;exact r.own q
 apart:=λ{j k p1 p2 d1 d2 m} n q1 q2 q3=>by
  by_cases z1:i=j
  .subst z1;obtain⟨_,hi⟩:=zI q1;rw[z8 n] at q2 ⊢;rw[Xj (by rw[r.len];exact hi)] at q3;cases q3;exact fr k p2 d2 q2
  .rw[z8 z1] at q1 q3;by_cases z2:i=k
   .subst z2;obtain⟨_,hi⟩:=zI q2;rw[Xj (by rw[r.len];exact hi)];intro e;cases e;exact fr j p1 d1 q1 q3
   .rw[z8 z2] at q2 ⊢;exact r.apart n q1 q2 q3
def RS.chg {i:Nat}{p:Bool}{d d':D}{l:Addr}{o:HO}(r:RS K B F H sd Z)(hi:sd[i]? = some (some (.own p d)))(hl:Z[i]? = some (some (.ref l)))(h:tV K F (upd H l o) l d'):
 RS K B F (upd H l o) (sd.set i (some (.own false d'))) Z:= by
 refine zc1e (r.own hi) λl' e1 h0 hf _ _=>?_;rw[hl] at e1;cases e1;have hil:i<sd.length:=(ZH.mp hi).1;refine⟨⟨r.ext.ff,lB o r.ext.fh hf,lB o r.ext.hh h0,r.ext.new⟩,by rw[XE,r.len],λ{j e} q=>?_,λ{j p e} q=>?_,λ{j k p1 p2 d1 d2 m} n q1 q2 q3=>?_⟩
 .by_cases z:i=j
  .subst z;obtain⟨e1,_⟩:=zI q;cases e1
  .rw[z8 z] at q;exact r.val q
 .by_cases z:i=j
  .subst z;obtain⟨e1,_⟩:=zI q;cases e1;exact⟨l,hl,h0,hf,h,λz=>by cases z⟩
  .rw[z8 z] at q;refine zc1e (r.own q) λm m1 m2 m3 m4 m5=>?_;have ne:m≠l:=λe=>r.apart z hi q hl (by rw[<- e];exact m1);exact⟨m,m1,m2,m3,m4.ext (.refl _) λu q'=>by rw[zC ne];exact q',λp=>(m5 p).mono λu q'=>by rw[zC ne];exact q'⟩
 .have g:∀{j:Nat} {p:Bool} {e:D},(sd.set i (some (.own false d')))[j]? = some (some (.own p e))->∃p' e',sd[j]? = some (some (.own p' e')):=λ{j p e} q=>by
   by_cases z:i=j
   .subst z;exact⟨_,d,hi⟩
   .rw[z8 z] at q;exact⟨p,e,q⟩
  refine zc2a (g q1) λ_ _ p1=>?_;refine zc2a (g q2) λ_ _ p2=>?_;exact r.apart n p1 p2 q3
def RS.frz1 (r:RS K B F H sd Z)(hi:sd[i]? = some (some (.own p d))):∃F',yB F F'/\RS K B F' H (sd.set i (some (.val d))) Z:= by
 refine zc1e (r.own hi) λl hl h0 hf ho _=>?_;obtain⟨o,e⟩:=ho.has;have hil:i<sd.length:=(ZH.mp hi).1;have sF:yB F (upd F l o):=yW hf o;refine⟨upd F l o,sF,⟨r.ext.ff.trans sF,λb u q=>?_,r.ext.hh,λa q1 q2=>?_⟩,by rw[XE,r.len],λ{j x} q=>?_,λ{j p x} q=>?_,λ{j k p1 p2 d1 d2 m} n q1 q2 q3=>?_⟩
 .by_cases z:b=l
  .subst z;rw[zv] at q;cases q;exact e
  .rw[zC z] at q;exact r.ext.fh _ _ q
 .have z:a≠l:=λz=>q2 (by rw[z];exact h0);rw[zC z];exact r.ext.new a q1 q2
 .by_cases z:i=j
  .subst z;obtain⟨e1,_⟩:=zI q;cases e1;exact⟨_,hl,ho.frz e hf⟩
  .rw[z8 z] at q;refine zc1b (r.val q) λv v1 v2=>?_;exact⟨v,v1,IsD.same sF _ _ v2⟩
 .by_cases z:i=j
  .subst z;obtain⟨e1,_⟩:=zI q;cases e1
  .rw[z8 z] at q;refine zc1e (r.own q) λm m1 m2 m3 m4 m5=>?_;have ne:m≠l:=λe=>r.apart z hi q hl (by rw[<- e];exact m1);exact⟨m,m1,m2,by rw[zC ne];exact m3,m4.ext sF λu q'=>q',m5⟩
 .have z1:i≠j:=λz=>by subst z;obtain⟨e1,_⟩:=zI q1;cases e1
  have z2:i≠k:=λz=>by subst z;obtain⟨e1,_⟩:=zI q2;cases e1
  rw[z8 z1] at q1;rw[z8 z2] at q2;exact r.apart n q1 q2 q3
noncomputable def tE:Yj->SD->SD
 | [],sd=>sd
 |i::is,sd=>tE is (match sd[i]? with
  |some (some (.own _ d))=>sd.set i (some (.val d))
  |_=>sd)
theorem RS.frz:∀(is:Yj) {F:Hp} {sd:SD},RS K B F H sd Z -> ∃F',yB F F'/\RS K B F' H (tE is sd) Z
 | [],F,sd,r=>⟨F,.refl _,r⟩
 |i::is,F,sd,r=>by
  unfold tE
  split
  .rename_i p d h;refine zc1b (r.frz1 h) λF1 s1 r1=>?_;refine zc1b (RS.frz is r1) λF2 s2 r2=>?_;exact⟨F2,s1.trans s2,r2⟩
  .exact RS.frz is r
end
def ExcIs (K:W.Frag)(F H:Hp)(c:Str)(fs:YD)(cv:Value)(a:Option Addr):Prop:=
 ∃C,cv=.ref C/\W.nsIn K mainGlobals c=some (some (.ref C))/\(fs=[]\/∃p n d x,fs=[d]/\a=some p/\H p=some (.xd [(n,x)])/\IsD K F d x)
def XW (K:W.Frag)(E:XK)(F H:Hp)(c:Str)(fs:YD):Prop:=∀cv a F' H',Ext F H F' H'->ExcIs K F' H' c fs cv a->E cv a H'
def XW.ext {K:W.Frag}{E:XK}{F H F' H':Hp}{c:Str}{fs:YD}(h:XW K E F H c fs)(e:Ext F H F' H'):XW K E F' H' c fs:=λcv a F2 H2 e2 q=>h cv a F2 H2 (e.trans e2) q
abbrev FE:=SD->Res D
abbrev FT:=SD->Res Bool
abbrev FA:=SD->Res YD
def OkD (K:W.Frag)(F H:Hp)(Q:VK)(d:D):Prop:=∀v F' H',Ext F H F' H'->IsD K F' d v->Q v H'
noncomputable def OkB (F H:Hp)(Q:Bool->Hp->Prop)(b:Bool):Prop:=∀F' H',Ext F H F' H'->Q b H'
def OkA (K:W.Frag)(F H:Hp)(Q:YB->Hp->Prop)(ds:YD):Prop:=∀vs F' H',Ext F H F' H'->zo K F' ds vs->Q vs H'
def OkN (K:W.Frag)(F H:Hp)(Q:VK)(d:D):Prop:=∀l F' H',Ext F H F' H'->H l=none->F' l=none->tV K F' H' l d->Q (.ref l) H'
def tD (K:W.Frag)(E:XK)(f:FE):TE:=λZ H Q=>∃B F sd,RS K B F H sd Z /\ (f sd).need (OkD K F H Q) (XW K E F H)
def tDT (K:W.Frag)(E:XK)(f:FT):TT:=λZ H Q=>∃B F sd,RS K B F H sd Z /\ (f sd).need (OkB F H Q) (XW K E F H)
def tDA (K:W.Frag)(E:XK)(f:FA):TA:=λZ H Q=>∃B F sd,RS K B F H sd Z /\ (f sd).need (OkA K F H Q) (XW K E F H)
def tDN (K:W.Frag)(E:XK)(f:FE):TE:=λZ H Q=>∃B F sd,RS K B F H sd Z /\ (f sd).need (OkN K F H Q) (XW K E F H)
abbrev QE (X:Cx)(E:XK)(e:Expr)(f:FE):Prop:=PE X e (tD X.K E f)
abbrev QT (X:Cx)(E:XK)(e:Expr)(f:FT):Prop:=PT X e (tDT X.K E f)
abbrev QW (X:Cx)(E:XK)(e:Expr)(f:FT):Prop:=PW X e (tDT X.K E f)
abbrev QA (X:Cx)(E:XK)(es:Ym)(f:FA):Prop:=PA X es (tDA X.K E f)
abbrev QN (X:Cx)(E:XK)(e:Expr)(f:FE):Prop:=PE X e (tDN X.K E f)
def PE.weak (h:PE X e t)(w:∀Z H Q,t' Z H Q->t Z H Q):PE X e t':=λY s Z H Q I q=>h Y s Z H Q I (w _ _ _ q)
def PT.weak (h:PT X e t)(w:∀Z H Q,t' Z H Q->t Z H Q):PT X e t':=λY s Z H Q I q=>h Y s Z H Q I (w _ _ _ q)
def PW.weak (h:PW X e t)(w:∀Z H Q,t' Z H Q->t Z H Q):PW X e t':=λwhole Y s Z H Q I q=>h whole Y s Z H Q I (w _ _ _ q)
def PA.weak (h:PA X e t)(w:∀Z H Q,t' Z H Q->t Z H Q):PA X e t':=λpos Y s Z H Q I q=>h pos Y s Z H Q I (w _ _ _ q)
def PS.weak (h:PS X e t)(w:∀D Z H,t' D Z H->t D Z H):PS X e t':=λY s Z H D I q=>h Y s Z H D I (w _ _ _ q)
def PSs.weak (h:PSs X e t)(w:∀D Z H,t' D Z H->t D Z H):PSs X e t':=λY s Z H D I q=>h Y s Z H D I (w _ _ _ q)
def PI.weak (h:PI X tg e t)(w:∀Z H R,t' Z H R->t Z H R):PI X tg e t':=λY s Z H R I q=>h Y s Z H R I (w _ _ _ q)
section
variable {K:W.Frag}{E:XK}{F H F' H':Hp}
def OkD.ext (h:OkD K F H Q d)(e:Ext F H F' H'):OkD K F' H' Q d:=λv F2 H2 e2 q=>h v F2 H2 (e.trans e2) q
def OkB.ext (h:OkB F H Q b)(e:Ext F H F' H'):OkB F' H' Q b:=λF2 H2 e2=>h F2 H2 (e.trans e2)
def OkN.ext (h:OkN K F H Q d)(e:Ext F H F' H'):OkN K F' H' Q d:=λl F2 H2 e2 q=>h l F2 H2 (e.trans e2) (zF e.hh q)
def cF {Q:VK}{r:Res D}(h:r.need (OkD K F H Q) (XW K E F H))(e:Ext F H F' H'):r.need (OkD K F' H' Q) (XW K E F' H'):=h.mono (λ_ q=>q.ext e) λ_ _ q=>q.ext e
def cm {Q:Bool->Hp->Prop}{r:Res Bool}(h:r.need (OkB F H Q) (XW K E F H))(e:Ext F H F' H'):r.need (OkB F' H' Q) (XW K E F' H'):=h.mono (λ_ q=>q.ext e) λ_ _ q=>q.ext e
def dF {Q:VK}{r:Res D}(h:r.need (OkN K F H Q) (XW K E F H))(e:Ext F H F' H'):r.need (OkN K F' H' Q) (XW K E F' H'):=h.mono (λ_ q=>q.ext e) λ_ _ q=>q.ext e
theorem OkD.new (h:OkD K F H Q d):OkN K F H Q d:=λl F' H' e n n' o=>by
 obtain⟨u,hu⟩:=o.has;refine h (.ref l) (upd F' l u) H' ⟨e.ff.trans (yW n' u),λb v q=>?_,e.hh,λa q1 q2=>?_⟩ (o.frz hu n')
 .by_cases z:b=l
  .subst z;rw[zv] at q;cases q;exact hu
  .rw[zC z] at q;exact e.fh _ _ q
 .have z:a≠l:=λz=>q2 (by rw[z];exact n);rw[zC z];exact e.new a q1 q2
end
section
variable {X:Cx}{E:XK}
def QN.qe (h:QN X E e f):QE X E e f:=PE.weak h (by rintro Z H Q ⟨B,F,sd,r,n⟩;exact⟨B,F,sd,r,n.mono (λ_ q=>q.new) λ_ _ q=>q⟩)
noncomputable def zf (i:Nat):FE:=λsd=>match sd[i]? with
 |some (some (.val d))=>.ok d
 |_=>.no
noncomputable def dC (d:D):FE:=λ_=>.ok d
def zc (h:PE X e (gN i)):QE X E e (zf i):=PE.weak h λZ H Q zh=>by
 refine zc3b zh λB F sd r n=>?_;unfold zf at n
 split at n
 .rename_i d q;refine zc1b (r.val q) λv h1 h2=>?_;exact⟨v,h1,n v F H (.refl r.ext.fh) h2⟩
 .exact n.elim
def qU (h:PE X e (tC v))(i:∀F,IsD X.K F d v):QE X E e (dC d):=PE.weak h (by rintro Z H Q ⟨B,F,sd,r,n⟩;exact n v F H (.refl r.ext.fh) (i F))
def zi {i j pos}:QE X E (.Constant (.int i) j pos) (dC (.int i)):=qU pe_int λ_=>IsD.int_iff.mpr rfl
def vG {b j pos}:QE X E (.Constant (.bool b) j pos) (dC (.bl b)):=qU pe_bl λ_=>IsD.bl_iff.mpr rfl
def qc_non {j pos}:QE X E (.Constant .none j pos) (dC .non):=qU pe_non λ_=>IsD.non_iff.mpr rfl
noncomputable def Res.ofO {α:Type}:Option α -> Res α
 |some a=>.ok a
 |none=>.no
@[simp]def Res.ofO_some {α:Type}(a:α):Res.ofO (some a)=.ok a:=rfl
@[simp]def Res.ofO_none {α:Type}:Res.ofO (none:Option α)=.no:=rfl
def Res.need_ofO {α:Type}{o:Option α}{p:α -> Prop}(h:(Res.ofO o).need p q):∃a,o=some a/\p a:=by
 cases o with
 |none=>exact h.elim
 |some a=>exact⟨a,rfl,h⟩
def dOp (g:D->D->YE)(fa fb:FE):FE:=λsd=>(fa sd).bind λx=>(fb sd).bind λy=>.ofO (g x y)
def dUn (g:D->YE)(fa:FE):FE:=λsd=>(fa sd).bind λx=>.ofO (g x)
def rD2 (K:W.Frag)(g:D->D->YE):R2:=λv w H Q=>∃F d e z,yB F H/\IsD K F d v/\IsD K F e w/\g d e=some z/\OkD K F H Q z
def ae (K:W.Frag)(g:D->D->YE):R2:=λv w H Q=>∃F d e z,yB F H/\IsD K F d v/\IsD K F e w/\g d e=some z/\OkN K F H Q z
def rD1 (K:W.Frag)(g:D->YE):V->Hp->VK->Prop:=λv H Q=>∃F d z,yB F H/\IsD K F d v/\g d=some z/\OkD K F H Q z
def rDA (K:W.Frag)(g:YD->YE):YB->Hp->VK->Prop:=λvs H Q=>∃F ds z,yB F H/\zo K F ds vs/\g ds=some z/\OkD K F H Q z
def cG (K:W.Frag)(g:YD->YE):YB->Hp->VK->Prop:=λvs H Q=>∃F ds z,yB F H/\zo K F ds vs/\g ds=some z/\OkN K F H Q z
def jJ {K:W.Frag}{g:D->D->YE}{fa fb:FE}{Z:St}{H:Hp}{Q:VK}(h:tD K E (dOp g fa fb) Z H Q):tOp (rD2 K g) (tD K E fa) (tD K E fb) Z H Q:=by
 refine zc3b h λB F sd r n=>?_;refine⟨B,F,sd,r,(Res.need_bind n).mono (λx n1 v F1 H1 e1 i1=>?_) λ_ _ q=>q⟩;refine⟨B,F1,sd,r.step e1,(Res.need_bind n1).mono (λy n2 w F2 H2 e2 i2=>?_) λ_ _ q=>q.ext e1⟩;refine zc1b (Res.need_ofO n2) λz hz q=>?_;exact⟨F2,x,y,z,e2.fh,IsD.same e2.ff _ _ i1,i2,hz,q.ext (e1.trans e2)⟩
def tDN_op {K:W.Frag}{g:D->D->YE}{fa fb:FE}{Z:St}{H:Hp}{Q:VK}(h:tDN K E (dOp g fa fb) Z H Q):tOp (ae K g) (tD K E fa) (tD K E fb) Z H Q:=by
 refine zc3b h λB F sd r n=>?_;refine⟨B,F,sd,r,(Res.need_bind n).mono (λx n1 v F1 H1 e1 i1=>?_) λ_ _ q=>q⟩;refine⟨B,F1,sd,r.step e1,(Res.need_bind n1).mono (λy n2 w F2 H2 e2 i2=>?_) λ_ _ q=>q.ext e1⟩;refine zc1b (Res.need_ofO n2) λz hz q=>?_;exact⟨F2,x,y,z,e2.fh,IsD.same e2.ff _ _ i1,i2,hz,q.ext (e1.trans e2)⟩
def tD_un {K:W.Frag}{g:D->YE}{fa:FE}{Z:St}{H:Hp}{Q:VK}(h:tD K E (dUn g fa) Z H Q):tUn (rD1 K g) (tD K E fa) Z H Q:=by
 refine zc3b h λB F sd r n=>?_;refine⟨B,F,sd,r,(Res.need_bind n).mono (λx n1 v F1 H1 e1 i1=>?_) λ_ _ q=>q⟩;refine zc1b (Res.need_ofO n1) λz hz q=>?_;exact⟨F1,x,z,e1.fh,i1,hz,q.ext e1⟩
abbrev OpD (X:Cx)(f:Value->Value->Sem Value)(g:D->D->YE):Prop:=OpR X f (rD2 X.K g)
abbrev af (X:Cx)(f:Value->Value->Sem Value)(g:D->D->YE):Prop:=OpR X f (ae X.K g)
def OpR.weak (h:OpR X f r)(w:∀x y H Q,r' x y H Q->r x y H Q):OpR X f r':=λY s Z H x y v u Q I rx ry q=>h Y s Z H x y v u Q I rx ry (w _ _ _ _ q)
def UnR.weak (h:UnR X f r)(w:∀x H Q,r' x H Q->r x H Q):UnR X f r':=λY s Z H x v Q I rx q=>h Y s Z H x v Q I rx (w _ _ _ q)
def zD.weak (h:zD X f r)(w:∀x H Q,r' x H Q->r x H Q):zD X f r':=λY s Z H x v Q I rx q=>h Y s Z H x v Q I rx (w _ _ _ q)
def IxR.weak (h:IxR X r)(w:∀x y H Q,r' x y H Q->r x y H Q):IxR X r':=λvalue slice Y s Z H x y v u Q I rx ry q e=>h value slice Y s Z H x y v u Q I rx ry (w _ _ _ _ q) e
variable {a b:Expr}{fa fb:FE}{pos:Pos}
def yY (ho:OpD X (binaryOp op) g)(ha:QE X E a fa)(hb:QE X E b fb):QE X E (.BinOp a op b pos) (dOp g fa fb):=PE.weak (cq ho ha hb) λ_ _ _ h=>jJ h
def q_opN (ho:af X (binaryOp op) g)(ha:QE X E a fa)(hb:QE X E b fb):QN X E (.BinOp a op b pos) (dOp g fa fb):=PE.weak (cq ho ha hb) λ_ _ _ h=>tDN_op h
def cT (ho:UnR X (unaryOp op) (rD1 X.K g))(ha:QE X E a fa):QE X E (.UnaryOp op a pos) (dUn g fa):=PE.weak (pe_un ho ha) λ_ _ _ h=>tD_un h
def dq (ho:OpD X (compareOp op) g)(ha:QE X E a fa)(hb:QE X E b fb)(hm:behindInMarks op b=false):QE X E (.Compare a [op] [b] pos) (dOp g fa fb):=PE.weak (pe_cmpR ho ha hb hm) λ_ _ _ h=>jJ h
def z4 (fa:FE):FT:=λsd=>(fa sd).bind λx=>match x with
 | .bl b=>.ok b
 |_=>.no
def wj {K:W.Frag}{Z:St}{H:Hp}{Q:Bool->Hp->Prop}(h:tDT K E (z4 fa) Z H Q):tD K E fa Z H (λx H'=>∃k,x=.bl k/\Q k H'):=by
 refine zc3b h λB F sd r n=>?_;refine⟨B,F,sd,r,(Res.need_bind n).mono (λx n1 v F1 H1 e1 i1=>?_) λ_ _ q=>q⟩;cases x with
 |bl k=>exact⟨k,IsD.bl_iff.mp i1,n1 F1 H1 e1⟩
 |_=>exact n1.elim
def zZ {op:CmpOp}{g:D->D->YE}(ho:OpD X (compareOp op) g)(ha:QE X E a fa)(hb:QE X E b fb)(hm:behindInMarks op b=false):QT X E (.Compare a [op] [b] pos) (z4 (dOp g fa fb)):=
 PT.weak (nR ho ha hb hm) λZ H Q h=>by
  have h:=wj h;exact jJ h
def wc (ha:QE X E a fa)(he:autoParam (∀whole,isTrue a X.env whole=(do let v <- whole;standAt a.pos;holding [v] (truthy v))) zaw._auto_1):QT X E a (z4 fa):=PT.weak (pt_val ha he) λZ H Q q=>wj q
def uJ (f:FT):FT:=λsd=>(f sd).bind λb=>.ok (!b)
def nv (f g:FT):FT:=λsd=>(f sd).bind λb=>if b then g sd else .ok false
def kR (f g:FT):FT:=λsd=>(f sd).bind λb=>if b then .ok true else g sd
variable {f g:FT}{rest:Ym}
def vY (ha:QT X E a f):QT X E (.UnaryOp .Not a pos) (uJ f):=PT.weak (pt_not ha) λZ H Q ⟨B,F,sd,r,n⟩ =>
 ⟨B,F,sd,r,(Res.need_bind n).mono (λ_ q=>q) λ_ _ q=>q⟩
def tW (ha:QT X E a f):QW X E (.BoolOp .And [a] pos) f:=pw_and1 ha
def tJ (ha:QT X E a f):QW X E (.BoolOp .Or [a] pos) f:=pw_or1 ha
def nc (ha:QT X E a f)(hb:QW X E (.BoolOp .And (b::rest) pos) g):QW X E (.BoolOp .And (a::b::rest) pos) (nv f g):=PW.weak (pw_and ha hb) λZ H Q zh=>by
 refine zc3b zh λB F sd r n=>?_;refine⟨B,F,sd,r,(Res.need_bind n).mono (λk n1 F1 H1 e1=>?_) λ_ _ q=>q⟩;cases k with
 |true=>exact⟨B,F1,sd,r.step e1,cm n1 e1⟩
 |false=>exact n1 F1 H1 e1
def rG (ha:QT X E a f)(hb:QW X E (.BoolOp .Or (b::rest) pos) g):QW X E (.BoolOp .Or (a::b::rest) pos) (kR f g):=PW.weak (pw_or ha hb) λZ H Q zh=>by
 refine zc3b zh λB F sd r n=>?_;refine⟨B,F,sd,r,(Res.need_bind n).mono (λk n1 F1 H1 e1=>?_) λ_ _ q=>q⟩;cases k with
 |true=>exact n1 F1 H1 e1
 |false=>exact⟨B,F1,sd,r.step e1,cm n1 e1⟩
def QW.qt (h:QW X E e f):QT X E e f:=PW.pt h
def i7 (fa fb:FE):FE:=λsd=>(z4 fa sd).bind λb=>if b then fb sd else .ok (.bl false)
def dG (fa:FE):FE:=λsd=>(z4 fa sd).bind λb=>.ok (.bl !b)
def dw {op}(h:QE X E a fa):QE X E (.BoolOp op [a] pos) fa:=pe_one h
def dH (ha:QE X E a fa)(hb:QE X E (.BoolOp .And (b::rest) pos) fb):QE X E (.BoolOp .And (a::b::rest) pos) (i7 fa fb):=PE.weak (pe_and ha hb) λZ H Q zh=>by
 obtain⟨B,F,sd,r,n⟩:=zh;refine wj (K:=X.K) (E:=E) (Q:=λc H1=>if c=true then tD X.K E fb Z H1 Q else Q (.bl false) H1) ⟨B,F,sd,r,(Res.need_bind n).mono (λk n1 F1 H1 e1=>?_) λ_ _ q=>q⟩;cases k with
 |true=>exact⟨B,F1,sd,r.step e1,cF n1 e1⟩
 |false=>exact n1 _ F1 H1 e1 (IsD.bl_iff.mpr rfl)
def q_not (ha:QE X E a fa):QE X E (.UnaryOp .Not a pos) (dG fa):=PE.weak (pe_not ha) λZ H Q zh=>by
 refine zc3b zh λB F sd r n=>?_;refine wj (K:=X.K) (E:=E) (Q:=λc H1=>Q (.bl (!c)) H1) ⟨B,F,sd,r,(Res.need_bind n).mono (λk n1 F1 H1 e1=>?_) λ_ _ q=>q⟩;exact n1 _ F1 H1 e1 (IsD.bl_iff.mpr rfl)
noncomputable def zn:FA:=λ_=>.ok []
def zb (fa:FE)(fr:FA):FA:=λsd=>(fa sd).bind λx=>(fr sd).bind λxs=>.ok (x::xs)
def zd:QA X E [] zn:=PA.weak mL (by rintro Z H Q ⟨B,F,sd,r,n⟩;exact n [] F H (.refl r.ext.fh) .nil)
def za (ha:QE X E e fe)(hr:QA X E es fr)(hs:autoParam (starEach (e::es) X.env=(false,eval e X.env)::starEach es X.env) zau._auto_1):QA X E (e::es) (zb fe fr):=
 PA.weak (qG ha hr hs) λZ H Q zh=>by
  refine zc3b zh λB F sd r n=>?_;refine⟨B,F,sd,r,(Res.need_bind n).mono (λx n1 v F1 H1 e1 i1=>?_) λ_ _ q=>q⟩;refine⟨B,F1,sd,r.step e1,(Res.need_bind n1).mono (λxs n2 vs F2 H2 e2 i2=>?_) λ_ _ q=>q.ext e1⟩;exact n2 _ F2 H2 (e1.trans e2) (.mk (IsD.same e2.ff _ _ i1) i2)
def uh (fr:FA):FE:=λsd=>(fr sd).bind λxs=>if xs.length<=1000 then .ok (.lst xs) else .no
def pM (fr:FA):FE:=λsd=>(fr sd).bind λxs=>if xs.length<=1000 then .ok (.tup xs) else .no
def xm (h:QA X E es fr):QN X E (.List es pos) (uh fr):=PE.weak (pe_lst h) λZ H Q zh=>by
 refine zc3b zh λB F sd r n=>?_;refine⟨B,F,sd,r,(Res.need_bind n).mono (λxs n1 vs F1 H1 e1 i1=>?_) λ_ _ q=>q⟩
 split at n1
 .rename_i hl;have hz:=i1.length;refine⟨v0 (),λp hp=>?_⟩;exact n1 p F1 (upd H1 p (.lst vs)) (e1.trans (.keep e1.fh hp _)) (zF e1.hh hp) (zF e1.fh hp) ⟨vs,zv,i1⟩
 .exact n1.elim
def uX {x1}(h:QA X E es fr):QE X E (.Tuple es x1 pos) (pM fr):=PE.weak (pe_tup h) λZ H Q zh=>by
 refine zc3b zh λB F sd r n=>?_;refine⟨B,F,sd,r,(Res.need_bind n).mono (λxs n1 vs F1 H1 e1 i1=>?_) λ_ _ q=>q⟩
 split at n1
 .rename_i hl;have hz:=i1.length;refine⟨v0 (),λp hp=>?_⟩;have ea:=Ext.alloc e1.fh hp (.tup vs);exact n1 _ _ _ (e1.trans ea) (IsD.tup_iff.mpr ⟨p,vs,rfl,.of zv,zo.same ea.ff _ _ i1⟩)
 .exact n1.elim
def SpD (K:W.Frag)(Fn:YD->Res D):Sp:=λvs H Q _=>∃F ds,yB F H/\zo K F ds vs/\(Fn ds).need (OkD K F H Q) (XW K E0 F H)
def SpN (K:W.Frag)(Fn:YD->Res D):Sp:=λvs H Q _=>∃F ds,yB F H/\zo K F ds vs/\(Fn ds).need (OkN K F H Q) (XW K E0 F H)
def zq (Fn:YD->Res D)(fr:FA):FE:=λsd=>(fr sd).bind Fn
def vi {name:Str}{k:Nat}{ps:Yk}{Fn:YD->Res D}{p:Pos}{e:Expr}{es:Ym}{fr:FA}(c:z7 X.prog X.w X.K X.mg X.base name k ps (SpD X.K Fn))(hr:Room k X.A)(hg:Gl X name)(ha:QA X E0 (e::es) fr)
 (hdb:autoParam ((name == ("__debug__" : Str))=false) zav._auto_1) (he:starEach (e::es) X.env=(false,eval e X.env)::starEach es X.env:=by rfl) (hpl:(backTo pos (starEach es X.env)).any (·.1)=false:=by rfl):
 QE X E0 (.Call (.Name name p) (e::es) [] pos) (zq Fn fr):=PE.weak (dE c hr hg ha hdb he hpl) λZ H Q zh=>by
 refine zc3b zh λB F sd r n=>?_;refine⟨B,F,sd,r,(Res.need_bind n).mono (λxs n1 vs F1 H1 e1 i1=>?_) λ_ _ q=>q⟩;show SpD X.K Fn (vs++[]) H1 Q E0;rw[Zz];exact⟨F1,xs,e1.fh,i1,cF n1 e1⟩
def uz {name:Str}{k:Nat}{ps:Yk}{Fn:YD->Res D}{p:Pos}{e:Expr}{es:Ym}{fr:FA}(c:z7 X.prog X.w X.K X.mg X.base name k ps (SpN X.K Fn))(hr:Room k X.A)(hg:Gl X name)(ha:QA X E0 (e::es) fr)
 (hdb:autoParam ((name == ("__debug__" : Str))=false) zav._auto_1) (he:starEach (e::es) X.env=(false,eval e X.env)::starEach es X.env:=by rfl) (hpl:(backTo pos (starEach es X.env)).any (·.1)=false:=by rfl):
 QN X E0 (.Call (.Name name p) (e::es) [] pos) (zq Fn fr):=PE.weak (dE c hr hg ha hdb he hpl) λZ H Q zh=>by
 refine zc3b zh λB F sd r n=>?_;refine⟨B,F,sd,r,(Res.need_bind n).mono (λxs n1 vs F1 H1 e1 i1=>?_) λ_ _ q=>q⟩;show SpN X.K Fn (vs++[]) H1 Q E0;rw[Zz];exact⟨F1,xs,e1.fh,i1,dF n1 e1⟩
def xB (g:YD->YE)(fr:FA):FE:=λsd=>(fr sd).bind λxs=>.ofO (g xs)
def yh {id:String}{x:Str}{p:Pos}{e:Expr}{es:Ym}{g:YD->YE}{fr:FA}(hc:zD X (.builtin id) (rDA X.K g))(hg:Gl X x)(hm:X.mg x=none)(hv:bootBuiltins x=some (.builtin id))(ha:QA X E (e::es) fr)(hn:autoParam (x ≠ "__name__") zav._auto_1)(hdb:autoParam ((x == ("__debug__" : Str))=false) zav._auto_1)
 (he:autoParam (starEach (e::es) X.env=(false,eval e X.env)::starEach es X.env) zau._auto_1) (hpl:autoParam ((backTo pos (starEach es X.env)).any (·.1)=false) zau._auto_1):QE X E (.Call (.Name x p) (e::es) [] pos) (xB g fr):=
 PE.weak (tw hc hg hm hv ha hn hdb he hpl) λZ H Q zh=>by
  refine zc3b zh λB F sd r n=>?_;refine⟨B,F,sd,r,(Res.need_bind n).mono (λxs n1 vs F1 H1 e1 i1=>?_) λ_ _ q=>q⟩;refine zc1b (Res.need_ofO n1) λz hz q=>?_;exact⟨F1,xs,z,e1.fh,i1,hz,q.ext e1⟩
def mR {id:String}{x:Str}{p:Pos}{e:Expr}{es:Ym}{g:YD->YE}{fr:FA}(hc:zD X (.builtin id) (cG X.K g))(hg:Gl X x)(hm:X.mg x=none)(hv:bootBuiltins x=some (.builtin id))(ha:QA X E (e::es) fr)(hn:autoParam (x ≠ "__name__") zav._auto_1)(hdb:autoParam ((x == ("__debug__" : Str))=false) zav._auto_1)
 (he:autoParam (starEach (e::es) X.env=(false,eval e X.env)::starEach es X.env) zau._auto_1) (hpl:autoParam ((backTo pos (starEach es X.env)).any (·.1)=false) zau._auto_1):QN X E (.Call (.Name x p) (e::es) [] pos) (xB g fr):=
 PE.weak (tw hc hg hm hv ha hn hdb he hpl) λZ H Q zh=>by
  refine zc3b zh λB F sd r n=>?_;refine⟨B,F,sd,r,(Res.need_bind n).mono (λxs n1 vs F1 H1 e1 i1=>?_) λ_ _ q=>q⟩;refine zc1b (Res.need_ofO n1) λz hz q=>?_;exact⟨F1,xs,z,e1.fh,i1,hz,q.ext e1⟩
def wS {T:String}{x:Str}{p:Pos}{e:Expr}{es:Ym}{g:YD->YE}{fr:FA}(hc:zD X (.type T) (rDA X.K g))(hg:Gl X x)(hm:X.mg x=none)(hv:bootBuiltins x=some (.type T))(ha:QA X E (e::es) fr)(hn:autoParam (x ≠ "__name__") zav._auto_1)(hdb:autoParam ((x == ("__debug__" : Str))=false) zav._auto_1)
 (he:autoParam (starEach (e::es) X.env=(false,eval e X.env)::starEach es X.env) zau._auto_1) (hpl:autoParam ((backTo pos (starEach es X.env)).any (·.1)=false) zau._auto_1):QE X E (.Call (.Name x p) (e::es) [] pos) (xB g fr):=
 PE.weak (tP hc hg hm hv ha hn hdb he hpl) λZ H Q zh=>by
  refine zc3b zh λB F sd r n=>?_;refine⟨B,F,sd,r,(Res.need_bind n).mono (λxs n1 vs F1 H1 e1 i1=>?_) λ_ _ q=>q⟩;refine zc1b (Res.need_ofO n1) λz hz q=>?_;exact⟨F1,xs,z,e1.fh,i1,hz,q.ext e1⟩
def xX {T:String}{x:Str}{p:Pos}{e:Expr}{es:Ym}{g:YD->YE}{fr:FA}(hc:zD X (.type T) (cG X.K g))(hg:Gl X x)(hm:X.mg x=none)(hv:bootBuiltins x=some (.type T))(ha:QA X E (e::es) fr)(hn:autoParam (x ≠ "__name__") zav._auto_1)(hdb:autoParam ((x == ("__debug__" : Str))=false) zav._auto_1)
 (he:autoParam (starEach (e::es) X.env=(false,eval e X.env)::starEach es X.env) zau._auto_1) (hpl:autoParam ((backTo pos (starEach es X.env)).any (·.1)=false) zau._auto_1):QN X E (.Call (.Name x p) (e::es) [] pos) (xB g fr):=
 PE.weak (tP hc hg hm hv ha hn hdb he hpl) λZ H Q zh=>by
  refine zc3b zh λB F sd r n=>?_;refine⟨B,F,sd,r,(Res.need_bind n).mono (λxs n1 vs F1 H1 e1 i1=>?_) λ_ _ q=>q⟩;refine zc1b (Res.need_ofO n1) λz hz q=>?_;exact⟨F1,xs,z,e1.fh,i1,hz,q.ext e1⟩
noncomputable def pI:D->Bool
 | .tup _=>false
 | .lst _=>false
 | .dct _ _=>false
 | .ins _ _ _=>false
 | .exc _=>false
 | .dcf _ _=>false
 | .scr _=>false
 |_=>true
def IsD.scal {K:W.Frag}{F F':Hp}{d:D}{v:V}(s:pI d=true)(h:IsD K F d v):IsD K F' d v:=by
 cases d with
 |tup _=>exact zqb s
 |lst _=>exact zqb s
 |dct _ _=>exact zqb s
 |ins _ _ _=>exact zqb s
 |exc _=>exact zqb s
 |dcf _ _=>exact zqb s
 |scr _=>exact zqb s
 |_=>exact h
noncomputable def Res.bare {α:Type}(r:Res α):Res α:= match r with
 | .ok a=>.ok a
 | .ex c []=>.ex c []
 |_=>.no
def Res.need_bare {α:Type}{K:W.Frag}{F H F1:Hp}{r:Res α}{p:α -> Prop}(sF:yB F H)(h:r.bare.need p (XW K E0 F H)):r.need p (XW K E0 F1 H):=by
 cases r with
 |ok a=>exact h
 |no=>exact h
 |ex c fs =>
  cases fs with
  |nil=>exact λcv a F2 H2 e2 ⟨C,h1,h2,_⟩=>h cv none F H2 (.grow sF e2.hh) ⟨C,h1,h2,.inl rfl⟩
  |cons d r=>exact h.elim
def gD (is:Yj)(f:FE):FE:=λsd=>(f (tE is sd)).bare.bind λd=>if pI d then .ok d else .no
def nY (is:Yj)(f:FT):FT:=λsd=>(f (tE is sd)).bare
def kO {e:Expr}{fe:FE}(is:Yj)(h:QE X E0 e fe):QE X E0 e (gD is fe):=PE.weak h λZ H Q zh=>by
 refine zc3b zh λB F sd r n=>?_;refine zc1b (r.frz is) λF1 s1 r1=>?_;refine⟨B,F1,_,r1,(Res.need_bare r.ext.fh (Res.need_bind n)).mono (λd n1 v F2 H2 e2 i2=>?_) λc fs q=>q⟩
 split at n1
 .rename_i hs;exact n1 v F H2 (.grow r.ext.fh e2.hh) (i2.scal hs)
 .exact n1.elim
def oh {e:Expr}{fe:FT}(is:Yj)(h:QT X E0 e fe):QT X E0 e (nY is fe):=PT.weak h λZ H Q zh=>by
 refine zc3b zh λB F sd r n=>?_;refine zc1b (r.frz is) λF1 s1 r1=>?_;refine⟨B,F1,_,r1,(Res.need_bare r.ext.fh n).mono (λd n1 F2 H2 e2=>?_) λc fs q=>q⟩;exact n1 F H2 (.grow r.ext.fh e2.hh)
end
inductive Out where
 |next (sd:SD)|ret (d:D)|brk (sd:SD)|cont (sd:SD)
def OkM (K:W.Frag)(F H:Hp)(Q:VK)(d:D):Prop:=if pI d=true then OkD K F H Q d else OkN K F H Q d
def RetOk (K:W.Frag)(m:Option Bool)(B:Bs)(Q:VK)(d:D):Prop:=match m with
 |some true=>OkN K B.F0 B.H0 Q d
 |some false=>OkD K B.F0 B.H0 Q d
 |none=>OkM K B.F0 B.H0 Q d
def uY (K:W.Frag)(m:Option Bool)(B:Bs)(F:Hp)(T:Ends):Out->Prop
 | .next sd=>∀Z F' H',yB F F'->RS K B F' H' sd Z -> T.nx Z H'
 | .brk sd=>∀Z F' H',yB F F'->RS K B F' H' sd Z -> T.bk Z H'
 | .cont sd=>∀Z F' H',yB F F'->RS K B F' H' sd Z -> T.ct Z H'
 | .ret d=>RetOk K m B T.rt d
abbrev FS:=SD->Res Out
def tDS (K:W.Frag)(E:XK)(m:Option Bool)(g:FS):TS:=λT Z H=>∃B F sd,RS K B F H sd Z /\ (g sd).need (uY K m B F T) (XW K E B.F0 B.H0)
abbrev QS (X:Cx)(E:XK)(m:Option Bool)(st:Stmt)(g:FS):Prop:=PS X st (tDS X.K E m g)
abbrev QSs (X:Cx)(E:XK)(m:Option Bool)(st:List Stmt)(g:FS):Prop:=PSs X st (tDS X.K E m g)
section
variable {K:W.Frag}{E:XK}{m:Option Bool}{B:Bs}{F F' H:Hp}{T:Ends}
def uY.mono (h:uY K m B F T o)(e:yB F F'):uY K m B F' T o:=by
 cases o with
 |next sd=>exact λZ F2 H2 s r=>h Z F2 H2 (e.trans s) r
 |brk sd=>exact λZ F2 H2 s r=>h Z F2 H2 (e.trans s) r
 |cont sd=>exact λZ F2 H2 s r=>h Z F2 H2 (e.trans s) r
 |ret d=>exact h
end
section
variable {X:Cx}{E:XK}{m:Option Bool}{st:Stmt}{sts:List Stmt}{g g1 g2:FS}{pos:Pos}
noncomputable def yI:FS:=λsd=>.ok (.next sd)
def zK (g1 g2:FS):FS:=λsd=>(g1 sd).bind λo=>match o with
 | .next sd'=>g2 sd'
 |o=>.ok o
def zJ:QSs X E m [] yI:=PSs.weak pss_nil (by rintro T Z H ⟨B,F,sd,r,n⟩;exact n Z F H (.refl _) r)
def zg (h:QS X E m st g):QSs X E m [st] g:=pss_one h
def ze (h1:QS X E m st g1)(h2:QSs X E m sts g2):QSs X E m (st::sts) (zK g1 g2):=PSs.weak (pss_cons h1 h2) λT Z H zh=>by
 refine zc3b zh λB F sd r n=>?_;refine⟨B,F,sd,r,(Res.need_bind n).mono (λo n1=>?_) λ_ _ q=>q⟩;cases o with
 |next sd'=>exact λZ' F' H' s r'=>⟨B,F',sd',r',n1.mono (λo q=>q.mono s) λ_ _ q=>q⟩
 |ret d=>exact n1
 |brk sd'=>exact n1
 |cont sd'=>exact n1
def sK (is:Yj)(h:QS X E m st g):QS X E m st (λsd=>g (tE is sd)):=PS.weak h λT Z H zh=>by
 refine zc3b zh λB F sd r n=>?_;refine zc1b (r.frz is) λF1 s1 r1=>?_;exact⟨B,F1,_,r1,n.mono (λ_ q=>q.mono s1) λ_ _ q=>q⟩
noncomputable def bH:FS:=λsd=>.ok (.brk sd)
def qs_break:QS X E m (.Break pos) bH:=PS.weak ps_break (by rintro T Z H ⟨B,F,sd,r,n⟩;exact n Z F H (.refl _) r)
variable {e:Expr}{fe:FE}
def xo (i:Nat)(f:FE):FS:=λsd=>(f sd).bind λd=>.ok (.next (sd.set i (some (.val d))))
def qJ (i:Nat)(f:FE):FS:=λsd=>(f sd).bind λd=>.ok (.next (sd.set i (some (.own false d))))
def zO (hN:X.N.Nodup)(hi:X.N[i]? = some x)(hx:Loc X.env.scope x)(he:QE X E e fe)(hs:autoParam (swapsWith e (some (.Name x pos')) pos.line X.env=pure false) zau._auto_1)
 (hf:X.fn x=true\/X.env.scope.names.lookup x=some .local:=by trivial):QS X E m (.Assign [.Name x pos'] e pos) (xo i fe):=PS.weak (f9 hN hi hx he hs hf) λT Z H zh=>by
 refine zc3b zh λB F sd r n=>?_;refine⟨B,F,sd,r,(Res.need_bind n).mono (λd n1 v F1 H1 e1 i1=>?_) λ_ _ q=>q.ext r.ext⟩;exact n1 _ F1 H1 e1.ff ((r.step e1).setVal i1)
def x8 (hN:X.N.Nodup)(hi:X.N[i]? = some x)(hx:Loc X.env.scope x)(he:QN X E e fe)(hs:autoParam (swapsWith e (some (.Name x pos')) pos.line X.env=pure false) zau._auto_1)
 (hf:X.fn x=true\/X.env.scope.names.lookup x=some .local:=by trivial):QS X E m (.Assign [.Name x pos'] e pos) (qJ i fe):=PS.weak (f9 hN hi hx he hs hf) λT Z H zh=>by
 refine zc3b zh λB F sd r n=>?_;refine⟨B,F,sd,r,(Res.need_bind n).mono (λd n1 l F1 H1 e1 h1 h2 h3=>?_) λ_ _ q=>q.ext r.ext⟩;refine n1 _ F1 H1 e1.ff ((r.step e1).setOwn (zF r.ext.hh h1) h2 h3 λj p d' q1 q2=>?_);refine zc1e (r.own q1) λl' p1 _ _ p4 _=>?_;rw[p1] at q2;cases q2;obtain⟨o,ho⟩:=p4.has;rw[h1] at ho;exact zqn ho
def xG (f:FE):FS:=λsd=>(f sd).bind λd=>.ok (.ret d)
def zP (he:QE X E e fe):QS X E false (.Return (some e) pos) (xG fe):=PS.weak (iH he) λT Z H zh=>by
 refine zc3b zh λB F sd r n=>?_;refine⟨B,F,sd,r,(Res.need_bind n).mono (λd n1 v F1 H1 e1 i1=>?_) λ_ _ q=>q.ext r.ext⟩;exact n1 v F1 H1 (r.ext.trans e1) i1
def wf (he:QN X E e fe):QS X E true (.Return (some e) pos) (xG fe):=PS.weak (iH he) λT Z H zh=>by
 refine zc3b zh λB F sd r n=>?_;refine⟨B,F,sd,r,(Res.need_bind n).mono (λd n1 l F1 H1 e1 h1 h2 h3=>?_) λ_ _ q=>q.ext r.ext⟩;exact n1 l F1 H1 (r.ext.trans e1) (zF r.ext.hh h1) h2 h3
noncomputable def yA (i:Nat):FS:=λsd=>match sd[i]? with
 |some (some (.own _ d))=>.ok (.ret d)
 |_=>.no
def x5 (he:PE X e (gN i)):QS X E true (.Return (some e) pos) (yA i):=PS.weak (iH he) λT Z H zh=>by
 refine zc3b zh λB F sd r n=>?_;unfold yA at n
 split at n
 .rename_i d q;refine zc1e (r.own q) λl h1 h2 h3 h4 _=>?_;exact⟨.ref l,h1,n l F H r.ext h2 h3 h4⟩
 .exact n.elim
def gz (f:FE):FS:=λsd=>(f sd).bind λ_=>.ok (.next sd)
def sIf (c:FT)(g1 g2:FS):FS:=λsd=>(c sd).bind λb=>if b then g1 sd else g2 sd
def xi (hc:QT X E c fc)(ha:QSs X E m a g1)(hb:QSs X E m b g2):QS X E m (.If c a b pos) (sIf fc g1 g2):=PS.weak (ps_if hc ha hb) λT Z H zh=>by
 refine zc3b zh λB F sd r n=>?_;refine⟨B,F,sd,r,(Res.need_bind n).mono (λb n1 F1 H1 e1=>?_) λ_ _ q=>q.ext r.ext⟩;cases b with
 |true=>exact⟨B,F1,sd,r.step e1,n1.mono (λ_ q=>q.mono e1.ff) λ_ _ q=>q⟩
 |false=>exact⟨B,F1,sd,r.step e1,n1.mono (λ_ q=>q.mono e1.ff) λ_ _ q=>q⟩
def zL (i:Nat)(f:FE):FS:=λsd=>match sd[i]? with
 |some (some (.own false (.lst ds)))=>(f sd).bind λd=>if ds.length<sizeLine then .ok (.next (sd.set i (some (.own false (.lst (ds++[d])))))) else .no
 |_=>.no
def zT (ho:PE X o (gN i))(he:QE X E e fe)
 (hp:∀{to:TE} {t:TA},PE X o to->PA X [e] t->PE X (.Call (.Attribute o "append" apos) [e] [] cpos) (tBM X.K "list" iK to t))
 (hs:autoParam (swapsWith (.Call (.Attribute o "append" apos) [e] [] cpos) none pos.line X.env=pure false) zau._auto_1)
 (hst:autoParam (starEach [e] X.env=(false,eval e X.env)::starEach [] X.env) zau._auto_1):QS X E m (.Expr (.Call (.Attribute o "append" apos) [e] [] cpos) pos) (zL i fe):=
 PS.weak (jG (hp ho (za he zd hst)) hs) λT Z H zh=>by
  obtain⟨B,F,sd,r,n⟩:=zh;unfold zL at n
  split at n
  .rename_i ds hi;obtain⟨l,h1,h2,h3,⟨xs,h4,h5⟩,_⟩:=r.own hi;refine⟨.ref l,h1,.inl ⟨rfl,xs,SqL.of h4⟩,B,F,sd,r,?_⟩;unfold zb zn;show((fe sd).bind λx=>.ok [x]).need _ _;have n2:=Res.need_bind n;cases q:fe sd with
   |no=>rw[q] at n2;exact n2
   |ex c fs=>rw[q] at n2;exact n2.ext r.ext
   |ok d =>
    rw[q] at n2;intro vs F1 H1 e1 i1;rw[zo.cons_iff] at i1;obtain⟨v,w,rfl,i2,i3⟩:=i1;rw[zo.nil_iff] at i3;subst i3;have n3:(if ds.length<sizeLine then Res.ok (Out.next (sd.set i (some (.own false (.lst (ds++[d])))))) else .no).need (uY X.K m B F T) (XW X.K E B.F0 B.H0):=n2
    split at n3
    .rename_i hz;have hl:=h5.length;refine⟨l,xs,v,rfl,rfl,e1.hh _ _ h4,(),?_⟩;have r1:=r.step e1;exact n3 Z F1 _ e1.ff (r1.chg hi h1 ⟨xs++[v],zv,(zo.same e1.ff _ _ h5).snoc i2⟩)
    .exact n3.elim
  .exact n.elim
def ur (i:Nat)(f:FE):FS:=λsd=>match sd[i]? with
 |some (some (.own false (.lst ds)))=>(f sd).bind λd=>match d with
  | .lst es=>if ds.length+es.length<=sizeLine then .ok (.next (sd.set i (some (.own false (.lst (ds++es)))))) else .no
  |_=>.no
 |_=>.no
def qs_extend (ho:PE X o (gN i))(he:QN X E e fe)
 (hp:∀{to:TE} {t:TA},PE X o to->PA X [e] t->PE X (.Call (.Attribute o "extend" apos) [e] [] cpos) (tBM X.K "list" jR to t))
 (hs:autoParam (swapsWith (.Call (.Attribute o "extend" apos) [e] [] cpos) none pos.line X.env=pure false) zau._auto_1)
 (hst:autoParam (starEach [e] X.env=(false,eval e X.env)::starEach [] X.env) zau._auto_1):QS X E m (.Expr (.Call (.Attribute o "extend" apos) [e] [] cpos) pos) (ur i fe):=
 PS.weak (jG (hp ho (qG he mL hst)) hs) λT Z H zh=>by
  refine zc3b zh λB F sd r n=>?_;unfold ur at n
  split at n
  .rename_i ds hi;refine zc1e (r.own hi) λl h1 h2 h3 zr4 _=>?_;obtain⟨xs,h4,h5⟩:=zr4;refine⟨.ref l,h1,.inl ⟨rfl,xs,SqL.of h4⟩,B,F,sd,r,(Res.need_bind n).mono (λd n1 b F1 H1 e1 i1 i2 i3=>?_) λ_ _ q=>q.ext r.ext⟩;cases d with
   |lst es =>
    refine zc1b i3 λys g1 g2=>?_;have n3:(if ds.length+es.length<=sizeLine then Res.ok (Out.next (sd.set i (some (.own false (.lst (ds++es)))))) else .no).need (uY X.K m B F T) (XW X.K E B.F0 B.H0):=n1
    split at n3
    .rename_i hz;have hl:=h5.length;have hl2:=g2.length;refine⟨l,b,xs,ys,rfl,rfl,e1.hh _ _ h4,g1,(),?_⟩;have r1:=r.step e1;exact n3 Z F1 _ e1.ff (r1.chg hi h1 ⟨xs++ys,zv,(zo.same e1.ff _ _ h5).append g2⟩)
    .exact n3.elim
   |_=>exact n1.elim
  .exact n.elim
set_option genInjectivity false in
inductive Tg where
 |one (i:Nat)|tup (is:Yj)
noncomputable def setAll:Yj->YD->SD->SD
 |i::is,d::ds,sd=>setAll is ds (sd.set i (some (.val d)))
 |_,_,sd=>sd
def yD:Tg->D->SD->Res SD
 | .one i,d,sd=>.ok (sd.set i (some (.val d)))
 | .tup is,.tup ds,sd=>if ds.length=is.length then .ok (setAll is ds sd) else .no
 |_,_,_=>.no
noncomputable def qO:Yj->YB->St->St
 |i::is,v::vs,Z => qO is vs (Z.set i (some v))
 |_,_,Z => Z
theorem RS.setAll {K:W.Frag}{B:Bs}{F H:Hp}:∀{is:Yj} {ds:YD} {vs:YB} {sd:SD} {Z:St},RS K B F H sd Z -> zo K F ds vs->RS K B F H (setAll is ds sd) (qO is vs Z)
 | [],ds,vs,sd,Z,r,_=>r
 |i::is,[],vs,sd,Z,r,h=>by
  rw[zo.nil_iff] at h;subst h;exact r
 |i::is,d::ds,vs,sd,Z,r,h=>by
  rw[zo.cons_iff] at h;refine zc2c h λv w zr2 h1 h2=>?_;subst zr2;exact RS.setAll (is:=is) (ds:=ds) (vs:=w) (r.setVal (i:=i) h1) h2
def RS.forget {K:W.Frag}{B:Bs}{F H:Hp}{sd sd':SD}{Z:St}(r:RS K B F H sd Z)(hl:sd'.length=sd.length)(h:∀(i:Nat) (x:SV),sd'[i]? = some (some x)->sd[i]? = some (some x)):RS K B F H sd' Z:=
 ⟨r.ext,by rw[r.len,hl],λq=>r.val (h _ _ q),λq=>r.own (h _ _ q),λn q1 q2 q3=>r.apart n (h _ _ q1) (h _ _ q2) q3⟩
def gT:Tg->W.Frag->TG
 | .one i,_=>qI i
 | .tup is,K=>λv Z H Q=>∃a xs,v=.ref a/\SqT K H a xs/\xs.length=is.length/\Q (qO is xs Z) H
def dL {K:W.Frag}{tg:Tg}{B:Bs}{F H:Hp}{sd:SD}{Z:St}{d:D}{v:V}{p:SD->Prop}{q:Str->YD->Prop}{Q:St->Hp->Prop}(r:RS K B F H sd Z)(hi:IsD K F d v)(n:(yD tg d sd).need p q)
 (h:∀sd' Z',p sd'->yD tg d sd=.ok sd'->RS K B F H sd' Z'->Q Z' H):gT tg K v Z H Q:=by
 cases tg with
 |one i=>exact h _ _ n rfl (r.setVal hi)
 |tup is =>
  cases d with
  |tup ds =>
   rw[IsD.tup_iff] at hi;refine zc2c hi λa xs zr2 h1 h2=>?_;subst zr2;have eb:yD (.tup is) (.tup ds) sd=if ds.length=is.length then .ok (setAll is ds sd) else .no:=rfl
   by_cases hl:ds.length=is.length
   .rw[Zd hl] at eb;rw[eb] at n;exact⟨a,xs,rfl,(h1.same r.ext.fh).sq,by rw[h2.length,hl],h _ _ n eb (r.setAll h2)⟩
   .rw[Ze hl] at eb;rw[eb] at n;exact n.elim
  |_=>exact n.elim
abbrev QG (X:Cx)(e:Expr)(tg:Tg):Prop:=PG X e (gT tg X.K)
def bB (K:W.Frag)(F1:Hp)(J:It)(ds:YD):Prop:=∀(i:Nat) (F2 H2:Hp),yB F1 F2->yB F2 H2 ->
 (i<ds.length->J.go i H2/\∀x H3,J.yld i H2 x H3->∃d F3,ds[i]? = some d/\Ext F2 H2 F3 H3/\IsD K F3 d x)/\(ds.length<=i->J.stop i H2)
def tDI (K:W.Frag)(E:XK)(f:FA):TI:=λZ H R=>∃B F sd,RS K B F H sd Z /\ (f sd).need (λds=>∀J F' H',Ext F H F' H'->bB K F' J ds->R J H') (XW K E F H)
abbrev QI (X:Cx)(E:XK)(tg iter:Expr)(f:FA):Prop:=PI X tg iter (tDI X.K E f)
def gg (b:D->FS):YD->FS
 | [],sd=>.ok (.next sd)
 |x::xs,sd=>(b x sd).bind λo=>match o with
  | .next sd'=>gg b xs sd'
  | .cont sd'=>gg b xs sd'
  | .brk sd'=>.ok (.next sd')
  | .ret d=>.ok (.ret d)
def tj (it:FA)(tg:Tg)(b:FS):FS:=λsd=>(it sd).bind λds=>gg (λx sd=>(yD tg x sd).bind b) ds sd
def yC (hp:PassesOwn (model X.prog X.w) X.A X.env X.xe)(hc:X.calm=true)(hi:QI X E tg iter fi)(hg:QG X tg t)(hb:QSs X E m body g)
 (hss:autoParam (∀x,foldedSetIterable iter X.env x=pure x) zaw._auto_1):QS X E m (.For tg iter body [] pos) (tj fi t g):=PS.weak (ps_for hp hc hi hg hb hss) λT Z H zh=>by
 refine zc3b zh λB F sd r n=>?_;refine⟨B,F,sd,r,(Res.need_bind n).mono (λds n1 J F1 H1 e1 wk=>?_) λ_ _ q=>q.ext r.ext⟩;refine⟨λi k Z H=>k=ds.length-i/\i<=ds.length/\∃F2 sd,yB F1 F2/\RS X.K B F2 H sd Z /\ (gg (λx sd=>(yD t x sd).bind g) (ds.drop i) sd).need (uY X.K m B F2 T) (XW X.K E B.F0 B.H0),
  ⟨ds.length,rfl,Nat.zero_le _,F1,sd,.refl _,r.step e1,n1.mono (λ_ q=>q.mono e1.ff) λ_ _ q=>q⟩,?_⟩
 rintro i k Z2 H2 ⟨rfl,hi,F2,sd2,s2,r2,n2⟩;obtain⟨w1,w2⟩:=wk i F2 H2 s2 r2.ext.fh;by_cases hlt:i<ds.length
 .obtain⟨go,yl⟩:=w1 hlt;refine .inr ⟨go,λZ' H'=>∃F3 sd3,yB F1 F3/\RS X.K B F3 H' sd3 Z'/\(gg (λx sd=>(yD t x sd).bind g) (ds.drop (i+1)) sd3).need (uY X.K m B F3 T) (XW X.K E B.F0 B.H0),
   λZ' H' ⟨F3,sd3,q1,q2,q3⟩=>⟨ds.length-(i+1),(),rfl,hlt,F3,sd3,q1,q2,q3⟩,λx H3 y=>?_⟩
  refine zc2c (yl x H3 y) λd F3 hd e3 i3=>?_;rw[ZU hlt] at n2;have hd':ds[i]=d:=by rw[Zqg hlt] at hd;exact Zqi hd
  rw[hd'] at n2;have r3:=r2.step e3;unfold gg at n2;have n3:=Res.need_bind (Res.need_bind n2);refine dL r3 i3 n3 λsd' Z' n4 _ r4=>?_;refine⟨B,F3,sd',r4,n4.mono (λo n5=>?_) λ_ _ q=>q⟩;cases o with
  |next sd5=>exact λZ5 F5 H5 s5 r5=>⟨F5,sd5,(s2.trans e3.ff).trans s5,r5,n5.mono (λ_ q=>q.mono (e3.ff.trans s5)) λ_ _ q=>q⟩
  |cont sd5=>exact λZ5 F5 H5 s5 r5=>⟨F5,sd5,(s2.trans e3.ff).trans s5,r5,n5.mono (λ_ q=>q.mono (e3.ff.trans s5)) λ_ _ q=>q⟩
  |brk sd5=>exact λZ5 F5 H5 s5 r5=>n5 Z5 F5 H5 (e3.ff.trans s5) r5
  |ret d=>exact n5
 .have he:i=ds.length:=()
  refine .inl ⟨w2 (),?_⟩;subst he;rw[XM] at n2;exact n2 Z2 F2 H2 (.refl _) r2
def gQ {α β: Type}(f:α -> Res β):List α -> Res (List β)
 | []=>.ok []
 |x::xs=>(f x).bind λy=>(gQ f xs).bind λys=>.ok (y::ys)
def r8 (cap:List (Option Nat))(sd:SD):SD:=cap.map λo=>o.bind λj=>match sd[j]? with
 |some (some (.val d))=>some (.val d)
 |_=>none
noncomputable def vM (sd:SD)(i:Nat):Bool:=match sd[i]? with
 |some none=>true
 |_=>false
def sJ (sd:SD):Tg->Bool
 | .one i=>vM sd i
 | .tup is=>is.all (vM sd)
def xt (cap:List (Option Nat))(it:FA)(tg:Tg)(f:FE):FE:=λsd=>(it sd).bind λds=>if sJ (r8 cap sd) tg=true/\ds.length<sizeLine then
 (gQ (λx=>(yD tg x (r8 cap sd)).bind f) ds).bind λys=>.ok (.lst ys) else .no
theorem RS.cap {K:W.Frag}{B:Bs}{F H:Hp}{sd:SD}{Z:St}(cap:List (Option Nat))(r:RS K B F H sd Z):RS K B F H (r8 cap sd) (nZ cap Z):=by
 have key:∀{i:Nat} {x:SV},(r8 cap sd)[i]? = some (some x)->∃j d,cap[i]? = some (some j)/\sd[j]? = some (some (.val d))/\x=.val d:=λ{i x} q=>by
  unfold r8 at q;rw[Zv] at q;cases hc:cap[i]? with
  |none=>rw[hc] at q;exact zqn q
  |some o =>
   rw[hc] at q;cases o with
   |none=>cases q
   |some j =>
    have q:(match sd[j]? with
     |some (some (.val d))=>some (SV.val d)
     |_=>none)=some x:=Zqi q
    split at q
    .rename_i d hd;exact⟨j,d,rfl,hd,(Zqi q).symm⟩
    .exact zqn q
 refine⟨r.ext,by unfold r8 nZ;rw[Zql,Zql],λ{i d} q=>?_,λ{i p d} q=>?_,λ{i j p p' d e l} _ q=>?_⟩
 .refine zc2c (key q) λj d' h1 h2 h3=>?_;cases h3;refine zc1b (r.val h2) λv v1 v2=>?_;refine⟨v,?_,v2⟩;unfold nZ;rw[Zv,h1];show some (Option.bind (some j) λj=>(Z[j]?).join)=_;rw[Option.bind_some,v1];rfl
 .refine zc2c (key q) λj d' h1 h2 h3=>?_;cases h3
 .refine zc2c (key q) λj d' h1 h2 h3=>?_;cases h3
theorem vp:∀(is:Yj) (ds:YD) (sd0 sd:SD),is.all (vM sd0)=true->sd.length=sd0.length->(∀(i:Nat) (x:SV),sd0[i]? = some (some x)->sd[i]? = some (some x)) ->
 (setAll is ds sd).length=sd0.length/\∀(i:Nat) (x:SV),sd0[i]? = some (some x)->(setAll is ds sd)[i]? = some (some x)
 | [],ds,sd0,sd,_,hl,h=>⟨hl,h⟩
 |i::is,[],sd0,sd,_,hl,h=>⟨hl,h⟩
 |i::is,d::ds,sd0,sd,hn,hl,h=>by
  rw[Xw,ZQ] at hn;refine vp is ds sd0 (sd.set i (some (.val d))) hn.2 (by rw[XE,hl]) λj x q=>?_;have ne:i≠j:=λz=>by
   subst z;have:=hn.1;unfold vM at this;rw[q] at this;exact zqb this
  rw[z8 ne];exact h j x q
def rX (hn:sJ sd0 tg=true)(h:yD tg d sd0=.ok sd):sd0.length=sd.length/\∀(i:Nat) (x:SV),sd0[i]? = some (some x)->sd[i]? = some (some x):=by
 cases tg with
 |one i =>
  cases h;have:=vp [i] [d] sd0 sd0 (by rw[Xw,List.all_nil,Bool.and_true];exact hn) rfl λ_ _ q=>q;exact⟨this.1.symm,this.2⟩
 |tup is =>
  cases d with
  |tup ds =>
   have eb:yD (.tup is) (.tup ds) sd0=if ds.length=is.length then .ok (setAll is ds sd0) else .no:=rfl
   rw[eb] at h
   split at h
   .cases h;have:=vp is ds sd0 sd0 hn rfl λ_ _ q=>q;exact⟨this.1.symm,this.2⟩
   .cases h
  |_=>cases h
def mapD_drop {α β: Type}{f:α -> Res β}{xs:List α}{x:α}{p:List β -> Prop}(hx:xs[i]? = some x)(h:(gQ f (xs.drop i)).need p q):(f x).need (λy=>(gQ f (xs.drop (i+1))).need (λys=>p (y::ys)) q) q:=by
 have hlt:i<xs.length:=(ZH.mp hx).1;rw[ZU hlt] at h;have e:xs[i]=x:=by rw[Zqg hlt] at hx;exact Zqi hx
 rw[e] at h;unfold gQ at h;refine(Res.need_bind h).mono (λy h1=>?_) λ_ _ z=>z;exact(Res.need_bind h1).mono (λys h2=>h2) λ_ _ z=>z
def qL {K:W.Frag}{t:Tg}{fi:FA}{f:FE}{cap:List (Option Nat)}{Z:St}{H:Hp}{Q:VK}(hh:tDN K E (xt cap fi t f) Z H Q):iO cap (tDI K E fi) (gT t K) (tD K E f) Z H Q:=by
 refine zc3b hh λB F sd r n=>?_;refine⟨B,F,sd,r,(Res.need_bind n).mono (λds n1 J F1 H1 e1 wk=>?_) λ_ _ q=>q⟩
 split at n1
 .rename_i hh;obtain⟨hn,hz⟩:=hh;refine⟨λi k ys Z H2=>k=ds.length-i/\i<=ds.length/\∃F2 es,Ext F1 H1 F2 H2/\RS K B F2 H2 (r8 cap sd) Z /\ zo K F2 es ys/\es.length=i /\
   (gQ (λx=>(yD t x (r8 cap sd)).bind f) (ds.drop i)).need (λrs=>OkN K F2 H2 Q (.lst (es++rs))) (XW K E F2 H2),⟨ds.length,rfl,Nat.zero_le _,F1,[],.refl e1.fh,(r.step e1).cap cap,.nil,rfl,?_⟩,?_⟩
  .exact(Res.need_bind n1).mono (λrs q=>(show OkN K F H Q (.lst rs) from q).ext e1) λ_ _ q=>q.ext e1
  rintro i k ys Z2 H2 ⟨rfl,hi,F2,es,e2,r2,i2,hl,n2⟩;have ly:=i2.length;refine⟨(),?_⟩;obtain⟨w1,w2⟩:=wk i F2 H2 e2.ff e2.fh;by_cases hlt:i<ds.length
  .obtain⟨go,yl⟩:=w1 hlt;refine .inr ⟨go,λx H3 y=>?_⟩;refine zc2c (yl x H3 y) λd F3 hd e3 i3=>?_;have n3:=mapD_drop hd n2;have r3:=r2.step e3;refine dL (K:=K) r3 i3 (Res.need_bind n3) λsd' Z' n4 hb r4=>?_;obtain⟨b1,b2⟩:=rX hn hb;refine⟨B,F3,sd',r4,n4.mono (λy n5 v F4 H4 e4 i4=>?_) λ_ _ q=>q.ext e3⟩;refine⟨ds.length-(i+1),(),rfl,hlt,F4,es++[y],(e2.trans e3).trans e4,(r4.step e4).forget b1 b2,(zo.same (e3.ff.trans e4.ff) _ _ i2).snoc i4,by rw[ZC,hl];rfl,?_⟩;refine n5.mono (λrs q=>?_) λ_ _ q=>q.ext (e3.trans e4);rw[ZJ];exact q.ext (e3.trans e4)
  .have he:i=ds.length:=()
   subst he;refine .inl ⟨w2 (Zf _),λD hD=>?_⟩;rw[XM] at n2;have q:OkN K F2 H2 Q (.lst (es++[])):=n2;rw[Zz] at q;exact q D F2 _ (.keep r2.ext.fh hD _) hD (zF r2.ext.fh hD) ⟨ys,zv,i2⟩
 .exact n1.elim
def wD (N:Yk)(cap:List (Option Nat))(hc:X.calm=true)(okB:yK scope X.env N X.N cap=true)(hi:QI X E tg iter fi)
 (hg:∀cl C s H ex,QG (zy X scope N cl C s H ex) tg t) (he:∀cl C s H ex,QE (zy X scope N cl C s H ex) E elt f) (hs:autoParam (∀x,foldedSetIterable iter X.env x=pure x) zaw._auto_1):
 QN X E (.ListComp elt [⟨tg,iter,[],0⟩] scope pos) (xt cap fi t f):=PE.weak (pe_comp (g:=gT t X.K) (te:=tD X.K E f) N cap hc okB hi hg he hs) λ_ _ _ h=>qL h
noncomputable def vc (n:Nat)(ds:YD):SD:=ds.map (λd=>some (.val d))++List.replicate (n-ds.length) none
def tf (n ar:Nat)(g:FS)(ds:YD):Res D:=if ds.length=ar then(g (vc n ds)).bind λo=>match o with
 | .ret d=>.ok d
 | .next _=>.ok .non
 |_=>.no else .no
def ut (n ar:Nat)(g:FS)(ds:YD):Res D:=if ds.length=ar then(g (vc n ds)).bind λo=>match o with
 | .ret d=>.ok d
 |_=>.no else .no
theorem RS.start {K:W.Frag}{F H:Hp}{N:Yk}{ds:YD}{vs:YB}(s:yB F H)(h:zo K F ds vs):RS K ⟨F,H,λ_=>none⟩ F H (vc N.length ds) (start N vs):=by
 have key:∀{i:Nat} {x:SV},(vc N.length ds)[i]? = some (some x)->∃d,ds[i]? = some d/\x=.val d:=λ{i x} q=>by
  unfold vc at q;by_cases hi:i<ds.length
  .rw[Xq (by rw[Zql];exact hi),Zv,Zqg hi] at q;exact⟨ds[i],Zqg hi,(Zqi (Zqi q)).symm⟩
  .rw[Xh (by rw[Zql];omega),List.getElem?_replicate] at q
   split at q<;>(first|exact zqn q|cases q)
 refine⟨.refl s,by unfold vc L2.start;simp[h.length],λ{i d} q=>?_,λ{i p d} q=>?_,λ{i j p p' d e l} _ q=>?_⟩
 .refine zc1b (key q) λd' h1 h2=>?_;cases h2;refine zc1b (h.get h1) λv v1 v2=>?_;refine⟨v,?_,v2⟩;unfold L2.start;rw[Xq (by rw[Zql];exact(ZH.mp v1).1),Zv,v1];rfl
 .refine zc1b (key q) λ_ _ h2=>?_;cases h2
 .refine zc1b (key q) λ_ _ h2=>?_;cases h2
section
variable {P:Program}{w:World}{K:W.Frag}{mg:Ye}{base:Heap}{x qual:Str}{f:Addr}{fd:FuncData}{N ps:Yk}{k:Nat}
def n9 (F:Fun K x qual st f fd)(S:FnScope N ps (zj st))
 (hb:∀(cdv:Value) (A:Around) (outer:List Env) (s:Shared) (H:Hp) (E:XK),Room k (A.deeper (envOfC qual (zj st) s.heap.objs.size f cdv))->QSs (rA CX0 P w K mg base N qual (zj st) f cdv A outer s H E).nox E0 false (xz st) g):
 FnOk P w K mg base CX0 (k+1) f fd ps (SpD K (tf N.length ps.length g)):=by
 refine F.ok S (λvs H Q E ⟨F,ds,_,h,n⟩=>?_) λcdv A outer s H vs Q E hr ⟨F,ds,hs,h,n⟩=>⟨_,hb cdv A outer s H E hr,?_⟩
 .unfold tf at n
  split at n
  .rw[h.length];assumption
  .exact n.elim
 .unfold tf at n
  split at n
  .refine⟨⟨F,H,λ_=>none⟩,F,_,RS.start hs h,(Res.need_bind n).mono (λo n1=>?_) λ_ _ q=>q⟩;cases o with
   |next sd=>exact λZ F' H' _ r=>n1 .non F' H' r.ext (IsD.non_iff.mpr rfl)
   |ret d=>exact n1
   |brk sd=>exact n1.elim
   |cont sd=>exact n1.elim
  .exact n.elim
def jV (F:Fun K x qual st f fd)(S:FnScope N ps (zj st))
 (hb:∀(cdv:Value) (A:Around) (outer:List Env) (s:Shared) (H:Hp) (E:XK),Room k (A.deeper (envOfC qual (zj st) s.heap.objs.size f cdv))->QSs (rA CX0 P w K mg base N qual (zj st) f cdv A outer s H E).nox E0 true (xz st) g):
 FnOk P w K mg base CX0 (k+1) f fd ps (SpN K (ut N.length ps.length g)):=by
 refine F.ok S (λvs H Q E ⟨F,ds,_,h,n⟩=>?_) λcdv A outer s H vs Q E hr ⟨F,ds,hs,h,n⟩=>⟨_,hb cdv A outer s H E hr,?_⟩
 .unfold ut at n
  split at n
  .rw[h.length];assumption
  .exact n.elim
 .unfold ut at n
  split at n
  .refine⟨⟨F,H,λ_=>none⟩,F,_,RS.start hs h,(Res.need_bind n).mono (λo n1=>?_) λ_ _ q=>q⟩;cases o with
   |next sd=>exact n1.elim
   |ret d=>exact n1
   |brk sd=>exact n1.elim
   |cont sd=>exact n1.elim
  .exact n.elim
end
end
noncomputable def prD (p:Int×Int):D:=.tup [.int p.1,.int p.2]
def rwD (r:X8):D:=.tup (r.map prD)
noncomputable def o6:D->Option (Int×Int)
 | .tup [.int i,.int j]=>some (i,j)
 |_=>none
def xH {α:Type}(f:D->Option α):YD->Option (List α)
 | []=>some []
 |d::ds=>(f d).bind λx=>(xH f ds).map λxs=>x::xs
def vI:D->Option (X8)
 | .tup ds=>xH o6 ds
 |_=>none
noncomputable def k9:D->Option Int
 | .int i=>some i
 |_=>none
theorem ue {α β: Type}{f:D->Option α}{g:β -> D}{k:β -> α}(h:∀x,f (g x)=some (k x)):∀l:List β,xH f (l.map g)=some (l.map k)
 | []=>rfl
 |x::r=>by rw[Zl];unfold xH;rw[h,ue h r];rfl
theorem vZ {α:Type}{f:D->Option α}{g:α -> D}(h:∀d x,f d=some x->d=g x):∀{ds:YD} {l:List α},xH f ds=some l->ds=l.map g
 | [],l,e=>by cases e;rfl
 |d::ds,l,e=>by
  unfold xH at e;cases h1:f d with
  |none=>rw[h1] at e;exact zqn e
  |some x =>
   cases h2:xH f ds with
   |none=>rw[h1,h2] at e;exact zqn e
   |some xs =>
    rw[h1,h2] at e;obtain rfl:=Zqi e;rw[Zl,<- h d x h1,<- vZ h h2]
def pairOf_pr (p:Int×Int):o6 (prD p)=some p:=rfl
def pairOf_inv (h:o6 d=some p):d=prD p:=by
 cases d with
 |tup ds =>
  cases ds with
  |nil=>exact zqn h
  |cons x ds =>
   cases x with
   |int i =>
    cases ds with
    |nil=>exact zqn h
    |cons y ds =>
     cases y with
     |int j =>
      cases ds with
      |nil=>obtain rfl:=Zqi h;rfl
      |cons _ _=>exact zqn h
     |_=>exact zqn h
   |_=>exact zqn h
 |_=>exact zqn h
def t5 (r:X8):vI (rwD r)=some r:=by
 show xH o6 (r.map prD)=some r;rw[ue (k:=id) pairOf_pr,List.map_id]
def oE (h:vI d=some r):d=rwD r:=by
 cases d with
 |tup ds=>unfold rwD;rw[<- vZ (λ_ _=>pairOf_inv) (show xH o6 ds=some r from h)]
 |_=>exact zqn h
def intOf_inv (h:k9 d=some i):d=.int i:=by
 cases d with
 |int j=>cases h;rfl
 |_=>exact zqn h
def allInt_inv (h:xH k9 ds=some l):ds=l.map D.int:=vZ (λ_ _=>intOf_inv) h
def allInt_map (l:Yh):xH k9 (l.map D.int)=some l:=by
 have h:=ue (f:=k9) (g:=D.int) (k:=λi:Int=>i) (λ_=>rfl) l;rw[h,List.map_id']
def wb (l:X9):xH vI (l.map rwD)=some l:=by rw[ue (k:=id) t5,List.map_id]
def uG (h:xH vI ds=some l):ds=l.map rwD:=vZ (λ_ _=>oE) h
section
variable {K:W.Frag}{H:Hp}
def fY:IsD K H (prD p) v↔Is H (pD p) v:=by
 rw[pj];unfold prD;rw[IsD.tup_iff];constructor
 .rintro⟨a,xs,rfl,h1,h2⟩;have:xs=[p.1,p.2].map V.int:=zo.ints_iff (ns:=[p.1,p.2]) h2;subst this;exact⟨a,rfl,h1⟩
 .rintro⟨a,rfl,h1⟩;exact⟨a,_,rfl,h1,zo.ints [p.1,p.2]⟩
theorem sC:∀{r:X8} {xs:YB},zo K H (r.map prD) xs↔zw H (r.map pD) xs
 | [],xs=>by rw[Xx,Xx,zo.nil_iff];unfold zw;exact Iff.rfl
 |p::r,xs=>by
  rw[Zl,Zl,zo.cons_iff];constructor
  .rintro⟨x,w,rfl,h1,h2⟩;unfold zw;exact⟨x,w,rfl,fY.mp h1,sC.mp h2⟩
  .intro h;unfold zw at h;refine zc2c h λx w e h1 h2=>?_;exact⟨x,w,e,fY.mpr h1,sC.mpr h2⟩
def eO:IsD K H (rwD r) v↔Is H (rD r) v:=by
 unfold rwD rD;rw[IsD.tup_iff,Is.tuple_iff];constructor
 .rintro⟨a,xs,e,h1,h2⟩;exact⟨a,xs,e,h1,sC.mp h2⟩
 .rintro⟨a,xs,e,h1,h2⟩;exact⟨a,xs,e,h1,sC.mpr h2⟩
theorem wY:∀{r:X9} {xs:YB},zo K H (r.map rwD) xs↔zw H (r.map rD) xs
 | [],xs=>by rw[Xx,Xx,zo.nil_iff];unfold zw;exact Iff.rfl
 |p::r,xs=>by
  rw[Zl,Zl,zo.cons_iff];constructor
  .rintro⟨x,w,rfl,h1,h2⟩;unfold zw;exact⟨x,w,rfl,eO.mp h1,wY.mp h2⟩
  .intro h;unfold zw at h;refine zc2c h λx w e h1 h2=>?_;exact⟨x,w,e,eO.mpr h1,wY.mpr h2⟩
end
section
variable {X:Cx}{E:XK}
noncomputable def gI (f:Int->Int->D):D->D->YE
 | .int i,.int j=>some (f i j)
 |_,_=>none
noncomputable def gIc (c:Int->Int->Bool)(f:Int->Int->D):D->D->YE
 | .int i,.int j=>if c i j then some (f i j) else none
 |_,_=>none
def eV (o:OpR X h (rI0 g))(hg:∀i j F,IsD X.K F (f i j) (g i j)):OpD X h (gI f):=OpR.weak o λx y H Q zh=>by
 obtain⟨F,d,e,z,sF,id,ie,hz,q⟩:=zh;cases d with
 |int i =>
  cases e with
  |int j=>cases hz;exact⟨i,j,IsD.int_iff.mp id,IsD.int_iff.mp ie,q _ F H (.refl sF) (hg i j F)⟩
  |_=>exact zqn hz
 |_=>exact zqn hz
def l7 (o:OpR X h (rI C g))(hc:∀i j,c i j=true->C i j)(hg:∀i j F,IsD X.K F (f i j) (g i j)):OpD X h (gIc c f):=OpR.weak o λx y H Q zh=>by
 obtain⟨F,d,e,z,sF,id,ie,hz,q⟩:=zh;cases d with
 |int i =>
  cases e with
  |int j =>
   have hz:(if c i j then some (f i j) else none)=some z:=hz
   split at hz
   .rename_i hcc;cases hz;exact⟨i,j,IsD.int_iff.mp id,IsD.int_iff.mp ie,hc i j hcc,q _ F H (.refl sF) (hg i j F)⟩
   .exact zqn hz
  |_=>exact zqn hz
 |_=>exact zqn hz
def isI (i:Int)(F:Hp):IsD X.K F (.int i) (.int i):=IsD.int_iff.mpr rfl
def isB (b:Bool)(F:Hp):IsD X.K F (.bl b) (.bl b):=IsD.bl_iff.mpr rfl
noncomputable def dS:=gI λi j=>.int (i-j)
noncomputable def bh:Nat:=10715086071862673209484250490600018105614048117055336074437503883703510511249361224931983788156958581275946729175531468251871452856923140435984577574698574803934567774824230985421074605062371141877954182153046474983581941267398767559165543946077062914571196477686542167660429831652624386837205668069376
def tU (i j:Int):Bool:=(Nat.blt i.natAbs 18446744073709551616||Nat.blt j.natAbs 18446744073709551616)||(Nat.blt i.natAbs bh&&Nat.blt j.natAbs bh)
def ko (h:k.natAbs<bh):Builtin.Int.intBits k<=2 ^ 20:=by
 have e:bh<=2 ^ 1000:=Nat.le_of_ble_eq_true rfl;have hn:k.natAbs<2 ^ 1000:=Zg h e;unfold Builtin.Int.intBits
 split
 .exact Nat.zero_le _
 .have l:k.natAbs.log2<1000:=by
   rcases Nat.eq_zero_or_pos k.natAbs with h0|hp
   .rw[h0];decide
   .exact(Nat.log2_lt (Nat.ne_of_gt hp)).mpr hn
  have e:(2:Nat) ^ 20=1048576:=by decide
  omega
def mulOk_ok (h:tU i j=true):IntMulOk i j:=by
 unfold tU at h;rw[X6,X6,ZQ,Nat.blt_eq,Nat.blt_eq,Nat.blt_eq,Nat.blt_eq] at h;rcases h with (h|h)|⟨h1,h2⟩
 .exact .of_left (intBits_le_64 () ())
 .exact .of_right (intBits_le_64 () ())
 .exact .of_bits (ko h1) (ko h2)
def op_mulW:OpR X (binaryOp .Mult) (rI (λi j=>tU i j=true) λi j=>.int (i*j)):=opI λ_ _ _ _ _ _ _ hc q=>mul_int q (mulOk_ok hc)
def cy:=gIc tU λi j=>.int (i*j)
def sh:=gIc (λ_ j=>Nat.blt 0 j.toNat&&Nat.blt j.toNat 1073741824) λi j=>.int (i / j)
def r9:=gIc (λ_ j=>Nat.blt 0 j.toNat) λi j=>.int (i % j)
def b5:=gIc (λi j=>Nat.ble (-j).toNat 0&&(Nat.ble j.toNat 1000000&&Nat.blt i.natAbs 18446744073709551616)) λi j=>.int (i ^ j.toNat)
noncomputable def gLt:=gI λi j=>.bl (decide (i<j))
noncomputable def gGt:=gI λi j=>.bl (decide (j<i))
def cu:OpD X (binaryOp .Sub) dS:=eV op_sub λ_ _ F=>isI _ F
def eP:OpD X (binaryOp .Mult) cy:=l7 op_mulW (λi j h=>h) λ_ _ F=>isI _ F
def uV:OpD X (binaryOp .FloorDiv) sh:=l7 op_fdiv (λi j h=>by rw[ZQ,Nat.blt_eq,Nat.blt_eq] at h;unfold ad;omega) λ_ _ F=>isI _ F
def wu:OpD X (binaryOp .Mod) r9:=l7 op_mod (λi j h=>by rw[Nat.blt_eq] at h;omega) λ_ _ F=>isI _ F
def o_pow:OpD X (binaryOp .Pow) b5:=l7 op_pow (λi j h=>by rw[ZQ,ZQ,Nat.ble_eq,Nat.ble_eq,Nat.blt_eq] at h;unfold bN;omega) λ_ _ F=>isI _ F
def o_lt:OpD X (compareOp .Lt) gLt:=eV op_lt λ_ _ F=>isB _ F
def eu:OpD X (compareOp .Gt) gGt:=eV op_gt λ_ _ F=>isB _ F
noncomputable def cg:D->YE
 | .int i=>some (.int (-i))
 |_=>none
def gr:UnR X (unaryOp .USub) (rD1 X.K cg):=UnR.weak un_neg λx H Q zh=>by
 obtain⟨F,d,z,sF,id,hz,q⟩:=zh;cases d with
 |int i=>cases hz;exact⟨i,IsD.int_iff.mp id,q _ F H (.refl sF) (isI _ F)⟩
 |_=>exact zqn hz
noncomputable def ww:D->D->YE
 | .int i,.int j=>some (.int (i+j))
 | .str x,.str y=>if x.length+y.length<=sizeLine then some (.str (x++y)) else none
 | .tup a,.tup b=>if a ≠ []/\b ≠ []/\a.length+b.length<=sizeLine then some (.tup (a++b)) else none
 | .lst a,.lst b=>if a.length+b.length<=sizeLine then some (.lst (a++b)) else none
 |_,_=>none
def rCat' (K:W.Frag):R2:=λx y H Q=>∃l b xs zs,x=.ref l/\y=.ref b/\kI K H l xs/\kI K H b zs/\xs.length+zs.length<=sizeLine/\∀p,H p=none->Q (.ref p) (upd H p (.lst (xs++zs)))
def iY:OpR X (binaryOp .Add) (rCat' X.K):=by
 intro Y s Z H x y v u Q I rx ry h;refine zc4a h λl b xs zs zz=>xk zz λzr4 zr5 hl hb zz=>wG zz λhz q=>?_;subst zr4;subst zr5;obtain rfl:v=Value.ref l:=rx;obtain rfl:u=Value.ref b:=ry;refine wG (hl.ok I.hok) λ_ zz=>zc2b zz λits n r1 e1=>?_;refine wG (hb.ok I.hok) λ_ zz=>zc2b zz λits2 n2 r2 e2=>?_;have hl1:=r1.length;have hl2:=r2.length;refine PySem.P.add_list e1 e2 ?_ (by rw[Zm,Zm];omega);have ea:its.toArray++its2.toArray=(its++its2).toArray:=by simp
 rw[ea];exact⟨.ref _,_,I.lnew (t':=s.toks) (r1.append r2) (by rw[ZC];omega),rfl,q _ I.fresh⟩
def xE:OpD X (binaryOp .Add) ww:=by
 rintro Y s Z H x y v u Q I rx ry ⟨F,d,e,z,sF,id,ie,hz,q⟩;cases d with
 |int i =>
  cases e with
  |int j=>cases hz;exact op_add Y s Z H x y v u Q I rx ry ⟨i,j,IsD.int_iff.mp id,IsD.int_iff.mp ie,q _ F H (.refl sF) (isI _ F)⟩
  |_=>exact zqn hz
 |str a =>
  cases e with
  |str b =>
   have hz:(if a.length+b.length<=sizeLine then some (D.str (a++b)) else none)=some z:=hz
   split at hz
   .rename_i hl;cases hz;exact op_add_str Y s Z H x y v u Q I rx ry ⟨a,b,IsD.str_iff.mp id,IsD.str_iff.mp ie,hl,q _ F H (.refl sF) (IsD.str_iff.mpr rfl)⟩
   .exact zqn hz
  |_=>exact zqn hz
 |tup a =>
  cases e with
  |tup b =>
   have hz:(if a ≠ []/\b ≠ []/\a.length+b.length<=sizeLine then some (D.tup (a++b)) else none)=some z:=hz
   split at hz
   .rename_i hl;obtain rfl:=Zqi hz;rw[IsD.tup_iff] at id ie;obtain⟨la,xs,rfl,h1,h2⟩:=id;obtain⟨lb,ys,rfl,h3,h4⟩:=ie;have l1:=h2.length;have l2:=h4.length;have x0:xs ≠ []:=λz=>hl.1 (ZS.mp (by rw[<- l1,z];rfl));have y0:ys ≠ []:=λz=>hl.2.1 (ZS.mp (by rw[<- l2,z];rfl));refine op_catT Y s Z H _ _ v u Q I rx ry ⟨la,lb,xs,ys,rfl,rfl,(h1.same sF).sq,(h3.same sF).sq,x0,by have:=hl.2.2;omega,λz=>Zn z y0,λ_ p hp=>?_⟩;have ea:=Ext.alloc sF hp (.tup (xs++ys));exact q _ _ _ ea (IsD.tup_iff.mpr ⟨p,_,rfl,.of zv,zo.same ea.ff _ _ (h2.append h4)⟩)
   .exact zqn hz
  |_=>exact zqn hz
 |lst a =>
  cases e with
  |lst b =>
   have hz:(if a.length+b.length<=sizeLine then some (D.lst (a++b)) else none)=some z:=hz
   split at hz
   .rename_i hl;obtain rfl:=Zqi hz;rw[IsD.lst_iff] at id ie;obtain⟨la,xs,rfl,h1,h2⟩:=id;obtain⟨lb,ys,rfl,h3,h4⟩:=ie;have l1:=h2.length;have l2:=h4.length;refine iY Y s Z H _ _ v u Q I rx ry ⟨la,lb,xs,ys,rfl,rfl,h1.same sF,h3.same sF,(),λp hp=>?_⟩;have ea:=Ext.alloc sF hp (.lst (xs++ys));exact q _ _ _ ea (IsD.lst_iff.mpr ⟨p,_,rfl,.of zv,zo.same ea.ff _ _ (h2.append h4)⟩)
   .exact zqn hz
  |_=>exact zqn hz
 |_=>exact zqn hz
mutual
noncomputable def nK:D->PyData
 | .non=>.none
 | .bl b=>.bool b
 | .int i=>.int i
 | .str x=>.str x
 | .tup ds=>.tuple (rF ds)
 | .lst ds=>.list (rF ds)
 | .ty _=>.none
 | .scr _=>.none
 | .dct _ _=>.none
 | .ins _ _ _=>.none
 | .exc _=>.none
 | .ucl _=>.none
 | .adr _=>.none
 | .dcf _ _=>.none
noncomputable def rF:YD->List PyData
 | []=>[]
 |d::ds=>nK d::rF ds
end
noncomputable def plN:Nat->D->Bool
 | 0,_=>false
 |_+1,.int _=>true
 |_+1,.str x=>PyData.strOk x
 |_+1,.non=>true
 |n+1,.tup ds=>ds.all (plN n)
 |n+1,.lst ds=>ds.all (plN n)
 |_+1,_=>false
def rZ:∀(n:Nat) (d:D),plN n d=true->(nK d).canLay0=true/\(nK d).depth<=n:=λn=>by
 induction n with
 |zero=>intro _ h;exact zqb h
 |succ n ihn =>
  intro d h;have all:∀ds:YD,ds.all (plN n)=true->PyData.canLayAll0 (rF ds)=true/\PyData.depthAll (rF ds)<=n:=by
   intro ds
   induction ds with
   |nil=>intro _;exact⟨rfl,Nat.zero_le _⟩
   |cons d ds ih =>
    intro h;rw[Xw,ZQ] at h;obtain⟨h1,h2⟩:=ihn d h.1;obtain⟨h3,h4⟩:=ih h.2;exact⟨XR.mpr ⟨h1,h3⟩,Nat.max_le.mpr ⟨h2,h4⟩⟩
  cases d with
  |int i=>exact⟨rfl,Nat.zero_le _⟩
  |str i=>exact⟨h,Nat.zero_le _⟩
  |non=>exact⟨rfl,Nat.zero_le _⟩
  |tup ds=>exact⟨(all ds h).1,Nat.succ_le_succ (all ds h).2⟩
  |lst ds=>exact⟨(all ds h).1,Nat.succ_le_succ (all ds h).2⟩
  |_=>exact zqb h
def D.ne {d e:D}(h:(d.ctorIdx == e.ctorIdx)=false):¬d=e:=λq=>by
 rw[q,beq_self_eq_true] at h;cases  h
def kZ:∀(n:Nat) (d e:D),plN n d=true->plN n e=true->(PyData.eqv (nK d) (nK e)=true↔d=e):=λn=>by
 induction n with
 |zero=>intro _ _ h;exact zqb h
 |succ n ihn =>
  intro d e h h';have all:∀ds es:YD,ds.all (plN n)=true->es.all (plN n)=true->(PyData.eqvAll (rF ds) (rF es)=true↔ds=es):=by
   intro ds
   induction ds with
   |nil =>
    intro es _ _;cases es with
    |nil=>exact iff_of_true rfl rfl
    |cons e es=>exact Zs Zj (λq=>List.cons_ne_nil _ _ q.symm)
   |cons d ds ih =>
    intro es h1 h2;cases es with
    |nil=>exact Zs Zj (List.cons_ne_nil _ _)
    |cons e es =>
     rw[Xw,ZQ] at h1 h2;show(PyData.eqv (nK d) (nK e)&&PyData.eqvAll (rF ds) (rF es))=true↔_;rw[XR,ihn d e h1.1 h2.1,ih es h1.2 h2.2,List.cons.injEq]
  cases d with
  |int i =>
   cases e with
   |int j=>exact⟨λq=>Zt D.int (Ys.mp q),λq=>Ys.mpr (D.noConfusion q id)⟩
   |str _=>exact Zs Zj (D.ne rfl)
   |non=>exact Zs Zj (D.ne rfl)
   |tup _=>exact Zs Zj (D.ne rfl)
   |lst _=>exact Zs Zj (D.ne rfl)
   |_=>exact zqb h'
  |str i =>
   cases e with
   |str j=>exact⟨λq=>Zt D.str (of_decide_eq_true q),λq=>Zp (D.noConfusion q id)⟩
   |int _=>exact Zs Zj (D.ne rfl)
   |non=>exact Zs Zj (D.ne rfl)
   |tup _=>exact Zs Zj (D.ne rfl)
   |lst _=>exact Zs Zj (D.ne rfl)
   |_=>exact zqb h'
  |non =>
   cases e with
   |non=>exact iff_of_true rfl rfl
   |int _=>exact Zs Zj (D.ne rfl)
   |str _=>exact Zs Zj (D.ne rfl)
   |tup _=>exact Zs Zj (D.ne rfl)
   |lst _=>exact Zs Zj (D.ne rfl)
   |_=>exact zqb h'
  |tup ds =>
   cases e with
   |tup es=>exact(all ds es h h').trans ⟨λq=>Zt D.tup q,λq=>D.noConfusion q id⟩
   |int _=>exact Zs Zj (D.ne rfl)
   |str _=>exact Zs Zj (D.ne rfl)
   |non=>exact Zs Zj (D.ne rfl)
   |lst _=>exact Zs Zj (D.ne rfl)
   |_=>exact zqb h'
  |lst ds =>
   cases e with
   |lst es=>exact(all ds es h h').trans ⟨λq=>Zt D.lst q,λq=>D.noConfusion q id⟩
   |int _=>exact Zs Zj (D.ne rfl)
   |str _=>exact Zs Zj (D.ne rfl)
   |non=>exact Zs Zj (D.ne rfl)
   |tup _=>exact Zs Zj (D.ne rfl)
   |_=>exact zqb h'
  |_=>exact zqb h
theorem wp {P:Program}{w:World}{K:W.Frag}{H:Hp}{h:Heap}(ok:HOk P w H h):∀(n:Nat) (d:D) (v:V) (u:Value),plN n d=true->IsD K H d v->yw v u->∃as,Reads h u (nK d) as
 | 0,_,_,_,p,_,_=>by exact zqb p
 |n+1,d,v,u,p,q,r=>by
  have all:∀(ds:YD) (xs:YB) (us:Yf),ds.all (plN n)=true->zo K H ds xs->yi xs us->∃as,ReadsAll h us (rF ds) as:=by
   intro ds
   induction ds with
   |nil =>
    intro xs us _ h1 h2;rw[zo.nil_iff] at h1;subst h1;cases h2;exact⟨_,.nil⟩
   |cons d ds ih =>
    intro xs us hp h1 h2;rw[Xw,ZQ] at hp;rw[zo.cons_iff] at h1;refine zc2c h1 λx rs zr2 h3 h4=>?_;subst zr2;cases h2 with
    |cons r1 r2 =>
     obtain⟨as,ra⟩:=wp ok n d x _ hp.1 h3 r1;obtain⟨bs,rb⟩:=ih rs _ hp.2 h4 r2;exact⟨_,.cons ra rb⟩
  cases d with
  |int i =>
   rw[IsD.int_iff] at q;subst q;obtain⟨t,rfl⟩:=(show ∃t,u=Value.int i t from r);exact⟨_,.int i t⟩
  |str x =>
   rw[IsD.str_iff] at q;subst q;obtain⟨t,rfl⟩:=(show ∃t,u=Value.str x t from r);exact⟨_,.str x t⟩
  |non =>
   rw[IsD.non_iff] at q;subst q;obtain rfl:u=Value.none:=r;exact⟨_,.none⟩
  |tup ds =>
   rw[IsD.tup_iff] at q;refine zc2c q λa xs zr2 h2 h3=>?_;subst zr2;obtain rfl:u=Value.ref a:=r;refine wG ((show yr P w H h a (.tup xs) from ok a _ h2)) λ_ zz=>zc1b zz λits rv zz=>zc1c zz λo e c zz=>zc1a zz λn' dt=>?_;obtain⟨as,ra⟩:=all ds xs its p h3 rv;exact⟨_,.tuple e c dt (by simpa using ra)⟩
  |lst ds =>
   rw[IsD.lst_iff] at q;refine zc2c q λa xs zr2 h2 h3=>?_;subst zr2;obtain rfl:u=Value.ref a:=r;refine wG (h2.ok ok) λ_ zz=>zc2b zz λits n' rv e=>?_;obtain⟨as,ra⟩:=all ds xs its p h3 rv;exact⟨_,.list e rfl rfl (by simpa using ra)⟩
  |_=>exact zqb p
noncomputable section
open Classical
noncomputable def yN (d e:D):Bool:=decide (d=e)
def zS (d:D):yN d d=true:=Zp rfl
def tT:yN d e=true↔d=e:=decide_eq_true_iff
def wg:yN d e=false↔d≠e:=decide_eq_false_iff_not
def gEq:D->D->YE
 | .bl a,.bl b=>some (.bl (a == b))
 |d,e=>if plN 12 d&&plN 12 e then some (.bl (yN d e)) else none
def gNe:D->D->YE
 | .bl a,.bl b=>some (.bl (a != b))
 |d,e=>if plN 12 d&&plN 12 e then some (.bl (!yN d e)) else none
end
def wO (h1:plN 12 d=true)(h2:plN 12 e=true):gEq d e=some (.bl (yN d e)):=by
 unfold gEq
 split
 .exact zqb h1
 .rw[h1,h2];rfl
def si (h1:plN 12 d=true)(h2:plN 12 e=true):gNe d e=some (.bl (!yN d e)):=by
 unfold gNe
 split
 .exact zqb h1
 .rw[h1,h2];rfl
def gEq_int (i j:Int):gEq (.int i) (.int j)=some (.bl (decide (i=j))):=by
 rw[wO rfl rfl]
 congr 2
 by_cases h:i=j
 .rw[Zp h,h,zS]
 .rw[Zo h,wg.mpr λz=>h (by injection z)]
def gNe_int (i j:Int):gNe (.int i) (.int j)=some (.bl (!decide (i=j))):=by
 rw[si rfl rfl]
 congr 3
 by_cases h:i=j
 .rw[Zp h,h,zS]
 .rw[Zo h,wg.mpr λz=>h (by injection z)]
def ku (hu:X.A.units+64<cLine):OpD X (compareOp .Eq) gEq:=by
 rintro Y s Z H x y v u Q I rx ry ⟨F,d,e,z,sF,id,ie,hz,q⟩;unfold gEq at hz
 split at hz
 .rename_i a b;obtain rfl:=Zqi hz;refine op_eq Y s Z H x y v u Q I rx ry ⟨?_,?_⟩
  .rw[IsD.bl_iff.mp id,IsD.bl_iff.mp ie];rfl
  .rw[IsD.bl_iff.mp id,IsD.bl_iff.mp ie];refine q _ F H (.refl sF) ?_;rw[IsD.bl_iff];cases a<;>cases b<;>rfl
 .split at hz
  .rename_i hp;rw[ZQ] at hp;obtain rfl:=Zqi hz;obtain⟨as,ra⟩:=wp I.hok 12 d x v hp.1 (IsD.same sF _ _ id) rx;obtain⟨bs,rb⟩:=wp I.hok 12 e y u hp.2 (IsD.same sF _ _ ie) ry;obtain⟨l1,z1⟩:=rZ 12 d hp.1;obtain⟨l2,z2⟩:=rZ 12 e hp.2;refine PySem.SeqAt.compareEq_reads ra rb l1 l2 () ?_;have hb:PyData.eqv (nK d) (nK e)=yN d e:=Xt.mpr ((kZ 12 d e hp.1 hp.2).trans tT.symm);rw[hb];exact⟨.bl _,H,I,rfl,q _ F H (.refl sF) (isB _ F)⟩
  .exact zqn hz
def dm (hu:X.A.units+64<cLine):OpD X (compareOp .NotEq) gNe:=by
 rintro Y s Z H x y v u Q I rx ry ⟨F,d,e,z,sF,id,ie,hz,q⟩;unfold gNe at hz
 split at hz
 .rename_i a b;obtain rfl:=Zqi hz;refine op_ne Y s Z H x y v u Q I rx ry ⟨?_,?_⟩
  .rw[IsD.bl_iff.mp id,IsD.bl_iff.mp ie];rfl
  .rw[IsD.bl_iff.mp id,IsD.bl_iff.mp ie];refine q _ F H (.refl sF) ?_;rw[IsD.bl_iff];cases a<;>cases b<;>rfl
 .split at hz
  .rename_i hp;rw[ZQ] at hp;obtain rfl:=Zqi hz;obtain⟨as,ra⟩:=wp I.hok 12 d x v hp.1 (IsD.same sF _ _ id) rx;obtain⟨bs,rb⟩:=wp I.hok 12 e y u hp.2 (IsD.same sF _ _ ie) ry;obtain⟨l1,z1⟩:=rZ 12 d hp.1;obtain⟨l2,z2⟩:=rZ 12 e hp.2;refine PySem.SeqAt.compareNe_reads ra rb l1 l2 () ?_;have hb:PyData.eqv (nK d) (nK e)=yN d e:=Xt.mpr ((kZ 12 d e hp.1 hp.2).trans tT.symm);rw[hb];exact⟨.bl _,H,I,rfl,q _ F H (.refl sF) (isB _ F)⟩
  .exact zqn hz
end
def PE.or (h:PE X e t)(h':PE X e t'):PE X e (λZ H Q=>t Z H Q\/t' Z H Q):=λY s Z H Q I q=>q.elim (h Y s Z H Q I) (h' Y s Z H Q I)
def PT.or (h:PT X e t)(h':PT X e t'):PT X e (λZ H Q=>t Z H Q\/t' Z H Q):=λY s Z H Q I q=>q.elim (h Y s Z H Q I) (h' Y s Z H Q I)
noncomputable def wX:D->Option Key
 | .int i=>some (.inl i)
 | .str x=>some (.inr x)
 |_=>none
def vH {K:W.Frag}{H:Hp}{d:D}{k:Key}{v:V}(h:wX d=some k)(i:IsD K H d v):v=kV k:=by
 cases d with
 |int j=>cases h;exact IsD.int_iff.mp i
 |str x=>cases h;exact IsD.str_iff.mp i
 |_=>exact zqn h
noncomputable def t9:List Key->YD->Key->YE
 |k::ks,d::ds,q=>if k=q then some d else t9 ks ds q
 |_,_,_=>none
def valV_cons (k q:Key)(v:V)(r:List (Key×V)):qp ((k,v)::r) q=if k=q then some v else qp r q:=by
 unfold qp;rw[List.find?_cons];by_cases h:k=q
 .rw[Zd h,Zp h];rfl
 .rw[Ze h,Zo h]
def nh:t9 (k::ks) (d::ds) q=if k=q then some d else t9 ks ds q:=rfl
theorem sO {K:W.Frag}{H:Hp}(q:Key):∀{ks:List Key} {ds:YD} {xs:YB},ks.length=xs.length->zo K H ds xs ->
 (∀d,t9 ks ds q=some d->∃x,qp (ks.zip xs) q=some x/\IsD K H d x)/\(t9 ks ds q=none->qp (ks.zip xs) q=none)
 | [],ds,xs,hl,h=>by
  have:xs=[]:=ZS.mp hl.symm;subst this;refine⟨λd e=>?_,λ_=>rfl⟩;cases ds<;>exact zqn e
 |k::ks,[],xs,hl,h=>by
  rw[zo.nil_iff] at h;subst h;cases hl
 |k::ks,d::ds,xs,hl,h=>by
  rw[zo.cons_iff] at h;refine zc2c h λx r zr2 h1 h2=>?_;subst zr2;have ih:=sO q (ks:=ks) (Nat.succ.inj hl) h2;rw[XJ,valV_cons];rw[nh];by_cases hk:k=q
  .rw[Zd hk,Zd hk];exact⟨λd' e=>by cases e;exact⟨x,rfl,h1⟩,λe=>by cases e⟩
  .rw[Ze hk,Ze hk];exact ih
noncomputable def dY:List Key->YD->Key->D->YD
 |k::ks,d::ds,q,v=>(if k=q then v else d)::dY ks ds q v
 |_,_,_,_=>[]
noncomputable def ci:List Key->YB->Key->V->YB
 |k::ks,d::ds,q,v=>(if k=q then v else d)::ci ks ds q v
 |_,_,_,_=>[]
def oQ:dY (k::ks) (d::ds) q v=(if k=q then v else d)::dY ks ds q v:=rfl
def chgV_cons:ci (k::ks) (d::ds) q v=(if k=q then v else d)::ci ks ds q v:=rfl
theorem fN {K:W.Frag}{H:Hp}{q:Key}{d:D}{v:V}(hv:IsD K H d v):∀{ks:List Key} {ds:YD} {xs:YB},ks.length=xs.length->zo K H ds xs->zo K H (dY ks ds q d) (ci ks xs q v)/\(ci ks xs q v).length=ks.length /\
 (ks.zip xs).map (λkv=>if kv.1=q then(kv.1,v) else kv)=ks.zip (ci ks xs q v)
 | [],ds,xs,hl,h=>by
  have:xs=[]:=ZS.mp hl.symm;subst this;refine⟨?_,rfl,rfl⟩;cases ds<;>exact .nil
 |k::ks,[],xs,hl,h=>by
  rw[zo.nil_iff] at h;subst h;cases hl
 |k::ks,d'::ds,xs,hl,h=>by
  rw[zo.cons_iff] at h;refine zc2c h λx r zr2 h1 h2=>?_;subst zr2;refine xF (fN (q:=q) hv (ks:=ks) (Nat.succ.inj hl) h2) λi1 i2 i3=>?_;rw[oQ,chgV_cons];refine⟨zo.mk ?_ i1,by rw[Zu,i2];rfl,?_⟩
  .by_cases hk:k=q
   .rw[Zd hk,Zd hk];exact hv
   .rw[Ze hk,Ze hk];exact h1
  .rw[XJ,Zl,i3,XJ];by_cases hk:k=q
   .rw[Zd hk,Zd hk]
   .rw[Ze hk,Ze hk]
noncomputable def dQ (q:Key)(ks:List Key):Bool:=ks.any λk=>decide (k=q)
theorem iC (q:Key):∀{ks:List Key} {xs:YB},ks.length=xs.length->((ks.zip xs).any λkv=>decide (kv.1=q))=dQ q ks
 | [],xs,_=>rfl
 |k::ks,[],h=>by cases h
 |k::ks,x::xs,h=>by
  rw[XJ,List.any_cons,iC q (Nat.succ.inj h)];rfl
def nT (ks:List Key)(q:Key):List Key:=if dQ q ks=true then ks else ks++[q]
def k8 (ks:List Key)(ds:YD)(q:Key)(v:D):YD:=if dQ q ks=true then dY ks ds q v else ds++[v]
def put_zip {K:W.Frag}{H:Hp}{q:Key}{d:D}{v:V}{ks:List Key}{ds:YD}{xs:YB}(hl:ks.length=xs.length)(h:zo K H ds xs)(hv:IsD K H d v):
 ∃ys,rT (ks.zip xs) q v=(nT ks q).zip ys/\(nT ks q).length=ys.length/\zo K H (k8 ks ds q d) ys:=by
 unfold rT nT k8;rw[iC q hl];by_cases hm:dQ q ks=true
 .rw[Zd hm,Zd hm,Zd hm];refine xF (fN (q:=q) hv hl h) λh1 h2 h3=>?_;exact⟨_,h3,h2.symm,h1⟩
 .rw[Ze hm,Ze hm,Ze hm];exact⟨xs++[v],by rw[List.zip_append hl];rfl,by simp[hl],h.snoc hv⟩
section
variable {X:Cx}{E:XK}{m:Option Bool}{a b o i e:Expr}{fa fb fo fi fv:FE}{pos pos' apos cpos:Pos}
def hU {K:W.Frag}{H:Hp}{ds:YD}{xs:YB}{k:Int}{d:D}(h:zo K H ds xs)(e:atI ds k=some d):∃x,atI xs k=some x/\IsD K H d x:=by
 unfold atI at e ⊢;rw[h.length];cases hj:ixN ds.length k with
 |none=>rw[hj] at e;exact zqn e
 |some j =>
  rw[hj] at e;exact h.get e
def gIx:D->D->YE
 | .lst ds,.int k=>atI ds k
 | .tup ds,.int k=>atI ds k
 | .scr ns,.int k=>(atI ns k).map .int
 | .str x,.int k=>if x.length<=sizeLine then(atI x.cps.toList k).map λc=>.str ⟨#[c]⟩ else none
 | .dct ks ds,k=>(wX k).bind λq=>t9 ks ds q
 | .dcf ks ds,k=>(wX k).bind λq=>t9 ks ds q
 |_,_=>none
def fy {K:W.Frag}{H:Hp}{d:D}{ks:List Key}{ds:YD}{v:V}(hd:d=.dct ks ds\/d=.dcf ks ds)(h:IsD K H d v):∃a xs,v=.ref a/\Rd H a (.dK (ks.zip xs))/\ks.length=xs.length/\zo K H ds xs:=by
 rcases hd with rfl|rfl
 .obtain⟨a,xs,h1,h2,h3⟩:=IsD.dct_iff.mp h;exact⟨a,xs,h1,.inl h2,h3⟩
 .obtain⟨a,o,xs,h1,h2,h3⟩:=IsD.dcf_iff.mp h;exact⟨a,xs,h1,.inr ⟨o,h2⟩,h3⟩
def mi {H H':Hp}{a:Addr}{u:HO}(e:yB H H')(h:Rd H a u):Rd H' a u:=h.imp (λq=>e _ _ q) (by rintro⟨o,q⟩;exact⟨o,e _ _ q⟩)
def iR {H:Hp}{a:Addr}{kvs:List (Key×V)}{k:Key}(e:Rd H a (.dK kvs)):mo H a (kV k) (qp kvs k):=.inl ⟨kvs,k,e,rfl,rfl⟩
def ixd_seq:IxR X (rD2 X.K λd e=>match d with
 | .dct _ _=>none
 | .dcf _ _=>none
 |d=>gIx d e):=IxR.weak ix_seq λx y H Q ⟨F,d,e,z,sF,id,ie,hz,q⟩=>by
 cases d with
 |lst ds =>
  cases e with
  |int k =>
   rw[IsD.lst_iff] at id;refine zc2c id λp xs zr2 h1 h2=>?_;subst zr2;refine zc1b (hU h2 (show atI ds k=some z from hz)) λx hx i2=>?_;exact .inl ⟨p,xs,k,x,rfl,IsD.int_iff.mp ie,(h1.same sF).sq,hx,q _ F H (.refl sF) i2⟩
  |_=>exact zqn hz
 |tup ds =>
  cases e with
  |int k =>
   rw[IsD.tup_iff] at id;refine zc2c id λp xs zr2 h1 h2=>?_;subst zr2;refine zc1b (hU h2 (show atI ds k=some z from hz)) λx hx i2=>?_;exact .inr (.inl ⟨p,xs,k,x,rfl,IsD.int_iff.mp ie,(h1.same sF).sq,hx,q _ F H (.refl sF) i2⟩)
  |_=>exact zqn hz
 |scr ns =>
  cases e with
  |int k =>
   rw[IsD.scr_iff] at id;refine zc1b id λp zr1 h1=>?_;subst zr1;refine zc1b (Z3.mp (show(atI ns k).map D.int=some z from hz)) λj hj hz=>?_;subst hz;refine .inl ⟨p,_,k,.int j,rfl,IsD.int_iff.mp ie,yB.seq sF h1,?_,q _ F H (.refl sF) (isI _ F)⟩;unfold atI at hj ⊢;rw[Zql];cases hx:ixN ns.length k with
   |none=>rw[hx] at hj;exact zqn hj
   |some i=>rw[hx] at hj;show(ns.map V.int)[i]? = _;rw[Zv,show ns[i]? = some j from hj];rfl
  |_=>exact zqn hz
 |str t =>
  cases e with
  |int k =>
   have hz:(if t.length<=sizeLine then(atI t.cps.toList k).map λc=>D.str ⟨#[c]⟩ else none)=some z:=hz
   split at hz
   .rename_i hl;cases hc:atI t.cps.toList k with
    |none=>rw[hc] at hz;exact zqn hz
    |some c =>
     rw[hc] at hz;obtain rfl:=Zqi hz;exact .inr (.inr ⟨t,k,c,IsD.str_iff.mp id,IsD.int_iff.mp ie,hl,hc,q _ F H (.refl sF) (IsD.str_iff.mpr rfl)⟩)
   .exact zqn hz
  |_=>exact zqn hz
 |_=>exact zqn hz
def yz (hu:X.A.units+1<cLine)(ha:QE X E a fa)(hb:QE X E b fb)(hs:m8 b)(hs2:bb b):QE X E (.Subscript a b pos) (dOp gIx fa fb):=
 PE.weak (PE.or (jD hu ha hb hs2) (cE (ixd_seq) ha hb hs)) λZ H Q h=>by
  refine zc3b h λB F sd r n=>?_;by_cases hd:∃d ks ds,fa sd=.ok d/\(d=.dct ks ds\/d=.dcf ks ds)
  .obtain⟨d,ks,ds,hd,hc⟩:=hd;refine .inl ⟨B,F,sd,r,(Res.need_bind n).monoE (λx hx n1 v F1 H1 e1 i1=>?_) λ_ _ q=>q⟩;rw[hd] at hx;cases hx;refine⟨B,F1,sd,r.step e1,(Res.need_bind n1).mono (λy n2 w F2 H2 e2 i2=>?_) λ_ _ q=>q.ext e1⟩;refine zc1b (Res.need_ofO n2) λz hz q=>?_;obtain⟨k,hk,hz⟩:=Option.bind_eq_some_iff.mp (show(wX y).bind (λq=>t9 ks ds q)=some z by rcases hc with rfl|rfl<;>exact hz);refine zc2d (fy hc i1) λp xs zr2 h1 h2 h3=>?_;subst zr2;refine zc1b ((sO k h2 h3).1 z hz) λx hx ix=>?_;refine⟨p,x,rfl,?_,q x F2 H2 (e1.trans e2) (IsD.same e2.ff _ _ ix)⟩;rw[vH hk i2,<- hx];exact iR (mi e2.hh (mi e1.fh h1))
  .refine .inr (jJ ⟨B,F,sd,r,?_⟩);unfold dOp at n ⊢;cases hx:fa sd with
   |ok d =>
    rw[hx] at n;cases d with
    |dct ks ds=>exact Zn ⟨_,ks,ds,hx,.inl rfl⟩ hd
    |dcf ks ds=>exact Zn ⟨_,ks,ds,hx,.inr rfl⟩ hd
    |_=>exact n
   |no=>rw[hx] at n;exact n
   |ex c fs=>rw[hx] at n;exact n
def gIn (neg:Bool):D->D->YE
 |k,.dct ks ds=>(wX k).map λq=>.bl (if neg then !(t9 ks ds q).isSome else(t9 ks ds q).isSome)
 |k,.dcf ks ds=>(wX k).map λq=>.bl (if neg then !(t9 ks ds q).isSome else(t9 ks ds q).isSome)
 |d,.lst ds=>if plN 12 d&&ds.all (plN 12) then some (.bl (if neg then !ds.any (λe=>yN e d) else ds.any λe=>yN e d)) else none
 |d,.tup ds=>if plN 12 d&&ds.all (plN 12) then some (.bl (if neg then !ds.any (λe=>yN e d) else ds.any λe=>yN e d)) else none
 |_,_=>none
theorem fP {K:W.Frag}{H:Hp}:∀(n:Nat) (d e:D) (v:V),plN n d=true->plN n e=true->IsD K H d v->IsD K H e v->d=e
 | 0,_,_,_,h,_,_,_=>by exact zqb h
 |n+1,d,e,v,hd,he,h1,h2=>by
  have all:∀(ds es:YD) (xs:YB),ds.all (plN n)=true->es.all (plN n)=true->zo K H ds xs->zo K H es xs->ds=es:=by
   intro ds
   induction ds with
   |nil =>
    intro es xs _ _ h1 h2;rw[zo.nil_iff] at h1;subst h1;have:=h2.length;exact(ZS.mp this.symm).symm
   |cons d ds ih =>
    intro es xs p1 p2 h1 h2;rw[Xw,ZQ] at p1;rw[zo.cons_iff] at h1;refine zc2c h1 λx r zr2 h3 h4=>?_;subst zr2;cases es with
    |nil=>rw[zo.nil_iff] at h2;cases h2
    |cons e es =>
     rw[Xw,ZQ] at p2;rw[zo.cons_iff] at h2;refine zc2c h2 λx' r' e' h5 h6=>?_;cases e';rw[fP n d e x p1.1 p2.1 h3 h5,ih es r p1.2 p2.2 h4 h6]
  have ne:∀{a:Addr} {xs ys:YB},gc K H a xs->kI K H a ys->False:=λ{a xs ys} q1 q2=>by
   rcases q2 with q2|⟨o,q2⟩
   .rw[q1] at q2;cases q2
   .rw[q1] at q2;cases q2
  cases d with
  |int i =>
   rw[IsD.int_iff] at h1;subst h1;cases e with
   |int j=>rw[IsD.int_iff] at h2;cases h2;rfl
   |str j=>rw[IsD.str_iff] at h2;cases h2
   |non=>rw[IsD.non_iff] at h2;cases h2
   |tup es=>rw[IsD.tup_iff] at h2;obtain⟨_,_,z,_⟩:=h2;cases z
   |lst es=>rw[IsD.lst_iff] at h2;obtain⟨_,_,z,_⟩:=h2;cases z
   |_=>exact zqb he
  |str i =>
   rw[IsD.str_iff] at h1;subst h1;cases e with
   |int j=>rw[IsD.int_iff] at h2;cases h2
   |str j=>rw[IsD.str_iff] at h2;cases h2;rfl
   |non=>rw[IsD.non_iff] at h2;cases h2
   |tup es=>rw[IsD.tup_iff] at h2;obtain⟨_,_,z,_⟩:=h2;cases z
   |lst es=>rw[IsD.lst_iff] at h2;obtain⟨_,_,z,_⟩:=h2;cases z
   |_=>exact zqb he
  |non =>
   rw[IsD.non_iff] at h1;subst h1;cases e with
   |int j=>rw[IsD.int_iff] at h2;cases h2
   |str j=>rw[IsD.str_iff] at h2;cases h2
   |non=>rfl
   |tup es=>rw[IsD.tup_iff] at h2;obtain⟨_,_,z,_⟩:=h2;cases z
   |lst es=>rw[IsD.lst_iff] at h2;obtain⟨_,_,z,_⟩:=h2;cases z
   |_=>exact zqb he
  |tup ds =>
   rw[IsD.tup_iff] at h1;refine zc2c h1 λa xs zr2 q1 q2=>?_;subst zr2;cases e with
   |int j=>rw[IsD.int_iff] at h2;cases h2
   |str j=>rw[IsD.str_iff] at h2;cases h2
   |non=>rw[IsD.non_iff] at h2;cases h2
   |tup es =>
    rw[IsD.tup_iff] at h2;refine zc2c h2 λa' xs' e' q3 q4=>?_;cases e';have q1':H a=some (.tup xs):=q1;rw[show H a=some (.tup xs') from q3] at q1';cases q1';rw[all ds es _ hd he q2 q4]
   |lst es =>
    rw[IsD.lst_iff] at h2;refine zc2c h2 λa' xs' e' q3 q4=>?_;cases e';exact(ne q1 q3).elim
   |_=>exact zqb he
  |lst ds =>
   rw[IsD.lst_iff] at h1;refine zc2c h1 λa xs zr2 q1 q2=>?_;subst zr2;cases e with
   |int j=>rw[IsD.int_iff] at h2;cases h2
   |str j=>rw[IsD.str_iff] at h2;cases h2
   |non=>rw[IsD.non_iff] at h2;cases h2
   |tup es =>
    rw[IsD.tup_iff] at h2;refine zc2c h2 λa' xs' e' q3 q4=>?_;cases e';exact(ne q3 q1).elim
   |lst es =>
    rw[IsD.lst_iff] at h2;refine zc2c h2 λa' xs' e' q3 q4=>?_;cases e';have:xs=xs':=by
     rcases q1 with q1|⟨_,q1⟩<;>rcases q3 with q3|⟨_,q3⟩<;>rw[q1] at q3<;>cases q3<;>rfl
    subst this;rw[all ds es _ hd he q2 q4]
   |_=>exact zqb he
  |_=>exact zqb hd
def ValIs (K:W.Frag)(H:Hp)(d:D)(u:Value):Prop:=∃v,yw v u/\IsD K H d v
def lT (K:W.Frag)(H:Hp)(d:D)(u:Value):Bool:=@decide (ValIs K H d u) (Classical.propDecidable _)
def eqTo_same {K:W.Frag}{H:Hp}{d e:D}{v:V}{u:Value}(hd:plN 12 d=true)(he:plN 12 e=true)(h:IsD K H e v)(r:yw v u):lT K H d u=yN e d:=by
 unfold lT;by_cases q:e=d
 .rw[q,zS];exact @decide_eq_true _ (Classical.propDecidable _) ⟨v,r,q ▸ h⟩
 .rw[wg.mpr q];refine @decide_eq_false _ (Classical.propDecidable _) λ⟨v',r',h'⟩=>q ?_;rw[r'.inj r] at h';exact fP 12 e d v he hd h h'
def fG {P:Program}{w:World}{K:W.Frag}{A:Around}{s:Shared}{H:Hp}(hu:A.units+60<cLine)(ok:HOk P w H s.heap){d:D}{x:V}{v:Value}(hp:plN 12 d=true)(hx:IsD K H d x)(rx:yw x v):
 ∀{ds:YD} {xs:YB} {us:Yf},ds.all (plN 12)=true->zo K H ds xs->yi xs us->us.map (lT K H d)=ds.map (λe=>yN e d)/\∀u∈us,SeqAt.EqAt A s u v (lT K H d u):=by
 intro ds
 induction ds with
 |nil =>
  intro xs us _ h1 h2;rw[zo.nil_iff] at h1;subst h1;cases h2;exact⟨rfl,λu hu=>nomatch hu⟩
 |cons e ds ih =>
  intro xs us hq h1 h2;rw[Xw,ZQ] at hq;rw[zo.cons_iff] at h1;refine zc2c h1 λy rs zr2 h3 h4=>?_;subst zr2;cases h2 with
  |cons r1 r2 =>
   obtain⟨i1,i2⟩:=ih hq.2 h4 r2;obtain⟨as,ra⟩:=wp ok 12 e y _ hq.1 h3 r1;obtain⟨cs,rb⟩:=wp ok 12 d x v hp hx rx;obtain⟨l1,z1⟩:=rZ 12 e hq.1;obtain⟨l2,z2⟩:=rZ 12 d hp;have es:=eqTo_same hp hq.1 h3 r1;refine⟨by rw[Zl,Zl,i1,es],λu hm=>?_⟩;rcases ZD.mp hm with hm|hm
   .subst hm;rw[es,<- (Xt.mpr ((kZ 12 e d hq.1 hp).trans tT.symm):PyData.eqv (nK e) (nK d)=yN e d)];exact SeqAt.eqAt_reads (nK e) (nK d) A s _ v as cs ra rb l1 l2 ()
   .exact i2 u hm
def tG {α:Type}{f:α -> Bool}{l:List α}:l.any f=(l.map f).any id:=by rw[List.any_map];rfl
def fV (hu:X.A.units+64<cLine)(neg:Bool):OpR X (compareOp (if neg then .NotIn else .In)) (rD2 X.K λd e=>match e with
 | .dct _ _=>none
 | .dcf _ _=>none
 |e=>gIn neg d e):=by
 rintro Y s Z H x y v u Q I rx ry ⟨F,d,e,z,sF,id,ie,hz,q⟩;have id':=IsD.same sF _ _ id;cases e with
 |lst ds =>
  have hz:(if plN 12 d&&ds.all (plN 12) then some (D.bl (if neg then !ds.any (λe=>yN e d) else ds.any λe=>yN e d)) else none)=some z:=hz
  split at hz
  .rename_i hp;rw[ZQ] at hp;obtain rfl:=Zqi hz;rw[IsD.lst_iff] at ie;refine zc2c ie λp xs zr2 h1 h2=>?_;subst zr2;obtain rfl:u=Value.ref p:=ry;refine zc1c (I.list (h1.same sF).sq) λits ri pl hl=>?_;obtain⟨k1,k2⟩:=fG (A:=X.A.in1) (by show X.A.units+1+60<cLine;omega) I.hok hp.1 id' rx hp.2 (zo.same sF _ _ h2) ri;have ea:its.toArray.any (lT X.K H d)=ds.any (λe=>yN e d):=by
    rw[show its.toArray.any (lT X.K H d)=its.any (lT X.K H d) by simp,tG,k1,<- tG]
   cases neg with
   |true =>
    refine SeqAt.notIn_listAt (lT X.K H d) pl.isList (λw hw=>k2 w (by simpa using hw)) ⟨.bl _,H,I,rfl,?_⟩;rw[ea];exact q _ F H (.refl sF) (isB _ F)
   |false =>
    refine SeqAt.in_listAt (lT X.K H d) pl.isList (λw hw=>k2 w (by simpa using hw)) ⟨.bl _,H,I,rfl,?_⟩;rw[ea];exact q _ F H (.refl sF) (isB _ F)
  .exact zqn hz
 |tup ds =>
  have hz:(if plN 12 d&&ds.all (plN 12) then some (D.bl (if neg then !ds.any (λe=>yN e d) else ds.any λe=>yN e d)) else none)=some z:=hz
  split at hz
  .rename_i hp;rw[ZQ] at hp;obtain rfl:=Zqi hz;rw[IsD.tup_iff] at ie;refine zc2c ie λp xs zr2 h1 h2=>?_;subst zr2;obtain rfl:u=Value.ref p:=ry;refine zc1c (I.tuple (h1.same sF).sq) λits ri pl hl=>?_;obtain⟨k1,k2⟩:=fG (A:=X.A.in1) (by show X.A.units+1+60<cLine;omega) I.hok hp.1 id' rx hp.2 (zo.same sF _ _ h2) ri;have ea:its.toArray.any (lT X.K H d)=ds.any (λe=>yN e d):=by
    rw[show its.toArray.any (lT X.K H d)=its.any (lT X.K H d) by simp,tG,k1,<- tG]
   cases neg with
   |true =>
    refine SeqAt.notIn_tupleAt (lT X.K H d) pl (λw hw=>k2 w (by simpa using hw)) ⟨.bl _,H,I,rfl,?_⟩;rw[ea];exact q _ F H (.refl sF) (isB _ F)
   |false =>
    refine SeqAt.in_tupleAt (lT X.K H d) pl (λw hw=>k2 w (by simpa using hw)) ⟨.bl _,H,I,rfl,?_⟩;rw[ea];exact q _ F H (.refl sF) (isB _ F)
  .exact zqn hz
 |_=>exact zqn hz
def cP {K:W.Frag}{neg:Bool}{Z:St}{H:Hp}{Q:VK}(h:tD K E (dOp (gIn neg) fa fb) Z H Q):
 (λZ H Q=>tD K E fa Z H λy H1=>tD K E fb Z H1 λx H2=>∃a o,x=.ref a/\mo H2 a y o/\Q (.bl (if neg then !o.isSome else o.isSome)) H2) Z H Q\/tOp (rD2 K λd e=>match e with
 | .dct _ _=>none
 | .dcf _ _=>none
 |e=>gIn neg d e) (tD K E fa) (tD K E fb) Z H Q:=by
 refine zc3b h λB F sd r n=>?_;by_cases hd:∃d ks ds,fb sd=.ok d/\(d=.dct ks ds\/d=.dcf ks ds)
 .obtain⟨d,ks,ds,hd,hc⟩:=hd;refine .inl ⟨B,F,sd,r,(Res.need_bind n).mono (λx n1 v F1 H1 e1 i1=>?_) λ_ _ q=>q⟩;refine⟨B,F1,sd,r.step e1,(Res.need_bind n1).monoE (λy hy n2 w F2 H2 e2 i2=>?_) λ_ _ q=>q.ext e1⟩;rw[hd] at hy;cases hy;refine zc1b (Res.need_ofO n2) λz hz q=>?_;obtain⟨k,hk,hz⟩:=Z3.mp (show(wX x).map (λq=>D.bl (if neg then !(t9 ks ds q).isSome else(t9 ks ds q).isSome))=some z by rcases hc with rfl|rfl<;>exact hz);subst hz;refine zc2d (fy hc i2) λp xs zr2 h1 h2 h3=>?_;subst zr2;obtain⟨g1,g2⟩:=sO k h2 h3;refine⟨p,qp (ks.zip xs) k,rfl,?_,?_⟩
  .rw[vH hk i1];exact iR (mi e2.fh h1)
  .have es:(qp (ks.zip xs) k).isSome=(t9 ks ds k).isSome:=by
    cases hv:t9 ks ds k with
    |none=>rw[g2 hv];rfl
    |some d=>obtain⟨x,hx,_⟩:=g1 d hv;rw[hx];rfl
   rw[es];exact q _ F2 H2 (e1.trans e2) (IsD.bl_iff.mpr rfl)
 .refine .inr (jJ ⟨B,F,sd,r,?_⟩);unfold dOp at n ⊢;cases hx:fa sd with
  |ok d =>
   rw[hx] at n;cases hy:fb sd with
   |ok e =>
    rw[hy] at n;cases e with
    |dct ks ds=>exact Zn ⟨_,ks,ds,hy,.inl rfl⟩ hd
    |dcf ks ds=>exact Zn ⟨_,ks,ds,hy,.inr rfl⟩ hd
    |_=>exact n
   |no=>rw[hy] at n;exact n
   |ex c fs=>rw[hy] at n;exact n
  |no=>rw[hx] at n;exact n
  |ex c fs=>rw[hx] at n;exact n
def qt_in (hu:X.A.units+64<cLine)(ha:QE X E a fa)(hb:QE X E b fb)(hm:autoParam (behindInMarks .In b=false) zau._auto_1):QT X E (.Compare a [.In] [b] pos) (z4 (dOp (gIn false) fa fb)):=
 PT.weak (PT.or (i9 (pc_din () ha hb) hm) (nR (fV hu false) ha hb hm)) λZ H Q h=>cP (wj h)
def t8 (hu:X.A.units+64<cLine)(ha:QE X E a fa)(hb:QE X E b fb)(hm:autoParam (behindInMarks .NotIn b=false) zau._auto_1):QT X E (.Compare a [.NotIn] [b] pos) (z4 (dOp (gIn true) fa fb)):=
 PT.weak (PT.or (i9 (pc_dnotin () ha hb) hm) (nR (fV hu true) ha hb hm)) λZ H Q h=>cP (wj h)
end
section
variable {X:Cx}{E:XK}{m:Option Bool}{a b o i e f tg:Expr}{fa fb fo fi fv:FE}{fr:FA}{pos pos' apos cpos p:Pos}
def wB {K:W.Frag}{H:Hp}{d:D}{vs:YB}(h:zo K H [d] vs):∃v,vs=[v]/\IsD K H d v:=by
 rw[zo.cons_iff] at h;refine zc2c h λv r zr2 h1 h2=>?_;subst zr2;rw[zo.nil_iff] at h2;subst h2;exact⟨v,rfl,h1⟩
def eZ {K:W.Frag}{H:Hp}{d e:D}{vs:YB}(h:zo K H [d,e] vs):∃v w,vs=[v,w]/\IsD K H d v/\IsD K H e w:=by
 rw[zo.cons_iff] at h;refine zc2c h λv r zr2 h1 h2=>?_;subst zr2;refine zc1b (wB h2) λw zr1 h3=>?_;subst zr1;exact⟨v,w,rfl,h1,h3⟩
noncomputable def mH:YD->YE
 | [.lst ds]=>some (.int ds.length)
 | [.tup ds]=>some (.int ds.length)
 | [.dct ks _]=>some (.int ks.length)
 | [.scr ns]=>some (.int ns.length)
 | [.str x]=>if x.length<=sizeLine then some (.int x.length) else none
 |_=>none
noncomputable def LenP (ds:YD)(z:D):Prop:=(∃es,ds=[.lst es]/\z=.int es.length)\/(∃es,ds=[.tup es]/\z=.int es.length)\/(∃ks es,ds=[.dct ks es]/\z=.int ks.length)\/(∃ns,ds=[.scr ns]/\z=.int ns.length)\/∃x,x.length<=sizeLine/\ds=[.str x]/\z=.int x.length
def gLen_inv (hz:mH ds=some z):LenP ds z:=by
 cases ds with
 |nil=>exact zqn hz
 |cons d ds =>
  cases ds with
  |nil =>
   cases d with
   |lst ds=>exact .inl ⟨_,rfl,(Zqi hz).symm⟩
   |tup ds=>exact .inr (.inl ⟨_,rfl,(Zqi hz).symm⟩)
   |dct ks ds=>exact .inr (.inr (.inl ⟨_,_,rfl,(Zqi hz).symm⟩))
   |scr ns=>exact .inr (.inr (.inr (.inl ⟨_,rfl,(Zqi hz).symm⟩)))
   |str x=>exact let q:=qT hz;.inr (.inr (.inr (.inr ⟨_,q.1,rfl,q.2.symm⟩)))
   |_=>exact zqn hz
  |cons e ds=>cases d<;>exact zqn hz
def mt:zD X (.builtin "len") (rDA X.K mH):=zD.weak (zD.or call_len_seq (zD.or call_lenD call_len_str)) λxs H Q zh=>by
 obtain⟨F,ds,z,sF,id,hz,q⟩:=zh;rcases gLen_inv hz with ⟨es,rfl,rfl⟩|⟨es,rfl,rfl⟩|⟨ks,es,rfl,rfl⟩|⟨ns,rfl,rfl⟩|⟨x,hl,rfl,rfl⟩
 .obtain⟨v,rfl,h⟩:=wB id;rw[IsD.lst_iff] at h;obtain⟨a,ys,rfl,h1,h2⟩:=h;rw[<- h2.length] at q;exact .inl ⟨a,ys,rfl,.inl (h1.same sF).sq,q _ F H (.refl sF) (isI _ F)⟩
 .obtain⟨v,rfl,h⟩:=wB id;rw[IsD.tup_iff] at h;obtain⟨a,ys,rfl,h1,h2⟩:=h;rw[<- h2.length] at q;exact .inl ⟨a,ys,rfl,.inr (h1.same sF).sq,q _ F H (.refl sF) (isI _ F)⟩
 .obtain⟨v,rfl,h⟩:=wB id;rw[IsD.dct_iff] at h;obtain⟨a,ys,rfl,h1,h2,h3⟩:=h;refine .inr (.inl ⟨a,_,rfl,sF _ _ h1,?_⟩);rw[List.length_zip,<- h2,Nat.min_self];exact q _ F H (.refl sF) (isI _ F)
 .obtain⟨v,rfl,h⟩:=wB id;rw[IsD.scr_iff] at h;obtain⟨a,rfl,h1⟩:=h;refine .inl ⟨a,_,rfl,.inl (yB.seq sF h1),?_⟩;rw[Zql];exact q _ F H (.refl sF) (isI _ F)
 .obtain⟨v,rfl,h⟩:=wB id;rw[IsD.str_iff] at h;subst h;exact .inr (.inr ⟨_,rfl,hl,q _ F H (.refl sF) (isI _ F)⟩)
noncomputable def jT:YD->YE
 | [.int i,.int j]=>some (.int (if j > i then j else i))
 |_=>none
noncomputable def gS:YD->YE
 | [.int i,.int j]=>some (.int (if j<i then j else i))
 |_=>none
noncomputable def cO (ds:YD):Prop:=∃i j,ds=[.int i,.int j]
def max2_inv (hz:jT ds=some z):cO ds:=by
 cases ds with
 |nil=>exact zqn hz
 |cons d ds =>
  cases ds with
  |nil=>cases d<;>exact zqn hz
  |cons e ds =>
   cases d with
   |int i =>
    cases e with
    |int j =>
     cases ds with
     |nil=>exact⟨_,_,rfl⟩
     |cons _ _=>exact zqn hz
    |_=>exact zqn hz
   |_=>exact zqn hz
def two_inv (hz:gS ds=some z):cO ds:=by
 cases ds with
 |nil=>exact zqn hz
 |cons d ds =>
  cases ds with
  |nil=>cases d<;>exact zqn hz
  |cons e ds =>
   cases d with
   |int i =>
    cases e with
    |int j =>
     cases ds with
     |nil=>exact⟨_,_,rfl⟩
     |cons _ _=>exact zqn hz
    |_=>exact zqn hz
   |_=>exact zqn hz
def fU (hc:X.calm=true):zD X (.builtin "max") (rDA X.K jT):=zD.weak (call_max2 hc) λxs H Q zh=>by
 refine zc3a zh λF ds z zz=>pR zz λsF id hz q=>?_;refine zc2a (max2_inv hz) λi j zr2=>?_;subst zr2;obtain rfl:=Zqi hz;refine zc2c (eZ id) λv w zr2 h1 h2=>?_;subst zr2;exact⟨_,_,by rw[IsD.int_iff.mp h1,IsD.int_iff.mp h2],q _ F H (.refl sF) (isI _ F)⟩
def b_min2 (hc:X.calm=true):zD X (.builtin "min") (rDA X.K gS):=zD.weak (call_min2 hc) λxs H Q zh=>by
 refine zc3a zh λF ds z zz=>pR zz λsF id hz q=>?_;refine zc2a (two_inv hz) λi j zr2=>?_;subst zr2;obtain rfl:=Zqi hz;refine zc2c (eZ id) λv w zr2 h1 h2=>?_;subst zr2;exact⟨_,_,by rw[IsD.int_iff.mp h1,IsD.int_iff.mp h2],q _ F H (.refl sF) (isI _ F)⟩
def uP:D->Option Yh
 | .lst ds=>xH k9 ds
 |_=>none
def sD {K:W.Frag}{H:Hp}{d:D}{ns:Yh}{v:V}(h:uP d=some ns)(i:IsD K H d v):∃a,v=.ref a/\kI K H a (ns.map V.int):=by
 cases d with
 |lst ds =>
  rw[IsD.lst_iff] at i;refine zc2c i λa xs zr2 h1 h2=>?_;subst zr2;rw[allInt_inv (show xH k9 ds=some ns from h)] at h2;rw[zo.ints_iff h2] at h1;exact⟨a,rfl,h1⟩
 |_=>exact zqn h
def ul (ns:Yh):uP (.lst (ns.map D.int))=some ns:=allInt_map ns
def mf:YD->YE
 | [d]=>(uP d).bind λns=>if ns=[] then none else some (.int (uZ ns))
 |_=>none
def j8:YD->YE
 | [d]=>(uP d).bind λns=>if ns=[] then none else some (.int (kT ns))
 |_=>none
def fQ (hc:X.calm=true):zD X (.builtin "max") (rDA X.K mf):=zD.weak (call_maxL hc) λxs H Q zh=>by
 refine zc3a zh λF ds z zz=>pR zz λsF id hz q=>?_;unfold mf at hz
 split at hz
 .refine zc1b (Option.bind_eq_some_iff.mp hz) λns h1 hz=>?_
  split at hz
  .exact zqn hz
  .rename_i hn;obtain rfl:=Zqi hz;refine zc1b (wB id) λv zr1 h=>?_;subst zr1;refine zc1b (sD h1 h) λa zr1 h2=>?_;subst zr1;exact⟨a,ns,rfl,(h2.same sF).sq,hn,q _ F H (.refl sF) (isI _ F)⟩
 .exact zqn hz
def b_minL (hc:X.calm=true):zD X (.builtin "min") (rDA X.K j8):=zD.weak (call_minL hc) λxs H Q zh=>by
 refine zc3a zh λF ds z zz=>pR zz λsF id hz q=>?_;unfold j8 at hz
 split at hz
 .refine zc1b (Option.bind_eq_some_iff.mp hz) λns h1 hz=>?_
  split at hz
  .exact zqn hz
  .rename_i hn;obtain rfl:=Zqi hz;refine zc1b (wB id) λv zr1 h=>?_;subst zr1;refine zc1b (sD h1 h) λa zr1 h2=>?_;subst zr1;exact⟨a,ns,rfl,(h2.same sF).sq,hn,q _ F H (.refl sF) (isI _ F)⟩
 .exact zqn hz
noncomputable def tyN:D->Option String
 | .non=>some "NoneType"
 | .bl _=>some "bool"
 | .int _=>some "int"
 | .str _=>some "str"
 | .lst _=>some "list"
 | .tup _=>some "tuple"
 | .dct _ _=>some "dict"
 |_=>none
noncomputable def cX (t n:String):Bool:=(t == n)||(t == "bool" && n == "int")
noncomputable def sN (t n:String):Bool:=["NoneType", "bool", "int", "str", "list", "tuple", "dict"].contains t&&["bool", "int", "str", "list", "tuple", "dict"].contains n
def kit_all (K:W.Frag)(t n:String)(h:sN t n=true):W.kitOne K (.type t) (.type n)=some (cX t n):=by
 unfold sN at h;rw[ZQ,List.contains_iff_mem,List.contains_iff_mem] at h;obtain⟨h1,h2⟩:=h;simp only[ZD,X2,or_false] at h1 h2;rcases h1 with rfl|rfl|rfl|rfl|rfl|rfl|rfl<;>rcases h2 with rfl|rfl|rfl|rfl|rfl|rfl<;>first|rfl|kernel_rfl
def kX:YD->YE
 | [d,.ty n]=>(tyN d).bind λt=>if sN t n then some (.bl (cX t n)) else none
 |_=>none
def tyN_of {K:W.Frag}{H:Hp}{d:D}{v:V}{t:String}(h:tyN d=some t)(i:IsD K H d v):TyOf K H v (.type t):=by
 cases d with
 |non=>cases h;rw[IsD.non_iff.mp i];exact .non
 |bl b=>cases h;rw[IsD.bl_iff.mp i];exact .bl b
 |int j=>cases h;rw[IsD.int_iff.mp i];exact .int j
 |str x=>cases h;rw[IsD.str_iff.mp i];exact .str x
 |lst ds =>
  obtain rfl:=Zqi h;rw[IsD.lst_iff] at i;refine zc2c i λa xs zr2 h1 _=>?_;subst zr2;rcases h1 with h1|⟨o,h1⟩
  .exact .lst h1
  .exact .frz h1
 |tup ds =>
  obtain rfl:=Zqi h;rw[IsD.tup_iff] at i;refine zc2c i λa xs zr2 h1 _=>?_;subst zr2;exact .tup h1
 |dct ks ds =>
  obtain rfl:=Zqi h;rw[IsD.dct_iff] at i;refine zc2c i λa xs zr2 h1 _=>?_;subst zr2;exact .dK h1
 |ty n=>exact zqn h
 |scr n=>exact zqn h
 |ins C fs ds=>exact zqn h
 |exc c=>exact zqn h
 |ucl c=>exact zqn h
 |adr c=>exact zqn h
 |dcf c ds=>exact zqn h
def IsiP (ds:YD)(z:D):Prop:=∃d n t,ds=[d,.ty n]/\tyN d=some t/\sN t n=true/\z=.bl (cX t n)
def gIsi_inv (hz:kX ds=some z):IsiP ds z:=by
 cases ds with
 |nil=>exact zqn hz
 |cons d ds =>
  cases ds with
  |nil=>exact zqn hz
  |cons e ds =>
   cases ds with
   |nil =>
    cases e with
    |ty n =>
     refine zc1b (Option.bind_eq_some_iff.mp (show(tyN d).bind (λt=>if sN t n then some (D.bl (cX t n)) else none)=some z from hz)) λt h1 hz=>?_;exact⟨d,n,t,rfl,h1,(qT hz).1,(qT hz).2.symm⟩
    |_=>exact zqn hz
   |cons _ _=>cases e<;>exact zqn hz
def jK:zD X (.builtin "isinstance") (rDA X.K kX):=zD.weak call_isi λxs H Q zh=>by
 refine zc3a zh λF ds z zz=>pR zz λsF id hz q=>?_;refine zc3a (gIsi_inv hz) λd n t zz=>pR zz λzr3 h1 hk zr6=>?_;subst zr3;subst zr6;refine zc2c (eZ id) λv w zr2 h2 h3=>?_;subst zr2;exact⟨v,_,_,_,by rw[IsD.ty_iff.mp h3],tyN_of h1 (IsD.same sF _ _ h2),kit_all _ _ _ hk,q _ F H (.refl sF) (isB _ F)⟩
def jA (hg:Gl X x)(hm:X.mg x=none)(hv:bootBuiltins x=some u)(r:yw (.ty n) u)(hn:autoParam (x ≠ "__name__") zav._auto_1)(hd:autoParam ((x == ("__debug__" : Str))=false) zav._auto_1):QE X E (.Name x pos) (dC (.ty n)):=
 qU (pe_bltn (v:=.ty n) hg hm hv r hn hd) λ_=>IsD.ty_iff.mpr rfl
noncomputable def kJ:YD->YE
 | [.lst ds]=>some (.lst ds)
 | [.tup ds]=>some (.lst ds)
 | [.scr ns]=>some (.lst (ns.map .int))
 |_=>none
noncomputable def ListP (ds:YD)(z:D):Prop:=(∃es,ds=[.lst es]/\z=.lst es)\/(∃es,ds=[.tup es]/\z=.lst es)\/∃ns,ds=[.scr ns]/\z=.lst (ns.map .int)
def gList_inv (hz:kJ ds=some z):ListP ds z:=by
 cases ds with
 |nil=>exact zqn hz
 |cons d ds =>
  cases ds with
  |nil =>
   cases d with
   |lst ds=>exact .inl ⟨_,rfl,(Zqi hz).symm⟩
   |tup ds=>exact .inr (.inl ⟨_,rfl,(Zqi hz).symm⟩)
   |scr ns=>exact .inr (.inr ⟨_,rfl,(Zqi hz).symm⟩)
   |_=>exact zqn hz
  |cons e ds=>cases d<;>exact zqn hz
def fO:zD X (.type "list") (cG X.K kJ):=zD.weak call_list_of λxs H Q zh=>by
 obtain⟨F,ds,z,sF,id,hz,q⟩:=zh;have fin:∀{es:YD} {ys:YB},zo X.K F es ys->OkN X.K F H Q (.lst es)->∀l,H l=none->Q (.ref l) (upd H l (.lst ys)):=λ{es ys} h q l hl =>
  q l F _ (.keep sF hl _) hl (zF sF hl) ⟨ys,zv,h⟩
 rcases gList_inv hz with ⟨es,rfl,rfl⟩|⟨es,rfl,rfl⟩|⟨ns,rfl,rfl⟩
 .obtain⟨v,rfl,h⟩:=wB id;rw[IsD.lst_iff] at h;obtain⟨a,ys,rfl,h1,h2⟩:=h;exact⟨a,ys,rfl,.inl (h1.same sF).sq,fin h2 q⟩
 .obtain⟨v,rfl,h⟩:=wB id;rw[IsD.tup_iff] at h;obtain⟨a,ys,rfl,h1,h2⟩:=h;exact⟨a,ys,rfl,.inr (h1.same sF).sq,fin h2 q⟩
 .obtain⟨v,rfl,h⟩:=wB id;rw[IsD.scr_iff] at h;obtain⟨a,rfl,h1⟩:=h;exact⟨a,_,rfl,.inl (yB.seq sF h1),fin (zo.ints _) q⟩
noncomputable def wZ:YD->YE
 | [.lst ds]=>some (.tup ds)
 | [.tup ds]=>some (.tup ds)
 |_=>none
noncomputable def TupP (ds:YD)(z:D):Prop:=(∃es,ds=[.lst es]/\z=.tup es)\/∃es,ds=[.tup es]/\z=.tup es
def gTuple_inv (hz:wZ ds=some z):TupP ds z:=by
 cases ds with
 |nil=>exact zqn hz
 |cons d ds =>
  cases ds with
  |nil =>
   cases d with
   |lst ds=>exact .inl ⟨_,rfl,(Zqi hz).symm⟩
   |tup ds=>exact .inr ⟨_,rfl,(Zqi hz).symm⟩
   |_=>exact zqn hz
  |cons e ds=>cases d<;>exact zqn hz
def um:zD X (.type "tuple") (rDA X.K wZ):=zD.weak call_tuple_of λxs H Q zh=>by
 refine zc3a zh λF ds z zz=>pR zz λsF id hz q=>?_;rcases gTuple_inv hz with ⟨es,rfl,rfl⟩|⟨es,rfl,rfl⟩
 .refine zc1b (wB id) λv zr1 h=>?_;subst zr1;rw[IsD.lst_iff] at h;refine zc2c h λa ys zr2 h1 h2=>?_;subst zr2;refine⟨a,ys,rfl,.inl ⟨(h1.same sF).sq,λl hl=>?_⟩⟩;have ea:=Ext.alloc sF hl (.tup ys);exact q _ _ _ ea (IsD.tup_iff.mpr ⟨l,ys,rfl,.of zv,zo.same ea.ff _ _ h2⟩)
 .refine zc1b (wB id) λv zr1 h=>?_;subst zr1;have h':=h;rw[IsD.tup_iff] at h;refine zc2c h λa ys zr2 h1 h2=>?_;subst zr2;exact⟨a,ys,rfl,.inr ⟨(h1.same sF).sq,q _ F H (.refl sF) h'⟩⟩
noncomputable def dcR (r:X8):D:=.dct (r.map λp=>.inl p.1) (r.map λp=>.int p.2)
def kN (r:X8):X8:=r.foldl (λa p=>pL a p.1 p.2) []
def dictR_T (r:X8):iu r=kvR (kN r):=oP r []
def dictT_once (h:yE r):kN r=r:=by
 have:=o7 r [] (by simpa using h);unfold kN;simpa using this
def jP (r:X8):kvR r=(r.map λp=>(Sum.inl p.1:Key)).zip (r.map λp=>V.int p.2):=by
 unfold kvR
 induction r with
 |nil=>rfl
 |cons p r ih=>rw[Zl,ih];rfl
def dcR_vals (K:W.Frag)(F:Hp)(r:X8):zo K F (r.map λp=>D.int p.2) (r.map λp=>V.int p.2):=by
 have:=zo.ints (K:=K) (H:=F) (r.map (·.2));rw[Zw,Zw] at this;exact this
def rH:YD->YE
 | [d]=>(vI d).bind λr=>if r.length<=100 then some (dcR (kN r)) else none
 |_=>none
def lC (hc:X.calm=true):zD X (.type "dict") (cG X.K rH):=zD.weak (call_dictP hc) λxs H Q zh=>by
 refine zc3a zh λF ds z zz=>pR zz λsF id hz q=>?_;unfold rH at hz
 split at hz
 .refine zc1b (Option.bind_eq_some_iff.mp hz) λr h1 hz=>?_
  split at hz
  .rename_i hl;obtain rfl:=Zqi hz;refine zc1b (wB id) λv zr1 h=>?_;subst zr1;rw[oE h1,eO] at h;have h':=Is.same sF _ _ h;refine zc2b ((show ∃a xs,v=.ref a/\_ by unfold rD at h;rw[Is.tuple_iff] at h;exact h)) λa ys e _=>?_;subst e;refine⟨a,r,rfl,h',hl,λp hp=>?_⟩;refine q p F _ (.keep sF hp _) hp (zF sF hp) ⟨(kN r).map λp=>V.int p.2,?_,by simp,dcR_vals _ _ _⟩;rw[zv,dictR_T,jP]
  .exact zqn hz
 .exact zqn hz
def gu (fo fk fx:FE):FE:=λsd=>(fo sd).bind λd=>match d with
 | .dct ks ds=>(fk sd).bind λk=>(fx sd).bind λx=>.ofO ((wX k).map λq=>(t9 ks ds q).getD x)
 |_=>.no
def q_get2 (hu:X.A.units+1<cLine)(ho:QE X E o fo)(he:QE X E e fa)(hf:QE X E f fb)(mm:M2 X o "get" apos e f cpos):QE X E (.Call (.Attribute o "get" apos) [e,f] [] cpos) (gu fo fa fb):=PE.weak (pe_dget2 hu ho he hf mm) λZ H Q zh=>by
 refine zc3b zh λB F sd r n=>?_;refine⟨B,F,sd,r,(Res.need_bind n).mono (λd n1 v F1 H1 e1 i1=>?_) λ_ _ q=>q⟩;cases d with
 |dct ks ds =>
  rw[IsD.dct_iff] at i1;refine zc2d i1 λp xs zr2 h1 h2 h3=>?_;subst zr2;have hp:=e1.fh _ _ h1;refine⟨p,rfl,.inl ⟨_,.inl hp⟩,B,F1,sd,r.step e1,(Res.need_bind n1).mono (λk n2 w F2 H2 e2 i2=>?_) λ_ _ q=>q.ext e1⟩;refine⟨B,F2,sd,(r.step e1).step e2,(Res.need_bind n2).mono (λx n3 u F3 H3 e3 i3=>?_) λ_ _ q=>q.ext (e1.trans e2)⟩;refine zc1b (Res.need_ofO n3) λz hz q=>?_;refine zc1b (Z3.mp hz) λk' hk hz=>?_;subst hz;obtain⟨g1,g2⟩:=sO k' h2 h3;refine⟨qp (ks.zip xs) k',?_,?_⟩
  .rw[vH hk i2];exact mo.k (e3.hh _ _ (e2.hh _ _ hp))
  .cases hv:t9 ks ds k' with
   |none =>
    rw[hv] at q;rw[g2 hv];exact q _ F3 H3 ((e1.trans e2).trans e3) i3
   |some d =>
    rw[hv] at q;refine zc1b (g1 d hv) λy hy iy=>?_;rw[hy];exact q _ F3 H3 ((e1.trans e2).trans e3) (IsD.same (e2.ff.trans e3.ff) _ _ iy)
 |_=>exact n1.elim
def iq (i:Nat)(fk fv:FE):FS:=λsd=>(fv sd).bind λv=>match sd[i]? with
 |some (some (.own false (.dct ks ds)))=>(fk sd).bind λk=>match wX k with
  |some q=>if ks.length<sizeLine then .ok (.next (sd.set i (some (.own false (.dct (nT ks q) (k8 ks ds q v)))))) else .no
  |none=>.no
 |_=>.no
def qs_dput (hu:X.A.units+1<cLine)(ho:PE X o (gN j))(hi:QE X E i fi)(hv:QE X E e fv)(hs:autoParam (swapsWith e (some (.Subscript o i pos')) pos.line X.env=pure false) zau._auto_1):
 QS X E m (.Assign [.Subscript o i pos'] e pos) (iq j fi fv):=PS.weak (ps_dput hu ho hi hv hs) λT Z H zh=>by
 refine zc3b zh λB F sd r n=>?_;refine⟨B,F,sd,r,(Res.need_bind n).mono (λd n1 v F1 H1 e1 i1=>?_) λ_ _ q=>q.ext r.ext⟩
 split at n1
 .rename_i ks ds hj;refine zc1e ((r.step e1).own hj) λl h1 h2 h3 zr4 _=>?_;obtain⟨xs,h4,h5,h6⟩:=zr4;refine⟨.ref l,h1,B,F1,sd,r.step e1,(Res.need_bind n1).mono (λk n2 w F2 H2 e2 i2=>?_) λ_ _ q=>q.ext (r.step e1).ext⟩
  split at n2
  .rename_i q hk
   split at n2
   .rename_i hz;refine zc1c (put_zip (K:=X.K) (q:=q) h5 (zo.same e2.ff _ _ h6) (IsD.same e2.ff _ _ i1)) λys y1 y2 y3=>?_;have hH:=e2.hh _ _ h4;refine⟨l,_,rfl,(by rw[vH hk i2];exact cj.k hH (by rw[List.length_zip];omega)),?_⟩;exact n2 Z F2 _ (e1.ff.trans e2.ff) (((r.step e1).step e2).chg hj h1 ⟨ys,by rw[zv,y1],y2,y3⟩)
   .exact n2.elim
  .exact n2.elim
 .exact n1.elim
noncomputable def walkL:D->Option YD
 | .lst ds=>some ds
 | .scr ns=>some (ns.map .int)
 |_=>none
noncomputable def walkT:D->Option YD
 | .tup ds=>some ds
 |_=>none
def iL (f:FE):FA:=λsd=>(f sd).bind λd=>.ofO (walkL d)
def iT (f:FE):FA:=λsd=>(f sd).bind λd=>.ofO (walkT d)
def uw {K:W.Frag}{F1:Hp}{J:It}{ds:YD}{xs:YB}{S:Hp->Prop}(h:zo K F1 ds xs)(sm:∀F H,yB F1 F->yB F H->S H)(g:∀i H x,S H->xs[i]? = some x->J.go i H)(st:∀i H,S H->xs.length<=i->J.stop i H)
 (yl:∀i H x H',S H->J.yld i H x H'->H'=H/\xs[i]? = some x):bB K F1 J ds:=λi F2 H2 s1 s2=>by
 have hS:=sm F2 H2 s1 s2;refine⟨λhi=>?_,λhi=>st i H2 hS (by rw[h.length];exact hi)⟩;refine zc1b (h.get (Zqg hi)) λx hx _=>?_;refine⟨g i H2 x hS hx,λy H3 hy=>?_⟩;obtain⟨rfl,hy'⟩:=yl i H2 y H3 hS hy;refine zc1b (h.getV hy') λd hd id=>?_;exact⟨d,F2,hd,.refl s2,IsD.same s1 _ _ id⟩
def qi_list (h:QE X E e fa):QI X E tg e (iL fa):=PI.weak (pi_list h) λZ H R zh=>by
 refine zc3b zh λB F sd r n=>?_;refine⟨B,F,sd,r,(Res.need_bind n).mono (λd n1 v F1 H1 e1 i1=>?_) λ_ _ q=>q⟩;refine zc1b (Res.need_ofO n1) λds hz q=>?_;cases d with
 |lst es =>
  obtain rfl:=Zqi hz;rw[IsD.lst_iff] at i1;refine zc2c i1 λa xs zr2 h1 h2=>?_;subst zr2;refine⟨a,rfl,⟨xs,(h1.same e1.fh).sq⟩,q _ F1 H1 e1 (uw (S:=λH=>SqL X.K H a xs) h2 (λF H s1 s2=>((h1.same s1).same s2).sq) (λi H x hS hx=>⟨xs,x,hS,hx⟩) (λi H hS hi=>⟨xs,hS,hi⟩) λi H x H' hS hy=>⟨hy.1,hy.2 xs hS⟩)⟩
 |scr ns =>
  obtain rfl:=Zqi hz;rw[IsD.scr_iff] at i1;refine zc1b i1 λa zr1 h1=>?_;subst zr1;refine⟨a,rfl,⟨_,yB.seq e1.fh h1⟩,q _ F1 H1 e1 (uw (S:=λH=>SqL X.K H a (ns.map V.int)) (zo.ints ns) (λF H s1 s2=>yB.seq s2 (yB.seq s1 h1)) (λi H x hS hx=>⟨_,x,hS,hx⟩) (λi H hS hi=>⟨_,hS,hi⟩) λi H x H' hS hy=>⟨hy.1,hy.2 _ hS⟩)⟩
 |_=>exact zqn hz
def qi_tup (h:QE X E e fa):QI X E tg e (iT fa):=PI.weak (pi_tup h) λZ H R zh=>by
 refine zc3b zh λB F sd r n=>?_;refine⟨B,F,sd,r,(Res.need_bind n).mono (λd n1 v F1 H1 e1 i1=>?_) λ_ _ q=>q⟩;refine zc1b (Res.need_ofO n1) λds hz q=>?_;cases d with
 |tup es =>
  obtain rfl:=Zqi hz;rw[IsD.tup_iff] at i1;refine zc2c i1 λa xs zr2 h1 h2=>?_;subst zr2;refine⟨a,rfl,⟨xs,(h1.same e1.fh).sq⟩,q _ F1 H1 e1 (uw (S:=λH=>SqT X.K H a xs) h2 (λF H s1 s2=>((h1.same s1).same s2).sq) (λi H x hS hx=>⟨xs,x,hS,hx⟩) (λi H hS hi=>⟨xs,hS,hi⟩) λi H x H' hS hy=>⟨hy.1,hy.2 xs hS⟩)⟩
 |_=>exact zqn hz
noncomputable def PIor {X:Cx}{tg e:Expr}{t t':TI}(h:PI X tg e t)(h':PI X tg e t'):PI X tg e (λZ H R=>t Z H R\/t' Z H R):=λY s Z H R I q=>q.elim (h Y s Z H R I) (h' Y s Z H R I)
noncomputable def nW:D->Option YD
 | .lst ds=>some ds
 | .scr ns=>some (ns.map .int)
 | .tup ds=>some ds
 |_=>none
def iS (f:FE):FA:=λsd=>(f sd).bind λd=>.ofO (nW d)
def zH (h:QE X E e fa):QI X E tg e (iS fa):=PI.weak (PIor (qi_list (E:=E) h) (qi_tup (E:=E) h)) λZ H R zh=>by
 refine zc3b zh λB F sd r n=>?_;by_cases hd:∃ds,fa sd=.ok (.tup ds)
 .obtain⟨ds,hd⟩:=hd;refine .inr ⟨B,F,sd,r,?_⟩;unfold iS at n;unfold iT;rw[hd] at n ⊢;exact n
 .refine .inl ⟨B,F,sd,r,?_⟩;unfold iS at n;unfold iL;cases hx:fa sd with
  |ok d =>
   rw[hx] at n;cases d with
   |tup ds=>exact Zn ⟨ds,hx⟩ hd
   |_=>exact n
  |no=>rw[hx] at n;exact n
  |ex c fs=>rw[hx] at n;exact n
noncomputable def yc (lo:Int)(n:Nat):YD:=(List.range n).map λk:Nat=>.int (lo+k)
noncomputable def kE (j:Int):Bool:=Nat.ble j.toNat 1000000000&&Nat.ble (-j).toNat 1000000000
def kj (h:kE j=true): -(2 ^ 62)<=j/\j<2 ^ 62:=by
 unfold kE at h;rw[ZQ,Nat.ble_eq,Nat.ble_eq] at h;omega
def rngOk_in (h1: -1000000000<=j)(h2:j<=1000000000):kE j=true:=by
 unfold kE;rw[ZQ,Nat.ble_eq,Nat.ble_eq];omega
def iR1 (fr:FA):FA:=λsd=>(fr sd).bind λds=>match ds with
 | [.int j]=>if kE j then .ok (yc 0 j.toNat) else .no
 |_=>.no
def walk_range {K:W.Frag}{F1:Hp}(lo:Int)(n:Nat):bB K F1 (Itr lo n) (yc lo n):=λi F2 H2 s1 s2=>by
 have hl:(yc lo n).length=n:=by unfold yc;rw[Zql,ZA]
 rw[hl];refine⟨λhi=>⟨hi,λx H3 hy=>?_⟩,λhi=>hi⟩;obtain⟨rfl,rfl⟩:=hy;refine⟨.int (lo+i),F2,?_,.refl s2,IsD.int_iff.mpr rfl⟩;unfold yc;rw[Zv,List.getElem?_range hi];rfl
def x9 {a:Expr}(hg:Gl X "range")(hm:X.mg "range" = none)(ha:QA X E [a] fr)(hs:autoParam (starEach [a] X.env=[(false,eval a X.env)]) zau._auto_1):QI X E tg (.Call (.Name "range" p) [a] [] pos) (iR1 fr):=PI.weak (pi_range1 hg hm ha hs) λZ H R zh=>by
 refine zc3b zh λB F sd r n=>?_;refine⟨B,F,sd,r,(Res.need_bind n).mono (λds n1 vs F1 H1 e1 i1=>?_) λ_ _ q=>q⟩
 split at n1
 .split at n1
  .rename_i j hj;refine zc1b (wB i1) λv zr1 h=>?_;subst zr1;rw[IsD.int_iff.mp h];exact⟨j,rfl,(kj hj).1,(kj hj).2,n1 _ F1 H1 e1 (walk_range 0 _)⟩
  .exact n1.elim
 .exact n1.elim
end
section
variable {X:Cx}{E:XK}{m:Option Bool}{a b o i e f tg:Expr}{fa fb fo fi fv:FE}{fr:FA}{pos pos' apos cpos p:Pos}
def PG.weak (h:PG X e t)(w:∀v Z H Q,t' v Z H Q->t v Z H Q):PG X e t':=λY s Z H v u Q I r q=>h Y s Z H v u Q I r (w _ _ _ _ q)
def jo:Yj->TGs
 | []=>bX
 |i::is=>cz (qI i) (jo is)
theorem oR:∀{is:Yj} {xs:YB} {Z:St} {H:Hp} {Q:St->Hp->Prop},xs.length=is.length->Q (qO is xs Z) H->jo is xs Z H Q
 | [],xs,Z,H,Q,hl,q=>⟨ZS.mp hl,q⟩
 |i::is,[],Z,H,Q,hl,q=>by cases hl
 |i::is,x::xs,Z,H,Q,hl,q=>⟨x,xs,rfl,oR (is:=is) (xs:=xs) (Nat.succ.inj hl) q⟩
def zG {i:Nat}{e:Expr}(h:PG X e (qI i)):QG X e (.one i):=h
def tZ (is:Yj)(h:PG X e (aa X.K is.length (jo is))):QG X e (.tup is):=PG.weak h (by rintro v Z H Q ⟨a,xs,e,h1,h2,q⟩;exact⟨a,xs,e,h1,h2,oR h2 q⟩)
def uf (tg:Tg)(c:FT)(f:FE)(sd:SD):YD->Res YD
 | []=>.ok []
 |x::xs=>(yD tg x sd).bind λs=>(c s).bind λb=>if b then(f s).bind λy=>(uf tg c f sd xs).bind λys=>.ok (y::ys) else uf tg c f sd xs
def xU (cap:List (Option Nat))(it:FA)(tg:Tg)(c:FT)(f:FE):FE:=λsd=>(it sd).bind λds=>if sJ (r8 cap sd) tg=true/\ds.length<sizeLine then
 (uf tg c f (r8 cap sd) ds).bind λys=>.ok (.lst ys) else .no
def qi {K:W.Frag}{t:Tg}{fi:FA}{fc:FT}{f:FE}{cap:List (Option Nat)}{Z:St}{H:Hp}{Q:VK}(hh:tDN K E (xU cap fi t fc f) Z H Q):ss cap (tDI K E fi) (gT t K) (tDT K E fc) (tD K E f) Z H Q:=by
 refine zc3b hh λB F sd r n=>?_;refine⟨B,F,sd,r,(Res.need_bind n).mono (λds n1 J F1 H1 e1 wk=>?_) λ_ _ q=>q⟩
 split at n1
 .rename_i hh;obtain⟨hn,hz⟩:=hh;refine⟨λi k ys Z H2=>k=ds.length-i/\i<=ds.length/\∃F2 es,Ext F1 H1 F2 H2/\RS K B F2 H2 (r8 cap sd) Z /\ zo K F2 es ys/\es.length<=i /\
   (uf t fc f (r8 cap sd) (ds.drop i)).need (λrs=>OkN K F2 H2 Q (.lst (es++rs))) (XW K E F2 H2),⟨ds.length,rfl,Nat.zero_le _,F1,[],.refl e1.fh,(r.step e1).cap cap,.nil,Zf _,?_⟩,?_⟩
  .exact(Res.need_bind n1).mono (λrs q=>(show OkN K F H Q (.lst rs) from q).ext e1) λ_ _ q=>q.ext e1
  rintro i k ys Z2 H2 ⟨rfl,hi,F2,es,e2,r2,i2,hl,n2⟩;have ly:=i2.length;refine⟨(),?_⟩;obtain⟨w1,w2⟩:=wk i F2 H2 e2.ff e2.fh;by_cases hlt:i<ds.length
  .obtain⟨go,yl⟩:=w1 hlt;refine .inr ⟨go,λx H3 y=>?_⟩;refine zc2c (yl x H3 y) λd F3 hd e3 i3=>?_;rw[ZU hlt] at n2;have hd':ds[i]=d:=by rw[Zqg hlt] at hd;exact Zqi hd
   rw[hd'] at n2;unfold uf at n2;have r3:=r2.step e3;refine dL (K:=K) r3 i3 (Res.need_bind n2) λsd' Z' n4 hb r4=>?_;obtain⟨b1,b2⟩:=rX hn hb;refine⟨B,F3,sd',r4,(Res.need_bind n4).mono (λb n5 F4 H4 e4=>?_) λ_ _ q=>q.ext e3⟩;cases b with
   |true =>
    refine⟨B,F4,sd',r4.step e4,(Res.need_bind n5).mono (λy n6 v F5 H5 e5 i5=>?_) λ_ _ q=>q.ext (e3.trans e4)⟩;refine⟨ds.length-(i+1),(),rfl,hlt,F5,es++[y],((e2.trans e3).trans e4).trans e5,((r4.step e4).step e5).forget b1 b2,(zo.same ((e3.ff.trans e4.ff).trans e5.ff) _ _ i2).snoc i5,by rw[ZC];exact Nat.succ_le_succ hl,?_⟩;refine(Res.need_bind n6).mono (λrs q=>?_) λ_ _ q=>q.ext ((e3.trans e4).trans e5);rw[ZJ];exact(show OkN K F2 H2 Q (.lst (es++y::rs)) from q).ext ((e3.trans e4).trans e5)
   |false =>
    refine⟨ds.length-(i+1),(),rfl,hlt,F4,es,(e2.trans e3).trans e4,(r4.step e4).forget b1 b2,zo.same (e3.ff.trans e4.ff) _ _ i2,XX hl,?_⟩;exact(show(uf t fc f (r8 cap sd) (ds.drop (i+1))).need _ _ from n5).mono (λrs q=>q.ext (e3.trans e4)) λ_ _ q=>q.ext (e3.trans e4)
  .have he:i=ds.length:=()
   subst he;refine .inl ⟨w2 (Zf _),λD hD=>?_⟩;rw[XM] at n2;have q:OkN K F2 H2 Q (.lst (es++[])):=n2;rw[Zz] at q;exact q D F2 _ (.keep r2.ext.fh hD _) hD (zF r2.ext.fh hD) ⟨ys,zv,i2⟩
 .exact n1.elim
def lW {tg iter elt c:Expr}{scope:Scope}{t:Tg}{fi:FA}{fc:FT}{f:FE}(N:Yk)(cap:List (Option Nat))(hc:X.calm=true)(okB:yK scope X.env N X.N cap=true)(hi:QI X E tg iter fi)
 (hg:∀cl C s H ex,QG (zy X scope N cl C s H ex) tg t) (ht:∀cl C s H ex,QT (zy X scope N cl C s H ex) E c fc) (he:∀cl C s H ex,QE (zy X scope N cl C s H ex) E elt f) (hs:autoParam (∀x,foldedSetIterable iter X.env x=pure x) zaw._auto_1):
 QN X E (.ListComp elt [⟨tg,iter,[c],0⟩] scope pos) (xU cap fi t fc f):=PE.weak (pe_compIf (g:=gT t X.K) (tt:=tDT X.K E fc) (te:=tD X.K E f) N cap hc okB hi hg ht he hs) λ_ _ _ h=>qi h
noncomputable def vx:List Key->YD->Option (X8)
 | .inl k::ks,.int v::ds=>(vx ks ds).map λr=>(k,v)::r
 | [],[]=>some []
 |_,_=>none
noncomputable def PairsP (ks:List Key)(ds:YD)(r:X8):Prop:=ks=r.map (λp=>.inl p.1)/\ds=r.map λp=>.int p.2
def pairsOf_inv (h:vx ks ds=some r):PairsP ks ds r:=by
 induction ks generalizing ds r with
 |nil =>
  cases ds with
  |nil=>obtain rfl:=Zqi h;exact⟨rfl,rfl⟩
  |cons _ _=>exact zqn h
 |cons k ks ih =>
  cases k with
  |inr _=>exact zqn h
  |inl k =>
   cases ds with
   |nil=>exact zqn h
   |cons d ds =>
    cases d with
    |int v =>
     refine zc1b (Z3.mp (show(vx ks ds).map (λr=>(k,v)::r)=some r from h)) λr' h1 h2=>?_;subst h2;exact⟨Zt (Sum.inl k :: ·) (ih h1).1,Zt (D.int v :: ·) (ih h1).2⟩
    |_=>exact zqn h
def pairsOf_dcR (r:X8):vx (r.map λp=>.inl p.1) (r.map λp=>.int p.2)=some r:=by
 induction r with
 |nil=>rfl
 |cons p r ih=>exact Zt (Option.map λr=>(p.1,p.2)::r) ih
def Ext.many (s:yB F H)(fr:∀p∈L,H p.1=none):Ext F H (pE F L) (pE H L):=by
 have old:∀{G:Hp} {b:Addr},H b≠none->pE G L b=G b:=λ{G b} hb=>tH λp hp z=>hb (by rw[<- z];exact fr p hp);have ne:∀{b:Addr} {o:HO},H b=some o->H b≠none:=λ{b o} e z=>by rw[e] at z;cases z
 refine⟨λb o e=>by rw[old (ne (s _ _ e))];exact e,λb o e=>?_,λb o e=>by rw[old (ne e)];exact e,λa e n=>by rw[old n];exact e⟩;rcases pO e with h|⟨h1,h2⟩
 .unfold pE at e ⊢
  split at e
  .exact e
  .exact s _ _ e
 .rw[tH h1];exact s _ _ h2
def uB:D->YE
 | .dct ks ds=>(vx ks ds).bind λr=>if r ≠ []/\r.length<1000 then some (.lst ((zY wH r).map prD)) else none
 |_=>none
def uF (fo:FE):FE:=λsd=>(fo sd).bind λd=>.ofO (uB d)
def q_sortItems (h:∀{to:TE},PE X o to->PE X e (tCB (λxs H Q=>∃vw d r,xs=[.ref vw]/\H vw=some (oN vw d)/\H d=some (.dK (kvR r))/\r ≠ []/\r.length<1000/\∀l L,(∀p∈L,H p.1=none)->(L.map (·.1)).Nodup->(∀G,Is (pE G L) (.list ((zY wH r).map pD)) (.ref l))->Q (.ref l) (pE H L))
 (dz (bS X.K "dict" (λx vs H Q=>∃d kvs,x=.ref d/\vs=[]/\H d=some (.dK kvs)/\∀p,H p=none->Q (.ref p) (upd H p (oN p d))) to) bF))) (ho:QE X E o fo):QE X E e (uF fo):=PE.weak (h ho) λZ H Q zh=>by
 refine zc3b zh λB F sd r n=>?_;refine⟨B,F,sd,r,(Res.need_bind n).mono (λd n1 v F1 H1 e1 i1=>?_) λ_ _ q=>q⟩;refine zc1b (Res.need_ofO n1) λz hz q=>?_;cases d with
 |dct ks ds =>
  refine zc1b (Option.bind_eq_some_iff.mp (show(vx ks ds).bind (λr=>if r ≠ []/\r.length<1000 then some (D.lst ((zY wH r).map prD)) else none)=some z from hz)) λrr h1 h2=>?_
  split at h2
  .rename_i hc;obtain rfl:=Zqi h2;obtain⟨k1,k2⟩:=pairsOf_inv h1;rw[IsD.dct_iff] at i1;refine zc2d i1 λd xs zr2 g1 g2 g3=>?_;subst zr2;have ex:xs=rr.map λp=>V.int p.2:=by
    have g3':=g3;rw[k2] at g3';have:=zo.ints_iff (ns:=rr.map (·.2)) (by rw[Zw];exact g3');rw[this,Zw];rfl
   have hd:F1 d=some (.dK (kvR rr)):=by rw[g1,k1,ex,<- jP]
   have hd':=e1.fh _ _ hd;refine⟨.inr (.inr (.inl ⟨rfl,.inl ⟨_,hd'⟩⟩)),d,_,rfl,rfl,hd',λvw hvw=>?_⟩;have sn:=yW hvw (oN vw d);refine⟨vw,d,rr,rfl,zv,sn _ _ hd',hc.1,hc.2,λl L fr nd hl=>?_⟩;have ek:Ext F1 H1 F1 (upd H1 vw (oN vw d)):=.keep e1.fh hvw _;have en:=Ext.many ek.fh fr;refine q _ _ _ (e1.trans (ek.trans en)) ?_;refine zc2c (Is.list_iff.mp (hl F1)) λl' ys e' g4 g5=>?_;exact IsD.lst_iff.mpr ⟨l',ys,e',.of g4,sC.mpr g5⟩
  .exact zqn h2
 |_=>exact zqn hz
end
section
variable {X:Cx}{E:XK}{m:Option Bool}{a b o i e f tg:Expr}{fa fb fo fi fv:FE}{fr:FA}{pos pos' apos cpos p:Pos}
noncomputable def cD (neg:Bool):D->YE
 | .non=>some (.bl (!neg))
 |_=>some (.bl neg)
noncomputable def isNonD:D->Bool
 | .non=>true
 |_=>false
def nonV_iff {K:W.Frag}{H:Hp}{d:D}{v:V}(h:IsD K H d v):decide (v=.non)=isNonD d:=by
 cases d with
 |non=>rw[IsD.non_iff.mp h];rfl
 |bl b=>rw[IsD.bl_iff.mp h];rfl
 |int b=>rw[IsD.int_iff.mp h];rfl
 |str b=>rw[IsD.str_iff.mp h];rfl
 |ty b=>rw[IsD.ty_iff.mp h];rfl
 |scr b=>obtain⟨a,rfl,_⟩:=IsD.scr_iff.mp h;rfl
 |tup b=>obtain⟨a,_,rfl,_⟩:=IsD.tup_iff.mp h;rfl
 |lst b=>obtain⟨a,_,rfl,_⟩:=IsD.lst_iff.mp h;rfl
 |dct b c=>obtain⟨a,_,rfl,_⟩:=IsD.dct_iff.mp h;rfl
 |ins b c d=>obtain⟨a,_,_,_,rfl,_⟩:=IsD.ins_iff.mp h;rfl
 |exc b=>obtain⟨a,_,rfl,_⟩:=IsD.exc_iff.mp h;rfl
 |ucl b=>obtain⟨a,rfl,_⟩:=IsD.ucl_iff.mp h;rfl
 |adr b=>rw[IsD.adr_iff.mp h];rfl
 |dcf b c=>obtain⟨a,_,_,rfl,_⟩:=IsD.dcf_iff.mp h;rfl
def tD_isN {K:W.Frag}{Z:St}{H:Hp}{Q:VK}(h:tD K E (dUn (cD false) fa) Z H Q):ag (tD K E fa) Z H Q:=by
 obtain⟨B,F,sd,r,n⟩:=h;refine⟨B,F,sd,r,(Res.need_bind n).mono (λx n1 v F1 H1 e1 i1=>?_) λ_ _ q=>q⟩;show Q (V.bl (decide (v=V.non))) H1;rw[nonV_iff i1];cases x<;>exact n1 _ F1 H1 e1 (IsD.bl_iff.mpr rfl)
def qt_isN {j pos'}(ha:QE X E a fa):QT X E (.Compare a [.Is] [.Constant .none j pos'] pos) (z4 (dUn (cD false) fa)):=PT.weak (i9 (pc_isN ha)) λ_ _ _ h=>tD_isN (wj h)
def qD (i:Nat)(fb:FE):FE:=λsd=>match sd[i]? with
 |some (some (.own _ d))=>(fb sd).bind λy=>.ofO (gIx d y)
 |_=>.no
def jW {i:Nat}(hu:X.A.units+1<cLine)(ha:PE X a (gN i))(hb:QE X E b fb)(hs:m8 b)(hs2:bb b):QE X E (.Subscript a b pos) (qD i fb):=
 PE.weak (PE.or (jD hu ha hb hs2) (cE js ha hb hs)) λZ H Q zh=>by
  refine zc3b zh λB F sd r n=>?_;unfold qD at n
  split at n
  .rename_i p d hi;refine zc1e (r.own hi) λl h1 h2 h3 h4 _=>?_;cases d with
   |lst ds =>
    refine zc1b h4 λxs g1 g2=>?_;refine .inr ⟨.ref l,h1,B,F,sd,r,(Res.need_bind n).mono (λy n1 w F1 H1 e1 i1=>?_) λ_ _ q=>q⟩;refine zc1b (Res.need_ofO n1) λz hz q=>?_;cases y with
    |int k =>
     refine zc1b (hU g2 (show atI ds k=some z from hz)) λx hx ix=>?_;exact⟨l,xs,k,x,rfl,IsD.int_iff.mp i1,SqL.of (e1.hh _ _ g1),hx,q _ F1 H1 e1 (IsD.same e1.ff _ _ ix)⟩
    |_=>exact zqn hz
   |dct ks ds =>
    refine zc1c h4 λxs g1 g2 g3=>?_;refine .inl ⟨.ref l,h1,B,F,sd,r,(Res.need_bind n).mono (λy n1 w F1 H1 e1 i1=>?_) λ_ _ q=>q⟩;refine zc1b (Res.need_ofO n1) λz hz q=>?_;refine zc1b (Option.bind_eq_some_iff.mp (show(wX y).bind (λq=>t9 ks ds q)=some z from hz)) λk hk hz=>?_;refine zc1b ((sO k g2 g3).1 z hz) λx hx ix=>?_;refine⟨l,x,rfl,?_,q x F1 H1 e1 (IsD.same e1.ff _ _ ix)⟩;rw[vH hk i1,<- hx];exact mo.k (e1.hh _ _ g1)
   |ins c fs ds =>
    refine .inr ⟨.ref l,h1,B,F,sd,r,(Res.need_bind n).mono (λy n1 w F1 H1 e1 i1=>?_) λ_ _ q=>q⟩;refine zc1b (Res.need_ofO n1) λz hz q=>?_;cases y<;>exact zqn hz
   |_=>exact h4.elim
  .exact n.elim
end
end L2.DL
namespace L2
section
variable {X:Cx}{tg iter elt c:Expr}{scope:Scope}{pos:Pos}{wi:TI}{g:TG}{te:TE}{tt:TT}
def iB (hNN:X.N.Nodup)(hiy:X.N[iy]? = some y)(hyy:Loc X.env.scope y)(hyf:X.fn y=true\/X.env.scope.names.lookup y=some .local):
 rp X Y Z (λv H'=>DD.nx (Z.set iy (some v)) H') (some (assign (.Name y py) X.env)) (λ_ s'=>SP X Y DD .next s'):=λC D m s5 r hm nC nF sz cC pC k=>by
 refine zc2d (k s5.heap ⟨rfl,λ_ _=>rfl⟩) λv5 H5 K5 rv5 fC q5=>?_;refine zc3c (id hm) λoC esC epC hoC hdC hrC=>?_;have KP:Inv X (Y++[(C,oC)]) Z H5 { s5 with heap:=s5.heap }:=K5.pins_of λp hp=>by
  rcases ZL.mp hp with hp|hp
  .exact K5.pin p (ZK _ hp)
  .have e:=ZF.mp hp;subst e;exact⟨hoC,fC,nC,nF,λv z=>by rw[show oC.data=_ from z] at hdC;cases hdC⟩
 refine wpAny_assign_Name (qW KP hNN hiy hyy rv5 (λs6 I6=>?_) hyf);have p6:=I6.pin (C,oC) (ZK _ (ZK _ Zqs));refine⟨m,⟨oC,esC,epC,p6.1,hdC,hrC⟩,λh' hs'=>⟨_,H5,?_,q5⟩⟩;exact(I6.pins_of (Y':=Y) λp hp=>I6.pin p (ZK _ (ZY _ hp))).turned (t':=s6.toks) (it:=C) (λb o hb e=>(hs'.2 b hb).trans e) fC nC (.inr sz) cC pC
def ps_setComp (hsw:swapsWith (.ListComp elt [⟨tg,iter,[],0⟩] scope pos) (some (.Name y py)) spos.line X.env=pure true)(hNN:X.N.Nodup)(hiy:X.N[iy]? = some y)(hyy:Loc X.env.scope y)(hyf:X.fn y=true\/X.env.scope.names.lookup y=some .local)(N:Yk)(cap:List (Option Nat))(hc:X.calm=true)(okB:yK scope X.env N X.N cap=true)(hi:PI X tg iter wi)(hg:∀cl C s H ex,PG (zy X scope N cl C s H ex) tg g)(he:∀cl C s H ex,PE (zy X scope N cl C s H ex) elt te)
 (hs:autoParam (∀x,foldedSetIterable iter X.env x=pure x) zaw._auto_1):PS X (.Assign [.Name y py] (.ListComp elt [⟨tg,iter,[],0⟩] scope pos) spos) (cR (iO cap wi g te) (qI iy)):=by
 intro Y s Z H DD I h;rw[exec_Assign_Name_used _ _ _ _ hsw];refine Za (wpAny_standAt (Za ?_));refine Za (Zc (iP (use:=some (assign (.Name y py) X.env)) (R:=λ_ s'=>SP X Y DD .next s') N cap hc okB hi hg (λcl C s H ex _=>he cl C s H ex) hs I h (iB hNN hiy hyy hyf)) (λ_ s' hq=>Zb (Zb hq)) λ_ _ e=>e)
def ps_setCompIf (hsw:swapsWith (.ListComp elt [⟨tg,iter,[c],0⟩] scope pos) (some (.Name y py)) spos.line X.env=pure true)(hNN:X.N.Nodup)(hiy:X.N[iy]? = some y)(hyy:Loc X.env.scope y)(hyf:X.fn y=true\/X.env.scope.names.lookup y=some .local)(N:Yk)(cap:List (Option Nat))(hc:X.calm=true)(okB:yK scope X.env N X.N cap=true)(hi:PI X tg iter wi)(hg:∀cl C s H ex,PG (zy X scope N cl C s H ex) tg g)(ht:∀cl C s H ex,PT (zy X scope N cl C s H ex) c tt)(he:∀cl C s H ex,PE (zy X scope N cl C s H ex) elt te)
 (hs:autoParam (∀x,foldedSetIterable iter X.env x=pure x) zaw._auto_1):PS X (.Assign [.Name y py] (.ListComp elt [⟨tg,iter,[c],0⟩] scope pos) spos) (cR (ss cap wi g tt te) (qI iy)):=by
 intro Y s Z H DD I h;rw[exec_Assign_Name_used _ _ _ _ hsw];refine Za (wpAny_standAt (Za ?_));refine Za (Zc (oG (use:=some (assign (.Name y py) X.env)) (R:=λ_ s'=>SP X Y DD .next s') N cap hc okB hi hg ht he hs I h (iB hNN hiy hyy hyf)) (λ_ s' hq=>Zb (Zb hq)) λ_ _ e=>e)
end
end L2
namespace L2.DL
section
variable {X:Cx}{E:XK}{m:Option Bool}{tg iter elt c:Expr}{scope:Scope}{pos spos py:Pos}{y:Str}{iy:Nat}{t:Tg}{fi:FA}{fc:FT}{f:FE}
def ii {K:W.Frag}{te:TE}{i:Nat}{fe:FE}(w:∀Z H Q,tDN K E fe Z H Q->te Z H Q){T:Ends}{Z:St}{H:Hp}(h:tDS K E m (xo i fe) T Z H):cR te (qI i) T Z H:=w _ _ _ (by
 obtain⟨B,F,sd,r,n⟩:=h;refine⟨B,F,sd,r,(Res.need_bind n).mono (λd n1=>OkD.new λv F1 H1 e1 i1=>?_) λ_ _ q=>q.ext r.ext⟩;exact n1 _ F1 H1 e1.ff ((r.step e1).setVal i1))
def qj (N:Yk)(cap:List (Option Nat))(hNN:X.N.Nodup)(hiy:X.N[iy]? = some y)(hyy:Loc X.env.scope y)(hc:X.calm=true)(okB:yK scope X.env N X.N cap=true)(hi:QI X E tg iter fi)
 (hg:∀cl C s H ex,QG (zy X scope N cl C s H ex) tg t) (he:∀cl C s H ex,QE (zy X scope N cl C s H ex) E elt f) (hsw:autoParam (swapsWith (.ListComp elt [⟨tg,iter,[],0⟩] scope pos) (some (.Name y py)) spos.line X.env=pure true) zau._auto_1)
 (hyf:X.fn y=true\/X.env.scope.names.lookup y=some .local:=by trivial) (hs:∀x,foldedSetIterable iter X.env x=pure x:=by intro _;rfl):
 QS X E m (.Assign [.Name y py] (.ListComp elt [⟨tg,iter,[],0⟩] scope pos) spos) (xo iy (xt cap fi t f)):=by
 have hh:=ps_setComp (g:=gT t X.K) (te:=tD X.K E f) hsw hNN hiy hyy hyf N cap hc okB hi hg he hs;exact PS.weak hh λT Z H h=>ii (λ_ _ _ q=>qL q) h
def wI (N:Yk)(cap:List (Option Nat))(hNN:X.N.Nodup)(hiy:X.N[iy]? = some y)(hyy:Loc X.env.scope y)(hc:X.calm=true)(okB:yK scope X.env N X.N cap=true)(hi:QI X E tg iter fi)
 (hg:∀cl C s H ex,QG (zy X scope N cl C s H ex) tg t) (ht:∀cl C s H ex,QT (zy X scope N cl C s H ex) E c fc) (he:∀cl C s H ex,QE (zy X scope N cl C s H ex) E elt f) (hsw:autoParam (swapsWith (.ListComp elt [⟨tg,iter,[c],0⟩] scope pos) (some (.Name y py)) spos.line X.env=pure true) zau._auto_1)
 (hyf:X.fn y=true\/X.env.scope.names.lookup y=some .local:=by trivial) (hs:∀x,foldedSetIterable iter X.env x=pure x:=by intro _;rfl):
 QS X E m (.Assign [.Name y py] (.ListComp elt [⟨tg,iter,[c],0⟩] scope pos) spos) (xo iy (xU cap fi t fc f)):=by
 have hh:=ps_setCompIf (g:=gT t X.K) (tt:=tDT X.K E fc) (te:=tD X.K E f) hsw hNN hiy hyy hyf N cap hc okB hi hg ht he hs;exact PS.weak hh λT Z H h=>ii (λ_ _ _ q=>qi q) h
end
noncomputable def cK:Option (Option SV)->Res D
 |some (some (.val d))=>.ok d
 |_=>.no
@[simp]def slotV_val (d:D):cK (some (some (.val d)))=.ok d:=rfl
@[simp]def ev_var (i:Nat)(sd:SD):zf i sd=cK sd[i]?:= rfl
@[simp]def ev_C (d:D)(sd:SD):dC d sd=.ok d:=rfl
@[simp]def ev_op (g:D->D->YE)(fa fb:FE)(sd:SD):dOp g fa fb sd=(fa sd).bind λx=>(fb sd).bind λy=>.ofO (g x y):=rfl
@[simp]def ev_un (g:D->YE)(fa:FE)(sd:SD):dUn g fa sd=(fa sd).bind λx=>.ofO (g x):=rfl
noncomputable def bOf:D->Res Bool
 | .bl b=>.ok b
 |_=>.no
@[simp]def bOf_bl (b:Bool):bOf (.bl b)=.ok b:=rfl
@[simp]def ev_bool (fa:FE)(sd:SD):z4 fa sd=(fa sd).bind bOf:=by
 unfold z4;cases fa sd with
 |ok d=>cases d<;>rfl
 |ex c fs=>rfl
 |no=>rfl
@[simp]def ev_notT (f:FT)(sd:SD):uJ f sd=(f sd).bind λb=>.ok (!b):=rfl
@[simp]def ev_andT (f g:FT)(sd:SD):nv f g sd=(f sd).bind λb=>if b then g sd else .ok false:=rfl
@[simp]def ev_orT (f g:FT)(sd:SD):kR f g sd=(f sd).bind λb=>if b then .ok true else g sd:=rfl
@[simp]def ev_andV (fa fb:FE)(sd:SD):i7 fa fb sd=(z4 fa sd).bind λb=>if b then fb sd else .ok (.bl false):=rfl
@[simp]def ev_notV (fa:FE)(sd:SD):dG fa sd=(z4 fa sd).bind λb=>.ok (.bl !b):=rfl
@[simp]def ev_nil (sd:SD):zn sd=.ok []:=rfl
@[simp]def ev_cons (fa:FE)(fr:FA)(sd:SD):zb fa fr sd=(fa sd).bind λx=>(fr sd).bind λxs=>.ok (x::xs):=rfl
@[simp]def ev_lst (fr:FA)(sd:SD):uh fr sd=(fr sd).bind λxs=>if xs.length<=1000 then .ok (.lst xs) else .no:=rfl
@[simp]def ev_tup (fr:FA)(sd:SD):pM fr sd=(fr sd).bind λxs=>if xs.length<=1000 then .ok (.tup xs) else .no:=rfl
@[simp]def ev_call (Fn:YD->Res D)(fr:FA)(sd:SD):zq Fn fr sd=(fr sd).bind Fn:=rfl
@[simp]def ev_blt (g:YD->YE)(fr:FA)(sd:SD):xB g fr sd=(fr sd).bind λxs=>.ofO (g xs):=rfl
@[simp]def bare_ok {α:Type}(a:α):(Res.ok a).bare=.ok a:=rfl
@[simp]def ev_tmp (is:Yj)(f:FE)(sd:SD):gD is f sd=(f (tE is sd)).bare.bind λd=>if pI d then .ok d else .no:=rfl
@[simp]def ev_tmpT (is:Yj)(f:FT)(sd:SD):nY is f sd=(f (tE is sd)).bare:=rfl
@[simp]def scal_int (i:Int):pI (.int i)=true:=rfl
@[simp]def scal_bl (i:Bool):pI (.bl i)=true:=rfl
@[simp]def frzD_nil (sd:SD):tE [] sd=sd:=rfl
noncomputable def frz1 (i:Nat)(sd:SD):Option (Option SV)->SD
 |some (some (.own _ d))=>sd.set i (some (.val d))
 |_=>sd
@[simp]def frz1_own (i:Nat)(sd:SD)(p:Bool)(d:D):frz1 i sd (some (some (.own p d)))=sd.set i (some (.val d)):=rfl
@[simp]def frzD_cons (i:Nat)(is:Yj)(sd:SD):tE (i::is) sd=tE is (frz1 i sd sd[i]?):=by
 show tE is _=tE is _
 congr 1
noncomputable def kY (g:FS):Out->Res Out
 | .next sd=>g sd
 |o=>.ok o
@[simp]def seqK_next (g:FS)(sd:SD):kY g (.next sd)=g sd:=rfl
@[simp]def seqK_ret (g:FS)(d:D):kY g (.ret d)=.ok (.ret d):=rfl
@[simp]def seqK_brk (g:FS)(d:SD):kY g (.brk d)=.ok (.brk d):=rfl
@[simp]def ez (g1 g2:FS)(sd:SD):zK g1 g2 sd=(g1 sd).bind (kY g2):=by
 unfold zK;cases g1 sd with
 |ok o=>cases o<;>rfl
 |ex c fs=>rfl
 |no=>rfl
@[simp]def ev_next (sd:SD):yI sd=.ok (.next sd):=rfl
@[simp]def ev_brk (sd:SD):bH sd=.ok (.brk sd):=rfl
@[simp]def ev_set (i:Nat)(f:FE)(sd:SD):xo i f sd=(f sd).bind λd=>.ok (.next (sd.set i (some (.val d)))):=rfl
@[simp]def ev_own (i:Nat)(f:FE)(sd:SD):qJ i f sd=(f sd).bind λd=>.ok (.next (sd.set i (some (.own false d)))):=rfl
@[simp]def ev_ret (f:FE)(sd:SD):xG f sd=(f sd).bind λd=>.ok (.ret d):=rfl
noncomputable def b6:Option (Option SV)->Res D
 |some (some (.own _ d))=>.ok d
 |_=>.no
@[simp]def ownV_own (p:Bool)(d:D):b6 (some (some (.own p d)))=.ok d:=rfl
@[simp]def ev_retOwn (i:Nat)(sd:SD):yA i sd=(b6 sd[i]?).bind λd=>.ok (.ret d):=by
 unfold yA;cases sd[i]? with
 |none=>rfl
 |some o =>
  cases o with
  |none=>rfl
  |some v=>cases v<;>rfl
@[simp]def ev_drop (f:FE)(sd:SD):gz f sd=(f sd).bind λ_=>.ok (.next sd):=rfl
@[simp]def ev_ifS (c:FT)(g1 g2:FS)(sd:SD):sIf c g1 g2 sd=(c sd).bind λb=>if b then g1 sd else g2 sd:=rfl
noncomputable def dR:Option (Option SV)->Res YD
 |some (some (.own false (.lst ds)))=>.ok ds
 |_=>.no
@[simp]def ownL_own (ds:YD):dR (some (some (.own false (.lst ds))))=.ok ds:=rfl
@[simp]def ev_append (i:Nat)(f:FE)(sd:SD):zL i f sd=(dR sd[i]?).bind λds=>(f sd).bind λd=>if ds.length<sizeLine then .ok (.next (sd.set i (some (.own false (.lst (ds++[d])))))) else .no:=by
 unfold zL;cases sd[i]? with
 |none=>rfl
 |some o =>
  cases o with
  |none=>rfl
  |some v =>
   cases v with
   |val d=>rfl
   |own p d=>cases p<;>cases d<;>rfl
noncomputable def cL:D->Res YD
 | .lst es=>.ok es
 |_=>.no
@[simp]def lstOf_lst (es:YD):cL (.lst es)=.ok es:=rfl
@[simp]def ev_extend (i:Nat)(f:FE)(sd:SD):ur i f sd=(dR sd[i]?).bind λds=>(f sd).bind λd=>(cL d).bind λes=>if ds.length+es.length<=sizeLine then .ok (.next (sd.set i (some (.own false (.lst (ds++es)))))) else .no:=by
 unfold ur;cases sd[i]? with
 |none=>rfl
 |some o =>
  cases o with
  |none=>rfl
  |some v =>
   cases v with
   |val d=>rfl
   |own p d =>
    cases p with
    |true=>cases d<;>rfl
    |false =>
     cases d with
     |lst ds =>
      show(f sd).bind _=(f sd).bind _;cases f sd with
      |ok x=>cases x<;>rfl
      |ex c fs=>rfl
      |no=>rfl
     |_=>rfl
noncomputable def bA:Option (Option SV)->Res (List Key×YD)
 |some (some (.own false (.dct ks ds)))=>.ok (ks,ds)
 |_=>.no
@[simp]def ownK_own (ks:List Key)(ds:YD):bA (some (some (.own false (.dct ks ds))))=.ok (ks,ds):=rfl
@[simp]def ev_dput (i:Nat)(fk fv:FE)(sd:SD):iq i fk fv sd=(fv sd).bind λv=>(bA sd[i]?).bind λo=>(fk sd).bind λk=>(Res.ofO (wX k)).bind λq=>if o.1.length<sizeLine then .ok (.next (sd.set i (some (.own false (.dct (nT o.1 q) (k8 o.1 o.2 q v)))))) else .no:=by
 unfold iq;cases fv sd with
 |ok v =>
  show(match sd[i]? with
   |some (some (.own false (.dct ks ds)))=>_
   |_=>_)=(bA sd[i]?).bind _
  cases sd[i]? with
  |none=>rfl
  |some o =>
   cases o with
   |none=>rfl
   |some w =>
    cases w with
    |val d=>rfl
    |own p d =>
     cases p with
     |true=>cases d<;>rfl
     |false =>
      cases d with
      |dct ks ds =>
       show(fk sd).bind _=(fk sd).bind _;cases fk sd with
       |ok k=>show(match wX k with|some q=>_|none=>_)=(Res.ofO (wX k)).bind _;cases wX k<;>rfl
       |ex c fs=>rfl
       |no=>rfl
      |_=>rfl
 |ex c fs=>rfl
 |no=>rfl
noncomputable def fH:Out->Res D
 | .ret d=>.ok d
 | .next _=>.ok .non
 |_=>.no
@[simp]def outV_ret (d:D):fH (.ret d)=.ok d:=rfl
def dN (n ar:Nat)(g:FS)(ds:YD)(h:ds.length=ar):tf n ar g ds=(g (vc n ds)).bind fH:=by
 unfold tf;rw[Zd h];cases g (vc n ds) with
 |ok o=>cases o<;>rfl
 |ex c fs=>rfl
 |no=>rfl
noncomputable def hZ:Out->Res D
 | .ret d=>.ok d
 |_=>.no
@[simp]def outN_ret (d:D):hZ (.ret d)=.ok d:=rfl
def db (n ar:Nat)(g:FS)(ds:YD)(h:ds.length=ar):ut n ar g ds=(g (vc n ds)).bind hZ:=by
 unfold ut;rw[Zd h];cases g (vc n ds) with
 |ok o=>cases o<;>rfl
 |ex c fs=>rfl
 |no=>rfl
@[simp]def run_d1 (n:Nat)(g:FS)(a:D):tf n 1 g [a]=(g (some (.val a)::List.replicate (n-1) none)).bind fH:=dN n 1 g [a] rfl
@[simp]def run_d2 (n:Nat)(g:FS)(a b:D):tf n 2 g [a,b]=(g (some (.val a)::some (.val b)::List.replicate (n-2) none)).bind fH:=dN n 2 g [a,b] rfl
@[simp]def run_d3 (n:Nat)(g:FS)(a b c:D):tf n 3 g [a,b,c]=(g (some (.val a)::some (.val b)::some (.val c)::List.replicate (n-3) none)).bind fH:=dN n 3 g [a,b,c] rfl
@[simp]def run_n1 (n:Nat)(g:FS)(a:D):ut n 1 g [a]=(g (some (.val a)::List.replicate (n-1) none)).bind hZ:=db n 1 g [a] rfl
@[simp]def run_n2 (n:Nat)(g:FS)(a b:D):ut n 2 g [a,b]=(g (some (.val a)::some (.val b)::List.replicate (n-2) none)).bind hZ:=db n 2 g [a,b] rfl
@[simp]def run_n3 (n:Nat)(g:FS)(a b c:D):ut n 3 g [a,b,c]=(g (some (.val a)::some (.val b)::some (.val c)::List.replicate (n-3) none)).bind hZ:=db n 3 g [a,b,c] rfl
@[simp]def gAdd_int (i j:Int):ww (.int i) (.int j)=some (.int (i+j)):=rfl
@[simp]def gSub_int (i j:Int):dS (.int i) (.int j)=some (.int (i-j)):=rfl
@[simp]def gNeg_int (i:Int):cg (.int i)=some (.int (-i)):=rfl
@[simp]def gLt_int (i j:Int):gLt (.int i) (.int j)=some (.bl (decide (i<j))):=rfl
@[simp]def gGt_int (i j:Int):gGt (.int i) (.int j)=some (.bl (decide (j<i))):=rfl
@[simp]def gEq_int' (i j:Int):gEq (.int i) (.int j)=some (.bl (decide (i=j))):=gEq_int i j
@[simp]def gNe_int' (i j:Int):gNe (.int i) (.int j)=some (.bl (!decide (i=j))):=gNe_int i j
def pB (h:tU i j=true):cy (.int i) (.int j)=some (.int (i*j)):=by
 show(if tU i j then _ else _)=_;rw[Zd h]
def nS (h1: -18446744073709551616<j)(h2:j<18446744073709551616):tU i j=true:=by
 unfold tU;rw[X6,X6,Nat.blt_eq,Nat.blt_eq];exact .inl ()
@[simp]def mE (h:0<j):r9 (.int i) (.int j)=some (.int (i % j)):=by
 show(if Nat.blt 0 j.toNat then _ else _)=_;rw[Zd (by rw[Nat.blt_eq];omega)]
@[simp]def gFdiv_ok (h:0<j)(h2:j<1073741824):sh (.int i) (.int j)=some (.int (i / j)):=by
 show(if Nat.blt 0 j.toNat&&Nat.blt j.toNat 1073741824 then _ else _)=_;rw[Zd (by rw[ZQ,Nat.blt_eq,Nat.blt_eq];omega)]
@[simp]def gLen_lst (ds:YD):mH [.lst ds]=some (.int ds.length):=rfl
@[simp]def gLen_scr (ns:Yh):mH [.scr ns]=some (.int ns.length):=rfl
@[simp]def gMax2_int (i j:Int):jT [.int i,.int j]=some (.int (if j > i then j else i)):=rfl
@[simp]def gMin2_int (i j:Int):gS [.int i,.int j]=some (.int (if j<i then j else i)):=rfl
@[simp]def gTuple_lst (ds:YD):wZ [.lst ds]=some (.tup ds):=rfl
@[simp]def gIx_lst (ds:YD)(k:Int):gIx (.lst ds) (.int k)=atI ds k:=rfl
@[simp]def gIx_tup (ds:YD)(k:Int):gIx (.tup ds) (.int k)=atI ds k:=rfl
@[simp]def gIx_scr (ns:Yh)(k:Int):gIx (.scr ns) (.int k)=(atI ns k).map .int:=rfl
@[simp]def gIx_dct (ks:List Key)(ds:YD)(k:Int):gIx (.dct ks ds) (.int k)=t9 ks ds (.inl k):=rfl
@[simp]def gIn_dct (neg:Bool)(ks:List Key)(ds:YD)(k:Int):gIn neg (.int k) (.dct ks ds)=some (.bl (if neg then !(t9 ks ds (.inl k)).isSome else(t9 ks ds (.inl k)).isSome)):=rfl
@[simp]def keyOf_int (k:Int):wX (.int k)=some (.inl k):=rfl
@[simp]def vU (h:r.length<=100)(o:yE r):rH [rwD r]=some (dcR r):=by
 unfold rH;show(vI (rwD r)).bind _=_;rw[t5];show(if r.length<=100 then some (dcR (kN r)) else none)=_;rw[Zd h,dictT_once o]
def qv (h:ns ≠ []):mf [.lst (ns.map .int)]=some (.int (uZ ns)):=by
 unfold mf;show(uP _).bind _=_;rw[ul];show(if ns=[] then none else some (D.int (uZ ns)))=_;rw[Ze h]
def gMinL_ints (h:ns ≠ []):j8 [.lst (ns.map .int)]=some (.int (kT ns)):=by
 unfold j8;show(uP _).bind _=_;rw[ul];show(if ns=[] then none else some (D.int (kT ns)))=_;rw[Ze h]
theorem ub:∀{r:X8},yE r->∀t:Int,t9 (r.map λp=>.inl p.1) (r.map λp=>.int p.2) (.inl t)=(zk r t).map .int
 | [],_,t=>rfl
 |p::r,o,t=>by
  have o':yE r:=by unfold yE at o ⊢;rw[Zl,List.nodup_cons] at o;exact o.2
  have n:p.1∉r.map (·.1):=by unfold yE at o;rw[Zl,List.nodup_cons] at o;exact o.1
  rw[Zl,Zl];rw[nh];rw[xg];by_cases h:p.1=t
  .rw[Zd (by rw[h])];cases q:zk r t with
   |none=>rw[Zd h];rfl
   |some w=>exact Zn (ZE.mpr ⟨(t,w),zx q,h.symm⟩) n
  .rw[Ze (λz=>h (by injection z)),ub o' t];cases zk r t with
   |none=>rw[Ze h]
   |some w=>rfl
noncomputable def c8:D->Res (List Key×YD)
 | .dct ks ds=>.ok (ks,ds)
 |_=>.no
@[simp]def dctOf_dct (ks:List Key)(ds:YD):c8 (.dct ks ds)=.ok (ks,ds):=rfl
@[simp]def ev_get2 (fo fk fx:FE)(sd:SD):gu fo fk fx sd=(fo sd).bind λd=>(c8 d).bind λo=>(fk sd).bind λk=>(fx sd).bind λx=>.ofO ((wX k).map λq=>(t9 o.1 o.2 q).getD x):=by
 unfold gu;cases fo sd with
 |ok d=>cases d<;>rfl
 |ex c fs=>rfl
 |no=>rfl
def hasK_dcR (r:X8)(t:Int):dQ (.inl t) (r.map λp=>.inl p.1)=r.any λp=>decide (p.1=t):=by
 unfold dQ;rw[List.any_map]
 congr 1
 funext p
 exact jd
def put_dcR (r:X8)(t w:Int):D.dct (nT (r.map λp=>.inl p.1) (.inl t)) (k8 (r.map λp=>.inl p.1) (r.map λp=>.int p.2) (.inl t) (.int w))=dcR (pL r t w):=by
 unfold nT k8 dcR pL;rw[hasK_dcR];have ch:∀r:X8,dY (r.map λp=>.inl p.1) (r.map λp=>.int p.2) (.inl t) (.int w)=(r.map λp=>if p.1=t then(p.1,w) else p).map λp=>D.int p.2:=by
  intro r
  induction r with
  |nil=>rfl
  |cons p r ih =>
   rw[Zl,Zl,Zl,Zl];rw[oQ];rw[ih];by_cases h:p.1=t
   .rw[Zd (by rw[h]),Zd h]
   .rw[Ze (λz=>h (by injection z)),Ze h]
 have ck:∀r:X8,(r.map λp=>if p.1=t then(p.1,w) else p).map (λp=>(Sum.inl p.1:Key))=r.map λp=>.inl p.1:=by
  intro r;rw[Zw]
  congr 1
  funext p
  show(Sum.inl (if p.1=t then(p.1,w) else p).1:Key)=_;by_cases h:p.1=t
  .rw[Zd h]
  .rw[Ze h]
 by_cases q:(r.any λp=>decide (p.1=t))=true
 .rw[Zd q,Zd q,Zd q,ch,ck]
 .rw[Ze q,Ze q,Ze q,ZR,ZR];rfl
@[simp]def ev_sortItems (fo:FE)(sd:SD):uF fo sd=(fo sd).bind λd=>.ofO (uB d):=rfl
def gSortItems_dcR (h:r ≠ [])(hl:r.length<1000):uB (dcR r)=some (.lst ((zY wH r).map prD)):=by
 show(vx _ _).bind _=_;rw[pairsOf_dcR];exact Zd ⟨h,hl⟩
@[simp]def ev_iS (f:FE)(sd:SD):iS f sd=(f sd).bind λd=>.ofO (nW d):=rfl
@[simp]def walkS_lst (ds:YD):nW (.lst ds)=some ds:=rfl
@[simp]def walkS_tup (ds:YD):nW (.tup ds)=some ds:=rfl
def wM:YD->Res YD
 | [.int j]=>if kE j then .ok (yc 0 j.toNat) else .no
 |_=>.no
@[simp]def ev_iR1 (fr:FA)(sd:SD):iR1 fr sd=(fr sd).bind wM:=by
 unfold iR1;cases fr sd with
 |ok ds=>show(match ds with|[.int j]=>_|_=>_)=wM ds;unfold wM;rfl
 |ex c fs=>rfl
 |no=>rfl
def xc (h1: -1000000000<=j)(h2:j<=1000000000):wM [.int j]=.ok (yc 0 j.toNat):=Zd (rngOk_in h1 h2)
def vQ {lo:Int}{n i:Nat}{x:D}(h:(yc lo n)[i]? = some x):x=.int (lo+i)/\i<n:=by
 unfold yc at h;rw[Zv] at h;by_cases hi:i<n
 .rw[List.getElem?_range hi] at h;exact⟨(Zqi h).symm,hi⟩
 .rw[List.getElem?_eq_none (by rw[ZA];omega)] at h;exact zqn h
def xY (lo:Int)(n:Nat):(yc lo n).length=n:=by unfold yc;rw[Zql,ZA]
def kU (tg:Tg)(b:FS)(ds:YD)(sd:SD):Res Out:=gg (λx sd=>(yD tg x sd).bind b) ds sd
@[simp]def ev_for (it:FA)(tg:Tg)(b:FS)(sd:SD):tj it tg b sd=(it sd).bind λds=>kU tg b ds sd:=rfl
@[simp]def bindT_one (i:Nat)(d:D)(sd:SD):yD (.one i) d sd=.ok (sd.set i (some (.val d))):=rfl
@[simp]def bindT_two (i j:Nat)(a b:D)(sd:SD):yD (.tup [i,j]) (.tup [a,b]) sd=.ok ((sd.set i (some (.val a))).set j (some (.val b))):=rfl
@[simp]def bindT_pair (i j:Nat)(p:Int×Int)(sd:SD):yD (.tup [i,j]) (prD p) sd=.ok ((sd.set i (some (.val (.int p.1)))).set j (some (.val (.int p.2)))):=rfl
def yG (P:Nat->SD->Prop)(h0:P 0 sd)(hs:∀(i:Nat) (x:D) (sd:SD),ds[i]? = some x->P i sd->∃sd',(yD tg x sd).bind b=.ok (.next sd')/\P (i+1) sd'):∃sd',kU tg b ds sd=.ok (.next sd')/\P ds.length sd':=by
 have key:∀(k i:Nat) (sd:SD),ds.length-i=k->i<=ds.length->P i sd->∃sd',kU tg b (ds.drop i) sd=.ok (.next sd')/\P ds.length sd':=by
  intro k
  induction k with
  |zero =>
   intro i sd e hi p;have:i=ds.length:=()
   subst this;rw[XM];exact⟨sd,rfl,p⟩
  |succ k ih =>
   intro i sd e hi p;have hlt:i<ds.length:=()
   rw[ZU hlt];refine zc1b (hs i ds[i] sd (Zqg hlt) p) λsd' h1 h2=>?_;refine zc1b (ih (i+1) sd' () hlt h2) λsd2 h3 h4=>?_;refine⟨sd2,?_,h4⟩;unfold kU gg;rw[h1];exact h3
 have:=key ds.length 0 sd () (Nat.zero_le _) h0
 rwa [List.drop_zero] at this
def tu (R:Res Out->Prop)(P:Nat->SD->Prop)(h0:P 0 sd)(he:∀sd,P ds.length sd->R (.ok (.next sd)))
 (hs:∀(i:Nat) (x:D) (sd:SD),ds[i]? = some x->P i sd->(∃sd',((yD tg x sd).bind b=.ok (.next sd')\/(yD tg x sd).bind b=.ok (.cont sd'))/\P (i+1) sd')\/(∃sd',(yD tg x sd).bind b=.ok (.brk sd')/\R (.ok (.next sd')))\/∃d,(yD tg x sd).bind b=.ok (.ret d)/\R (.ok (.ret d))):R (kU tg b ds sd):=by
 have key:∀(k i:Nat) (sd:SD),ds.length-i=k->i<=ds.length->P i sd->R (kU tg b (ds.drop i) sd):=by
  intro k
  induction k with
  |zero =>
   intro i sd e hi p;have:i=ds.length:=()
   subst this;rw[XM];exact he sd p
  |succ k ih =>
   intro i sd e hi p;have hlt:i<ds.length:=()
   rw[ZU hlt];unfold kU gg;rcases hs i ds[i] sd (Zqg hlt) p with ⟨sd',h1|h1,h2⟩|⟨sd',h1,h2⟩|⟨d,h1,h2⟩
   .rw[h1];exact ih (i+1) sd' () hlt h2
   .rw[h1];exact ih (i+1) sd' () hlt h2
   .rw[h1];exact h2
   .rw[h1];exact h2
 have:=key ds.length 0 sd () (Nat.zero_le _) h0
 rwa [List.drop_zero] at this
def mS {α β γ: Type}{f:α -> Res β}{k:γ -> α}{g:γ -> β}{xs:List γ}(h:∀x∈xs,f (k x)=.ok (g x)):gQ f (xs.map k)=.ok (xs.map g):=by
 induction xs with
 |nil=>rfl
 |cons x xs ih =>
  rw[Zl];unfold gQ;rw[h x Zqs,ih λy hy=>h y (Zqm _ hy)];rfl
def sB (tg:Tg)(f:FE)(c:SD)(ds:YD):Res YD:=gQ (λx=>(yD tg x c).bind f) ds
@[simp]def ev_comp (cap:List (Option Nat))(it:FA)(tg:Tg)(f:FE)(sd:SD):xt cap it tg f sd=(it sd).bind λds=>if sJ (r8 cap sd) tg=true/\ds.length<sizeLine then(sB tg f (r8 cap sd) ds).bind λys=>.ok (.lst ys) else .no:=rfl
noncomputable def bQ:Option (Option SV)->Option SV
 |some (some (.val d))=>some (.val d)
 |_=>none
@[simp]def capV_val (d:D):bQ (some (some (.val d)))=some (.val d):=rfl
@[simp]def capD_nil (sd:SD):r8 [] sd=[]:=rfl
@[simp]def capD_n (cap:List (Option Nat))(sd:SD):r8 (none::cap) sd=none::r8 cap sd:=rfl
@[simp]def capD_s (j:Nat)(cap:List (Option Nat))(sd:SD):r8 (some j::cap) sd=bQ sd[j]? :: r8 cap sd:=rfl
@[simp]def tgNone_one (sd:SD)(i:Nat):sJ sd (.one i)=vM sd i:=rfl
@[simp]def tgNone_tup (sd:SD)(is:Yj):sJ sd (.tup is)=is.all (vM sd):=rfl
@[simp]def noneAt_0 (sd:SD):vM (none::sd) 0=true:=rfl
@[simp]def noneAt_s (o:Option SV)(sd:SD)(i:Nat):vM (o::sd) (i+1)=vM sd i:=rfl
def xf {α:Type}{k:α -> D}{g:α -> D}{xs:List α}(h:∀x∈xs,(yD tg (k x) c).bind f=.ok (g x)):sB tg f c (xs.map k)=.ok (xs.map g):=mS h
def rL {tg:Tg}{f:FE}{c:SD}{lo:Int}{n:Nat}{g:Nat->D}(h:∀i,i<n->(yD tg (.int (lo+i)) c).bind f=.ok (g i)):sB tg f c (yc lo n)=.ok ((List.range n).map g):=mS λi hi=>h i (Xc.mp hi)
@[simp]def ev_compIf (cap:List (Option Nat))(it:FA)(tg:Tg)(c:FT)(f:FE)(sd:SD):xU cap it tg c f sd=(it sd).bind λds=>if sJ (r8 cap sd) tg=true/\ds.length<sizeLine then(uf tg c f (r8 cap sd) ds).bind λys=>.ok (.lst ys) else .no:=rfl
def vJ {α:Type}{k:α -> D}{s:α -> SD}{p:α -> Bool}{g:α -> D}{xs:List α}(h1:∀x∈xs,yD tg (k x) sd=.ok (s x))(h2:∀x∈xs,c (s x)=.ok (p x))(h3:∀x∈xs,p x=true->f (s x)=.ok (g x)):
 uf tg c f sd (xs.map k)=.ok ((xs.filter p).map g):=by
 induction xs with
 |nil=>rfl
 |cons x xs ih =>
  have ih:=ih (λy hy=>h1 y (Zqm _ hy)) (λy hy=>h2 y (Zqm _ hy)) (λy hy=>h3 y (Zqm _ hy));rw[Zl,List.filter_cons];unfold uf;rw[h1 x Zqs,Res.bind_ok,h2 x Zqs,Res.bind_ok];cases q:p x with
  |true =>
   rw[Zd rfl,Zd rfl,h3 x Zqs q,Res.bind_ok,ih];rfl
  |false =>
   rw[Ze (by simp),Ze (by simp),ih]
def zu (h:n<=1000):n<sizeLine:=nt h
@[simp]def isi_int_bool (i:Int):kX [.int i,.ty "bool"]=some (.bl false):=rfl
@[simp]def isi_int_int (i:Int):kX [.int i,.ty "int"]=some (.bl true):=rfl
noncomputable def zW {α:Type}(xs:List α)(lo hi st:Option Int):List α:= (sliceRange (sliceBounds lo hi st xs.length).1 (sliceBounds lo hi st xs.length).2.1 (sliceBounds lo hi st xs.length).2.2).filterMap (xs[·]?)
def l9 (its:Yf)(lo hi st:Option Int):slicePick its.toArray lo hi st=(zW its lo hi st).toArray:=by
 unfold slicePick zW;rw[Zm]
 congr 2
 funext i
 simp
def pick_vals {xs:YB}{its:Yf}(r:yi xs its)(lo hi st:Option Int):yi (zW xs lo hi st) (zW its lo hi st):=by
 unfold zW;rw[r.length];generalize sliceRange _ _ _=ix
 induction ix with
 |nil=>exact .nil
 |cons i ix ih =>
  rw[Z2,Z2];cases hx:xs[i]? with
  |none=>rw[r.none_of hx];exact ih
  |some x =>
   refine zc1b (r.get hx) λu hu ru=>?_;rw[hu];exact .cons ru ih
def pick_is {K:W.Frag}{H:Hp}{ds:YD}{xs:YB}(r:zo K H ds xs)(lo hi st:Option Int):zo K H (zW ds lo hi st) (zW xs lo hi st):=by
 unfold zW;rw[r.length];generalize sliceRange _ _ _=ix
 induction ix with
 |nil=>exact .nil
 |cons i ix ih =>
  rw[Z2,Z2];cases hx:ds[i]? with
  |none =>
   have hn:xs[i]? = none:=XV.mpr (by rw[r.length];exact XV.mp hx);rw[hn];exact ih
  |some x =>
   refine zc1b (r.get hx) λu hu ru=>?_;rw[hu];exact .mk ru ih
def pJ {α β: Type}(f:α -> β)(xs:List α)(lo hi st:Option Int):zW (xs.map f) lo hi st=(zW xs lo hi st).map f:=by
 unfold zW;rw[Zql];generalize sliceRange _ _ _=ix
 induction ix with
 |nil=>rfl
 |cons i ix ih =>
  rw[Z2,Z2,Zv];cases xs[i]? with
  |none=>exact ih
  |some x=>show f x::_=_;rw[ih];rfl
def tq {α:Type}{xs:List α}{lo hi st:Option Int}{x:α}(h:x∈zW xs lo hi st):x∈xs:=by
 unfold zW at h;refine zc1b (XI.mp h) λi _ hi=>?_;exact ZP hi
def p7 {α:Type}(xs:List α)(lo hi st:Option Int):(zW xs lo hi st).length<=xs.length:=by
 have h:=slicePick_size_le (xs.map λ_=>Value.none).toArray lo hi st;rw[l9,Zm,Zm,pJ,Zql,Zql] at h;exact h
section
variable {X:Cx}{E:XK}{m:Option Bool}{a b o i e f tg:Expr}{fa fb fo fi fv fe:FE}{fr:FA}{pos pos' apos cpos p p2:Pos}{lo hi st:Option Expr}
abbrev FO:=SD->Res (Option Int)
def tDO (K:W.Frag)(E:XK)(f:FO):TO:=λZ H Q=>∃B F sd,RS K B F H sd Z /\ (f sd).need (λo=>∀F' H',Ext F H F' H'->Q o H') (XW K E F H)
noncomputable def yM:FO:=λ_=>.ok none
def v9 (f:FE):FO:=λsd=>(f sd).bind λd=>match d with
 | .int i=>.ok (some i)
 |_=>.no
abbrev QO (X:Cx)(E:XK)(e:Option Expr)(f:FO):Prop:=PO X e (tDO X.K E f)
def PO.weak {e:Option Expr}{t t':TO}(h:PO X e t)(w:∀Z H Q,t' Z H Q->t Z H Q):PO X e t':=λY s Z H Q I q=>h Y s Z H Q I (w _ _ _ q)
def wv:QO X E none yM:=PO.weak po_none (by rintro Z H Q ⟨B,F,sd,r,n⟩;exact n F H (.refl r.ext.fh))
def wN (h:QE X E e fe):QO X E (some e) (v9 fe):=PO.weak (po_some h) λZ H Q zh=>by
 refine zc3b zh λB F sd r n=>?_;refine⟨B,F,sd,r,(Res.need_bind n).mono (λd n1 v F1 H1 e1 i1=>?_) λ_ _ q=>q⟩;cases d with
 |int i=>exact⟨i,IsD.int_iff.mp i1,n1 F1 H1 e1⟩
 |_=>exact n1.elim
def rSl3 (K:W.Frag):V->Option Int->Option Int->Option Int->Hp->VK->Prop:=λx lo hi st H Q=>∃a xs,x=.ref a/\SqL K H a xs/\st≠some 0/\∀p,H p=none->Q (.ref p) (upd H p (.lst (zW xs lo hi st)))
noncomputable def tSl3 (r:V->Option Int->Option Int->Option Int->Hp->VK->Prop)(te:TE)(tl th ts:TO):TE:=λZ H Q=>te Z H λx H1=>tl Z H1 λl H2=>th Z H2 λu H3=>ts Z H3 λc H4=>r x l u c H4 Q
def pe_slice3 {te:TE}{tl th ts:TO}(he:PE X e te)(hl:PO X lo tl)(hu:PO X hi th)(hs:PO X st ts):PE X (.Subscript e (.Slice lo hi st p2) pos) (tSl3 (rSl3 X.K) te tl th ts):=by
 intro Y s Z H Q I h;refine Subscript_ (thn (he Y s Z H _ I h) λv s1 zh=>?_);refine zc2c zh λx H1 I1 r1 q1=>?_;refine wpAny_Slice (thn (hl Y s1 Z H1 _ I1 q1) λvl s2 ⟨l,H2,I2,pl,q2⟩=>thn (hu Y s2 Z H2 _ I2 q2) λvu s3 ⟨u,H3,I3,pu,q3⟩=>thn (hs Y s3 Z H3 _ I3 q3) λvs s4 zh=>?_);refine zc2c zh λc H4 I4 ps q4=>?_;refine zc2d q4 λa xs zr2 hx h0 q=>?_;subst zr2;obtain rfl:v=Value.ref a:=r1;have I5:Inv X Y Z H4 { s4 with heap:=s4.heap.push { cls:=.type "slice",data:=.fields #[vl,vu,vs] } }:=I4.kept (t':=s4.toks) λb ob q=>Zq _ q;refine zc1c (I5.list hx) λits r ht hz=>?_;have hlen:=r.length;show YF X (subscriptTail e (.Slice lo hi st p2) (.ref a) (.ref s4.heap.objs.size)) (EP X Y Z Q) X.xe { s4 with heap:=s4.heap.push { cls:=.type "slice",data:=.fields #[vl,vu,vs] } }
 suffices fin:YF X (getItem (.ref a) (.ref s4.heap.objs.size)) (EP X Y Z Q) X.xe { s4 with heap:=s4.heap.push { cls:=.type "slice",data:=.fields #[vl,vu,vs] } } by
  cases st with
  |none=>exact tail_any (ops:=[.ref s4.heap.objs.size,.ref a]) ht.isList.typeIs slot_list_getitem.lookup fin (by with_unfolding_all rfl)
  |some c=>exact tail_any (ops:=[.ref a,.ref s4.heap.objs.size]) ht.isList.typeIs slot_list_getitem.lookup fin (by with_unfolding_all rfl)
 refine wpAny_getItem_list_slice ht.isList (Heap.IsSliceOf.new ..) pl pu ps h0 ?_ (by rw[Zm]<;>omega);rw[l9];refine⟨.ref _,_,I5.laid (t':=s4.toks) (o:=.lst (zW xs l u c)) (λb ob q=>Zq _ q) (Zf _) ?_,rfl,q _ (I5.hok.fresh (Zf _))⟩;exact⟨Zh (p7 xs l u c) hz,_,0,pick_vals r l u c,Zr _ rfl⟩
def gSl:D->Option Int->Option Int->Option Int->YE
 | .lst ds,lo,hi,st=>if st=some 0 then none else some (.lst (zW ds lo hi st))
 | .scr ns,lo,hi,st=>if st=some 0 then none else some (.lst ((zW ns lo hi st).map .int))
 |_,_,_,_=>none
def dSl (fe:FE)(fl fh fs:FO):FE:=λsd=>(fe sd).bind λd=>(fl sd).bind λl=>(fh sd).bind λh=>(fs sd).bind λc=>.ofO (gSl d l h c)
def sv {fl fh fs:FO}(he:QE X E e fe)(hl:QO X E lo fl)(hu:QO X E hi fh)(hs:QO X E st fs):QN X E (.Subscript e (.Slice lo hi st p2) pos) (dSl fe fl fh fs):=PE.weak (pe_slice3 he hl hu hs) λZ H Q zh=>by
 refine zc3b zh λB F sd r n=>?_;refine⟨B,F,sd,r,(Res.need_bind n).mono (λd n1 v F1 H1 e1 i1=>?_) λ_ _ q=>q⟩;refine⟨B,F1,sd,r.step e1,(Res.need_bind n1).mono (λl n2 F2 H2 e2=>?_) λ_ _ q=>q.ext e1⟩;refine⟨B,F2,sd,(r.step e1).step e2,(Res.need_bind n2).mono (λh n3 F3 H3 e3=>?_) λ_ _ q=>q.ext (e1.trans e2)⟩;refine⟨B,F3,sd,((r.step e1).step e2).step e3,(Res.need_bind n3).mono (λc n4 F4 H4 e4=>?_) λ_ _ q=>q.ext ((e1.trans e2).trans e3)⟩;refine zc1b (Res.need_ofO n4) λz hz q=>?_;have e14:=((e2.trans e3).trans e4);have eA:=e1.trans e14;cases d with
 |lst ds =>
  have hz:(if c=some 0 then none else some (D.lst (zW ds l h c)))=some z:=hz
  split at hz
  .exact zqn hz
  .rename_i h0;obtain rfl:=Zqi hz;rw[IsD.lst_iff] at i1;refine zc2c i1 λa xs zr2 h1 h2=>?_;subst zr2;exact⟨a,xs,rfl,((h1.same e14.ff).same e14.fh).sq,h0,λp hp=>q p F4 _ (eA.trans (.keep e4.fh hp _)) (zF eA.hh hp) (zF e4.fh hp) ⟨_,zv,pick_is (zo.same e14.ff _ _ h2) l h c⟩⟩
 |scr ns =>
  have hz:(if c=some 0 then none else some (D.lst ((zW ns l h c).map .int)))=some z:=hz
  split at hz
  .exact zqn hz
  .rename_i h0;obtain rfl:=Zqi hz;rw[IsD.scr_iff] at i1;refine zc1b i1 λa zr1 h1=>?_;subst zr1;refine⟨a,_,rfl,yB.seq e14.fh (yB.seq e14.ff h1),h0,λp hp=>q p F4 _ (eA.trans (.keep e4.fh hp _)) (zF eA.hh hp) (zF e4.fh hp) ⟨_,zv,?_⟩⟩;rw[pJ];exact zo.ints _
 |_=>exact zqn hz
@[simp]def ev_sl (fe:FE)(fl fh fs:FO)(sd:SD):dSl fe fl fh fs sd=(fe sd).bind λd=>(fl sd).bind λl=>(fh sd).bind λh=>(fs sd).bind λc=>.ofO (gSl d l h c):=rfl
@[simp]def ev_noPart (sd:SD):yM sd=.ok none:=rfl
noncomputable def jB:D->Res (Option Int)
 | .int i=>.ok (some i)
 |_=>.no
@[simp]def partOf_int (i:Int):jB (.int i)=.ok (some i):=rfl
@[simp]def ev_part (f:FE)(sd:SD):v9 f sd=(f sd).bind jB:=by
 unfold v9;cases f sd with
 |ok d=>cases d<;>rfl
 |ex c fs=>rfl
 |no=>rfl
@[simp]def gSl_lst0 (ds:YD)(lo hi:Option Int):gSl (.lst ds) lo hi none=some (.lst (zW ds lo hi none)):=rfl
def gSl_lst {ds:YD}{lo hi:Option Int}{c:Int}(h:c≠0):gSl (.lst ds) lo hi (some c)=some (.lst (zW ds lo hi (some c))):=Ze λz=>h (Zqi z)
def gSl_scr {ds:Yh}{lo hi:Option Int}{c:Int}(h:c≠0):gSl (.scr ds) lo hi (some c)=some (.lst ((zW ds lo hi (some c)).map .int)):=Ze λz=>h (Zqi z)
def gA (i:Nat)(fk fv:FE):FS:=λsd=>(fv sd).bind λv=>match sd[i]? with
 |some (some (.own false (.lst ds)))=>(fk sd).bind λk=>match k with
  | .int k=>match ixN ds.length k with
   |some j=>.ok (.next (sd.set i (some (.own false (.lst (ds.set j v))))))
   |none=>.no
  |_=>.no
 |_=>.no
def qs_lput {j:Nat}(ho:PE X o (gN j))(hi:QE X E i fi)(hv:QE X E e fv)(ha:∀v,assign (.Subscript o i pos') X.env v=(do
 let ov <- holding [v] (eval o X.env)
 let iv <- holding [v,ov] (eval i X.env)
 standAt pos'
 holding [v,ov,iv] (setItem ov iv v)
 release [v,ov,iv] []):=by intro _;rfl) (hs:swapsWithSole [.Subscript o i pos'] e pos.line X.env=pure false:=by rfl) (hw:swappedStores [.Subscript o i pos'] e X.env=pure none:=by rfl)
 (h1:autoParam ((assignEach [.Subscript o i pos'] X.env).map (·.2)=[assign (.Subscript o i pos') X.env]) zau._auto_1):QS X E m (.Assign [.Subscript o i pos'] e pos) (gA j fi fv):=PS.weak (ps_asg hv (pg_sub ho hi set_list ha) hs hw h1) λT Z H zh=>by
 refine zc3b zh λB F sd r n=>?_;refine⟨B,F,sd,r,(Res.need_bind n).mono (λd n1 v F1 H1 e1 i1=>?_) λ_ _ q=>q.ext r.ext⟩
 split at n1
 .rename_i ds hj;refine zc1e ((r.step e1).own hj) λl h1 h2 h3 zr4 _=>?_;obtain⟨xs,h4,h5⟩:=zr4;refine⟨.ref l,h1,B,F1,sd,r.step e1,(Res.need_bind n1).mono (λk n2 w F2 H2 e2 i2=>?_) λ_ _ q=>q.ext (r.step e1).ext⟩
  split at n2
  .rename_i k
   split at n2
   .rename_i q hk;have hH:=e2.hh _ _ h4;have hl:=h5.length;refine⟨l,xs,k,q,rfl,IsD.int_iff.mp i2,hH,by rw[hl];exact hk,?_⟩;exact n2 Z F2 _ (e1.ff.trans e2.ff) (((r.step e1).step e2).chg hj h1 ⟨_,zv,(zo.same e2.ff _ _ h5).set q (IsD.same e2.ff _ _ i1)⟩)
   .exact n2.elim
  .exact n2.elim
 .exact n1.elim
@[simp]def ev_lput (i:Nat)(fk fv:FE)(sd:SD):gA i fk fv sd=(fv sd).bind λv=>(dR sd[i]?).bind λds=>(fk sd).bind λk=>(jB k).bind λk=>(Res.ofO (ixN ds.length (k.getD 0))).bind λj=>.ok (.next (sd.set i (some (.own false (.lst (ds.set j v)))))):=by
 unfold gA;cases fv sd with
 |ok v =>
  show(match sd[i]? with
   |some (some (.own false (.lst ds)))=>_
   |_=>_)=(dR sd[i]?).bind _
  cases sd[i]? with
  |none=>rfl
  |some o =>
   cases o with
   |none=>rfl
   |some w =>
    cases w with
    |val d=>rfl
    |own p d =>
     cases p with
     |true=>cases d<;>rfl
     |false =>
      cases d with
      |lst ds =>
       show(fk sd).bind _=(fk sd).bind _;cases fk sd with
       |ok k =>
        cases k with
        |int k=>show(match ixN ds.length k with|some j=>_|none=>_)=(Res.ofO (ixN ds.length k)).bind _;cases ixN ds.length k<;>rfl
        |_=>rfl
       |ex c fs=>rfl
       |no=>rfl
      |_=>rfl
 |ex c fs=>rfl
 |no=>rfl
@[simp]def ev_ixOwn (i:Nat)(fb:FE)(sd:SD):qD i fb sd=(b6 sd[i]?).bind λd=>(fb sd).bind λy=>.ofO (gIx d y):=by
 unfold qD;cases sd[i]? with
 |none=>rfl
 |some o =>
  cases o with
  |none=>rfl
  |some v=>cases v<;>rfl
@[simp]def gIsN_non (neg:Bool):cD neg .non=some (.bl (!neg)):=rfl
@[simp]def gIsN_int (neg:Bool)(i:Int):cD neg (.int i)=some (.bl neg):=rfl
def xA:YD->YE
 | [.lst ds]=>(xH vI ds).bind λrs=>if(∀r∈rs,r ≠ [])/\rs.length<1000 then some (.lst ((zY yF rs).map rwD)) else none
 |_=>none
def rP (hu:X.A.units+64<cLine):zD X (.builtin "sorted") (cG X.K xA):=zD.weak (call_sortedRows hu) λxs H Q zh=>by
 refine zc3a zh λF ds z zz=>pR zz λsF id hz q=>?_;unfold xA at hz
 split at hz
 .refine zc1b (Option.bind_eq_some_iff.mp hz) λrs h1 hz=>?_
  split at hz
  .rename_i hc;obtain rfl:=Zqi hz;refine zc1b (wB id) λv zr1 h=>?_;subst zr1;rw[uG h1,IsD.lst_iff] at h;refine zc2c h λa ys zr2 g1 g2=>?_;subst zr2;refine⟨a,ys,rs,rfl,g1.same sF,wY.mp (zo.same sF _ _ g2),hc.1,hc.2,λl ix hl hix he=>?_⟩;have hk:H l=none:=hl;refine q l F _ (.keep sF hl _) hl (zF sF hl) ⟨_,zv,?_⟩;rw[<- he,Zw];have hy:=g2.length;rw[Zql] at hy;clear he
   induction ix with
   |nil=>exact .nil
   |cons i ix ih =>
    rw[Zl,Zl];have hi:=hix i Zqs;refine zc1b (g2.get (i:=i) (d:=rwD (rs.getD i [])) (by rw[Zv,Zqg hi,z6 (Zqg hi)];rfl)) λx hx ixx=>?_;rw[z6 hx];exact .mk ixx (ih λj hj=>hix j (Zqm _ hj))
  .exact zqn hz
 .exact zqn hz
end
end L2.DL
namespace L2
section
variable {X:Cx}
def call_sumL (hc:X.calm=true):zD X (.builtin "sum") (λxs H Q=>∃(a:Addr) (ns:Yh),xs=[.ref a]/\SqL X.K H a (ns.map V.int)/\Q (.int ns.sum) H):=by
 intro Y s Z H xs us Q I r h;refine zc2c h λa ns zr2 hl q=>?_;subst zr2;refine zc1b (vF r) λu zr1 ru=>?_;subst zr1;obtain rfl:u=Value.ref a:=ru;refine zc1c (I.list hl) λits rv p hz=>?_;have hi:IntsAre its ns:=uo rv;obtain⟨ys,e⟩:=hi.allInts.items;have hns:ns=ys.toList.map (·.1):=by
  rw[<- hi.numsOf,<- nums_intItems,<- e]
 have hl':=p.isList;rw[e] at hl';refine sum_intListG (I.ok.hd hc) hl' λh' tk t' hk=>?_;refine⟨.int ns.sum,H,I.kept hk,⟨t',?_⟩,q⟩;rw[preSum_eq,Z4 (by simp),<- hns]
end
end L2
namespace L2.DL
def c7:YD->YE
 | [d]=>(uP d).bind λns=>some (.int ns.sum)
 |_=>none
section
variable {X:Cx}{E:XK}{m:Option Bool}{a b o i e f tg:Expr}{fa fb fo fi fv fe:FE}{fr:FA}{pos pos' apos cpos p p2:Pos}{lo hi st:Option Expr}
def b_sum (hc:X.calm=true):zD X (.builtin "sum") (rDA X.K c7):=zD.weak (call_sumL hc) λxs H Q zh=>by
 refine zc3a zh λF ds z zz=>pR zz λsF id hz q=>?_;unfold c7 at hz
 split at hz
 .refine zc1b (Option.bind_eq_some_iff.mp hz) λns h1 hz=>?_;obtain rfl:=Zqi hz;refine zc1b (wB id) λv zr1 h=>?_;subst zr1;refine zc1b (sD h1 h) λa zr1 h2=>?_;subst zr1;exact⟨a,ns,rfl,(h2.same sF).sq,q _ F H (.refl sF) (isI _ F)⟩
 .exact zqn hz
def jy {α:Type}(xs:List α)(lo hi:Option Int):List α:= (xs.drop (HT.sIx xs.length 0 lo)).take (HT.sIx xs.length xs.length hi-HT.sIx xs.length 0 lo)
def bD:D->Option Int->Option Int->YE
 | .tup ds,lo,hi=>if Nat.blt (jy ds lo hi).length ds.length then some (.tup (jy ds lo hi)) else none
 |_,_,_=>none
def cZ (fe:FE)(fl fh:FO):FE:=λsd=>(fe sd).bind λd=>(fl sd).bind λl=>(fh sd).bind λh=>.ofO (bD d l h)
def q_sliceT (he:QE X E e fe)(hl:QO X E lo fl)(hu:QO X E hi fh):QE X E (.Subscript e (.Slice lo hi none p2) pos) (cZ fe fl fh):=PE.weak (pe_slice sl_tup he hl hu) λZ H Q zh=>by
 obtain⟨B,F,sd,r,n⟩:=zh;refine⟨B,F,sd,r,(Res.need_bind n).mono (λd n1 v F1 H1 e1 i1=>?_) λ_ _ q=>q⟩;refine⟨B,F1,sd,r.step e1,(Res.need_bind n1).mono (λl n2 F2 H2 e2=>?_) λ_ _ q=>q.ext e1⟩;refine⟨B,F2,sd,(r.step e1).step e2,(Res.need_bind n2).mono (λh n3 F3 H3 e3=>?_) λ_ _ q=>q.ext (e1.trans e2)⟩;obtain⟨z,hz,q⟩:=Res.need_ofO n3;have e14:=e2.trans e3;have eA:=e1.trans e14;cases d with
 |tup ds =>
  have hz:(if Nat.blt (jy ds l h).length ds.length then some (D.tup (jy ds l h)) else none)=some z:=hz
  split at hz
  .rename_i h0;obtain rfl:=Zqi hz;rw[IsD.tup_iff] at i1;obtain⟨a,xs,rfl,h1,h2⟩:=i1;have hlen:=h2.length;refine⟨a,xs,rfl,((h1.same e14.ff).same e14.fh).sq,?_,λp hp=>?_⟩
   .rintro⟨w1,w2⟩;rw[Nat.blt_eq] at h0;rw[hlen] at w1 w2;unfold jy at h0;rw[w1,w2,ZV,X0] at h0;omega
   .have ea:=Ext.alloc e3.fh hp (.tup (eS xs l h));refine q _ _ _ (eA.trans ea) (IsD.tup_iff.mpr ⟨p,_,rfl,.of zv,?_⟩);have cut:∀G,zo X.K G ds xs->zo X.K G (jy ds l h) (eS xs l h):=λG h4=>by
     unfold jy eS;rw[hlen];exact zo.take _ (zo.drop _ h4)
    exact cut _ (zo.same (e14.trans ea).ff _ _ h2)
  .exact zqn hz
 |_=>exact zqn hz
@[simp]def ev_slT (fe:FE)(fl fh:FO)(sd:SD):cZ fe fl fh sd=(fe sd).bind λd=>(fl sd).bind λl=>(fh sd).bind λh=>.ofO (bD d l h):=rfl
end
@[simp]def gSum_ints (ns:Yh):c7 [.lst (ns.map .int)]=some (.int ns.sum):=by
 show(uP _).bind _=_;rw[ul];rfl
end L2.DL
namespace L2
end L2
namespace L2.DL
end L2.DL
namespace L2.ST
open PySem
noncomputable def itF:Nat->Nat->Nat
 | 0,z=>z
 |n+1,z=>itF n (5*z+1)
def iz (a b z:Nat):itF (a+b) z=itF b (itF a z):=by
 induction a generalizing z with
 |zero=>rw[Nat.zero_add];rfl
 |succ a ih=>rw[Nat.succ_add];exact ih _
def iG (n z d:Nat):itF n (z+d)=itF n z+5 ^ n*d:=by
 induction n generalizing z d with
 |zero=>simp[itF]
 |succ n ih =>
  show itF n (5*(z+d)+1)=itF n (5*z+1)+5 ^ (n+1)*d;have e:5*(z+d)+1=(5*z+1)+5*d:=()
  rw[e,ih,Nat.pow_succ,Nat.mul_assoc]
def pow5 (n:Nat):5 ^ n % 4=1:=by
 induction n with
 |zero=>rfl
 |succ n ih=>rw[Nat.pow_succ];omega
def itF_round (k z:Nat):∃u,itF (2 ^ k) z=z+2 ^ k*(2*u+1):=by
 induction k generalizing z with
 |zero=>exact⟨2*z,by show 5*z+1=z+1*(2*(2*z)+1);omega⟩
 |succ k ih =>
  obtain⟨u,hu⟩:=ih z;have e:2 ^ (k+1)=2 ^ k+2 ^ k:=by rw[Nat.pow_succ];omega
  rw[e,iz,hu,iG,hu];have h5:=pow5 (2 ^ k);obtain⟨v,hv⟩:∃v,5 ^ (2 ^ k)=4*v+1:=⟨5 ^ (2 ^ k) / 4,()⟩;rw[hv];generalize 2 ^ k=m;refine⟨2*u*(2*v+1) / 2+v,?_⟩;have:2*u*(2*v+1) / 2=u*(2*v+1):=by rw[Nat.mul_assoc,Nat.mul_div_cancel_left _ ()]
  rw[this]
  grind
def itF_mod (m n z:Nat):itF n z % m=itF n (z % m) % m:=by
 have h:=iG n (z % m) (m*(z / m));rw[Nat.mod_add_div] at h;rw[h,<- Nat.mul_assoc,Nat.mul_comm _ m,Nat.mul_assoc,Nat.add_mul_mod_self_left]
theorem sE:∀(k x y:Nat),y<2 ^ k->∃q,q<2 ^ k/\itF q x % 2 ^ k=y
 | 0,x,y,h=>⟨0,by decide,by rw[Nat.pow_zero] at *;omega⟩
 |k+1,x,y,h=>by
  have e:2 ^ (k+1)=2*2 ^ k:=by rw[Nat.pow_succ];omega
  have hp:0<2 ^ k:=Nat.two_pow_pos k;refine zc1b (sE k x (y % 2 ^ k) (Nat.mod_lt _ hp)) λq hq hm=>?_;rw[e] at h ⊢;by_cases c:itF q x % (2*2 ^ k)=y
  .exact⟨q,(),c⟩
  .refine⟨q+2 ^ k,(),?_⟩;rw[iz];obtain⟨u,hu⟩:=itF_round k (itF q x);rw[hu];generalize itF q x=w at *;generalize 2 ^ k=m at *;have e2:w+m*(2*u+1)=(w+m)+(2*m)*u:=by grind
   rw[e2,Nat.add_mul_mod_self_left];have d1:=Nat.div_add_mod w m;have d2:=Nat.div_add_mod y m;have d3:=Nat.div_add_mod w (2*m);have l3:=Nat.mod_lt w (show 0<2*m from ());rw[hm] at d1;have r3:w % (2*m) % m=y % m:=by rw[Nat.mod_mul_left_mod];exact hm
   have a1:w % (2*m)<m\/m<=w % (2*m):=()
   have a2:y<m\/m<=y:=()
   have s1:∀t,t<2*m->m<=t->t % m=t-m:=λt h1 h2=>by
    rw[Nat.mod_eq_sub_mod h2,Nat.mod_eq_of_lt ()]
   rw[Nat.add_mod,Nat.mod_eq_of_lt (show m<2*m from ())];generalize w % (2*m)=t at *;rcases a1 with a1|a1<;>rcases a2 with a2|a2
   .rw[Nat.mod_eq_of_lt a1,Nat.mod_eq_of_lt a2] at r3;exact Zn r3 c
   .rw[Nat.mod_eq_of_lt a1,s1 y h a2] at r3;rw[Nat.mod_eq_of_lt ()];omega
   .rw[Nat.mod_eq_of_lt a2,s1 t l3 a1] at r3;rw[Nat.mod_eq_sub_mod (),Nat.mod_eq_of_lt ()];omega
   .rw[s1 t l3 a1,s1 y h a2] at r3;exact Zn () c
noncomputable def z9 (t:YA):Nat->SetTable.Probe->SetTable.Probe
 | 0,p=>p
 |n+1,p=>z9 t n (t.advance p)
def wQ (t:YA)(a b:Nat)(p:SetTable.Probe):z9 t (a+b) p=z9 t b (z9 t a p):=by
 induction a generalizing p with
 |zero=>rw[Nat.zero_add];rfl
 |succ a ih=>rw[Nat.succ_add];exact ih _
def stepP_succ (t:YA)(n:Nat)(p:SetTable.Probe):z9 t (n+1) p=t.advance (z9 t n p):=wQ t n 1 p
noncomputable def uu (mask i pert:Nat):SetTable.Probe:={ j:=i,more:=SetTable.runEnd mask i-i,i:=i,perturb:=pert,dummy:=none }
noncomputable def qB (mask:Nat):Nat->Nat×Nat->Nat×Nat
 | 0,s=>s
 |n+1,s=>qB mask n (SetTable.leap mask s.1 s.2)
def run_len (mask i:Nat):SetTable.runEnd mask i-i<=9:=by
 unfold SetTable.runEnd
 split<;>omega
def iJ (t:YA)(m:Nat):∀(p:SetTable.Probe),p.more=m->p.dummy=none->z9 t (m+1) p=uu t.mask (SetTable.leap t.mask p.i p.perturb).1 (SetTable.leap t.mask p.i p.perturb).2:=by
 induction m with
 |zero =>
  intro p hm hd;show t.advance p=_;unfold SetTable.advance;rw[Ze ()];unfold uu;rw[hd]
 |succ m ih =>
  intro p hm hd;have h:=ih { p with j:=p.j+1,more:=p.more-1 } (by show p.more-1=m;omega) hd;show z9 t (m+1) (t.advance p)=_;have ha:t.advance p={ p with j:=p.j+1,more:=p.more-1 }:=by
   unfold SetTable.advance;rw[Zd ()]
  rw[ha,h]
theorem f7 (t:YA):∀(r i pert:Nat),∃n,n<=10*r/\z9 t n (uu t.mask i pert)=uu t.mask (qB t.mask r (i,pert)).1 (qB t.mask r (i,pert)).2
 | 0,i,pert=>⟨0,Zf _,rfl⟩
 |r+1,i,pert=>by
  have h1:=iJ t (SetTable.runEnd t.mask i-i) (uu t.mask i pert) rfl rfl;refine zc1b (f7 t r (SetTable.leap t.mask i pert).1 (SetTable.leap t.mask i pert).2) λn hn h2=>?_;have hl:=run_len t.mask i;refine⟨(SetTable.runEnd t.mask i-i+1)+n,(),?_⟩;rw[wQ,h1];exact h2
def mK (mask a b:Nat)(s:Nat×Nat):qB mask (a+b) s=qB mask b (qB mask a s):=by
 induction a generalizing s with
 |zero=>rw[Nat.zero_add];rfl
 |succ a ih=>rw[Nat.succ_add];exact ih _
theorem tO (mask:Nat):∀(r:Nat) (s:Nat×Nat),(qB mask r s).2=s.2 / 32 ^ r
 | 0,s=>by show s.2=_;rw[Nat.pow_zero,Nat.div_one]
 |r+1,s=>by
  show(qB mask r (SetTable.leap mask s.1 s.2)).2=_;rw[tO mask r];show s.2 / 32 / 32 ^ r=_;rw[Nat.div_div_eq_div_mul,Nat.pow_succ,Nat.mul_comm 32]
theorem sH (mask:Nat):∀(r i:Nat),i<mask+1->qB mask r (i,0)=(itF r i % (mask+1),0)
 | 0,i,h=>by
  show(i,0)=(i % (mask+1),0);rw[Nat.mod_eq_of_lt h]
 |r+1,i,h=>by
  show qB mask r ((i*5+1+0 / 32) % (mask+1),0 / 32)=(itF r (5*i+1) % (mask+1),0);rw[Nat.zero_div,Nat.add_zero,sH mask r _ (Nat.mod_lt _ ()),<- itF_mod,Nat.mul_comm i 5]
def iF (mask r:Nat)(s:Nat×Nat)(h:s.1<mask+1):(qB mask r s).1<mask+1:=by
 induction r generalizing s with
 |zero=>exact h
 |succ r ih=>exact ih _ (Nat.mod_lt _ ())
def cover (hk:t.mask+1=2 ^ k)(h:Int)(hy:y<=t.mask):∃n,n<10*SetTable.turns t.mask/\(z9 t n (t.probeStart h)).j=y:=by
 have hs:t.probeStart h=uu t.mask (SetTable.bits h % (t.mask+1)) (SetTable.bits h):=rfl;have hb:SetTable.bits h<2 ^ 64:=by
  unfold SetTable.bits;have:=Int.emod_lt_of_pos h (show(0:Int)<2 ^ 64 by decide);have:=Int.emod_nonneg h (show(2 ^ 64:Int)≠0 by decide);omega
 have hl:=iF t.mask 13 (SetTable.bits h % (t.mask+1),SetTable.bits h) (Nat.mod_lt _ ());have hp:(qB t.mask 13 (SetTable.bits h % (t.mask+1),SetTable.bits h)).2=0:=by
  rw[tO];exact Nat.div_eq_of_lt (Zg hb (by decide))
 refine zc1b (sE k (qB t.mask 13 (SetTable.bits h % (t.mask+1),SetTable.bits h)).1 y ()) λq hq e=>?_;have hr:qB t.mask (13+q) (SetTable.bits h % (t.mask+1),SetTable.bits h)=(y,0):=by
  rw[mK];generalize hR:qB t.mask 13 (SetTable.bits h % (t.mask+1),SetTable.bits h)=s at *;obtain⟨s1,s2⟩:=s;simp only at hp hl e;rw[hp,sH t.mask q s1 hl,hk,e]
 refine zc1b (f7 t (13+q) (SetTable.bits h % (t.mask+1)) (SetTable.bits h)) λn hn e2=>?_;refine⟨n,by unfold SetTable.turns;omega,?_⟩;rw[hs,e2,hr];rfl
def o3 {t:YA}{p:SetTable.Probe}(h:p.dummy=none):(t.advance p).dummy=none:=by
 unfold SetTable.advance
 split
 .exact h
 .exact h
def step_dummy {t:YA}{p:SetTable.Probe}(h:p.dummy=none)(n:Nat):(z9 t n p).dummy=none:=by
 induction n generalizing p with
 |zero=>exact h
 |succ n ih=>exact ih (o3 h)
theorem lP {t:YA}{hashAt:Nat->Int}{h:Int}:∀(k fuel:Nat) (p:SetTable.Probe),k<fuel->p.dummy=none->(∀m,m<k->∃i,t.slot (z9 t m p).j=.live i)->t.slot (z9 t k p).j=.empty ->
 (∃m i,m<k/\t.slot (z9 t m p).j=.live i/\hashAt i=h/\SetTable.probe.go t hashAt h fuel p=some (.candidate (z9 t m p).j i (z9 t (m+1) p))/\∀m' i',m'<m->t.slot (z9 t m' p).j=.live i'->hashAt i'≠h) \/
 (SetTable.probe.go t hashAt h fuel p=some (.empty (z9 t k p).j none)/\∀m' i',m'<k->t.slot (z9 t m' p).j=.live i'->hashAt i'≠h)
 | 0,0,p,hf,_,_,_=>Zn hf (Zx _)
 | 0,fuel+1,p,_,hd,_,he=>by
  have he:t.slot p.j=.empty:=he;refine .inr ⟨?_,λm' i' hm=>Zn hm (Xa _)⟩;unfold SetTable.probe.go;rw[he];show some (SetTable.Met.empty p.j p.dummy)=_;rw[hd];rfl
 |k+1,0,p,hf,_,_,_=>Zn hf (Xa _)
 |k+1,fuel+1,p,hf,hd,hl,he=>by
  obtain⟨i,hi⟩:=hl 0 (Nat.succ_pos _);have hi:t.slot p.j=.live i:=hi;by_cases c:hashAt i=h
  .refine .inl ⟨0,i,Nat.succ_pos _,hi,c,?_,λm' i' hm=>Zn hm (Xa _)⟩;unfold SetTable.probe.go;rw[hi];show(if(hashAt i == h)=true then _ else _)=_;rw[Zd (by rw[c];exact beq_self_eq_true h)];rfl
  .have hg:SetTable.probe.go t hashAt h (fuel+1) p=SetTable.probe.go t hashAt h fuel (t.advance p):=by
    rw[SetTable.probe.go];rw[hi];show(if(hashAt i == h)=true then _ else _)=_;rw[Ze (by simpa using c)]
   rcases lP (hashAt:=hashAt) (h:=h) k fuel (t.advance p) () (o3 hd) (λm hm=>hl (m+1) ()) he with ⟨m,i2,h1,h2,h3,h4,h5⟩|⟨h1,h2⟩
   .refine .inl ⟨m+1,i2,(),h2,h3,by rw[hg];exact h4,λm' i' hm hs=>?_⟩;cases m' with
    |zero =>
     have hs:t.slot p.j=.live i':=hs;rw[hi] at hs;cases hs;exact c
    |succ m'=>exact h5 m' i' () hs
   .refine .inr ⟨by rw[hg];exact h1,λm' i' hm hs=>?_⟩;cases m' with
    |zero =>
     have hs:t.slot p.j=.live i':=hs;rw[hi] at hs;cases hs;exact c
    |succ m'=>exact h2 m' i' () hs
open PySem
noncomputable def UpA (xs:Yi):Prop:=∀i j,i<j->j<xs.size->xs.getD i 0<xs.getD j 0
def yf {α:Type}{xs:Array α}(h:i<xs.size)(d:α):xs.getD i d=xs[i]:=by
 unfold Array.getD;rw[dif_pos h];rfl
theorem qS (u:UpA xs):∀(fuel lo hi:Nat),hi-lo<=fuel->lo<=hi->hi<=xs.size->(∀i,i<lo->xs.getD i 0<j)->(∀i,hi<=i->i<xs.size->j<=xs.getD i 0) ->
 SetTable.below.go xs j fuel lo hi<=xs.size/\(∀i,i<SetTable.below.go xs j fuel lo hi->xs.getD i 0<j)/\∀i,SetTable.below.go xs j fuel lo hi<=i->i<xs.size->j<=xs.getD i 0
 | 0,lo,hi,hf,hl,hs,h1,h2=>by
  have e:lo=hi:=()
  subst e;unfold SetTable.below.go;exact⟨hs,h1,h2⟩
 |fuel+1,lo,hi,hf,hl,hs,h1,h2=>by
  unfold SetTable.below.go;by_cases c:lo<hi
  .rw[Zd c];refine zc1e (fE (k:=fuel+1) (x:=0) c hf) λm e m1 m2 m3 m4=>?_;have hm:m<xs.size:=Zg m2 hs;have em:xs.getD m j=xs.getD m 0:=by rw[yf hm,yf hm]
   show(if xs.getD ((lo+hi) / 2) j<j then _ else _)<=xs.size/\(∀i,i<(if xs.getD ((lo+hi) / 2) j<j then _ else _)->_)/\∀i,(if xs.getD ((lo+hi) / 2) j<j then _ else _)<=i->_;rw[e];by_cases d:xs.getD m j<j
   .rw[Zd d];rw[em] at d;refine qS u fuel (m+1) hi m4 m2 hs (λi hi'=>?_) h2;by_cases q:i=m
    .rw[q];exact d
    .exact Xl (u i m (Xo (Z9 hi') q) hm) d
   .rw[Ze d];rw[em] at d;refine qS u fuel lo m m3 m1 (Zy hm) h1 λi hi' hs'=>?_;by_cases q:i=m
    .rw[q];exact Nat.le_of_not_lt d
    .exact Zy (XL (Nat.le_of_not_lt d) (u m i (Xo hi' (Ne.symm q)) hs'))
  .rw[Ze c];have e:lo=hi:=()
   subst e;exact⟨hs,h1,h2⟩
def tz (u:UpA xs)(j:Nat):SetTable.below xs j<=xs.size/\(∀i,i<SetTable.below xs j->xs.getD i 0<j)/\∀i,SetTable.below xs j<=i->i<xs.size->j<=xs.getD i 0:=
 qS u xs.size 0 xs.size () () (Zf _) (λi h=>Zn h (Xa _)) λi h1 h2=>()
def below_eq (u:UpA xs)(hi:i<xs.size):SetTable.below xs (xs.getD i 0)=i:=by
 refine xF (tz u (xs.getD i 0)) λh1 h2 h3=>?_;generalize SetTable.below xs (xs.getD i 0)=p at *;rcases Xm p i with q|q|q
 .have a:=u p i q hi;have b:=h3 p (Zf _) ();omega
 .exact q
 .have:=h2 i q;omega
noncomputable def occ (t:YA)(j:Nat):Prop:=∃i,i<t.place.size/\t.place.getD i 0=j
def mX (j:Nat):SetTable.has #[] j=false:=rfl
def nk {t:YA}(u:UpA t.place){i j:Nat}(hi:i<t.place.size)(e:t.place.getD i 0=j):t.slot j=.live i:=by
 unfold SetTable.slot;have hb:SetTable.below t.place j=i:=by rw[<- e];exact below_eq u hi
 show(if(t.place[SetTable.below t.place j]? == some j)=true then SetTable.Slot.live (SetTable.below t.place j) else _)=_;rw[hb];have hg:t.place[i]? = some j:=by
  rw[ZI hi,<- e,yf hi]
 rw[hg,Zd (beq_self_eq_true _)]
def slot_empty (hd:t.dummies = #[])(h:¬occ t j):t.slot j=.empty:=by
 unfold SetTable.slot;show(if(t.place[SetTable.below t.place j]? == some j)=true then _ else _)=_;have hn:¬(t.place[SetTable.below t.place j]? == some j)=true:=by
  intro z;have z:t.place[SetTable.below t.place j]? = some j:=by simpa using z
  obtain⟨h1,h2⟩:=XA.mp z;exact h ⟨_,h1,by rw[yf h1];exact h2⟩
 rw[Ze hn,hd,mX];rfl
def slot_occ (u:UpA t.place)(h:occ t j):∃i,t.slot j=.live i/\i<t.place.size/\t.place.getD i 0=j:=by
 refine zc1b h λi hi e=>?_;exact⟨i,nk u hi e,hi,e⟩
def adv_congr {t t':YA}(h:t.mask=t'.mask)(p:SetTable.Probe):t.advance p=t'.advance p:=by
 unfold SetTable.advance;rw[h]
def qu {t t':YA}(h:t.mask=t'.mask)(n:Nat)(p:SetTable.Probe):z9 t n p=z9 t' n p:=by
 induction n generalizing p with
 |zero=>rfl
 |succ n ih=>show z9 t n (t.advance p)=z9 t' n (t'.advance p);rw[adv_congr h,ih]
def sr {t t':YA}(h:t.mask=t'.mask)(x:Int):t.probeStart x=t'.probeStart x:=by
 unfold SetTable.probeStart;rw[h]
def Way (t:YA)(o:Nat->Prop)(x:Int)(y:Nat):Prop:=∃n,(z9 t n (t.probeStart x)).j=y/\∀m,m<n->o (z9 t m (t.probeStart x)).j
def Way.mono {t t':YA}{o o':Nat->Prop}{x:Int}{y:Nat}(h:Way t o x y)(hm:t.mask=t'.mask)(ho:∀j,o j->o' j):Way t' o' x y:=by
 refine zc1b h λn h1 h2=>?_;refine⟨n,?_,λm hm'=>?_⟩
 .rw[<- qu hm,<- sr hm];exact h1
 .rw[<- qu hm,<- sr hm];exact ho _ (h2 m hm')
structure TabOk (t:YA)(hs:Array Int):Prop where
 size:t.place.size=hs.size
 up:UpA t.place
 le:∀i,i<t.place.size->t.place.getD i 0<=t.mask
 nod:t.dummies = #[]
 pow:∃k,t.mask+1=2 ^ k
 room:t.place.size<=t.mask
 ways:∀i,i<t.place.size->Way t (occ t) (hs.getD i 0) (t.place.getD i 0)
def free_ex (u:UpA xs)(hs:xs.size<=m):∃y,y<=m/\∀i,i<xs.size->xs.getD i 0≠y:=by
 by_cases h:∀i,i<xs.size->xs.getD i 0=i
 .exact⟨m,Zf _,λi hi e=>by have:=h i hi;omega⟩
 .obtain⟨i,hi,hne,hmin⟩:∃i,i<xs.size/\xs.getD i 0≠i/\∀k,k<i->xs.getD k 0=k:=by
   have key:∀n,n<=xs.size->(∀k,k<n->xs.getD k 0=k)\/∃i,i<xs.size/\xs.getD i 0≠i/\∀k,k<i->xs.getD k 0=k:=by
    intro n
    induction n with
    |zero=>intro _;exact .inl λk hk=>Zn hk (Xa _)
    |succ n ih =>
     intro hn;rcases ih () with q|q
     .by_cases c:xs.getD n 0=n
      .refine .inl λk hk=>?_;by_cases e:k=n
       .rw[e];exact c
       .exact q k ()
      .exact .inr ⟨n,(),c,q⟩
     .exact .inr q
   rcases key xs.size (Zf _) with q|q
   .exact Zn q h
   .exact q
  refine⟨i,(),λk hk e=>?_⟩;rcases Xm k i with q|q|q
  .have:=hmin k q;omega
  .subst q;exact hne e
  .have a:=u i k q hk;have b:i<=xs.getD i 0:=by
    cases i with
    |zero=>exact Nat.zero_le _
    |succ i =>
     have:=u i (i+1) () hi;have:=hmin i ();omega
   omega
def first_free (T:TabOk t hs)(x:Int):∃n,n<10*SetTable.turns t.mask/\(∀m,m<n->occ t (z9 t m (t.probeStart x)).j)/\¬occ t (z9 t n (t.probeStart x)).j:=by
 obtain⟨k,hk⟩:=T.pow;refine zc1b (free_ex T.up T.room) λy hy hf=>?_;refine zc1b (cover hk x hy) λn hn e=>?_;have hno:¬occ t (z9 t n (t.probeStart x)).j:=by
  rw[e];rintro⟨i,hi,q⟩;exact hf i hi q
 have key:∀d n,n<=d->n<10*SetTable.turns t.mask->¬occ t (z9 t n (t.probeStart x)).j->∃n,n<10*SetTable.turns t.mask/\(∀m,m<n->occ t (z9 t m (t.probeStart x)).j)/\¬occ t (z9 t n (t.probeStart x)).j:=by
  intro d
  induction d with
  |zero =>
   intro n hd hn hno;have:n=0:=()
   subst this;exact⟨0,hn,λm hm=>Zn hm (Xa _),hno⟩
  |succ d ih =>
   intro n hd hn hno;by_cases c:∀m,m<n->occ t (z9 t m (t.probeStart x)).j
   .exact⟨n,hn,c,hno⟩
   .obtain⟨m,hm⟩:=Classical.not_forall.mp c;obtain⟨h1,h2⟩:=Classical.not_imp.mp hm;exact ih m () () h2
 exact key n n (Zf _) hn hno
def wt {α:Type}(xs:Array α)(hp:p<=xs.size)(x:α):(SetTable.insertAt xs p x).size=xs.size+1:=by
 unfold SetTable.insertAt;simp;omega
def uN {α:Type}(xs:Array α)(hp:p<=xs.size)(x d:α)(i:Nat):(SetTable.insertAt xs p x).getD i d=if i<p then xs.getD i d else if i=p then x else xs.getD (i-1) d:=by
 unfold SetTable.insertAt;simp only[Z1];rw[Array.getElem?_append,Array.getElem?_push,Array.getElem?_extract,Array.getElem?_extract];simp only[Array.size_push,X5];have e:min p xs.size-0=p:=()
 rw[e];rcases Xm i p with c|c|c
 .have a:i<p+1:=()
  have b:¬i=p:=()
  simp only[a,b,c,if_true,if_false];simp
 .subst c;have a:¬i<i:=Zx _;simp only[Xi,a,if_true,if_false];rfl
 .have a:¬i<p+1:=()
  have b:¬i<p:=()
  have b2:¬i=p:=()
  simp only[a,b,b2,if_false];have ei:p+(i-(p+1))=i-1:=()
  rw[ei];by_cases c3:i-1<xs.size
  .rw[Zd (by simp only[Nat.min_self];omega)]
  .rw[Ze (by simp only[Nat.min_self];omega),Xp ()]
def put_ok (T:TabOk t hs)(hy:y<=t.mask)(hf:¬occ t y)(hw:Way t (occ t) x y)(hr:t.place.size+1<=t.mask):TabOk (t.put y).1 (SetTable.insertAt hs (t.put y).2 x)/\(t.put y).2<=hs.size/\(t.put y).1.mask=t.mask:=by
 refine xF (tz T.up y) λb1 b2 b3=>?_;have hp:(t.put y).2=SetTable.below t.place y:=rfl;have hpl:(t.put y).1.place=SetTable.insertAt t.place (SetTable.below t.place y) y:=rfl;have hmk:(t.put y).1.mask=t.mask:=rfl;have hdm:(t.put y).1.dummies = #[]:=by
  show(if SetTable.has t.dummies y then SetTable.eraseAt t.dummies (SetTable.below t.dummies y) else t.dummies)=_;rw[T.nod,mX];rfl
 rw[hp];have b4:∀i,SetTable.below t.place y<=i->i<t.place.size->y<t.place.getD i 0:=λi h1 h2=>by
  have:=b3 i h1 h2;have:t.place.getD i 0≠y:=λz=>hf ⟨i,h2,z⟩;omega
 generalize SetTable.below t.place y=p at *;have sz:(SetTable.insertAt t.place p y).size=t.place.size+1:=wt _ b1 _;have gp:=uN t.place b1 y 0;have oc:∀j,occ t j->occ (t.put y).1 j:=by
  rintro j ⟨i,hi,e⟩;by_cases c:i<p
  .exact⟨i,by rw[hpl,sz];omega,by rw[hpl,gp,Zd c];exact e⟩
  .exact⟨i+1,by rw[hpl,sz];omega,by rw[hpl,gp,Ze (),Ze (),Nat.add_sub_cancel];exact e⟩
 have hsz:=T.size;refine⟨⟨?_,?_,?_,hdm,by rw[hmk];exact T.pow,by rw[hpl,sz,hmk];exact hr,?_⟩,(),hmk⟩
 .rw[hpl,sz,wt _ ()];omega
 .intro i j hij hj;rw[hpl] at hj ⊢;rw[sz] at hj;rw[gp,gp];by_cases c1:j<p
  .rw[Zd c1,Zd ()];exact T.up i j hij ()
  .rw[Ze c1];by_cases c2:j=p
   .rw[Zd c2,Zd ()];exact b2 i ()
   .rw[Ze c2];by_cases c3:i<p
    .rw[Zd c3];exact T.up i (j-1) () ()
    .rw[Ze c3];by_cases c4:i=p
     .rw[Zd c4];exact b4 (j-1) () ()
     .rw[Ze c4];exact T.up (i-1) (j-1) () ()
 .intro i hi;rw[hpl] at hi ⊢;rw[sz] at hi;rw[gp,hmk]
  split
  .exact T.le i ()
  .split
   .exact hy
   .exact T.le (i-1) ()
 .intro i hi;rw[hpl] at hi ⊢;rw[sz] at hi;rw[gp,uN hs () x 0];by_cases c1:i<p
  .rw[Zd c1,Zd c1];exact(T.ways i ()).mono hmk.symm oc
  .rw[Ze c1,Ze c1];by_cases c2:i=p
   .rw[Zd c2,Zd c2];exact hw.mono hmk.symm oc
   .rw[Ze c2,Ze c2];exact(T.ways (i-1) ()).mono hmk.symm oc
open PySem
theorem lU (t:YA)(i pert:Nat):∀k,k<=SetTable.runEnd t.mask i-i->z9 t k (uu t.mask i pert)={ j:=i+k,more:=SetTable.runEnd t.mask i-i-k,i:=i,perturb:=pert,dummy:=none }
 | 0,_=>rfl
 |k+1,h=>by
  rw[stepP_succ,lU t i pert k ()];unfold SetTable.advance;rw[Zd (by show SetTable.runEnd t.mask i-i-k > 0;omega)];show SetTable.Probe.mk (i+k+1) (SetTable.runEnd t.mask i-i-k-1) i pert none=_
  congr 1
def tX {mask i:Nat}(h:i<=mask):i<=SetTable.runEnd mask i/\SetTable.runEnd mask i<=mask:=by
 unfold SetTable.runEnd
 split<;>omega
noncomputable def gf (owner:Array (Option Nat))(j:Nat):Prop:=∃i,owner.getD j none=some i
theorem nu {t:YA}{owner:Array (Option Nat)}(hs:owner.size=t.mask+1):∀(fuel i pert y:Nat),i<=t.mask->SetTable.layClean.free t.mask owner fuel i pert=some y ->
 y<=t.mask/\owner.getD y none=none/\∃n,(z9 t n (uu t.mask i pert)).j=y/\∀m,m<n->gf owner (z9 t m (uu t.mask i pert)).j
 | 0,i,pert,y,_,h=>by unfold SetTable.layClean.free at h;exact zqn h
 |fuel+1,i,pert,y,hi,h=>by
  have hr:=tX hi;unfold SetTable.layClean.free at h;have inb:∀k,k<SetTable.runEnd t.mask i+1-i->owner.getD (i+k) (some 0)=owner.getD (i+k) none:=λk hk=>by
   rw[yf (),yf ()]
  have bz:∀k,k<SetTable.runEnd t.mask i+1-i->(!(owner.getD (i+k) (some 0)).isNone)=true->gf owner (i+k):=λk hk hb=>by
   rw[inb k hk] at hb;unfold gf;cases q:owner.getD (i+k) none with
   |none=>rw[q] at hb;exact zqb hb
   |some v=>exact⟨v,rfl⟩
  split at h
  .rename_i k hk;obtain⟨h1,h2,h3⟩:=List.find?_range_eq_some.mp hk;have h2:=Xc.mp h2;obtain rfl:=Zqi h;refine⟨(),?_,k,?_,λm hm=>?_⟩
   .rw[inb k h2] at h1;cases q:owner.getD (i+k) none with
    |none=>rfl
    |some v=>rw[q] at h1;exact zqb h1
   .rw[lU t i pert k ()]
   .rw[lU t i pert m ()];exact bz m () (h3 m hm)
  .rename_i hk;have h3:=List.find?_range_eq_none.mp hk;have hl:(SetTable.leap t.mask i pert).1<=t.mask:=X7.mp (Nat.mod_lt _ (Nat.succ_pos _));obtain⟨g1,g2,n,g3,g4⟩:=nu hs fuel _ _ y hl h;have he:=iJ t (SetTable.runEnd t.mask i-i) (uu t.mask i pert) rfl rfl;have he:z9 t (SetTable.runEnd t.mask i-i+1) (uu t.mask i pert)=uu t.mask (SetTable.leap t.mask i pert).1 (SetTable.leap t.mask i pert).2:=he;refine⟨g1,g2,SetTable.runEnd t.mask i-i+1+n,by rw[wQ,he];exact g3,λm hm=>?_⟩;by_cases c:m<=SetTable.runEnd t.mask i-i
   .rw[lU t i pert m c];exact bz m () (h3 m ())
   .obtain⟨m',rfl⟩:∃m',m=SetTable.runEnd t.mask i-i+1+m':=⟨m-(SetTable.runEnd t.mask i-i+1),()⟩;rw[wQ,he];exact g4 m' ()
theorem pX {mask:Nat}{owner:Array (Option Nat)}(hs:owner.size=mask+1):∀(fuel i pert:Nat),i<=mask->SetTable.layClean.free mask owner fuel i pert=none->∀r,r<fuel->gf owner (qB mask r (i,pert)).1
 | 0,i,pert,_,_,r,hr=>Zn hr (Xa _)
 |fuel+1,i,pert,hi,h,r,hr=>by
  have hre:=tX hi;unfold SetTable.layClean.free at h
  split at h
  .cases h
  .rename_i hk;have h3:=List.find?_range_eq_none.mp hk;have hl:(SetTable.leap mask i pert).1<=mask:=X7.mp (Nat.mod_lt _ (Nat.succ_pos _));cases r with
   |zero =>
    have h0:=h3 0 ();have e:owner.getD (i+0) (some 0)=owner.getD i none:=by rw[Nat.add_zero,yf (),yf ()]
    rw[e] at h0;show gf owner i;unfold gf;cases q:owner.getD i none with
    |none=>rw[q] at h0;exact zqb h0
    |some v=>exact⟨v,rfl⟩
   |succ r=>exact pX hs fuel _ _ hl h r ()
def cover_run {mask k:Nat}(hk:mask+1=2 ^ k)(h:Int){y:Nat}(hy:y<=mask):∃r,r<SetTable.turns mask/\(qB mask r (SetTable.bits h % (mask+1),SetTable.bits h)).1=y:=by
 have hb:SetTable.bits h<2 ^ 64:=by
  unfold SetTable.bits;have:=Int.emod_lt_of_pos h (show(0:Int)<2 ^ 64 by decide);have:=Int.emod_nonneg h (show(2 ^ 64:Int)≠0 by decide);omega
 have hl:=iF mask 13 (SetTable.bits h % (mask+1),SetTable.bits h) (Nat.mod_lt _ ());have hp:(qB mask 13 (SetTable.bits h % (mask+1),SetTable.bits h)).2=0:=by
  rw[tO];exact Nat.div_eq_of_lt (Zg hb (by decide))
 refine zc1b (sE k (qB mask 13 (SetTable.bits h % (mask+1),SetTable.bits h)).1 y ()) λq hq e=>?_;refine⟨13+q,by unfold SetTable.turns;omega,?_⟩;rw[mK];generalize hR:qB mask 13 (SetTable.bits h % (mask+1),SetTable.bits h)=s at *;obtain⟨s1,s2⟩:=s;simp only at hp hl e;rw[hp,sH mask q s1 hl,hk,e]
structure LayOk (t:YA)(owner:Array (Option Nat))(hs:Yh):Prop where
 size:owner.size=t.mask+1
 lt:∀j i,owner.getD j none=some i->i<hs.length
 one:∀j j' i,owner.getD j none=some i->owner.getD j' none=some i->j=j'
 all:∀i,i<hs.length->∃j,j<=t.mask/\owner.getD j none=some i/\Way t (gf owner) (hs.getD i 0) j
def range_map_nodup {f:Nat->Nat}{n:Nat}(h:∀a b,a<n->b<n->f a=f b->a=b):((List.range n).map f).Nodup:=by
 unfold List.Nodup;rw[XB];refine List.Pairwise.imp_of_mem (R:=λa b=>a≠b) (λ{a b} ha hb hn e=>hn (h a b (Xc.mp ha) (Xc.mp hb) e)) ?_;exact List.nodup_range
def lay_free {t:YA}{owner:Array (Option Nat)}{hs:Yh}(L:LayOk t owner hs)(hl:hs.length<=t.mask):∃y,y<=t.mask/\owner.getD y none=none:=by
 apply Classical.byContradiction;intro hno;have al:∀y,y<t.mask+1->∃i,owner.getD y none=some i:=λy hy=>by
  cases q:owner.getD y none with
  |none=>exact Zn ⟨y,(),q⟩ hno
  |some i=>exact⟨i,rfl⟩
 have nd:((List.range (t.mask+1)).map λy=>(owner.getD y none).getD 0).Nodup:=range_map_nodup λa b ha hb e=>by
  obtain⟨i,hi⟩:=al a ha;obtain⟨i',hi'⟩:=al b hb;rw[hi,hi'] at e;have e:i=i':=e;subst e;exact L.one a b i hi hi'
 have sub:((List.range (t.mask+1)).map λy=>(owner.getD y none).getD 0) ⊆ List.range hs.length:=λz hz=>by
  refine zc1b (ZE.mp hz) λy hy zr2=>?_;subst zr2;obtain⟨i,hi⟩:=al y (Xc.mp hy);rw[hi];exact Xc.mpr (L.lt y i hi)
 have:=List.Nodup.length_le_of_subset nd sub;rw[Zql,ZA,ZA] at this;omega
def set_getD {owner:Array (Option Nat)}{y:Nat}(hy:y<owner.size)(v:Option Nat)(j:Nat):(owner.setIfInBounds y v).getD j none=if j=y then v else owner.getD j none:=by
 simp only[Z1];rw[Array.getElem?_setIfInBounds];by_cases c:y=j
 .subst c;rw[Zd rfl,Zd rfl,Zd hy];rfl
 .rw[Ze c,Ze λz=>c z.symm]
def lay_step {t:YA}{owner:Array (Option Nat)}{hs:Yh}(L:LayOk t owner hs)(hl:hs.length<=t.mask)(hp:∃k,t.mask+1=2 ^ k)(h:Int):
 ∃y,SetTable.layClean.free t.mask owner (SetTable.turns t.mask) (SetTable.bits h % (t.mask+1)) (SetTable.bits h)=some y/\LayOk t (owner.setIfInBounds y (some hs.length)) (hs++[h]):=by
 have hi:SetTable.bits h % (t.mask+1)<=t.mask:=X7.mp (Nat.mod_lt _ (Nat.succ_pos _));cases q:SetTable.layClean.free t.mask owner (SetTable.turns t.mask) (SetTable.bits h % (t.mask+1)) (SetTable.bits h) with
 |none =>
  obtain⟨k,hk⟩:=hp;refine zc1b (lay_free L hl) λy hy hf=>?_;refine zc1b (cover_run hk h hy) λr hr e=>?_;obtain⟨i,hz⟩:=pX L.size _ _ _ hi q r hr;rw[e,hf] at hz;exact zqn hz
 |some y =>
  refine xF (nu L.size _ _ _ y hi q) λh1 h2 zz=>zc1b zz λn h3 h4=>?_;have sg:=set_getD (owner:=owner) (y:=y) (by rw[L.size];omega) (some hs.length);have oc:∀j,gf owner j->gf (owner.setIfInBounds y (some hs.length)) j:=by
   rintro j ⟨i,hj⟩;refine⟨i,?_⟩;rw[sg,Ze λz=>by rw[z,h2] at hj;cases hj];exact hj
  refine⟨y,rfl,⟨by rw[Array.size_setIfInBounds];exact L.size,λj i hj=>?_,λj j' i hj hj'=>?_,λi hi'=>?_⟩⟩
  .rw[ZC,ZT];rw[sg] at hj
   split at hj
   .cases hj;omega
   .have:=L.lt j i hj;omega
  .rw[sg] at hj hj'
   split at hj
   .rename_i a;obtain rfl:=Zqi hj
    split at hj'
    .rename_i b;rw[a,b]
    .have:=L.lt j' _ hj';omega
   .split at hj'
    .obtain rfl:=Zqi hj';have:=L.lt j _ hj;omega
    .exact L.one j j' i hj hj'
  .rw[ZC,ZT] at hi';by_cases c:i<hs.length
   .refine zc1c (L.all i c) λj g1 g2 g3=>?_;refine⟨j,g1,?_,?_⟩
    .rw[sg,Ze λz=>by rw[z,h2] at g2;cases g2];exact g2
    .have e:(hs++[h]).getD i 0=hs.getD i 0:=by
      rw[ZG,ZG,Xq c]
     rw[e];exact g3.mono rfl oc
   .have e:i=hs.length:=()
    subst e;refine⟨y,h1,by rw[sg,Zd rfl],?_⟩;have e:(hs++[h]).getD hs.length 0=h:=by
     rw[ZG,Xh (Zf _),Nat.sub_self];rfl
    rw[e];exact⟨n,h3,λm hm=>oc _ (h4 m hm)⟩
theorem kc {t:YA}(hp:∃k,t.mask+1=2 ^ k):∀(rest:Yh) (hs:Yh) (owner:Array (Option Nat)),LayOk t owner hs->hs.length+rest.length<=t.mask+1 ->
 ∃owner',rest.foldl (init:=some (owner,hs.length)) (λacc h=>do
  let (owner,k) <- acc
  let j <- SetTable.layClean.free t.mask owner (SetTable.turns t.mask) (SetTable.bits h % (t.mask+1)) (SetTable.bits h)
  pure (owner.setIfInBounds j (some k),k+1))=some (owner',hs.length+rest.length)/\LayOk t owner' (hs++rest)
 | [],hs,owner,L,_=>⟨owner,rfl,by rw[Zz];exact L⟩
 |h::rest,hs,owner,L,hl=>by
  rw[Zu] at hl;refine zc1b (lay_step L () hp h) λy e L'=>?_;refine zc1b (kc hp rest (hs++[h]) _ L' (by rw[ZC,ZT];omega)) λo' e2 L2=>?_;refine⟨o',?_,by rw[ZJ] at L2;exact L2⟩;rw[ZC,ZT] at e2;rw[Xg];simp only[Option.bind_eq_bind,Option.bind_some,e];rw[Zu,show hs.length+(rest.length+1)=hs.length+1+rest.length by omega];exact e2
def lay_clean {t:YA}(hp:∃k,t.mask+1=2 ^ k)(hs:Array Int)(hl:hs.size<=t.mask+1):∃owner,SetTable.layClean t.mask hs=some owner/\LayOk t owner hs.toList:=by
 have L0:LayOk t (Array.replicate (t.mask+1) none) []:=by
  have z:∀j i,(Array.replicate (t.mask+1) (none:Option Nat)).getD j none≠some i:=λj i h=>by
   simp only[Z1,Array.getElem?_replicate] at h
   split at h<;>exact zqn h
  exact⟨by simp,λj i h=>Zn h (z j i),λj j' i h=>Zn h (z j i),λi h=>Zn h (Xa _)⟩
 refine zc1b (kc hp hs.toList [] _ L0 (by simpa using hl)) λo e L=>?_;refine⟨o,?_,by simpa using L⟩;unfold SetTable.layClean;rw[<- Array.foldl_toList];have e:hs.toList.foldl _ (some (Array.replicate (t.mask+1) none,0))=some (o,[].length+hs.toList.length):=e;rw[e];rfl
open PySem
def owner_in {owner:Array (Option Nat)}{j i:Nat}(h:owner.getD j none=some i):j<owner.size:=by
 apply Classical.byContradiction;intro z;rw[Z1,Xp ()] at h;exact zqn h
noncomputable def tS (mask:Nat)(owner:Array (Option Nat)):List (Nat×Nat):=(List.range (mask+1)).filterMap λj=>(owner.getD j none).map (j,·)
def live_mem:p∈tS mask owner↔p.1<=mask/\owner.getD p.1 none=some p.2:=by
 unfold tS;rw[XI];constructor
 .rintro⟨j,hj,e⟩;refine zc1b (Z3.mp e) λi hi e=>?_;subst e;exact⟨X7.mp (Xc.mp hj),hi⟩
 .rintro⟨h1,h2⟩;exact⟨p.1,Xc.mpr (),by rw[h2];rfl⟩
def live_up (mask:Nat)(owner:Array (Option Nat)):(tS mask owner).Pairwise λa b=>a.1<b.1:=by
 unfold tS;rw[List.pairwise_filterMap];refine List.pairwise_lt_range.imp λ{a b} hab x hx y hy=>?_;refine zc1b (Z3.mp hx) λi _ zr2=>?_;subst zr2;refine zc1b (Z3.mp hy) λi' _ zr2=>?_;subst zr2;exact hab
def tL {α:Type}(l:List α)(i:Nat)(d:α):l.toArray.getD i d=l.getD i d:=by
 rw[Z1,List.getElem?_toArray,ZG]
def pz {α β: Type}(l:List α)(f:α -> β)(i:Nat)(hi:i<l.length)(d:β):(l.map f).getD i d=f l[i]:=by
 rw[ZG,Zv,Zqg hi];rfl
def laid_ok {mask:Nat}(hp:∃k,mask+1=2 ^ k)(hs:Array Int)(hl:hs.size<=mask)(finger moves:Nat)(led plain:Bool):
 ∃t' order,SetTable.laid mask finger moves led plain hs=some (t',order)/\t'.mask=mask/\t'.moves=moves/\t'.led=led/\t'.plain=plain/\t'.finger=finger/\order.size=hs.size/\(∀k,k<order.size->order.getD k 0<hs.size)/\(∀k k',k<order.size->k'<order.size->order.getD k 0=order.getD k' 0->k=k')/\(∀i,i<hs.size->∃k,k<order.size/\order.getD k 0=i)/\TabOk t' (order.map λi=>hs.getD i 0):=by
 let t0:YA:={ mask:=mask,place:=#[],dummies:=#[],finger:=0,led:=false,moves:=0,plain:=true }
 refine zc1b (lay_clean (t:=t0) hp hs (by show hs.size<=mask+1;omega)) λowner e L=>?_;have e:SetTable.layClean mask hs=some owner:=e;have hsz:owner.size=mask+1:=L.size;have mem:=λp=>live_mem (mask:=mask) (owner:=owner) (p:=p);have up:=live_up mask owner;have nd2:((tS mask owner).map (·.2)).Nodup:=by
  unfold List.Nodup;rw[XB];refine List.Pairwise.imp_of_mem (λ{a b} ha hb hab e2=>?_) up;have h1:=((mem a).mp ha).2;have h2:=((mem b).mp hb).2;rw[e2] at h1;have:=L.one _ _ _ h1 h2;omega
 have sub1:((tS mask owner).map (·.2)) ⊆ List.range hs.size:=λz hz=>by
  refine zc1b (ZE.mp hz) λp hp zr2=>?_;subst zr2;have:=L.lt _ _ ((mem p).mp hp).2;exact Xc.mpr (by simpa using this)
 have sub2:List.range hs.size ⊆ ((tS mask owner).map (·.2)):=λi hi=>by
  refine zc1c (L.all i (by simpa using Xc.mp hi)) λj h1 h2 _=>?_;exact ZE.mpr ⟨(j,i),(mem (j,i)).mpr ⟨h1,h2⟩,rfl⟩
 have len:(tS mask owner).length=hs.size:=by
  have a:=List.Nodup.length_le_of_subset nd2 sub1;have b:=List.Nodup.length_le_of_subset List.nodup_range sub2;rw[Zql,ZA] at a b;omega
 have el:SetTable.laid mask finger moves led plain hs=some ({ mask:=mask,place:=((tS mask owner).map (·.1)).toArray,dummies:=#[],finger:=finger,led:=led,moves:=moves,plain:=plain },((tS mask owner).map (·.2)).toArray):=by
  unfold SetTable.laid;rw[e];rfl
 generalize hlv:tS mask owner=lv at *;have gp:∀i (hi:i<lv.length),((lv.map (·.1)).toArray).getD i 0=lv[i].1:=λi hi=>by rw[tL,pz _ _ _ hi]
 have go:∀i (hi:i<lv.length),((lv.map (·.2)).toArray).getD i 0=lv[i].2:=λi hi=>by rw[tL,pz _ _ _ hi]
 have upi:=ZZ.mp up;refine⟨_,_,el,rfl,rfl,rfl,rfl,rfl,by simpa using len,λk hk=>?_,λk k' hk hk' e2=>?_,λi hi=>?_,?_⟩
 .have hk:k<lv.length:=by simpa using hk
  rw[go k hk];have:=L.lt _ _ ((mem lv[k]).mp (Z6 hk)).2;simpa using this
 .have hk:k<lv.length:=by simpa using hk
  have hk':k'<lv.length:=by simpa using hk'
  rw[go k hk,go k' hk'] at e2;have h1:=((mem lv[k]).mp (Z6 hk)).2;have h2:=((mem lv[k']).mp (Z6 hk')).2;rw[e2] at h1;have e3:=L.one _ _ _ h1 h2;rcases Xm k k' with q|q|q
  .have:=upi k k' hk hk' q;omega
  .exact q
  .have:=upi k' k hk' hk q;omega
 .refine zc1b (ZE.mp (sub2 (Xc.mpr hi))) λp hp e2=>?_;obtain⟨k,hk,rfl⟩:=Xf hp;exact⟨k,by simpa using hk,by rw[go k hk];exact e2⟩
 .have oc:∀j,gf owner j->occ { mask:=mask,place:=(lv.map (·.1)).toArray,dummies:=#[],finger:=finger,led:=led,moves:=moves,plain:=plain } j:=by
   rintro j ⟨i,hj⟩;have hin:=owner_in hj;have hm:(j,i)∈lv:=(mem (j,i)).mpr ⟨by show j<=mask;omega,hj⟩;obtain⟨k,hk,e2⟩:=Xf hm;exact⟨k,by simpa using hk,by show((lv.map (·.1)).toArray).getD k 0=j;rw[gp k hk,e2]⟩
  refine⟨by simp,λi j hij hj=>?_,λi hi=>?_,rfl,hp,by show((lv.map (·.1)).toArray).size<=mask;simp;omega,λk hk=>?_⟩
  .have hj:j<lv.length:=by simpa using hj
   show((lv.map (·.1)).toArray).getD i 0<((lv.map (·.1)).toArray).getD j 0;rw[gp i (),gp j hj];exact upi i j () hj hij
  .have hi:i<lv.length:=by simpa using hi
   show((lv.map (·.1)).toArray).getD i 0<=mask;rw[gp i hi];exact((mem lv[i]).mp (Z6 hi)).1
  .have hk:k<lv.length:=by simpa using hk
   have h1:=((mem lv[k]).mp (Z6 hk)).2;have hlt:=L.lt _ _ h1;refine zc1c (L.all lv[k].2 hlt) λj g1 g2 g3=>?_;have ej:=L.one _ _ _ g2 h1;subst ej;have eh:(((lv.map (·.2)).toArray).map λi=>hs.getD i 0).getD k 0=hs.toList.getD lv[k].2 0:=by
    have e4:((lv.map (·.2)).toArray).map (λi=>hs.getD i 0)=((lv.map (·.2)).map λi=>hs.getD i 0).toArray:=by simp
    rw[e4,tL,Zw,pz _ _ _ hk];show hs.getD lv[k].2 0=_;rw[Z1,ZG,XG]
   rw[eh];show Way _ _ _ (((lv.map (·.1)).toArray).getD k 0);rw[gp k hk];exact g3.mono rfl oc
theorem il:∀(fuel size n:Nat),(∃k,size=2 ^ k)->n<size*2 ^ fuel->(∃k,SetTable.sizeAbove.go n fuel size=2 ^ k)/\n<SetTable.sizeAbove.go n fuel size
 | 0,size,n,hp,h=>by
  unfold SetTable.sizeAbove.go;exact⟨hp,by simpa using h⟩
 |fuel+1,size,n,⟨k,hk⟩,h=>by
  unfold SetTable.sizeAbove.go
  split
  .exact il fuel (size*2) n ⟨k+1,by rw[Nat.pow_succ,hk]⟩ (by rw[Nat.mul_assoc,<- Nat.pow_succ'];exact h)
  .exact⟨⟨k,hk⟩,()⟩
def qr (h:n<1000000000):(∃k,SetTable.sizeAbove n=2 ^ k)/\n<SetTable.sizeAbove n:=
 il 64 8 n ⟨3,rfl⟩ (Zg h (by decide))
theorem qm:∀(fuel size n:Nat),size<=2*n+8->SetTable.sizeAbove.go n fuel size<=2*n+8
 | 0,size,n,h=>by unfold SetTable.sizeAbove.go;exact h
 |fuel+1,size,n,h=>by
  unfold SetTable.sizeAbove.go
  split
  .exact qm fuel (size*2) n ()
  .exact h
def size_above_le (n:Nat):SetTable.sizeAbove n<=2*n+8:=qm 64 8 n ()
def relaid_ok {t:YA}{hs:Array Int}{wanted:Nat}(h1:hs.size<=wanted)(h2:wanted<1000000000):
 ∃t' order,t.relaid hs wanted=some (t',order)/\t'.led=t.led/\t'.plain=t.plain/\t'.mask+1=SetTable.sizeAbove wanted/\order.size=hs.size/\(∀k,k<order.size->order.getD k 0<hs.size)/\(∀k k',k<order.size->k'<order.size->order.getD k 0=order.getD k' 0->k=k')/\(∀i,i<hs.size->∃k,k<order.size/\order.getD k 0=i)/\TabOk t' (order.map λi=>hs.getD i 0):=by
 obtain⟨⟨k,hk⟩,hlt⟩:=qr h2;have hm:SetTable.sizeAbove wanted-1+1=SetTable.sizeAbove wanted:=()
 refine zc2a (laid_ok (mask:=SetTable.sizeAbove wanted-1) ⟨k,by rw[hm];exact hk⟩ hs () t.finger (t.movedTo (SetTable.sizeAbove wanted-1)) t.led t.plain) λt' order zz=>xk zz λe e1 _ e3 zz=>xk zz λe4 _ e6 e7 zz=>xF zz λe8 e9 e10=>?_;exact⟨t',order,e,e3,e4,by rw[e1];exact hm,e6,e7,e8,e9,e10⟩
open PySem
variable {prog:Program}{w:World}{A:Around}{E:Ya}{s:Shared}
theorem TabOk.fits {t:YA}{es:Array (Int×Value)}(T:TabOk t (es.map (·.1))):t.fits es.size=true:=by
 have h1:=T.size;rw[Z0] at h1;unfold SetTable.fits SetTable.fill;rw[T.nod];simp -iota [h1,show es.size<=t.mask by have:=T.room;omega]
def kh {es:Array (Int×Value)}{i:Nat}(hi:i<es.size):(es.map (·.1)).getD i 0=es[i].1:=by
 rw[yf (by rw[Z0];exact hi)];simp -iota
def my {es:Array (Int×Value)}{i:Nat}(hi:i<es.size):(es[i]?.map (·.1)).getD 0=es[i].1:=by
 rw[ZI hi];rfl
noncomputable def pi (t:YA)(p:SetTable.Probe):Prop:=p.j+p.more<=t.mask
def oB (t:YA)(h:i<=t.mask):pi t (uu t.mask i pert):=by
 have:=tX h;show i+(SetTable.runEnd t.mask i-i)<=t.mask;omega
def adv_inTab (h:pi t p):pi t (t.advance p):=by
 unfold pi at h;unfold SetTable.advance
 split
 .show p.j+1+(p.more-1)<=t.mask;omega
 .have hl:(SetTable.leap t.mask p.i p.perturb).1<=t.mask:=X7.mp (Nat.mod_lt _ (Nat.succ_pos _));exact oB t (pert:=(SetTable.leap t.mask p.i p.perturb).2) hl
def step_inTab (h:pi t p)(n:Nat):pi t (z9 t n p):=by
 induction n generalizing p with
 |zero=>exact h
 |succ n ih=>exact ih (adv_inTab h)
def start_le (t:YA)(h:Int):pi t (t.probeStart h):=oB t (pert:=SetTable.bits h) (X7.mp (Nat.mod_lt _ (Nat.succ_pos _)))
def step_le (h:pi t p)(n:Nat):(z9 t n p).j<=t.mask:=by
 have:=step_inTab h n;unfold pi at this;omega
theorem tR {a:Addr}{o:Obj}{es:Array (Int×Value)}{ep:Nat}{t:YA}{x:Value}{h:Int}{same:Value->Bool}{Q:SetFound->Yz}{e:Nat}
 (ho:s.heap.get? a=some o) (hd:o.data=.set es ep t) (T:TabOk t (es.map (·.1))) (hodd:t.mask % 2=1)
 (hq:∀i (hi:i<es.size),es[i].1=h->∀Q:Bool->Yz,Q (same es[i].2) s->YG prog w A (eqBool es[i].2 x) Q E s)
 (hr:∀i (hi:i<es.size),∃b,es[i].2=.ref b)
 (hsn:t.led=true\/∀Q:Bool->Yz,Q false s->YG prog w A (searchCouldBeSeen x ((es.filter (·.1 == h)).toList.map (·.2))) Q E s)
 (he:e<10*SetTable.turns t.mask) (hoc:∀m,m<e->occ t (z9 t m (t.probeStart h)).j) (hfr:¬occ t (z9 t e (t.probeStart h)).j)
 (hit:∀i (hi:i<es.size),es[i].1=h->same es[i].2=true->Q (.there none) s)
 (miss:(∀i (hi:i<es.size),es[i].1=h->same es[i].2=false)->Q (.free (z9 t e (t.probeStart h)).j false) s):
 ∀(fuel c:Nat) (st:Option SetTable.Probe),c<=e->e-c<fuel->st.getD (t.probeStart h)=z9 t c (t.probeStart h) ->
  (∀m i (hi:i<es.size),m<c->t.slot (z9 t m (t.probeStart h)).j=.live i->es[i].1=h->same es[i].2=false) ->
  YG prog w A (setSearchFrom a x h true fuel st) Q E s
 | 0,c,st,hc,hf,_,_=>Zn hf (Xa _)
 |fuel+1,c,st,hc,hf,hst,hno=>by
  have hsz:t.place.size=es.size:=by have:=T.size;rwa [Z0] at this
  show wpAny _ _ (_ >>= _) _ _ _;refine Za (wpAny_setState_of ho hd T.fits ?_);dsimp only;have hg:t.gaveWay=false:=by unfold SetTable.gaveWay;rw[hodd];rfl
  rw[hg];simp -iota only[ZO,if_false];have live:∀m,m<e->∃i,t.slot (z9 t m (t.probeStart h)).j=.live i/\i<es.size/\t.place.getD i 0=(z9 t m (t.probeStart h)).j:=λm hm=>by
   refine zc1c (slot_occ T.up (hoc m hm)) λi h1 h2 h3=>?_;exact⟨i,h1,(),h3⟩
  have step:∀m,z9 t m (z9 t c (t.probeStart h))=z9 t (c+m) (t.probeStart h):=λm=>(wQ t c m _).symm;have meets:∀g:Nat->Int,(∀i,g i=(es[i]?.map (·.1)).getD 0)->(∃m i,c<=m/\m<e/\t.slot (z9 t m (t.probeStart h)).j=.live i/\g i=h/\t.probe g h (st.getD (t.probeStart h))=some (.candidate (z9 t m (t.probeStart h)).j i (z9 t (m+1) (t.probeStart h)))/\∀m' i',c<=m'->m'<m->t.slot (z9 t m' (t.probeStart h)).j=.live i'->g i'≠h) \/
   (t.probe g h (st.getD (t.probeStart h))=some (.empty (z9 t e (t.probeStart h)).j none)/\∀m' i',c<=m'->m'<e->t.slot (z9 t m' (t.probeStart h)).j=.live i'->g i'≠h):=λg _=>by
   rw[hst];have sd:(z9 t c (t.probeStart h)).dummy=none:=step_dummy rfl c;have ek:c+(e-c)=e:=()
   rcases lP (t:=t) (hashAt:=g) (h:=h) (e-c) (10*SetTable.turns t.mask) (z9 t c (t.probeStart h)) () sd (λm hm=>by
    rw[step];obtain⟨i,h1,_⟩:=live (c+m) ();exact⟨i,h1⟩) (by rw[step,ek];exact slot_empty T.nod hfr) with ⟨m,i,g1,g2,g3,g4,g5⟩|⟨g1,g2⟩
   .rw[step] at g2 g4;rw[step] at g4;refine .inl ⟨c+m,i,(),(),g2,g3,g4,λm' i' a1 a2 a3=>g5 (m'-c) i' () (by rw[step,show c+(m'-c)=m' by omega];exact a3)⟩
   .rw[step,ek] at g1;exact .inr ⟨g1,λm' i' a1 a2 a3=>g2 (m'-c) i' () (by rw[step,show c+(m'-c)=m' by omega];exact a3)⟩
  generalize hmet:t.probe _ h (st.getD (t.probeStart h))=met;have here:∀i (hi:i<es.size),es[i].1=h->∃m,m<e/\t.slot (z9 t m (t.probeStart h)).j=.live i:=λi hi hh=>by
   refine zc1b (T.ways i ()) λn n1 n2=>?_;rw[kh hi,hh] at n1 n2;refine⟨n,?_,by rw[n1];exact nk T.up () rfl⟩;rcases Xm n e with q|q|q
   .exact q
   .subst q;exact Zn ⟨i,(),n1.symm⟩ hfr
   .exact Zn (n2 e q) hfr
  rcases meets _ (λi=>rfl) with ⟨m,i,c1,c2,c3,c4,c5,c6⟩|⟨c1,c2⟩
  .have em:=hmet.symm.trans c5;subst em;refine zc1c (live m c2) λi2 k1 k2 k3=>?_;rw[c3] at k1;cases k1;have hh:es[i].1=h:=by rw[<- my k2];exact c4
   dsimp only;have rest:YG prog w A (do
    let some (_,y):=es[i]? | unsupported "internal:set-entry"
    let equal <- holding [y] (eqBool y x)
    let (es',_,t') <- setState a
    if true&&equal then return SetFound.there none
    let some same:=t'.sameMemory t.moves t.mask|unsupported "set.changed-during-lookup:is-the-new-block-at-the-old-address"
    let still <- match (if same then t'.slot (z9 t m (t.probeStart h)).j else .empty) with
     | .live i'=>match es'[i']? with
      |some (_,y')=>do pure (if <- isSame y' y then some i' else none)
      |none=>pure none
     |_=>pure none
    match still with
    |none=>rule "set.search.anew";setSearchFrom a x h true fuel none
    |some i'=>if equal then return .there (some i') else setSearchFrom a x h true fuel (some (z9 t (m+1) (t.probeStart h)))) Q E s:=by
    rw[ZI k2];dsimp only;refine Za (wpAny_holding (hq i k2 hh _ ?_));refine Za (wpAny_setState_of ho hd T.fits ?_);dsimp only;cases hs:same es[i].2 with
    |true =>
     simp -iota only[Bool.and_self,if_true];exact Zb (hit i k2 hh hs)
    |false =>
     simp -iota only[Bool.and_false,ZO,if_false];have hsm:t.sameMemory t.moves t.mask=some true:=by unfold SetTable.sameMemory;rw[Zd (beq_self_eq_true _)]
     rw[hsm];dsimp only;simp -iota only[if_true];rw[c3];dsimp only;rw[ZI k2];dsimp only;obtain⟨b,hb⟩:=hr i k2;have his:∀{Q':Bool->Yz},Q' true s->YG prog w A (isSame es[i].2 es[i].2) Q' E s:=λ{Q'} hq'=>by
      rw[hb];unfold isSame;dsimp only;rw[Zd (beq_self_eq_true _)];exact Zb hq'
     refine Za (his ?_);simp -iota only[if_true];refine Za (Zb ?_);dsimp only;refine tR ho hd T hodd hq hr hsn he hoc hfr hit miss fuel (m+1) _ () () rfl λm' i' hi' hm' hl hh'=>?_;by_cases d1:m'<c
     .exact hno m' i' hi' d1 hl hh'
     .by_cases d2:m'=m
      .subst d2;rw[c3] at hl;cases hl;exact hs
      .exact Zn (by rw[my hi'];exact hh') (c6 m' i' () () hl)
   cases hld:t.led with
   |true =>
    rw[Ze (by simp -iota)];exact rest
   |false =>
    rw[Zd (by simp -iota)];rcases hsn with z|hsn
    .rw[z] at hld;cases hld
    .refine Za (hsn _ ?_);rw[Ze (by simp -iota)];exact rest
  .have em:=hmet.symm.trans c1;subst em;dsimp only;refine Zb (miss λi hi hh=>?_);refine zc1b (here i hi hh) λm m1 m2=>?_;by_cases d1:m<c
   .exact hno m i hi d1 m2 hh
   .exact Zn (by rw[my hi];exact hh) (c2 m i () m1 m2)
def search_ok {a:Addr}{o:Obj}{es:Array (Int×Value)}{ep:Nat}{t:YA}{x:Value}{h:Int}{same:Value->Bool}{Q:SetFound->Yz}
 (ho:s.heap.get? a=some o) (hd:o.data=.set es ep t) (T:TabOk t (es.map (·.1))) (hodd:t.mask % 2=1) (hm:t.mask<=9000)
 (hq:∀i (hi:i<es.size),es[i].1=h->∀Q:Bool->Yz,Q (same es[i].2) s->YG prog w A (eqBool es[i].2 x) Q E s)
 (hr:∀i (hi:i<es.size),∃b,es[i].2=.ref b)
 (hsn:t.led=true\/∀Q:Bool->Yz,Q false s->YG prog w A (searchCouldBeSeen x ((es.filter (·.1 == h)).toList.map (·.2))) Q E s)
 (hit:∀i (hi:i<es.size),es[i].1=h->same es[i].2=true->Q (.there none) s)
 (miss:(∀i (hi:i<es.size),es[i].1=h->same es[i].2=false)->∀y,y<=t.mask->¬occ t y->Way t (occ t) h y->Q (.free y false) s):
 YG prog w A (setSearch a x h true) Q E s:=by
 refine zc1c (first_free T h) λe he hoc hfr=>?_;have hj:(z9 t e (t.probeStart h)).j<=t.mask:=step_le (start_le t h) e;unfold setSearch;exact tR ho hd T hodd hq hr hsn he hoc hfr hit (λz=>miss z _ hj hfr ⟨e,rfl,hoc⟩) 100000 0 none (Nat.zero_le _) (by unfold SetTable.turns at he;omega) rfl λm i hi hm'=>Zn hm' (Xa _)
open PySem
theorem rJ:∀(fuel size n:Nat),size<=SetTable.sizeAbove.go n fuel size
 | 0,size,n=>by unfold SetTable.sizeAbove.go;exact Zf _
 |fuel+1,size,n=>by
  unfold SetTable.sizeAbove.go
  split
  .exact Zh () (rJ fuel (size*2) n)
  .exact Zf _
def size_above_ge (n:Nat):8<=SetTable.sizeAbove n:=rJ 64 8 n
def odd_of {m k:Nat}(h:m+1=2 ^ k)(h7:7<=m):m % 2=1:=by
 cases k with
 |zero=>rw[Nat.pow_zero] at h;omega
 |succ k=>rw[Nat.pow_succ] at h;omega
def order_perm {order:Yi}{n:Nat}(h1:∀k,k<order.size->order.getD k 0<n)(h2:∀k k',k<order.size->k'<order.size->order.getD k 0=order.getD k' 0->k=k')(h3:∀i,i<n->∃k,k<order.size/\order.getD k 0=i):order.toList.Perm (List.range n):=by
 have nd:order.toList.Nodup:=by
  unfold List.Nodup;rw[ZZ];intro i j hi hj hij e;have hi':i<order.size:=by simpa -iota using hi
  have hj':j<order.size:=by simpa -iota using hj
  have:=h2 i j hi' hj' (by rw[yf hi',yf hj'];simpa -iota using e);omega
 refine List.perm_iff_count.mpr λa=>?_;rw[nd.count,List.nodup_range.count];have:a∈order.toList↔a∈List.range n:=by
  rw[Xc];constructor
  .intro h;obtain⟨k,hk,e⟩:=Xf h;have hk':k<order.size:=by simpa -iota using hk
   have:=h1 k hk';rw[yf hk'] at this;have e:order[k]=a:=by simpa -iota using e
   omega
  .intro h;obtain⟨k,hk,e⟩:=h3 a h;rw[yf hk] at e;rw[<- e,XQ];exact Array.getElem_mem hk
 simp -iota only[this]
def pick_all {α:Type}{es:Array α}{order:Yi}(d:α)(h1:∀k,k<order.size->order.getD k 0<es.size):(order.filterMap (es[·]?))=order.map λi=>es.getD i d:=by
 apply Array.toList_inj.mp;rw[Array.toList_filterMap,Array.toList_map];have:∀l:Yj,(∀i∈l,i<es.size)->l.filterMap (es[·]?)=l.map λi=>es.getD i d:=by
  intro l
  induction l with
  |nil=>intro _;rfl
  |cons i l ih =>
   intro h;rw[Z2,Zl,ZI (h i Zqs)];dsimp only;rw[ih λj hj=>h j (Zqm _ hj),yf (h i Zqs)]
 refine this _ λi hi=>?_;obtain⟨k,hk,e⟩:=Xf hi;have hk':k<order.size:=by simpa -iota using hk
 have:=h1 k hk';rw[yf hk'] at this;have e:order[k]=i:=by simpa -iota using e
 omega
structure SetIs (hp:Heap)(a:Addr)(es:Array (Int×Value))(t:YA):Prop where
 at_:∃ep,hp.get? a=some { cls:=.type "set",dict:=none,data:=.set es ep t,slots:=#[] }
 tab:TabOk t (es.map (·.1))
 seven:7<=t.mask
 most:t.mask<=8*es.size+7
 room:es.size*5<t.mask*3
 refs:∀i (hi:i<es.size),∃b,es[i].2=.ref b
def SetIs.odd {hp:Heap}{a:Addr}{es:Array (Int×Value)}{t:YA}(S:SetIs hp a es t):t.mask % 2=1:=by
 obtain⟨k,hk⟩:=S.tab.pow;exact odd_of hk S.seven
variable {prog:Program}{w:World}{A:Around}{E:Ya}{s:Shared}
def o4 {hp:Heap}{a:Addr}{es es':Array (Int×Value)}{ep:Nat}{t t':YA}(ho:hp.get? a=some { cls:=.type "set",dict:=none,data:=.set es ep t,slots:=#[] }):
 (hp.update a (Obj.putSet es' t')).get? a=some { cls:=.type "set",dict:=none,data:=.set es' (ep+1) t',slots:=#[] }:=by
 have e:=putSet_of (o:={ cls:=.type "set",dict:=none,data:=.set es ep t,slots:=#[] }) es' t' rfl;have:=Heap.get?_update_self (Obj.putSet es' t') ho (by rw[e];rfl);rw[e] at this;exact this
def insertAt_map {α β: Type}(f:α -> β)(xs:Array α)(p:Nat)(x:α):(SetTable.insertAt xs p x).map f=SetTable.insertAt (xs.map f) p (f x):=by
 unfold SetTable.insertAt;simp -iota
def relay_ok {a:Addr}{es:Array (Int×Value)}{ep:Nat}{t:YA}{Q:Unit->Yz}
 (ho:s.heap.get? a=some { cls:=.type "set",dict:=none,data:=.set es ep t,slots:=#[] }) (T:TabOk t (es.map (·.1))) (hn:1<=es.size) (hl:es.size<=1000) (hr:∀i (hi:i<es.size),∃b,es[i].2=.ref b)
 (h:∀es' t',es'.toList.Perm es.toList->t'.led=t.led->t'.plain=t.plain->SetIs (s.heap.update a (Obj.putSet es' t')) a es' t'->Q Yt { s with heap:=s.heap.update a (Obj.putSet es' t') }):
 YG prog w A (setRelay a (SetTable.grown es.size)) Q E s:=by
 have hg:SetTable.grown es.size=es.size*4:=by unfold SetTable.grown;rw[Ze ()]
 have hle:=size_above_le (es.size*4);obtain⟨_,hgt⟩:=qr (n:=es.size*4) ();have hge:=size_above_ge (es.size*4);refine zc2a (relaid_ok (t:=t) (hs:=es.map (·.1)) (wanted:=es.size*4) (by rw[Z0];omega) ()) λt' order zz=>xk zz λe e1 e2 e3 zz=>xk zz λe4 e5 e6 e7 e8=>?_;rw[Z0] at e4 e5 e7;rw[hg];unfold setRelay;refine Za (wpAny_setState_of ho rfl T.fits ?_);dsimp only;rw[Ze (by rw[sizeLine_eq];omega)];rw[e];have pk:=pick_all (es:=es) (0,Value.none) e5;have psz:(order.filterMap (es[·]?)).size=es.size:=by rw[pk,Z0];exact e4
 have pm:(order.filterMap (es[·]?)).toList.Perm es.toList:=by
  rw[Array.toList_filterMap];exact((order_perm e5 e6 e7).filterMap _).trans (by rw[filterMap_getElem?_range])
 have ph:(order.filterMap (es[·]?)).map (·.1)=order.map λi=>(es.map (·.1)).getD i 0:=by
  rw[pk,Array.map_map];apply Array.map_congr_left;intro i hi;obtain⟨k,hk,ek⟩:=Array.getElem_of_mem hi;have:=e5 k hk;rw[yf hk,ek] at this;show(es.getD i (0,Value.none)).1=_;rw[yf this,kh this]
 have T':TabOk t' ((order.filterMap (es[·]?)).map (·.1)):=by rw[ph];exact e8
 have rf:∀i (hi:i<(order.filterMap (es[·]?)).size),∃b,(order.filterMap (es[·]?))[i].2=.ref b:=λi hi=>by
  have hm:(order.filterMap (es[·]?))[i]∈es.toList:=pm.mem_iff.mp (by rw[XQ];exact Array.getElem_mem hi);obtain⟨j,hj,ej⟩:=Xf hm;have hj':j<es.size:=by simpa -iota using hj
  obtain⟨b,hb⟩:=hr j hj';refine⟨b,?_⟩;rw[<- ej];simpa -iota using hb
 have hne:¬((order.filterMap (es[·]?)).size != es.size)=true:=by rw[psz];simp -iota
 refine Za (wpAny_of_eq (a:=(order.filterMap (es[·]?),t')) ?_ ?_)
 .show(if((order.filterMap (es[·]?)).size != es.size)=true then _ else _)=_;rw[Ze hne]
 .dsimp only;generalize order.filterMap (es[·]?)=es' at psz pm T' rf ph;refine wpAny_storeSet_of ho rfl ?_ (by rw[sizeLine_eq];omega);refine h es' t' pm e1 e2 ⟨⟨ep+1,?_⟩,T',(),(),(),rf⟩;exact o4 ho
def refs_perm {es es':Array (Int×Value)}(hr:∀i (hi:i<es.size),∃b,es[i].2=.ref b){x:Value}{h:Int}{b:Addr}(hx:x=.ref b)(pm:es'.toList.Perm (es.toList++[(h,x)])):∀i (hi:i<es'.size),∃b,es'[i].2=.ref b:=λi hi=>by
 have hm:es'[i]∈es.toList++[(h,x)]:=pm.mem_iff.mp (by rw[XQ];exact Array.getElem_mem hi);rcases ZL.mp hm with z|z
 .obtain⟨j,hj,ej⟩:=Xf z;have hj':j<es.size:=by simpa -iota using hj
  obtain⟨b,hb⟩:=hr j hj';refine⟨b,?_⟩;rw[<- ej];simpa -iota using hb
 .rw[ZF.mp z];exact⟨b,hx⟩
def add_ok {a:Addr}{es:Array (Int×Value)}{t:YA}{x:Value}{b:Addr}{h:Int}{same:Value->Bool}{Q:Bool->Yz}
 (S:SetIs s.heap a es t) (hx:x=.ref b) (hl:es.size+1<=1000)
 (hq:∀i (hi:i<es.size),es[i].1=h->∀Q:Bool->Yz,Q (same es[i].2) s->YG prog w A (eqBool es[i].2 x) Q E s)
 (hsn:t.led=true\/∀Q:Bool->Yz,Q false s->YG prog w A (searchCouldBeSeen x ((es.filter (·.1 == h)).toList.map (·.2))) Q E s)
 (hbv:∀Q:Bool->Yz,Q true s->YG prog w A (hashByValue 8 x) Q E s)
 (hit:∀i (hi:i<es.size),es[i].1=h->same es[i].2=true->Q false s)
 (miss:(∀i (hi:i<es.size),es[i].1=h->same es[i].2=false)->∀h' es' t',Heap.SameBut a s.heap h'->SetIs h' a es' t'->es'.toList.Perm (es.toList++[(h,x)])->t'.led=t.led->t'.plain=t.plain->Q true { s with heap:=h' }):
 YG prog w A (setAddHashed a x h) Q E s:=by
 obtain⟨ep,ho⟩:=S.at_;have hm9:t.mask<=9000:=by have:=S.most;omega
 unfold setAddHashed setAddHashedIn;refine wpAny_holding (Za (wpAny_setState_of ho rfl S.tab.fits ?_));dsimp only;have hb:byScan x es=false:=by subst hx;rfl
 rw[hb];simp -iota only[ZO,if_false];refine Za (search_ok ho rfl S.tab S.odd hm9 hq S.refs hsn (λi hi h1 h2=>Zb (hit i hi h1 h2)) λhno y hy hf hw=>?_);dsimp only;refine Za (wpAny_setState_of ho rfl S.tab.fits ?_);dsimp only;have hsz:t.place.size=es.size:=by have:=S.tab.size;rwa [Z0] at this
 have hroom:=S.room;have hseven:=S.seven;refine xF (put_ok S.tab hy hf hw ()) λT1 hp1 hm1=>?_;rw[Z0] at hp1;have ld1:(t.put y).1.led=t.led:=rfl;have pl1:(t.put y).1.plain=t.plain:=rfl;generalize hput:t.put y=tp at T1 hp1 hm1 ld1 pl1;obtain⟨t1,p⟩:=tp;dsimp only at T1 hp1 hm1 ld1 pl1 ⊢;have em:(SetTable.insertAt es p (h,x)).map (·.1)=SetTable.insertAt (es.map (·.1)) p h:=insertAt_map _ _ _ _;rw[<- em] at T1;have pm:(SetTable.insertAt es p (h,x)).toList.Perm (es.toList++[(h,x)]):=by
  have:=SetTable.insertAt_perm es p (h,x)
  rwa [Array.toList_push] at this
 have sz1:(SetTable.insertAt es p (h,x)).size=es.size+1:=wt es hp1 _;have rf1:=refs_perm S.refs hx pm;generalize SetTable.insertAt es p (h,x)=es1 at T1 pm sz1 rf1;have tail:YG prog w A (do
  storeSet a es1 t1
  if !false&&t1.tooFull then setRelay a (SetTable.grown (es.size+1))
  return true) Q E s:=by
  refine Za (wpAny_storeSet_of ho rfl ?_ (by rw[sizeLine_eq];omega));have ho1:=o4 (es':=es1) (t':=t1) ho;have sb1:=Heap.SameBut.update s.heap a (Obj.putSet es1 t1);by_cases c:t1.tooFull=true
  .rw[Zd (by rw[c];rfl)];rw[<- sz1];refine Za (relay_ok ho1 T1 () () rf1 λes2 t2 pm2 l2 p2 S2=>?_);refine Zb (miss hno _ es2 t2 (sb1.trans (Heap.SameBut.update _ a _)) S2 (pm2.trans pm) (l2.trans ld1) (p2.trans pl1))
  .rw[Ze (by simpa -iota using c)];have hfull:¬(t1.fill*5 ≥ t1.mask*3):=by
    intro z;exact c (by unfold SetTable.tooFull;exact Zp z)
   have hfl:t1.fill=es1.size:=by
    unfold SetTable.fill;have:=T1.size;rw[Z0] at this;rw[this,T1.nod];rfl
   have S1:SetIs (s.heap.update a (Obj.putSet es1 t1)) a es1 t1:=⟨⟨ep+1,ho1⟩,T1,(),by have:=S.most;omega,(),rf1⟩;exact Zb (miss hno _ es1 t1 sb1 S1 pm ld1 pl1)
 split
 .refine Za (hbv _ ?_);simp -iota only[if_true];exact tail
 .refine Za (Zb ?_);simp -iota only[if_true];exact tail
open PySem
variable {prog:Program}{w:World}{A:Around}{E:Ya}{s:Shared}
inductive HashAll (prog:Program)(w:World)(A:Around)(E:Ya)(s:Shared):Yf->List Int->Prop
 |nil:HashAll prog w A E s [] []
 |cons {v:Value} {vs:Yf} {h:Int} {hs:Yh}:(∀(tk:Nat) (Q:Int->Yz),(∀tk',tk<=tk'->Q h { s with toks:=tk' })->YG prog w A (pyHash v) Q E { s with toks:=tk })->HashAll prog w A E s vs hs->HashAll prog w A E s (v::vs) (h::hs)
noncomputable def nO (hs:Yh):Int:=reduceHash (Builtin.Tuple.tupleHashOf hs)
def lD (ho:s.heap.get? a=some o)(hc:o.cls=.type "tuple")(hd:o.data=.seq items n)(hu:A.units<cLine)
 (H:HashAll prog w A.in1 E s items.toList hs) (h:∀tk,tk0<=tk->Q (nO hs) { s with toks:=tk }):YG prog w A (pyHash (.ref a)) Q E { s with toks:=tk0 }:=by
 have hT:Shared.TypeIs { s with toks:=tk0 } (.ref a) "tuple" := ⟨o,ho,hc⟩;unfold pyHash;refine W.pyHash_slot (T:= "tuple") hT F.slot_tuple_hash F.entry_tuple_hash (F.args_tuple_hash_1 _) (beq_builtin_none _) (.inr hu) ?_;show wpAny _ _ (Builtin.Tuple.tupleItemsOf (.ref a) >>= _) _ _ _;refine Za (wpAny_tupleItemsOf ho hd ?_);refine Za ?_;rw[<- Array.forIn_toList];refine wpAny_forIn_list _ (λrest (b:Array Int) s'=>∃left tk,HashAll prog w A.in1 E s rest left/\b.toList++left=hs/\s'={ s with toks:=tk }/\tk0<=tk) _ ?_ ?_ _ _ ⟨hs,tk0,H,rfl,rfl,Zf _⟩
 .rintro x rest b s' ⟨left,tk,hl,hb,rfl,hle⟩;cases hl with
  |cons h1 hl' =>
   refine Za (h1 tk _ λtk' hle'=>?_);exact Zb ⟨_,tk',hl',by simp -iota [<- hb],rfl,Zh hle hle'⟩
 .rintro b s' ⟨left,tk,hl,hb,rfl,hle⟩;cases hl;rw[Zz] at hb;show wpAny _ _ (retInt (Builtin.Tuple.tupleHashOf b.toList)) _ _ _;rw[hb];exact Za (wpAny_mkInt (Zb ⟨_,_,rfl,h _ (XX hle)⟩))
theorem ny:∀{vs:Yf} {ns:Yh},PyProof.Rows.IntsAre vs ns->HashAll prog w A E s vs (ns.map hashInt)
 |_,_,.nil=>.nil
 |_,_,.cons n t r=>.cons (λtk Q h=>wpAny_pyHash_int (h _ (Nat.le_succ tk))) (ny r)
inductive PlainV (hp:Heap):Nat->Value->Prop
 |int (n:Nat) (i:Int) (t:Tok):PlainV hp n (.int i t)
 |tup {n:Nat} {a:Addr} {o:Obj} {items:Yn} {k:Nat}:hp.get? a=some o->o.cls=.type "tuple" -> o.data=.seq items k->(∀v∈items.toList,PlainV hp n v)->PlainV hp (n+1) (.ref a)
def byValue_plain (p:PlainV s.heap n v):∀(d:Nat) (Q:Bool->Yz),n<=d->Q true s->YG prog w A (hashByValue d v) Q E s:=by
 induction p with
 |int n i t =>
  intro d Q _ h;cases d<;>exact Zb h
 |tup ho hc hd _ ih =>
  intro d Q hn h;cases d with
  |zero=>omega
  |succ d =>
   have hT:Shared.TypeIs s (.ref _) "tuple" := ⟨_,ho,hc⟩;unfold hashByValue;refine Za (wpAny_specialOf hT F.slot_tuple_hash.lookup ?_);dsimp only;refine Za (wpAny_seqItems ho hd ?_);refine Za ?_;show wpAny _ _ (forIn _ _ _) _ _ _;rw[Option.getD_some,<- Array.forIn_toList];refine wpAny_forIn_list _ (λrest r s'=>r.1=none/\s'=s/\∀v∈rest,v∈_) _ ?_ ?_ _ _ ⟨rfl,rfl,λv hv=>hv⟩
   .rintro x rest r s' ⟨hr,rfl,hm⟩;refine Za (ih x (hm x Zqs) d _ () ?_);simp -iota only[XT,ZO,if_false];exact Zb ⟨rfl,rfl,λv hv=>hm v (Zqm _ hv)⟩
   .rintro⟨r1,r2⟩ s' ⟨hr,rfl,_⟩;simp -iota only at hr;subst hr;exact Zb h
def tQ (p:PlainV s.heap n v):∀(d:Nat) (Q:Bool->Yz),n<=d->Q true s->YG prog w A (eqIsQuiet d v) Q E s:=by
 induction p with
 |int n i t =>
  intro d Q _ h;exact wpAny_of_eq (eqIsQuiet_byValue d rfl) h
 |tup ho hc hd _ ih =>
  intro d Q hn h;cases d with
  |zero=>omega
  |succ d =>
   have hT:Shared.TypeIs s (.ref _) "tuple" := ⟨_,ho,hc⟩;unfold eqIsQuiet;refine Za (wpAny_specialOf hT F.slot_tuple_eq.lookup ?_);dsimp only;refine Za (wpAny_isInstance hT isSubtype_tuple_tuple ?_);simp -iota only[XT,ZO,if_false];refine Za (wpAny_seqItems ho hd ?_);refine Za ?_;show wpAny _ _ (forIn _ _ _) _ _ _;rw[Option.getD_some,<- Array.forIn_toList];refine wpAny_forIn_list _ (λrest r s'=>r.1=none/\s'=s/\∀v∈rest,v∈_) _ ?_ ?_ _ _ ⟨rfl,rfl,λv hv=>hv⟩
   .rintro x rest r s' ⟨hr,rfl,hm⟩;refine Za (ih x (hm x Zqs) d _ () ?_);simp -iota only[XT,ZO,if_false];exact Zb ⟨rfl,rfl,λv hv=>hm v (Zqm _ hv)⟩
   .rintro⟨r1,r2⟩ s' ⟨hr,rfl,_⟩;simp -iota only at hr;subst hr;exact Zb h
def tM (p:PlainV s.heap n v):∀(d:Nat) (Q:Bool->Yz),n<=d->Q false s->YG prog w A (ofAClassStatement d v) Q E s:=by
 induction p with
 |int n i t =>
  intro d Q _ h;cases d<;>exact Zb h
 |tup ho hc hd _ ih =>
  intro d Q hn h;cases d with
  |zero=>omega
  |succ d =>
   have hT:Shared.TypeIs s (.ref _) "tuple" := ⟨_,ho,hc⟩;unfold ofAClassStatement;refine Za (wpAny_typeOf hT ?_);dsimp only;rw[Zd (by decide)];refine Za (Zb ?_);simp -iota only[XT,ZO,if_false];refine Za (wpAny_seqItems ho hd ?_);dsimp only;refine Za ?_;show wpAny _ _ (forIn _ _ _) _ _ _;rw[<- Array.forIn_toList];refine wpAny_forIn_list _ (λrest r s'=>r.1=none/\s'=s/\∀v∈rest,v∈_) _ ?_ ?_ _ _ ⟨rfl,rfl,λv hv=>hv⟩
   .rintro x rest r s' ⟨hr,rfl,hm⟩;refine Za (ih x (hm x Zqs) d _ () ?_);simp -iota only[ZO,if_false];exact Zb ⟨rfl,rfl,λv hv=>hm v (Zqm _ hv)⟩
   .rintro⟨r1,r2⟩ s' ⟨hr,rfl,_⟩;simp -iota only at hr;subst hr;exact Zb h
def unseen_plain (hn:n<=8)(px:PlainV s.heap n x)(py:∀y∈ys,PlainV s.heap n y)(h:Q false s):YG prog w A (searchCouldBeSeen x ys) Q E s:=by
 unfold searchCouldBeSeen;refine Za ?_;refine wpAny_forIn_list _ (λrest r s'=>r.1=none/\s'=s/\∀v∈rest,v∈ys) _ ?_ ?_ _ _ ⟨rfl,rfl,λv hv=>hv⟩
 .rintro y rest r s' ⟨hr,rfl,hm⟩;have hy:=py y (hm y Zqs);have nx:∀v∈rest,v∈ys:=λv hv=>hm v (Zqm _ hv);dsimp only
  split
  all_goals
   split
   .exact Zb ⟨rfl,rfl,nx⟩
   .refine Za (tQ px 8 _ hn ?_);simp -iota only[XT,ZO,if_false];refine Za (tQ hy 8 _ hn ?_);simp -iota only[XT,ZO,if_false];refine Za (tM px 8 _ hn ?_);simp -iota only[ZO,if_false];refine Za (tM hy 8 _ hn ?_);simp -iota only[ZO,if_false];exact Zb ⟨rfl,rfl,nx⟩
 .rintro⟨r1,r2⟩ s' ⟨hr,rfl,_⟩;simp -iota only at hr;subst hr;exact Zb h
structure KeyFam (prog:Program)(w:World)(hp:Heap)(PV:Value->Prop)(hsh:Value->Int)(same:Value->Value->Bool):Prop where
 ref:∀v,PV v->∃b,v=.ref b
 plain:∀v,PV v->PlainV hp 8 v
 hash:∀v,PV v->∀(A:Around) (E:Ya) (s:Shared) (Q:Int->Yz),(∀b o,hp.get? b=some o->s.heap.get? b=some o)->A.units+8<cLine->(∀tk,s.toks<=tk->Q (hsh v) { s with toks:=tk })->YG prog w A (pyHash v) Q E s
 eq:∀v u,PV v->PV u->∀(A:Around) (E:Ya) (s:Shared) (Q:Bool->Yz),(∀b o,hp.get? b=some o->s.heap.get? b=some o)->A.units+8<cLine->Q (same v u) s->YG prog w A (eqBool v u) Q E s
 coh:∀v u,PV v->PV u->same v u=true->hsh v=hsh u
def PlainV.keep (k:∀b o,hp.get? b=some o->hp'.get? b=some o)(p:PlainV hp n v):PlainV hp' n v:=by
 induction p with
 |int n i t=>exact .int n i t
 |tup ho hc hd _ ih=>exact .tup (k _ _ ho) hc hd ih
noncomputable def oM (same:Value->Value->Bool)(D:Yf)(v:Value):Yf:=if D.any (same · v) then D else D++[v]
def gb (same:Value->Value->Bool)(val:Nat->Value)(i:Nat):Yf:=((List.range i).map val).foldl (oM same) []
def vO (same:Value->Value->Bool)(val:Nat->Value)(i:Nat):gb same val (i+1)=oM same (gb same val i) (val i):=by
 unfold gb;rw[List.range_succ,ZR,Xs];rfl
theorem lH (same:Value->Value->Bool)(val:Nat->Value):∀i,(gb same val i).length<=i
 | 0=>Zf _
 |i+1=>by
  have:=lH same val i;rw[vO];unfold oM
  split
  .omega
  .rw[ZC,ZT];omega
theorem qP (same:Value->Value->Bool)(val:Nat->Value):∀i v,v∈gb same val i->∃j,j<i/\v=val j
 | 0,v,h=>by cases h
 |i+1,v,h=>by
  rw[vO] at h;unfold oM at h
  split at h
  .refine zc1b (qP same val i v h) λj hj e=>?_;exact⟨j,(),e⟩
  .rcases ZL.mp h with z|z
   .refine zc1b (qP same val i v z) λj hj e=>?_;exact⟨j,(),e⟩
   .exact⟨i,(),ZF.mp z⟩
noncomputable def Holds (hsh:Value->Int)(hp:Heap)(S:Addr)(ld:Bool)(D:Yf):Prop:=∃es t,SetIs hp S es t/\es.toList.Perm (D.map λv=>(hsh v,v))/\t.led=ld/\t.plain=true
section
variable {prog:Program}{w:World}{A:Around}{E:Ya}{s:Shared}
def add_holds {hp:Heap}{PV:Value->Prop}{hsh:Value->Int}{same:Value->Value->Bool}(K:KeyFam prog w hp PV hsh same){S:Addr}{ld:Bool}{D:Yf}{x:Value}{Q:Bool->Yz}
 (hk:∀b o,hp.get? b=some o->s.heap.get? b=some o) (hu:A.units+8<cLine) (H:Holds hsh s.heap S ld D) (hD:∀v∈D,PV v) (hx:PV x) (hl:D.length<=999)
 (h:∀h' b,Heap.SameBut S s.heap h'->Holds hsh h' S ld (oM same D x)->Q b { s with heap:=h' }):YG prog w A (setAddHashed S x (hsh x)) Q E s:=by
 refine zc2d H λes t SI pm hld hpl=>?_;obtain⟨b,hb⟩:=K.ref x hx;have hlen:es.size=D.length:=by
  have:=pm.length_eq;rw[Zql,ZM] at this;exact this
 have ent:∀i (hi:i<es.size),es[i].2∈D/\es[i].1=hsh es[i].2:=λi hi=>by
  have hm:es[i]∈D.map λv=>(hsh v,v):=pm.mem_iff.mp (by rw[XQ];exact Array.getElem_mem hi);refine zc1b (ZE.mp hm) λv hv e=>?_;rw[<- e];exact⟨hv,rfl⟩
 have back:∀v∈D,∃i,∃hi:i<es.size,es[i]=(hsh v,v):=λv hv=>by
  have hm:(hsh v,v)∈es.toList:=pm.mem_iff.mpr (ZE.mpr ⟨v,hv,rfl⟩);obtain⟨i,hi,e⟩:=Xf hm;exact⟨i,by simpa using hi,by simpa using e⟩
 have px:=(K.plain x hx).keep hk;refine add_ok (same:=λy=>same y x) SI hb () (λi hi _ Q' hq=>K.eq _ _ (hD _ (ent i hi).1) hx A E s Q' hk hu hq) (.inr λQ' hq=>?_) (λQ' hq=>byValue_plain px 8 Q' (Zf _) hq) (λi hi h1 h2=>?_) λhno h' es' t' sb S' pm' l' p'=>?_
 .refine unseen_plain (Zf 8) px (λy hy=>?_) hq;refine zc1b (ZE.mp hy) λe he zr2=>?_;subst zr2;have he:e∈es:=by
   have:=XQ.mp he;exact(Array.mem_filter.mp this).1
  obtain⟨i,hi,rfl⟩:=Array.getElem_of_mem he;exact(K.plain _ (hD _ (ent i hi).1)).keep hk
 .have e:oM same D x=D:=Zd (Xb.mpr ⟨_,(ent i hi).1,h2⟩);have:=h s.heap false (Heap.SameBut.refl S s.heap) ⟨es,t,SI,by rw[e];exact pm,hld,hpl⟩;exact this
 .have e:oM same D x=D++[x]:=Ze λz=>by
   refine zc1b (Xb.mp z) λv hv hs=>?_;obtain⟨i,hi,ei⟩:=back v hv;have:=hno i hi (by rw[ei];exact K.coh v x (hD v hv) hx hs);rw[ei] at this;rw[hs] at this;cases this
  refine h h' true sb ⟨es',t',S',?_,l'.trans hld,p'.trans hpl⟩;rw[e,ZR];exact pm'.trans (pm.append_right _)
end
section
variable {prog:Program}{w:World}{A:Around}{R:Result->Yz}{I:Addr}{fp wr:Yl}{G:Array GenState->Array GenState->Prop}{n:Nat}{P:Nat->Value->Prop}{St:Nat->Yz}
def Holds.keep {hsh:Value->Int}{hp hp':Heap}{S:Addr}{ld:Bool}{D:Yf}(H:Holds hsh hp S ld D)(k:∀o,hp.get? S=some o->hp'.get? S=some o):Holds hsh hp' S ld D:=by
 refine zc2b H λes t SI r=>?_;obtain⟨ep,ho⟩:=SI.at_;exact⟨es,t,⟨⟨ep,k _ ho⟩,SI.tab,SI.seven,SI.most,SI.room,SI.refs⟩,r⟩
def set_loop (W:WalksS prog w A.in1 I fp wr G n P St)(S:Addr)(hSf:S∉fp)(hpw:∀b o,hp.get? b=some o->b∉wr/\b≠S)
 {PV:Value->Prop} {hsh:Value->Int} {same:Value->Value->Bool} (K:KeyFam prog w hp PV hsh same) (val:Nat->Value) (hval:∀i v,P i v->v=val i) (hPV:∀i,i<n->PV (val i)) (hn:n<=999) (hu:A.in1.units+8<cLine) (ld:Bool):
 ∀(k i:Nat) (s:Shared),n-i=k->i<=n->St i s->(∀b o,hp.get? b=some o->s.heap.get? b=some o)->Holds hsh s.heap S ld (gb same val i) ->
  (∀s',Moved (S::wr) G s s'->Holds hsh s'.heap S ld (gb same val n)->R (.ok (.ret .none)) s') ->
  codeAny (model prog w) A (.builtin "set.update.loop" ⟨[.ref S,.ref I],[]⟩) R s:=by
 have hSw:S∉wr:=λh=>hSf (W.sub _ h);have hsub:∀b∈wr,b∈S::wr:=λb hb=>Zqm _ hb;intro k
 induction k with
 |zero =>
  intro i s hk hi hst hkp H hR;have hin:i=n:=()
  subst hin;refine codeAny_builtin F.entry_set_update_loop ?_;rw[Around.under_plainId F.plain_set_update_loop _];show wpAny _ A.in1 (pyNext (.ref I) >>= _) _ _ s;refine Za (W.done s _ _ hst λs' hm=>?_);show wpAny _ A.in1 (ret Value.none) _ _ s';exact Zb (hR s' (hm.mono hsub) (H.keep λo e=>hm.heap S _ hSw e))
 |succ k ih =>
  intro i s hk hi hst hkp H hR;have hlt:i<n:=()
  refine codeAny_builtin F.entry_set_update_loop ?_;rw[Around.under_plainId F.plain_set_update_loop _];show wpAny _ A.in1 (pyNext (.ref I) >>= _) _ _ s;refine Za (W.item i s _ _ hlt hst λv s' hP hst' hm=>?_);have ev:=hval i v hP;have H':=H.keep (hp':=s'.heap) λo e=>hm.heap S _ hSw e;have hkp':∀b o,hp.get? b=some o->s'.heap.get? b=some o:=λb o e=>hm.heap b o (hpw b o e).1 (hkp b o e);have hv:PV v:=by rw[ev];exact hPV i hlt
  show wpAny _ A.in1 (holding [v] (setAdd S v) >>= _) _ _ s';refine Za (wpAny_holding ?_);unfold setAdd;refine wpAny_holding ?_;refine Za (K.hash v hv _ _ _ _ hkp' hu λtk htk=>?_);have hl:=lH same val i;refine add_holds K (s:={ s' with toks:=tk }) hkp' hu H' (λu hu'=>?_) hv () λh' b hsb H2=>?_
  .refine zc1b (qP same val i u hu') λj hj e=>?_;rw[e];exact hPV j ()
  .rw[ev,<- vO] at H2;refine Zb ⟨plainId_quiet F.plain_set_update_loop _,ih (i+1) _ () hlt (W.frame _ s' _ _ hst' ?_ λb hb o e=>?_) (λb o e=>?_) H2 λs'' hm'' H''=>?_⟩
   .exact htk
   .rw[hsb.2 b (λh:b=S=>hSf (by rw[<- h];exact hb))];exact e
   .rw[hsb.2 b (hpw b o e).2];exact hkp' b o e
   .refine hR s'' (Moved.trans W.gtrans ((hm.mono hsub).then_heap ?_ λb o hb e=>?_) hm'') H''
    .exact htk
    .rw[hsb.2 b (λh:b=S=>hb (by rw[h];exact Zqs))];exact e
end
def fresh_tab (led:Bool):TabOk (SetTable.fresh 0 0 led) ((#[]:Array (Int×Value)).map (·.1)):=by
 refine⟨by rw[Z0];rfl,λi j _ h=>Zn h (Xa _),λi h=>Zn h (Xa _),rfl,⟨3,rfl⟩,Nat.zero_le _,λi h=>Zn h (Xa _)⟩
def fresh_holds (ho:hp.get? S=some { cls:=.type "set",dict:=none,data:=.set #[] 0 (.fresh 0 0 led) }):Holds hsh hp S led []:=
 ⟨#[],.fresh 0 0 led,⟨⟨0,ho⟩,fresh_tab led,Zf _,Zf _,(show 0*5<7*3 by decide),λi h=>Zn h (Xa _)⟩,List.Perm.refl _,rfl,rfl⟩
section
variable {prog:Program}{w:World}{A:Around}{E:Ya}{s:Shared}
noncomputable def df (w:World):Bool:=!w.params.followText "set-order"
def code_set_led (a:Value)
 (h:Q₁ (.ref s.heap.objs.size) { s with heap:=s.heap.push { cls:=.type "set",dict:=none,data:=.set #[] 0 (.fresh 0 0 (df w)) } }):
 codeAny (model prog w) A (.call (.builtin "set.__new__") ⟨[.type "set",a],[]⟩) (wants Q₁ E) s:=by
 refine codeAny_of_tree ?_;show wpAny _ A.in1 (do checkBuiltinCall "set.__new__" ⟨[.type "set",a],[]⟩;again (.builtin "set.__new__" ⟨[.type "set",a],[]⟩)) _ _ s;refine Za (wpAny_of_eq (F.newCall_set_1 a) (Zb ⟨plainId_quiet F.plain_set_new _,codeAny_builtin F.entry_set_new ?_⟩));rw[Around.under_plainId F.plain_set_new _];unfold Builtin.«set.__new__» Builtin.Frozenset.newClass;have hsub:=sub_set_self;obtain⟨hp,g,d,tk,os⟩:=s;dsimp only
 wp_walk
 refine wpAny_askSetting (Zb ?_);dsimp only;simp only[newObj];refine Za (wpAny_alloc (Zb ?_));exact Zb h
set_option maxRecDepth 100000 in
set_option maxHeartbeats 3200000 in
def call_set_fam {l:Addr}{items:Yn}{PV:Value->Prop}{hsh:Value->Int}{same:Value->Value->Bool}{Q:Ya}(hh:A.handled=none)(hl:s.heap.IsList l items)(K:KeyFam prog w s.heap PV hsh same)
 (hPV:∀(i:Nat) (v:Value),items[i]? = some v->PV v) (hn:items.size<=999) (hu:A.in1.in1.in1.units+8<cLine)
 (h:∀(h':Heap) (tk:Nat),Holds hsh h' s.heap.objs.size (df w) (gb same (λi=>items.getD i .none) items.size)->(∀b o,b<s.heap.objs.size->s.heap.get? b=some o->h'.get? b=some o)->Q (.ref s.heap.objs.size) { s with heap:=h',toks:=tk }):
 YG prog w A (call (.type "set") [.ref l]) Q E s:=by
 have cn:=λA:Around=>code_set_led (prog:=prog) (w:=w) (A:=A) (E:=E) (s:=s) (.ref l) (Q₁:=λobj s₁=>obj=.ref s.heap.objs.size/\s₁={ s with heap:=s.heap.push { cls:=.type "set",dict:=none,data:=.set #[] 0 (.fresh 0 0 (df w)) } }) ⟨rfl,rfl⟩;generalize df w=led at h cn;refine zc2a F.called_set.mro λc tl hmro=>?_;have hmade:=F.called_set.made;have hsub:=F.called_set.sub;refine wpAny_call (codeAny_of_tree ?_);show wpAny _ _ (callAny (.type "set") _) _ _ _;refine Zb ⟨Code.quiet_builtin _ (by decide +kernel),codeAny_builtin F.entry_type_call ?_⟩;rw[Around.under_plain (weight_type_call_type "set" [.ref l] []) rfl];have h1:=F.called_set.notType;have h2:=F.called_set.canCreate;have hct:=F.typeCall_set_1 (.ref l)
 repeat (any_goals (first|assumption|wp_step))
 refine codeAny_mono (cn _) λr s₁ hr=>?_;cases r with
 |error e=>exact hr
 |ok fl =>
  cases fl with
  |ret obj =>
   obtain⟨rfl,rfl⟩:=hr;generalize hno:({ cls:=.type "set",dict:=none,data:=.set #[] 0 (.fresh 0 0 led) }:Obj)=no at *;have hS:(s.heap.push no).get? s.heap.objs.size=some no:=Zr _ (by rw[<- hno];rfl);have hT:Shared.TypeIs { s with heap:=s.heap.push no } (.ref s.heap.objs.size) "set" := ⟨_,hS,by rw[<- hno]⟩;have hli:=F.called_set.init.lookup;have hbi:=F.called_set.init.bind (.ref s.heap.objs.size)
   repeat (any_goals (first|assumption|wp_step))
   refine codeAny_mono (codeAny_call_builtin (R:=wants (λr s₂=>r=.none/\∃h' tk,s₂={ s with heap:=h',toks:=tk }/\Holds hsh h' s.heap.objs.size led (gb same (λi=>items.getD i .none) items.size) /\
    (∀b o,b<s.heap.objs.size->s.heap.get? b=some o->h'.get? b=some o)) E) F.called_set.init.plain F.entry_set_init (check_set_init_1 hT ?_)) λr₂ s₂ hr₂=>?_
   .refine zc1c hl λol hol hcl zz=>zc1a zz λnl hdl=>?_;obtain⟨ocls,odict,odata,oslots⟩:=ol;simp only at hcl hdl;subst hcl;subst hdl;have hol':(s.heap.push no).get? l=some { cls:=.type "list",dict:=odict,data:=.seq items nl,slots:=oslots }:=Zq _ hol;have hsls:=F.sub_list_set;have hslf:=F.sub_list_frozenset;have hne:(Value.type "list" == Value.type "dict")=false:=by decide
    have hl1:(s.heap.push no).IsList l items:=⟨_,hol',rfl,nl,rfl⟩;subst hno;unfold Builtin.«set.__init__» noKeywords Builtin.Frozenset.updateFrom;generalize hPI:pyIter=PI
    wp_walk
    subst hPI;refine wpAny_pyIter_list hl1 ?_;refine Za (wpAny_runValue ?_);have hlS:l<s.heap.objs.size:=Zk hol;have hh3:A.in1.in1.in1.handled=none:=by simp[hh]
    generalize hno:({ cls:=.type "set",dict:=none,data:=.set #[] 0 (.fresh 0 0 led) }:Obj)=no at *;have szp:(s.heap.push no).objs.size=s.heap.objs.size+1:=Heap.size_push ..;have hneI:l≠(s.heap.push no).objs.size:=by rw[szp];exact Zi (Z7 hlS)
    have hSf:s.heap.objs.size ∉ [(s.heap.push no).objs.size,l]:=by
     simp only[ZD,X2,or_false,not_or];exact⟨by rw[szp];exact Zi (Xi _),Nat.ne_of_gt hlS⟩
    have hw:∀(i:Nat) (v:Value),items[i]? = some v->v=(λi=>items.getD i .none) i:=λi v hv=>by
     show v=items.getD i .none;rw[Z1,hv];rfl
    refine set_loop ((Walks.list hh3 _ l hneI items).toS) s.heap.objs.size hSf (hp:=s.heap) (λb o e=>?_) K (λi=>items.getD i .none) hw (λi hi=>?_) hn (by exact hu) led (items.size-0) 0 _ () (Nat.zero_le _)
     ⟨⟨_,Zr _ rfl,rfl,rfl⟩,(hl1.push _)⟩ (λb o e=>Zq _ (Zq _ e)) (fresh_holds (by rw[hno];exact Zq _ hS)) λs' hm H'=>?_
    .have hb:=Zk e;refine⟨?_,Zi hb⟩;simp only[ZD,X2,or_false];rw[szp];exact Zi (Z7 hb)
    .exact hPV i _ (by show items[i]? = some (items.getD i .none);rw[yf hi,ZI hi])
    .obtain⟨h',g',d',tk',os'⟩:=s';have eg:g'=s.gens:=hm.gens;have ed:d'=s.drawn:=hm.drawn;have eo:os'=s.os:=hm.os;subst eg;subst ed;subst eo;show wpAny _ _ _ _ _ _;refine Zb ?_;show wpAny _ _ (ret Value.none) _ _ _;refine Zb ⟨rfl,h',tk',rfl,H',λb o hb e=>?_⟩;exact hm.heap b o (by simp only[ZD,X2,or_false,not_or];exact⟨Zi hb,by rw[szp];exact Zi (Z7 hb)⟩) (Zq _ (Zq _ e))
   .cases r₂ with
    |error e=>exact hr₂
    |ok fl₂ =>
     cases fl₂ with
     |ret r =>
      refine wG hr₂ λzr0 zz=>zc2c zz λh' tk zr3 hS' hk'=>?_;subst zr0;subst zr3
      repeat (any_goals (first|assumption|wp_step))
      exact h _ _ hS' hk'
     |_=>exact hr₂.elim
  |_=>exact hr.elim
end
noncomputable def so (p:Int×Int):PyData:=.tuple [.int p.1,.int p.2]
def f6 (r:X8):PyData:=.tuple (r.map so)
def lK (p:Int×Int):Int:=nO ([p.1,p.2].map hashInt)
def jL (r:X8):Int:=nO (r.map lK)
noncomputable def vC (hp:Heap)(v:Value)(p:Int×Int):Prop:=∃a o vs n t u,v=.ref a/\hp.get? a=some o/\o.cls=.type "tuple" /\ o.data=.seq vs n/\vs.toList=[.int p.1 t,.int p.2 u]
inductive IsPairs (hp:Heap):Yf->X8->Prop
 |nil:IsPairs hp [] []
 |cons {v vs p r}:vC hp v p->IsPairs hp vs r->IsPairs hp (v::vs) (p::r)
noncomputable def vt (hp:Heap)(v:Value)(r:X8):Prop:=∃a o vs n,v=.ref a/\hp.get? a=some o/\o.cls=.type "tuple" /\ o.data=.seq vs n/\IsPairs hp vs.toList r
def pair_reads (h:vC hp v p):Reads hp v (so p) []:=by
 refine zc4a h λa o vs n zz=>zc2a zz λt u zz=>xk zz λzr6 h1 h2 h3 h4=>?_;subst zr6;refine .tuple h1 h2 h3 ?_;rw[h4];exact .cons (as:=[]) (bs:=[]) (.int _ _) (.cons (as:=[]) (bs:=[]) (.int _ _) .nil)
def pairs_reads:∀{vs:Yf} {r:X8},IsPairs hp vs r->ReadsAll hp vs (r.map so) []:=λh=>by
 induction h with
 |nil=>exact .nil
 |cons h1 _ ih=>exact .cons (as:=[]) (bs:=[]) (pair_reads h1) ih
def oO (h:vt hp v r):Reads hp v (f6 r) []:=by
 refine zc4a h λa o vs n zz=>xk zz λzr4 h1 h2 h3 h4=>?_;subst zr4;exact .tuple h1 h2 h3 (pairs_reads h4)
def vC.keep (k:∀b o,hp.get? b=some o->hp'.get? b=some o)(h:vC hp v p):vC hp' v p:=by
 refine zc4a h λa o vs n zz=>zc2c zz λt u e h1 r=>?_;exact⟨a,o,vs,n,t,u,e,k _ _ h1,r⟩
theorem IsPairs.keep (k:∀b o,hp.get? b=some o->hp'.get? b=some o)(h:IsPairs hp vs r):IsPairs hp' vs r:=by
 induction h with
 |nil=>exact .nil
 |cons h1 _ ih=>exact .cons (h1.keep k) ih
theorem vt.keep (k:∀b o,hp.get? b=some o->hp'.get? b=some o)(h:vt hp v r):vt hp' v r:=by
 refine zc4a h λa o vs n zz=>xk zz λe h1 h2 h3 h4=>?_;exact⟨a,o,vs,n,e,k _ _ h1,h2,h3,h4.keep k⟩
def pair_plain (h:vC hp v p)(n:Nat):PlainV hp (n+1) v:=by
 refine zc4a h λa o vs k zz=>zc2a zz λt u zz=>xk zz λzr6 h1 h2 h3 h4=>?_;subst zr6;refine .tup h1 h2 h3 λx hx=>?_;rw[h4] at hx;rcases ZD.mp hx with e|e
 .rw[e];exact .int _ _ _
 .rw[ZF.mp e];exact .int _ _ _
def row_plain (h:vt hp v r)(n:Nat):PlainV hp (n+2) v:=by
 obtain⟨a,o,vs,k,rfl,h1,h2,h3,h4⟩:=h;refine .tup h1 h2 h3 ?_;generalize vs.toList=l at h4
 induction h4 with
 |nil=>intro x hx;cases hx
 |cons g1 _ ih =>
  intro x hx;rcases ZD.mp hx with e|e
  .rw[e];exact pair_plain g1 n
  .exact ih x e
section
variable {prog:Program}{w:World}{A:Around}{E:Ya}{s:Shared}
def hash_pairs (hu:A.units<cLine):∀{vs:Yf} {r:X8},IsPairs s.heap vs r->HashAll prog w A E s vs (r.map lK):=λh=>by
 induction h with
 |nil=>exact .nil
 |cons h1 _ ih =>
  refine .cons (λtk Q h=>?_) ih;refine zc4a h1 λa o vs n zz=>zc2a zz λt u zz=>xk zz λzr6 g1 g2 g3 g4=>?_;subst zr6;refine lD g1 g2 g3 hu ?_ h;rw[g4];exact ny (.cons _ _ (.cons _ _ .nil))
def hash_row (hr:vt s.heap v r)(hu:A.units<cLine)(hu1:A.in1.units<cLine)(h:∀tk,s.toks<=tk->Q (jL r) { s with toks:=tk }):YG prog w A (pyHash v) Q E s:=by
 refine zc4a hr λa o vs n zz=>xk zz λzr4 g1 g2 g3 g4=>?_;subst zr4;have e:s={ s with toks:=s.toks }:=by cases s;rfl
 rw[e];exact lD (tk0:=s.toks) g1 g2 g3 hu (hash_pairs hu1 g4) h
end
def pair_eqv (p q:Int×Int):PyData.eqv (so p) (so q)=decide (p=q):=by
 unfold so PyData.eqv PyData.eqvAll PyData.eqvAll PyData.eqvAll PyData.eqv;obtain⟨a,b⟩:=p;obtain⟨c,d⟩:=q;rw[Xt];simp
theorem og:∀r q:X8,PyData.eqvAll (r.map so) (q.map so)=decide (r=q)
 | [],[]=>by unfold List.map PyData.eqvAll;simp
 | [],_::_=>by rw[Zl,Xx];unfold PyData.eqvAll;simp
 |_::_,[]=>by rw[Zl,Xx];unfold PyData.eqvAll;simp
 |p::r,q::s=>by
  rw[Zl,Zl];unfold PyData.eqvAll;rw[pair_eqv,og r s,Xt];simp
def row_eqv (r q:X8):PyData.eqv (f6 r) (f6 q)=decide (r=q):=by
 unfold f6 PyData.eqv;exact og r q
theorem o9:∀r:X8,PyData.canLayAll0 (r.map so)=true
 | []=>rfl
 |p::r=>by
  rw[Zl];unfold PyData.canLayAll0;rw[o9 r];rfl
def jc (r:X8):(f6 r).canLay0=true:=o9 r
theorem sS:∀r:X8,PyData.depthAll (r.map so)<=1
 | []=>Nat.zero_le _
 |p::r=>by
  rw[Zl];unfold PyData.depthAll;have h1:(so p).depth=1:=rfl;have h2:=sS r;rw[h1];omega
def row_depth (r:X8):(f6 r).depth<=2:=Nat.succ_le_succ (sS r)
def vC.inj (h:vC hp v p)(h':vC hp v q):p=q:=by
 refine zc4a h λa o vs n zz=>zc2a zz λt u zz=>xk zz λzr6 h1 h2 h3 h4=>?_;subst zr6;refine zc4a h' λa' o' vs' n' zz=>zc2a zz λt' u' zz=>xk zz λe k1 k2 k3 k4=>?_;cases e;rw[h1] at k1;obtain rfl:=Zqi k1;rw[h3] at k3;cases k3;rw[h4] at k4;simp only[List.cons.injEq,Value.int.injEq,and_true] at k4;exact Prod.ext k4.1.1 k4.2.1
theorem IsPairs.inj:∀{vs:Yf} {r q:X8},IsPairs hp vs r->IsPairs hp vs q->r=q:=λ{vs r q} g h=>by
 induction g generalizing q with
 |nil=>cases h;rfl
 |cons h1 _ ih =>
  cases h with
  |cons k1 k2=>rw[h1.inj k1,ih k2]
theorem vt.inj (h:vt hp v r)(h':vt hp v q):r=q:=by
 refine zc4a h λa o vs n zz=>xk zz λzr4 h1 h2 h3 h4=>?_;subst zr4;refine zc4a h' λa' o' vs' n' zz=>xk zz λe k1 k2 k3 k4=>?_;cases e;rw[h1] at k1;obtain rfl:=Zqi k1;rw[h3] at k3;cases k3;exact h4.inj k4
open Classical in
def gL (hp:Heap)(v:Value):X8:=if h:∃r,vt hp v r then h.choose else[]
def su (h:vt hp v r):gL hp v=r:=by
 unfold gL;have e:∃r,vt hp v r:=⟨r,h⟩;rw[dif_pos e];exact e.choose_spec.inj h
def rows_fam (prog:Program)(w:World)(hp:Heap):KeyFam prog w hp (λv=>∃r,vt hp v r) (λv=>jL (gL hp v)) (λv u=>decide (gL hp v=gL hp u)) where
 ref:=by
  rintro v ⟨r,a,o,vs,n,e,_⟩;exact⟨a,e⟩
 plain:=by
  rintro v ⟨r,h⟩;exact row_plain h 6
 hash:=by
  rintro v ⟨r,h⟩ A E s Q hk hu hq;rw[su h] at hq;exact hash_row (h.keep hk) () (show A.units+1<cLine from ()) hq
 eq:=by
  rintro v u ⟨r,h⟩ ⟨q,h'⟩ A E s Q hk hu hq;rw[su h,su h',<- row_eqv] at hq;have d1:=row_depth r;exact SeqAt.eqBoolOverData prog w A E s v u (f6 r) (f6 q) [] [] Q (oO (h.keep hk)) (oO (h'.keep hk)) (jc r) (jc q) () hq
 coh:=by
  intro v u _ _ h;rw[of_decide_eq_true h]
def y4:Slot "set_iterator" "__next__" "set_iterator.__next__" :=
 .of (owner:= "set_iterator") (n:= "__next__") (by rw[typeLookup_type,builtinLookup_eq_fast];kernel_rfl) (by decide +kernel) (by decide +kernel) (by decide +kernel)
  (by first|exact .inl (by decide +kernel)|exact .inr (by decide +kernel)) (by rw[isSubtype_type];kernel_rfl)
def vb:entryFor table "set_iterator.__next__" = some Builtin.«set_iterator.__next__»:=entryFor_of_tree (by kernel_rfl)
def o0:Manifest.owners.lookup (String.ofList ['r','o','t','a','r','e','t','i','_','t','e','s'].reverse)=some Manifest.sig_set_iterator:=by kernel_rfl
def vB (a:Value):argsOk "set_iterator.__next__" ⟨[a],[]⟩:=by
 unfold argsOk;rw[signature?_of (id:= "set_iterator.__next__") (n:=['_','_','t','x','e','n','_','_']) (o:=['r','o','t','a','r','e','t','i','_','t','e','s']) (by kernel_rfl) o0];kernel_rfl
def entry_set_iter:entryFor table "set.__iter__" = some Builtin.«frozenset.__iter__»:=entryFor_alias (id':= "frozenset.__iter__") (by kernel_rfl) rfl (by decide +kernel) (by kernel_rfl)
def vK:Slot "set_iterator" "__iter__" "set_iterator.__iter__" :=
 .of (owner:= "set_iterator") (n:= "__iter__") (by rw[typeLookup_type,builtinLookup_eq_fast];kernel_rfl) (by decide +kernel) (by decide +kernel) (by decide +kernel)
  (by first|exact .inl (by decide +kernel)|exact .inr (by decide +kernel)) (by rw[isSubtype_type];kernel_rfl)
def entry_sit_iter:entryFor table "set_iterator.__iter__" = some Builtin.«dict_keyiterator.__iter__» :=
 entryFor_alias (id':= "dict_keyiterator.__iter__") (by kernel_rfl) (by first|rfl|decide +kernel|(unfold String.splitOn;simp -iota +decide [String.splitOnAux])) (by decide +kernel) (by kernel_rfl)
def args_sit_iter (a:Value):argsOk "set_iterator.__iter__" ⟨[a],[]⟩:=by
 unfold argsOk;rw[signature?_of (id:= "set_iterator.__iter__") (n:=['_','_','r','e','t','i','_','_']) (o:=['r','o','t','a','r','e','t','i','_','t','e','s']) (by kernel_rfl) o0];kernel_rfl
abbrev dg (h:Heap)(it S:Addr)(slot i n ep:Nat):Prop:=h.get? it=some { cls:=.type "set_iterator",dict:=none,data:=.fields #[.int slot 0,.int i 0,.ref S,.int n 0,.int ep 0],slots:=#[] }
abbrev sf (es:Array (Int×Value))(ep:Nat)(t:YA):Obj:={ cls:=.type "set",dict:=none,data:=.set es ep t,slots:=#[] }
noncomputable def ug (w:World)(S ep:Nat)(es:Array (Int×Value)):Array (Int×Value):=if w.params.followText "set-order" then pickOrder (w.params.setOrder S ep) es else es
theorem jI {α:Type}(next:Nat->Nat):∀(fuel k:Nat) (left:List α) (out:Array α),left.length<=fuel->(pickOrder.go next fuel k left out).toList.Perm (out.toList++left)
 | 0,k,left,out,h=>by
  have:left=[]:=ZS.mp ();subst this;unfold pickOrder.go;rw[Zz]
 |fuel+1,k,left,out,h=>by
  unfold pickOrder.go;cases q:left[next k % left.length]? with
  |none =>
   have hl:left.length=0:=by
    rcases Nat.eq_zero_or_pos left.length with z|z
    .exact z
    .have:=Nat.mod_lt (next k) z;rw[Zqg this] at q;cases q
   have:left=[]:=ZS.mp hl;subst this;rw[Zz]
  |some x =>
   have hi:=(ZH.mp q).1;have ex:=(ZH.mp q).2;have hl:=List.length_eraseIdx_of_lt hi;refine(jI next fuel (k+1) _ _ ()).trans ?_;rw[Array.toList_push,ZJ];refine List.Perm.append_left _ ?_;have e1:left=left.take (next k % left.length)++x::left.drop (next k % left.length+1):=by
    have:=ZU hi;rw[ex] at this;rw[<- this,Xe]
   rw[List.eraseIdx_eq_take_drop_succ];refine List.Perm.trans ?_ (List.Perm.of_eq e1.symm);exact(List.perm_middle (l₁:=left.take (next k % left.length))).symm
def pick_perm {α:Type}(next:Nat->Nat)(es:Array α):(pickOrder next es).toList.Perm es.toList:=by
 unfold pickOrder;have:=jI next es.size 0 es.toList #[] (by simp -iota);simpa -iota using this
def oZ (w:World)(S ep:Nat)(es:Array (Int×Value)):(ug w S ep es).toList.Perm es.toList:=by
 unfold ug
 split
 .exact pick_perm _ _
 .exact List.Perm.refl _
def rc (w:World)(S ep:Nat)(es:Array (Int×Value)):(ug w S ep es).size=es.size:=by
 have:=(oZ w S ep es).length_eq;simpa -iota using this
def below_next (u:UpA xs)(hi:i<xs.size):SetTable.below xs (xs[i]+1)=i+1:=by
 refine xF (tz u (xs[i]+1)) λh1 h2 h3=>?_;have e:xs.getD i 0=xs[i]:=yf hi 0;rcases Xm (SetTable.below xs (xs[i]+1)) (i+1) with q|q|q
 .have:=h3 i () hi;omega
 .exact q
 .have a:=h2 (i+1) q;have b:=u i (i+1) () ();omega
def below_zero (xs:Yi)(u:UpA xs):SetTable.below xs 0=0:=by
 refine xF (tz u 0) λh1 h2 h3=>?_;rcases Nat.eq_zero_or_pos (SetTable.below xs 0) with q|q
 .exact q
 .have:=h2 0 q;omega
section
variable {prog:Program}{w:World}{A:Around}{E:Ya}{s:Shared}
def iter_set (ho:s.heap.get? S=some (sf es ep t))(hf:t.fits es.size=true)(hp:t.plain=true)
 (hQ:Q (.ref s.heap.objs.size) { s with heap:=s.heap.push { cls:=.type "set_iterator",data:=.fields #[.int 0 0,.int 0 0,.ref S,.int es.size 0,.int ep 0] } }):YG prog w A (pyIter (.ref S)) Q E s:=by
 have hT:s.TypeIs (.ref S) "set" := ⟨_,ho,rfl⟩;refine wpAny_pyIter_slot hT F.slot_set_iter (wpAny_call_entry F.slot_set_iter hT entry_set_iter ?_ (F.args_set_iter_1 _));unfold Builtin.«frozenset.__iter__» Builtin.Frozenset.slot0 slotArgs;simp only[List.isEmpty_nil,XT,ZO,↓reduceIte,bind_assoc,ZB,bne_self_eq_false];unfold Builtin.Frozenset.addrOf Builtin.Frozenset.sizeOf;refine Za (Zb ?_)
 try dsimp only
 refine Za (Zb ?_);refine Za (Za (wpAny_setEntries_of ho rfl hf (Zb ?_)));have hd:wpAny (model prog w) A.in1 (setDrawn S) (λb s'=>b=false/\s'=s) E s:=by
  unfold setDrawn;refine Za (wpAny_setState_of ho rfl hf ?_);unfold setsByText;refine Za (Za (wpAny_askSetting (Zb ?_)));refine Zb ⟨?_,rfl⟩;obtain⟨mask,place,dummies,finger,led,moves,plain⟩:=t;cases hp;exact Bool.and_false _
 refine Za (Zc hd (λb s' z=>?_) λ_ _ e=>e);obtain⟨rfl,rfl⟩:=z;simp only[ZO,↓reduceIte];refine Za (Zb ?_);unfold setEpoch;refine Za (Za (wpAny_setState_of ho rfl hf (Zb ?_)));unfold newFields;refine Za (wpAny_newObj_type (Zb ⟨_,rfl, "set_iterator",_,⟨_,Zr _ rfl,rfl⟩,y4.lookup,hQ⟩) (by simp only[sizeOk,sizeLine_eq,Zm,Zu,ZB];omega))
def hW (ho:s.heap.get? S=some (sf es ep t))(hf:t.fits es.size=true)(hp:t.plain=true)(hl:t.led=df w)(hu:UpA t.place)(hz:t.place.size=es.size)
 (hb:w.params.followText "set-order" = false->SetTable.below t.place slot=i)
 (hQ:∀slot',(w.params.followText "set-order" = false->i<es.size->SetTable.below t.place slot'=i+1)->Q (((ug w S ep es)[i]?).map λe=>(e.2,slot')) s):YG prog w A (setNext S slot i ep) Q E s:=by
 unfold setNext;refine Za (wpAny_setState_of ho rfl hf ?_);unfold setsByText;refine Za (Za (wpAny_askSetting (Zb ?_)));cases q:w.params.followText "set-order" with
 |true =>
  have e:({ program:=(model prog w).prog,params:=(model prog w).w.params }:Setting).params.followText "set-order" = true:=q;rw[Zd e];dsimp only;rw[Ze (by simp -iota)];unfold setWalk;refine Za (Za (wpAny_setState_of ho rfl hf ?_));unfold setsByText;refine Za (Za (wpAny_askSetting (Zb ?_)));rw[Zd e];refine Za (wpAny_askSetting (Zb (Zb ?_)));have:=hQ slot λz=>by rw[q] at z;cases z
  unfold ug at this;rw[Zd q] at this;exact this
 |false =>
  have e:¬({ program:=(model prog w).prog,params:=(model prog w).w.params }:Setting).params.followText "set-order" = true:=by
   show ¬w.params.followText "set-order" = true;rw[q];simp -iota
  rw[Ze e];dsimp only;have hw:ug w S ep es=es:=by unfold ug;rw[q];rfl
  rw[hw] at hQ;have hb:=hb q;rw[hb];have hl:t.led=true:=by rw[hl];unfold df;rw[q];rfl
  obtain⟨mask,place,dummies,finger,led,moves,plain⟩:=t;cases hp;cases hl
  split
  .rename_i z;exact Zn z Zj
  .refine Za ?_;refine Zb (a:=Yt) ?_;refine Zb ?_;by_cases hi:i<es.size
   .have hj:i<place.size:=by rw[show place.size=es.size from hz];exact hi
    have:=hQ (place[i]+1) λ_ _=>below_next hu hj;rw[ZI hi] at this;rw[ZI hi,ZI hj];exact this
   .have:=hQ 0 λ_ z=>Zn z hi;rw[Xp ()] at this;rw[Xp (show es.size<=i from ())];exact this
abbrev ik (w:World)(it S:Addr)(es:Array (Int×Value))(ep:Nat)(t:YA)(i:Nat)(h:Heap):Prop:=(∃slot,dg h it S slot i es.size ep/\(w.params.followText "set-order" = false->i<=es.size->SetTable.below t.place slot=i))/\h.get? S=some (sf es ep t)
structure SetGood (w:World)(es:Array (Int×Value))(t:YA):Prop where
 fits:t.fits es.size=true
 plain:t.plain=true
 led:t.led=df w
 up:UpA t.place
 size:t.place.size=es.size
def sit_item (G:SetGood w es t)(st:ik w it S es ep t i s.heap)(hi:i<es.size)
 (hQ:∀h' x,(∃k,(ug w S ep es)[i]? = some (k,x))->ik w it S es ep t (i+1) h'->Heap.SameBut it s.heap h'->Q (some x) { s with heap:=h' }):YG prog w A (pyNext (.ref it)) Q E s:=by
 obtain⟨⟨slot,hit,hb⟩,ho⟩:=st;have hT:s.TypeIs (.ref it) "set_iterator" := ⟨_,hit,rfl⟩;have hne:S≠it:=λz=>by
  subst z;unfold dg at hit;rw[ho] at hit;have:=Zt Obj.data (Zqi hit);cases this
 unfold pyNext;refine Za (wpAny_attempt (wpAny_callSpecial?_slot (name:=Str.ofString "__next__") hT y4
  (wpAny_call_entry y4 hT vb ?_ (vB _))))
 unfold Builtin.«set_iterator.__next__» slotArgs;simp -iota only[List.isEmpty_nil,XT,ZO,↓reduceIte,bind_assoc,ZB,bne_self_eq_false];refine Za (Zb ?_)
 try dsimp only
 refine Za (wpAny_fieldsOf hit rfl ?_);dsimp only;refine Za (wpAny_setEntries_of ho rfl G.fits ?_);rw[Ze (by simp -iota)];simp -iota only[Int.toNat_natCast];refine Za (hW ho G.fits G.plain G.led G.up G.size (λz=>hb z ()) λslot' hs=>?_);have hw:i<(ug w S ep es).size:=by rw[rc];exact hi
 rw[ZI hw];dsimp only[Option.map_some];refine Za (wpAny_setField_rec hit (by simp -iota) λh₁ he₁ hs₁=>?_);refine Za (wpAny_setField_rec (s:={ s with heap:=h₁ }) he₁ (by simp -iota) λh₂ he₂ hs₂=>?_);have hs₂:Heap.SameBut it h₁ h₂:=hs₂;have hs₁:Heap.SameBut it s.heap h₁:=hs₁;refine Zb ⟨_,rfl,Zb (hQ h₂ _ ⟨_,by rw[ZI hw]⟩ ⟨⟨slot',?_,λz _=>hs z hi⟩,hs₂.extBut _ _ hne (hs₁.extBut _ _ hne ho)⟩ ⟨hs₂.1.trans hs₁.1,λb hb=>(hs₂.2 b hb).trans (hs₁.2 b hb)⟩)⟩;have e:((i+1:Nat):Int)=(i:Int)+1:=()
 unfold dg;rw[e];simpa -iota [rawInt] using he₂
def sit_end (hh:A.handled=none)(G:SetGood w es t)(st:ik w it S es ep t i s.heap)(hi:i=es.size)
 (hQ:∀h',Heap.ExtBut it s.heap h'->Q none { s with heap:=h' }):YG prog w A (pyNext (.ref it)) Q E s:=by
 obtain⟨⟨slot,hit,hb⟩,ho⟩:=st;have hT:s.TypeIs (.ref it) "set_iterator" := ⟨_,hit,rfl⟩;unfold pyNext;refine Za (wpAny_attempt (wpAny_callSpecial?_slot (name:=Str.ofString "__next__") hT y4
  (wpAny_call_entry y4 hT vb ?_ (vB _))))
 unfold Builtin.«set_iterator.__next__» slotArgs;simp -iota only[List.isEmpty_nil,XT,ZO,↓reduceIte,bind_assoc,ZB,bne_self_eq_false];refine Za (Zb ?_)
 try dsimp only
 refine Za (wpAny_fieldsOf hit rfl ?_);dsimp only;refine Za (wpAny_setEntries_of ho rfl G.fits ?_);rw[Ze (by simp -iota)];simp -iota only[Int.toNat_natCast];refine Za (hW ho G.fits G.plain G.led G.up G.size (λz=>hb z ()) λslot' hs=>?_);rw[Xp (by rw[rc];omega)];dsimp only[Option.map_none];refine Za (wpAny_setField hit rfl (by simp -iota) ?_);show wpAny _ _ (newExc (.type "StopIteration") [] >>= _) _ _ _;refine Za ?_;simp -iota only[newExc,newTuple];refine Za (wpAny_newObj_type ?_ (by size_fits));refine Za (m:=firstArgMember _ _) (wpAny_of_eq (a:=Value.none) (by first|rfl|(simp -iota only[firstArgMember];rfl)) ?_);refine wpAny_newObj_type ?_ (by size_fits);simp -iota only[raiseNew];refine Za (wpAny_handled ?_);rw[show A.in1.handled=none from hh];refine Za (Zb (wpAny_throw ?_));refine Za (wpAny_isInstance (T:= "StopIteration") (b:=true) ⟨_,Zr _ rfl,rfl⟩ isSubtype_stop ?_);exact Zb (hQ _ (((Heap.SameBut.update ..).extBut.push _).push _))
end
def walks_set (hh:A.handled=none)(G:SetGood w es t):WalksS prog w A it [it,S] [it] (λg g'=>g'=g) es.size (λi v=>∃k,(ug w S ep es)[i]? = some (k,v)) (λi s=>ik w it S es ep t i s.heap):=
 (show Walks prog w A it [it,S] [it] es.size (λi v=>∃k,(ug w S ep es)[i]? = some (k,v)) (λi h=>ik w it S es ep t i h) from {
  sub:=λb hb=>by simp -iota at hb;simp -iota [hb]
  frame:=λi h h' st hk=>⟨(let ⟨slot,a,b⟩:=st.1;⟨slot,hk it (by simp -iota) _ a,b⟩),hk S (by simp -iota) _ st.2⟩
  item:=λi s Q E hi st hQ=>sit_item G st hi λh' x hx st' sb=>hQ x h' s.toks hx st' λb o hb e=>sb.extBut b o (λh=>hb (by simp -iota [h])) e
  done:=λs Q E st hQ=>sit_end hh G st rfl λh' eb=>hQ h' s.toks λb o hb e=>eb b o (λh=>hb (by simp -iota [h])) e
  self:=λi s Q E st hQ=>by
   obtain⟨⟨slot,hit,hb⟩,ho⟩:=st;have hT:s.TypeIs (.ref it) "set_iterator" := ⟨_,hit,rfl⟩;refine wpAny_pyIter_slot hT vK (wpAny_call_entry vK hT entry_sit_iter ?_ (args_sit_iter _));show wpAny _ _ (ret (.ref it)) _ _ s;exact Zb ⟨_,rfl, "set_iterator",_,hT,y4.lookup,hQ⟩ }).toS
def set_len:typeLookup (.type "set") "__len__" = pure (some (.builtin "set.__len__")):=by rw[typeLookup_type,builtinLookup_eq_fast];kernel_rfl
section
variable {prog:Program}{w:World}{A:Around}{E:Ya}{s:Shared}
def set_hint (hT:s.TypeIs (.ref r) "set")(h:Q false s):YG prog w A (Builtin.List.listLengthHint (.ref r)) Q E s:=by
 unfold Builtin.List.listLengthHint;refine Za (wpAny_specialOf hT set_len ?_);generalize hid:("set.__len__" : String)=id0
 wp_delta
 rw[show splitId id0=some ("set", "__len__") from by subst hid;decide +kernel];subst hid;refine Za (wpAny_isInstance (T:= "set") (b:=true) hT (by rw[isSubtype_type];kernel_rfl) ?_);refine wpAny_ite_split (λhab=>Zn hab (by decide)) (λ_=>?_);refine wpAny_ite_split (λ_=>?_) (λhab=>Zn (by decide +kernel) hab);refine Za (wpAny_typeOf hT ?_);exact Zb h
def collect_set (hh:A.handled=none)(ho:s.heap.get? S=some (sf es ep t))(G:SetGood w es t)(hn:es.size<=1000)
 (h:∀(h':Heap) (tk:Nat) (vs:Yf),(∀b o,s.heap.get? b=some o->h'.get? b=some o)->vs.Perm (es.toList.map (·.2))->s.heap.objs.size<h'.objs.size->R vs { s with heap:=h',toks:=tk }):YG prog w A (collect (.ref S)) R E s:=by
 have hS:S<s.heap.objs.size:=Zk ho;have hT:s.TypeIs (.ref S) "set" := ⟨_,ho,rfl⟩;unfold collect;refine Za (wpAny_runValue (codeAny_builtin F.entry_proto_collect ?_));rw[Around.under_plainId F.plain_proto_collect _];show wpAny _ A.in1 (newList [] >>= λl=>again (.builtin "list.__iadd__" ⟨[l,.ref S],[]⟩)) _ _ s;refine Za (wpAny_newObj_type ?_);refine Zb ⟨plainId_quiet F.plain_list_iadd _,codeAny_builtin F.entry_list_iadd ?_⟩;rw[Around.under_plainId F.plain_list_iadd _];generalize hno:({ cls:=.type "list",data:=.seq ([]:Yf).toArray }:Obj)=no;have hL₁:(s.heap.push no).get? s.heap.objs.size=some no:=Zr _ (by rw[<- hno];rfl);have ho₁:(s.heap.push no).get? S=some (sf es ep t):=Zq _ ho;have hT₁:Shared.TypeIs { s with heap:=s.heap.push no } (.ref S) "set" := ⟨_,ho₁,rfl⟩;have hSL:S≠s.heap.objs.size:=Zi hS;show wpAny _ A.in1 (Builtin.List.listExtendWith (.ref s.heap.objs.size) (.ref S) (.ref s.heap.objs.size)) _ _ _;unfold Builtin.List.listExtendWith;refine Za (wpAny_typeOf hT₁ ?_);have h1:Builtin.List.listSameRef (.ref s.heap.objs.size) (.ref S)=false:=by simp[Builtin.List.listSameRef,Ne.symm hSL]
 have h2:(Value.type "set" == Value.type "list")=false:=by decide
 have h3:(Value.type "set" == Value.type "tuple")=false:=by decide
 simp only[h1,h2,h3,Bool.or_false,ZO,if_false];refine Za (iter_set (s:={ s with heap:=s.heap.push no }) ho₁ G.fits G.plain ?_);have szp:(s.heap.push no).objs.size=s.heap.objs.size+1:=Heap.size_push ..;generalize hI:(s.heap.push no).objs.size=I at *;generalize hni:({ cls:=.type "set_iterator",data:=.fields #[.int 0 0,.int 0 0,.ref S,.int es.size 0,.int ep 0] }:Obj)=ni;have hS₂:=Zq ni ho₁;have hL₂:=Zq ni hL₁;have hI₂:((s.heap.push no).push ni).get? I=some ni:=by rw[<- hI];exact Zr _ (by rw[<- hni];rfl)
 refine Za (wpAny_holding (set_hint ⟨_,hS₂,rfl⟩ ?_));have hIL:I≠s.heap.objs.size:=()
 have key:∀(R':Result->Yz),(∀(h':Heap) (tk c:Nat) (acc:Yn),(∀b o,s.heap.get? b=some o->h'.get? b=some o)->h'.get? s.heap.objs.size=some { cls:=.type "list",dict:=none,data:=.seq acc c,slots:=#[] }->acc.toList.Perm (es.toList.map (·.2))->R' (.ok (.ret (.ref s.heap.objs.size))) { s with heap:=h',toks:=tk }) ->
  ∀(h:Heap) (c₁ tk:Nat),(∀b o,b≠s.heap.objs.size->((s.heap.push no).push ni).get? b=some o->h.get? b=some o)->h.get? s.heap.objs.size=some { cls:=.type "list",dict:=none,data:=.seq #[] c₁,slots:=#[] } ->
  codeAny (model prog w) A (.builtin "list.extend.loop" ⟨[.ref s.heap.objs.size,.ref I,.ref s.heap.objs.size],[]⟩) R' { s with heap:=h,toks:=tk }:=by
  intro R' hR h₀ c₁ tk hk hL;have hSf:s.heap.objs.size ∉ [I,S]:=by
   simp only[ZD,X2,or_false,not_or];exact⟨Ne.symm hIL,Ne.symm hSL⟩
  have hIt:h₀.get? I=some ni:=hk I _ hIL hI₂;rw[<- hni] at hIt;refine codeAny_extend_loopS (walks_set (prog:=prog) (w:=w) (A:=A.in1) (it:=I) (S:=S) (ep:=ep) hh G) (Zh hn (by rw[sizeLine_eq];omega)) s.heap.objs.size hSf _ es.size 0 { s with heap:=h₀,toks:=tk } #[] c₁ rfl (Nat.zero_le _)
   ⟨⟨0,hIt,λ_ _=>below_zero _ G.up⟩,hk S _ hSL hS₂⟩ hL (ItemsOf.nil _) λs' acc c hm hL' hacc=>?_
  obtain⟨h',g',d',tk',os'⟩:=s';have eg:g'=s.gens:=hm.gens;have ed:d'=s.drawn:=hm.drawn;have eo:os'=s.os:=hm.os;subst eg;subst ed;subst eo;refine hR h' tk' c acc (λb o e=>?_) hL' ?_
  .have hb:=Zk e;have hbL:b≠s.heap.objs.size:=Zi hb;have hbI:b≠I:=Zi (Zg hb (by rw[szp];exact Nat.le_succ _));exact hm.heap b o (by simp only[ZD,X2,or_false,not_or];exact⟨hbL,hbI⟩) (hk b o hbL (Zq _ (Zq _ e)))
  .have el:acc.toList=(ug w S ep es).toList.map (·.2):=by
    apply List.ext_getElem?;intro j;rw[Zv];by_cases hj:j<acc.size
    .obtain⟨k,hk⟩:=hacc.2 j acc[j] (ZI hj);have:(ug w S ep es).toList[j]? = some (k,acc[j]):=by simpa using hk
     rw[this];simp[hj]
    .have hw:(ug w S ep es).toList[j]? = none:=List.getElem?_eq_none (by rw[ZM,rc,<- hacc.1];omega);rw[hw];exact List.getElem?_eq_none (by rw[ZM];omega)
   rw[el];exact(oZ w S ep es).map _
 have fin:∀(h':Heap) (tk c:Nat) (acc:Yn),(∀b o,s.heap.get? b=some o->h'.get? b=some o)->h'.get? s.heap.objs.size=some { cls:=.type "list",dict:=none,data:=.seq acc c,slots:=#[] }->acc.toList.Perm (es.toList.map (·.2)) ->
  YG prog w A (do
   let o <- load s.heap.objs.size
   match o.data with
    | .seq xs _=>pure xs.toList
    |_=>unsupported "internal:collect") R E { s with heap:=h',toks:=tk }:=λh' tk c acc kk hl hp=>by
  refine Za (wpAny_load hl ?_);exact Zb (h h' tk acc.toList kk hp (Zk hl))
 have hL₂':((s.heap.push no).push ni).get? s.heap.objs.size=some { cls:=.type "list",dict:=none,data:=.seq #[] 0,slots:=#[] }:=by rw[hL₂,<- hno]
 refine wpAny_ite_split (λ_=>?_) (λ_=>Zb ⟨plainId_quiet F.plain_extend_loop _,key _ (λh' tk c acc kk hl hp=>fin h' tk c acc kk hl hp) _ 0 _ (λb o _ e=>e) hL₂'⟩);refine Za (wpAny_rule ?_);refine Za ?_;show wpAny _ _ (updateSeq s.heap.objs.size (·.push .none) >>= λ_=>updateSeq s.heap.objs.size (·.pop)) _ _ _;refine Za (wpAny_updateSeq hL₂' rfl ?_);have hL₃:=Heap.get?_update_self (Obj.mapSeq (·.push Value.none)) hL₂' rfl;refine wpAny_updateSeq (hz:=by seq_fits) hL₃ rfl ?_;have hL₄:=Heap.get?_update_self (Obj.mapSeq (·.pop)) hL₃ rfl;refine Zb ⟨plainId_quiet F.plain_extend_loop _,key _ (λh' tk c acc kk hl hp=>fin h' tk c acc kk hl hp) _ _ _ (λb o hb e=>?_) hL₄⟩;exact(Heap.get?_update_other _ _ (Ne.symm hb)).trans ((Heap.get?_update_other _ _ (Ne.symm hb)).trans e)
end
theorem sW:∀{us:Yf} {r:X8},vj h us r->IsPairs h us r
 | [],[],_=>.nil
 | [],_::_,p=>by have:=p.1;simp at this
 |_::_,[],p=>by have:=p.1;simp at this
 |u::us,q::r,p=>by
  refine zc4a (p.2 0 q rfl) λb ob nb t zz=>zc1d zz λv g1 g2 g3 g4=>?_;have g1:some u=some (Value.ref b):=g1;obtain rfl:=Zqi g1;refine .cons ⟨b,ob,_,nb,t,v,rfl,g2,g3,g4,rfl⟩ (sW ⟨by have:=p.1;simpa using this,λi x hx=>p.2 (i+1) x hx⟩)
def row_of_at (R:RowAt h v r a o us n):vt h v r:=
 ⟨a,o,us.toArray,n,R.isv,R.get,R.cls,R.dat,sW R.prs⟩
noncomputable def uC (rs:X9):Nat->List Nat
 | 0=>[]
 |n+1=>if(uC rs n).any (λi=>decide (rs.getD i []=rs.getD n [])) then uC rs n else uC rs n++[n]
def dedI_succ (rs:X9)(n:Nat):uC rs (n+1)=if(uC rs n).any (λi=>decide (rs.getD i []=rs.getD n [])) then uC rs n else uC rs n++[n]:=rfl
def pQ (rs:X9):X9:=(uC rs rs.length).map λi=>rs.getD i []
theorem vq (rs:X9):∀n i,i∈uC rs n->i<n
 | 0,i,h=>by cases h
 |n+1,i,h=>by
  unfold uC at h
  split at h
  .have:=vq rs n i h;omega
  .rcases ZL.mp h with q|q
   .have:=vq rs n i q;omega
   .rw[ZF.mp q];omega
theorem qK (rs:X9):∀n,(uC rs n).length<=n
 | 0=>Zf _
 |n+1=>by
  have:=qK rs n;unfold uC
  split
  .omega
  .rw[ZC,ZT];omega
theorem qk (rs:X9):∀n,((uC rs n).map λi=>rs.getD i []).Nodup
 | 0=>List.nodup_nil
 |n+1=>by
  have ih:=qk rs n;unfold uC
  split
  .exact ih
  .rename_i h;rw[ZR,List.nodup_append];refine⟨ih,by simp,λx hx y hy=>?_⟩;rw[Zl,Xx,ZF] at hy;subst hy;intro z;subst z;refine zc1b (ZE.mp hx) λi hi e=>?_;exact h (Xb.mpr ⟨i,hi,Zp e⟩)
theorem kw (rs:X9):∀n (r:X8),r∈((uC rs n).map λi=>rs.getD i [])↔∃i,i<n/\rs.getD i []=r
 | 0,r=>by
  constructor
  .intro h;cases h
  .rintro⟨i,hi,_⟩;omega
 |n+1,r=>by
  have ih:=kw rs n;unfold uC
  split
  .rename_i h;refine zc1b (Xb.mp h) λj hj e=>?_;have e:=of_decide_eq_true e;rw[ih];constructor
   .rintro⟨i,hi,z⟩;exact⟨i,(),z⟩
   .rintro⟨i,hi,z⟩;by_cases q:i=n
    .subst q;exact⟨j,vq rs i j hj,by rw[e,z]⟩
    .exact⟨i,(),z⟩
  .rw[ZR,ZL,ih];constructor
   .rintro(⟨i,hi,z⟩|z)
    .exact⟨i,(),z⟩
    .rw[Zl,Xx,ZF] at z;exact⟨n,(),z.symm⟩
   .rintro⟨i,hi,z⟩;by_cases q:i=n
    .subst q;exact .inr (by rw[Zl,Xx,ZF];exact z.symm)
    .exact .inl ⟨i,(),z⟩
def qC (rs:X9):(pQ rs).Nodup:=qk rs _
def lJ (rs:X9):(pQ rs).length<=rs.length:=by unfold pQ;rw[Zql];exact qK rs _
def qF:r∈pQ rs↔r∈rs:=by
 unfold pQ;rw[kw];constructor
 .rintro⟨i,hi,z⟩;rw[ZG,Zqg hi] at z;rw[<- z];exact Z6 hi
 .intro h;obtain⟨i,hi,z⟩:=Xf h;exact⟨i,hi,by rw[ZG,Zqg hi,<- z];rfl⟩
theorem fM {same:Value->Value->Bool}{val:Nat->Value}{rs:X9}{n:Nat}(h:∀i j,i<n->j<n->same (val i) (val j)=decide (rs.getD i []=rs.getD j [])):∀k,k<=n->gb same val k=(uC rs k).map val
 | 0,_=>rfl
 |k+1,hk=>by
  rw[vO,fM h k (),dedI_succ];unfold oM;have e:((uC rs k).map val).any (same · (val k))=(uC rs k).any (λi=>decide (rs.getD i []=rs.getD k [])):=by
   rw[List.any_map,Xt,Xb,Xb];constructor
   .rintro⟨i,hi,z⟩;exact⟨i,hi,by rw[<- h i k (by have:=vq rs k i hi;omega) ()];exact z⟩
   .rintro⟨i,hi,z⟩;exact⟨i,hi,by show same (val i) (val k)=true;rw[h i k (by have:=vq rs k i hi;omega) ()];exact z⟩
  rw[e]
  split
  .rfl
  .rw[ZR];rfl
theorem wT {G:Hp}{rs:X9}{ys:YB}(h:zw G (rs.map rD) ys):∀ix:Yj,(∀i∈ix,i<rs.length)->zw G ((ix.map λi=>rs.getD i []).map rD) (ix.map λi=>ys.getD i .non)
 | [],_=>by unfold zw;rfl
 |i::ix,hi=>by
  have hl:=hi i Zqs;refine zc1b (h.get (i:=i) (d:=rD (rs.getD i [])) (by rw[Zv,Zqg hl,z6 (Zqg hl)];rfl)) λx hx hI=>?_;rw[Zl,Zl,Zl];unfold zw;refine⟨x,_,?_,hI,wT h ix λj hj=>hi j (Zqm _ hj)⟩;rw[z6 hx]
noncomputable def d8 (w:World)(S:Addr)(ys:YB):HO:=.ext λh=>∃es ep t us,h.get? S=some (sf es ep t)/\SetGood w es t/\es.size<=1000/\(es.toList.map (·.2)).Perm us/\yi ys us
def lu (w:World):YB->Hp->VK->Prop:=λxs H Q=>∃a ys rs,xs=[.ref a]/\Rd H a (.lst ys)/\zw H (rs.map rD) ys/\rs.length<=999/\∀S,H S=none->Q (.ref S) (upd H S (d8 w S ((uC rs rs.length).map λi=>ys.getD i .non)))
def mY (w:World):YB->Hp->VK->Prop:=λxs H Q=>∃S ys rs,xs=[.ref S]/\H S=some (d8 w S ys)/\zw H (rs.map rD) ys/\(∀r∈rs,r ≠ [])/\rs.length<1000 /\
 ∀l zs,H l=none->(∀G,zw G (rs.map rD) ys->zw G ((zY yF rs).map rD) zs)->Q (.ref l) (upd H l (.lst zs))
def perm_rows (p:us.Perm vs):∀{zs:YB} {rs:X9},yi zs us->zs.length=rs.length->∃(zs2:YB) (rs2:X9),yi zs2 vs/\rs2.Perm rs/\zs2.length=rs2.length/\∀G,zw G (rs.map rD) zs->zw G (rs2.map rD) zs2:=by
 induction p with
 |nil=>exact λ{zs rs} h hl=>⟨zs,rs,h,.refl _,hl,λ_ h=>h⟩
 |cons x _ ih =>
  intro zs rs h hl;cases h with
  |cons r h =>
   cases rs with
   |nil=>simp at hl
   |cons q rs =>
    refine zc2d (ih h (by simpa using hl)) λzs2 rs2 h2 p2 l2 g2=>?_;refine⟨_::zs2,q::rs2,.cons r h2,p2.cons q,by simp[l2],λG hG=>?_⟩;rw[Zl] at hG ⊢;unfold zw at hG ⊢;refine zc2c hG λy w e h3 h4=>?_;cases e;exact⟨_,_,rfl,h3,g2 G h4⟩
 |swap x y l =>
  intro zs rs h hl;cases h with
  |cons r h =>
   cases h with
   |cons r' h =>
    cases rs with
    |nil=>simp at hl
    |cons q rs =>
     cases rs with
     |nil=>simp at hl
     |cons q' rs =>
      refine⟨_,q'::q::rs,.cons r' (.cons r h),.swap _ _ _,by simpa using hl,λG hG=>?_⟩;rw[Zl,Zl] at hG ⊢;unfold zw at hG ⊢;refine zc2c hG λy w e h3 h4=>?_;cases e;unfold zw at h4;refine zc2c h4 λy w e h5 h6=>?_;cases e;refine⟨_,_,rfl,h5,?_⟩;unfold zw;exact⟨_,_,rfl,h3,h6⟩
 |trans _ _ ih1 ih2 =>
  intro zs rs h hl;refine zc2d (ih1 h hl) λzs2 rs2 h2 p2 l2 g2=>?_;refine zc2d (ih2 h2 l2) λzs3 rs3 h3 p3 l3 g3=>?_;exact⟨zs3,rs3,h3,p3.trans p2,l3,λG hG=>g3 G (g2 G hG)⟩
section
variable {X:Cx}
def call_setRows (hc:X.calm=true)(hu:X.A.units+64<cLine):zD X (.type "set") (lu X.w):=by
 intro Y s Z H xs us Q I rv h;refine zc3a h λa ys rs zz=>xk zz λzr3 ha hA hl q=>?_;subst zr3;refine zc1b (vF rv) λu zr1 ru=>?_;subst zr1;obtain rfl:u=Value.ref a:=ru;refine zc1c (I.list (.inl ha)) λits ri pl hz=>?_;have l1:=hA.length;have l2:=ri.length;rw[Zql] at l1;have sz:its.toArray.size=its.length:=Zm;have gd:∀i,its.toArray.getD i .none=its.getD i .none:=λi=>by
  rw[Z1,ZG];simp
 have isr:∀i,i<its.length->vt s.heap (its.getD i .none) (rs.getD i []):=λi hi=>by
  have hr:i<rs.length:=()
  refine zc1b (hA.get (i:=i) (d:=rD (rs.getD i [])) (by rw[Zv,Zqg hr,z6 (Zqg hr)];rfl)) λx hx hI=>?_;refine zc1b (ri.get hx) λv hv rr=>?_;refine zc4a (ir I.hok hI rr) λb o ws n R=>?_;rw[z6 hv];exact row_of_at R
 refine call_set_fam (I.ok.hd hc) pl.isList (rows_fam X.prog X.w s.heap) (λi v hv=>?_) (by rw[sz];omega) (by show X.A.units+1+1+1+8<cLine;omega) λh' tk H' kk=>?_
 .have hi:i<its.length:=by
   have:=(XA.mp hv).1;omega
  have e:v=its.getD i .none:=by
   rw[<- gd,Z1,hv];rfl
  rw[e];exact⟨_,isr i hi⟩
 .have same:∀i j,i<its.toArray.size->j<its.toArray.size->(λv u=>decide (gL s.heap v=gL s.heap u)) ((λi=>its.toArray.getD i .none) i) ((λi=>its.toArray.getD i .none) j)=decide (rs.getD i []=rs.getD j []):=λi j hi hj=>by
   show decide (gL s.heap (its.toArray.getD i .none)=gL s.heap (its.toArray.getD j .none))=_;rw[gd,gd,su (isr i ()),su (isr j ())]
  refine zc2d H' λes t SI pm led plain=>?_;rw[fM same _ (Zf _)] at pm;obtain⟨ep,ho⟩:=SI.at_;have en:its.toArray.size=rs.length:=()
  rw[en] at pm;have pm2:(es.toList.map (·.2)).Perm ((uC rs rs.length).map λi=>its.getD i .none):=by
   have:=pm.map (·.2);rw[Zw,Zw] at this;refine this.trans (List.Perm.of_eq (XD λi _=>?_));exact gd i
  have vl:yi ((uC rs rs.length).map λi=>ys.getD i .non) ((uC rs rs.length).map λi=>its.getD i .none):=wW λi hi=>by
   have hi:=vq rs _ i hi;obtain⟨x,hx⟩:∃x,ys[i]? = some x:=⟨ys[i]'(),Zqg ()⟩;refine zc1b (ri.get hx) λv hv rr=>?_;rw[z6 hx,z6 hv];exact rr
  have szs:es.size<=1000:=by
   have:=pm2.length_eq;rw[Zql,Zql,ZM] at this;have:=qK rs rs.length;omega
  have szp:t.place.size=es.size:=by
   have:=SI.tab.size;rw[Z0] at this;exact this
  refine⟨.ref s.heap.objs.size,upd H s.heap.objs.size (d8 X.w s.heap.objs.size ((uC rs rs.length).map λi=>ys.getD i .non)),I.laid (t':=tk) (λb o e=>kk b o (Zk e) e) (Zf _) ?_,rfl,q _ (I.hok.fresh (Zf _))⟩;refine⟨⟨es,ep,t,_,ho,⟨SI.tab.fits,plain,led,SI.tab.up,szp⟩,szs,pm2,vl⟩,⟨_,ho⟩,λh1 h2 z kp=>?_⟩;refine zc4a z λes ep t us zz=>wG zz λe r=>?_;exact⟨es,ep,t,us,kp _ e,r⟩
def setO_at (I:Inv X Y Z H s)(h:H S=some (d8 X.w S ys)):∃es ep t us,s.heap.get? S=some (sf es ep t)/\SetGood X.w es t/\es.size<=1000/\(es.toList.map (·.2)).Perm us/\yi ys us:=(show yr X.prog X.w H s.heap S (d8 X.w S ys) from I.hok S _ h).1
def sorted_of2
 (hc:wpAny (model prog w) A.in1 (collect x) (λvs s1=>∃lt,Wk lt/\vs.length<1000/\(∀h',(∀b o,s1.heap.get? b=some o->h'.get? b=some o)->2<=vs.length->cQ prog w A.in1.in1 { s1 with heap:=h' } vs lt) /\
  ∀jx h' l,Pl vs.length jx vs.length->Up lt jx vs.length->(∀b o,s1.heap.get? b=some o->h'.get? b=some o)->s1.heap.objs.size<=l->(∃e,h'.get? l=some (seqObj "list" (jx.map (xw vs)) e))->Q (.ref l) { s1 with heap:=h' }) E s):
 YG prog w A (call (.builtin "sorted") [x]) Q E s:=by
 refine Calls.call_function_entry kind_sorted plain_sorted entry_sorted (args_sorted1 _) ?_;unfold Builtin.«sorted»;refine Za (m:=checkCount "sorted" 1 1 _) (Zb (Za (Zc hc (λvs s1 z=>?_) λ_ _ e=>e)));refine zc1d z λlt W h64 hk hq=>?_;have gl:(s1.heap.push (seqObj "list" vs.toArray 0)).get? s1.heap.objs.size=some (seqObj "list" vs.toArray 0):=Zr _ rfl;have nl:∀b o,s1.heap.get? b=some o->b≠s1.heap.objs.size:=λb o e=>Zi (Zk e);refine Za (wpAny_newList (Za (wpAny_holding (wpAny_call_entry slot_list_sort ⟨_,gl,rfl⟩ entry_list_sort (qa (s:={ s1 with heap:=s1.heap.push (seqObj "list" vs.toArray 0) }) W gl h64 (λh' kp=>hk h' λb o e=>kp b o (nl b o e) (Zq _ e)) λjx p u=>⟨_,rfl,Zb ⟨_,rfl,?_⟩⟩) (args_list_sort _)))));refine hq jx _ _ p u (λb o e=>?_) (Zf _) (sortedHeap_at gl);rw[sortedHeap_old (nl b o e) (by rw[size_push'];exact Z7 (Zk e))];exact Zq _ e
def call_sortedSet (hc:X.calm=true)(hu:X.A.units+64<cLine):zD X (.builtin "sorted") (mY X.w):=by
 intro Y s Z H xs us Q I rv h;refine zc3a h λS ys rs zz=>xk zz λzr3 hS hA hne zz=>wG zz λh64 q=>?_;subst zr3;refine zc1b (vF rv) λu zr1 ru=>?_;subst zr1;obtain rfl:u=Value.ref S:=ru;refine zc4a (setO_at I hS) λes ep t ws zz=>xk zz λho G hsz pm vl=>?_;have l1:=hA.length;rw[Zql] at l1;have hlt:∀vs:Yf,vs.Perm (es.toList.map (·.2))->vs.length=rs.length:=λvs hv=>by
  have a:=hv.length_eq;have b:=pm.length_eq;have c:=vl.length;omega
 refine sorted_of2 (collect_set (A:=X.A.in1) (E:=X.xe) (I.ok.hd hc) ho G hsz λh1 tk vs kk hv hsz1=>?_);refine zc2d (perm_rows (pm.symm.trans hv.symm) vl ()) λys2 rs2 vl2 p2 l2 g2=>?_;have lv:=hlt vs hv;have lr:=p2.length_eq;have A2:=g2 H hA;have ne2:∀r∈rs2,r ≠ []:=λr hr=>hne r (p2.mem_iff.mp hr);refine⟨λi j=>yF (rs2.getD i []) (rs2.getD j []),zR.wk λi=>rs2.getD i [],(),λh' kp h2=>oD (by show X.A.units+1+1+4<cLine;omega) (I.hok.kept λb o e=>kp b o (kk b o e)) A2 vl2 ne2 h2,λjx h' l p u kp hl gl=>?_⟩;obtain⟨e,gl⟩:=gl;have lv2:vs.length=rs2.length:=()
 rw[lv2] at p u;have szl:s.heap.objs.size<=l:=by
  have hl:h1.objs.size<=l:=hl;omega
 have at_:∀i∈jx.toList,∃x v,ys2[i]? = some x/\vs[i]? = some v/\yw x v:=λi hi=>by
  have hn:=p.mem hi;obtain⟨x,hx⟩:∃x,ys2[i]? = some x:=⟨ys2[i]'(),Zqg ()⟩;refine zc1b (vl2.get hx) λv hv rr=>?_;exact⟨x,v,hx,hv,rr⟩
 have sp:=wy zR p u;have se:zY yF rs2=zY yF rs:=lM zR (((zt (ltb:=yF) rs2).trans p2).trans (zt (ltb:=yF) rs).symm) (xM zR rs2) (xM zR rs);have fin:=q l (jx.toList.map λi=>ys2.getD i .non) (I.hok.fresh szl) λG hG=>by
  have:=wT (g2 G hG) jx.toList λi hi=>p.mem hi;rw[sp,se] at this;exact this
 refine⟨.ref l,upd H l (.lst (jx.toList.map λi=>ys2.getD i .non)),I.laid (a:=l) (o:=.lst (jx.toList.map λi=>ys2.getD i .non)) (t':=tk) (λb o e=>kp b o (kk b o e)) szl ⟨?_,jx.toList.map (xw vs),e,?_,?_⟩,rfl,fin⟩
 .rw[Zql,p.len];exact v0 ()
 .refine wW λi hi=>?_;refine zc2c (at_ i hi) λx v hx hv rr=>?_;unfold xw;rw[z6 hx,z6 hv];exact rr
 .rw[gl]
  congr 3
  apply Array.ext';simp
end
end L2.ST
namespace L2.DL
open PySem PySem.Spec PyProof.Rows L2.ST
def vL:YD->YE
 | [.lst ds]=>(xH vI ds).bind λrs=>if(∀r∈rs,r ≠ [])/\(pQ rs).length<1000/\rs.length<=999 then some (.lst ((zY yF (pQ rs)).map rwD)) else none
 |_=>none
section
variable {X:Cx}{E:XK}{fr:FA}{es:Ym}{e:Expr}
def q_sortSet (h:∀{ta:TA},PA X es ta->PE X e (tCB (mY X.w) (dz (tCB (lu X.w) ta) bF)))(ha:QA X E es fr):QN X E e (xB vL fr):=PE.weak (h ha) λZ H Q zh=>by
 refine zc3b zh λB F sd r n=>?_;refine⟨B,F,sd,r,(Res.need_bind n).mono (λds n1 vs F1 H1 e1 i1=>?_) λ_ _ q=>q⟩;refine zc1b (Res.need_ofO n1) λz hz q=>?_;unfold vL at hz
 split at hz
 .refine zc1b (Option.bind_eq_some_iff.mp hz) λrs h1 hz=>?_
  split at hz
  .rename_i hc;obtain rfl:=Zqi hz;refine zc1b (wB i1) λv zr1 h=>?_;subst zr1;rw[uG h1,IsD.lst_iff] at h;refine zc2c h λa ys zr2 g1 g2=>?_;subst zr2;refine⟨a,ys,rs,rfl,g1.same e1.fh,wY.mp (zo.same e1.fh _ _ g2),hc.2.2,λS hS=>?_⟩;have sn:=yW hS (d8 X.w S ((uC rs rs.length).map λi=>ys.getD i .non));have pk:∀G,zw G (rs.map rD) ys->zw G ((pQ rs).map rD) ((uC rs rs.length).map λi=>ys.getD i .non):=λG hG=>wT hG _ λi hi=>vq rs _ i hi;refine⟨S,_,pQ rs,rfl,zv,pk _ (zw.same sn _ _ (wY.mp (zo.same e1.fh _ _ g2))),λr hr=>hc.1 r (qF.mp hr),hc.2.1,λl zs hl hG=>?_⟩;have hlS:l≠S:=λz=>by rw[z,zv] at hl;cases hl
   have hl1:H1 l=none:=by rw[zC hlS] at hl;exact hl
   have ek:Ext F1 H1 F1 (upd H1 S (d8 X.w S ((uC rs rs.length).map λi=>ys.getD i .non))):=.keep e1.fh hS _;exact(q.ext e1) l F1 _ (ek.trans (.keep ek.fh hl _)) hl1 (zF e1.fh hl1) ⟨zs,zv,wY.mpr (hG F1 (pk F1 (wY.mp g2)))⟩
  .exact zqn hz
 .exact zqn hz
end
def bt_set:bootBuiltins "set" = some (.type "set"):=by kernel_rfl
def gSortSet_rows (h:∀r∈rs,r ≠ [])(h2:(pQ rs).length<1000)(h3:rs.length<=999):vL [.lst (rs.map rwD)]=some (.lst ((zY yF (pQ rs)).map rwD)):=by
 show(xH vI (rs.map rwD)).bind _=_;rw[wb];exact Zd ⟨h,h2,h3⟩
end L2.DL
namespace L2.ST
def llB (a b:X8):Bool:=decide (a.length<b.length)||(decide (a.length=b.length)&&yF a b)
def vk:llB a b=true↔a.length<b.length\/(a.length=b.length/\yF a b=true):=by
 unfold llB;rw[X6,ZQ,decide_eq_true_iff,decide_eq_true_iff]
def iA:llB a b=false↔b.length<a.length\/(a.length=b.length/\yF a b=false):=by
 cases q:llB a b with
 |true =>
  rw[vk] at q;constructor
  .intro z;cases z
  .rintro(z|⟨z1,z2⟩)
   .rcases q with q|⟨q1,q2⟩<;>omega
   .rcases q with q|⟨q1,q2⟩
    .omega
    .rw[z2] at q2;exact zqb q2
 |false =>
  refine⟨λ_=>?_,λ_=>rfl⟩;have nq:¬(llB a b=true):=by rw[q];simp -iota
  rw[vk] at nq;rcases Xm a.length b.length with z|z|z
  .exact Zn (.inl z) nq
  .refine .inr ⟨z,?_⟩;cases w:yF a b with
   |true=>exact Zn (.inr ⟨z,w⟩) nq
   |false=>rfl
  .exact .inl z
def qy:Tot llB where
 asy:=λa b h=>by
  rw[vk] at h;rw[iA];rcases h with h|⟨h1,h2⟩
  .exact .inl h
  .exact .inr ⟨h1.symm,zR.asy _ _ h2⟩
 neg:=λa b c h=>by
  rw[vk] at h;rw[vk,vk];rcases h with h|⟨h1,h2⟩
  .rcases Xm a.length b.length with z|z|z
   .exact .inl (.inl z)
   .exact .inr (.inl ())
   .exact .inr (.inl ())
  .rcases Xm a.length b.length with z|z|z
   .exact .inl (.inl z)
   .rcases zR.neg a b c h2 with y|y
    .exact .inl (.inr ⟨z,y⟩)
    .exact .inr (.inr ⟨(),y⟩)
   .exact .inr (.inl ())
 tot:=λa b h1 h2=>by
  rw[iA] at h1 h2;rcases h1 with h1|⟨h1,h3⟩<;>rcases h2 with h2|⟨h2,h4⟩
  .omega
  .omega
  .omega
  .exact zR.tot _ _ h3 h4
def len_places (hs:l.Pairwise λa b=>yF a b=true)(p:Pl l.length jx l.length)(u:Up (λi j=>decide (((l.getD i []).length:Int)<((l.getD j []).length:Int))) jx l.length):jx.toList.map (λi=>l.getD i [])=zY llB l:=by
 refine lM qy ?_ ?_ (xM qy l)
 .refine List.Perm.trans ?_ (zt (ltb:=llB) l).symm;have q:jx.toList.Perm (List.range l.length):=by
   have:=Array.perm_iff_toList_perm.mp p.perm;simpa -iota using this
  refine(q.map _).trans (List.Perm.of_eq ?_);apply List.ext_getElem
  .simp -iota
  .intro i h1 h2;simp -iota [h2]
 .refine ZZ.mpr λa b ha hb ab=>?_;rw[List.getElem_map,List.getElem_map];have sz:jx.toList.length=l.length:=by rw[ZM,p.size]
  rw[Zql] at ha hb;have ea:jx.toList[a]=gx jx a:=by
   unfold gx;rw[ZI (by rw[p.size];omega)];simp -iota
  have eb:jx.toList[b]=gx jx b:=by
   unfold gx;rw[ZI (by rw[p.size];omega)];simp -iota
  rw[ea,eb];have la:=p.lt (Zf _) (show a<l.length from ());have lb:=p.lt (Zf _) (show b<l.length from ());have bf:=u a b ab ();generalize gx jx a=i at bf la;generalize gx jx b=j at bf lb;show llB (l.getD j []) (l.getD i [])=false;rw[iA];rcases bf with bf|⟨bf,ij⟩
  .have:=of_decide_eq_true bf;exact .inl ()
  .have:=of_decide_eq_false bf;rcases Nat.lt_or_ge (l.getD i []).length (l.getD j []).length with z|z
   .exact .inl z
   .refine .inr ⟨(),zR.asy _ _ ?_⟩;have:=ZZ.mp hs i j la lb ij;rw[z6 (Zqg la),z6 (Zqg lb)];exact this
section
variable {prog:Program}{w:World}{A:Around}{E:Ya}{s:Shared}
def keyed_orc (hk:IntsAre keys kz)(hl:kz.length=vs.length):Orc prog w A s oneType' (λi=>(xw keys i,xw vs i)) (λi j=>decide (kz.getD i 0<kz.getD j 0)) vs.length:=by
 have at_:∀{keys:Yf} {kz:Yh},IntsAre keys kz->∀i,i<kz.length->∃t,xw keys i=.int (kz.getD i 0) t:=by
  intro keys kz h
  induction h with
  |nil=>intro i hi;exact Zn hi (Xa _)
  |cons n t _ ih =>
   intro i hi;cases i with
   |zero=>exact⟨t,rfl⟩
   |succ i=>exact ih i (by simpa -iota using hi)
 intro i j hi hj E Q hq;obtain⟨t,e1⟩:=at_ hk i ();obtain⟨u,e2⟩:=at_ hk j ();show YG prog w A (keyLt' oneType' (xw keys i) (xw keys j)) Q E s;rw[e1,e2];exact W.kat_lt_int hq
def keyed_wk (kz:Yh):Wk λi j=>decide (kz.getD i 0<kz.getD j 0):=
 ⟨λi j h=>by have:=of_decide_eq_true h;exact Zo (),λi j k h=>by
  have:=of_decide_eq_true h;rcases Int.lt_or_le (kz.getD i 0) (kz.getD j 0) with q|q
  .exact .inl (Zp q)
  .exact .inr (Zp ())⟩
def keyed_end (hk:IntsAre keys.toList kz)(hl:kz.length=vs.length)(h64:vs.length<1000)(hka:kS≠a)
 (hK:s.heap.get? kS=some (seqObj "list" keys e)) (hA:s.heap.get? a=some (seqObj "list" #[] e1))
 (h:∀jx h',Pl vs.length jx vs.length->Up (λi j=>decide (kz.getD i 0<kz.getD j 0)) jx vs.length->(∀b o,b≠kS->b≠a->s.heap.get? b=some o->h'.get? b=some o)->(∃c,h'.get? a=some (seqObj "list" (jx.map (xw vs)) c))->P (.done (.ret .none)) { s with heap:=h' }):
 YG prog w A (ksk_end a false vs.toArray e1 (.ref kS) keys) P E s:=by
 have hsz:keys.size=vs.length:=by
  have h1:=hk.length;rw[ZM] at h1;omega
 have kl:keys=keys.toList.toArray:=Array.toArray_toList.symm;have zr:keys.zip vs.toArray=(Array.range vs.length).map λi=>(xw keys.toList i,xw vs i):=by
  apply Array.ext_getElem?;intro k;rw[Xn];by_cases hk':k<vs.length
  .rw[XY,Zd hk'];have e:xw vs k=vs[k]:=by unfold xw;rw[ZG,Zqg hk'];rfl
   have e2:xw keys.toList k=keys[k]'():=by unfold xw;rw[ZG,Zqg (by rw[ZM];omega)];simp -iota
   simp -iota [Array.getElem?_zip_eq_some,hk',hsz,e,e2]
  .rw[XY,Ze hk',Xp (by simp -iota;omega)];rfl
 have tail:∀(st:SortSt) (jx:Yi),arrOf st=jx.map (λi=>(xw keys.toList i,xw vs i))->failedOf st=none->Pl vs.length jx vs.length->Up (λi j=>decide (kz.getD i 0<kz.getD j 0)) jx vs.length->YG prog w A (ksk_tail a false e1 (.ref kS) st) P E s:=by
  intro st jx q1 q2 q3 q4;have ms:(arrOf st).map (·.2)=jx.map (xw vs):=by rw[q1,Array.map_map];rfl
  unfold ksk_tail;dsimp only;rw[ms,q2];obtain⟨c1,g1⟩:∃c1,(s.heap.update kS (Obj.mapSeq λ_ => #[])).get? kS=some (seqObj "list" #[] c1):=⟨_,get?_update_seq hK (λ_ => #[])⟩;have hA1:(s.heap.update kS (Obj.mapSeq λ_ => #[])).get? a=some (seqObj "list" #[] e1):=by rw[Heap.get?_update_ne _ _ _ _ (Ne.symm hka)];exact hA
  refine Za (listUpdate_at hK rfl ?_ (by rw[hsz,sizeLine_eq];omega) (Nat.zero_le _));refine Za (wpAny_letGo ?_);refine Za (seqEpoch_at (s:={ s with heap:=s.heap.update kS (Obj.mapSeq λ_ => #[]) }) hA1 rfl (Za (listUpdate_at (s:={ s with heap:=s.heap.update kS (Obj.mapSeq λ_ => #[]) }) hA1 rfl ?_ (Nat.zero_le _) (by rw[Ze Zj,Z0,q3.size,sizeLine_eq];omega))));simp -iota only[bne_self_eq_false,ZO,if_false];refine Zb (h jx _ q3 q4 (λb o hb hb2 eb=>?_) ?_)
  .show((s.heap.update kS (Obj.mapSeq λ_ => #[])).update a (Obj.mapSeq λ_=>jx.map (xw vs))).get? b=some o;rw[Heap.get?_update_ne _ _ _ _ hb2,Heap.get?_update_ne _ _ _ _ hb];exact eb
  .exact⟨_,get?_update_seq hA1 (λ_=>jx.map (xw vs))⟩
 unfold ksk_end;dsimp only;simp -iota only[ZO,if_false];by_cases h2:vs.toArray.size<2
 .rw[Zd h2,Zd h2];refine Za (Zb ?_);rw[StateT.run_pure];refine Za (Zb ?_);refine tail _ (Array.range vs.length) zr rfl (tI _ _ (Zf _)) λi j ij jn=>?_;rw[Zm] at h2;omega
 .rw[Ze h2,Ze h2];rw[Zm] at h2;rw[ksk_kind hk (by rw[hsz];omega)];refine Za (Zb ?_);refine Za (Zc (iQ (keyed_wk kz) (keyed_orc hk hl) (ix:=Array.range vs.length) (st:=SortSt.mk' oneType' (keys.zip vs.toArray) #[] 7 none) (Q:=λ_ st'=>∃jx,arrOf st'=jx.map (λi=>(xw keys.toList i,xw vs i))/\failedOf st'=none/\Pl vs.length jx vs.length/\Up (λi j=>decide (kz.getD i 0<kz.getD j 0)) jx vs.length)
   ⟨zr,rfl,rfl,rfl⟩ (tI _ _ ()) () h64 λjx st' a1 a2 a3 a4=>⟨jx,a1,a2,a3,a4⟩) ?_ λ_ _ e=>e)
  rintro⟨⟨⟩,st'⟩ s' ⟨rfl,jx,q1,q2,q3,q4⟩;exact tail st' jx q1 q2 q3 q4
def keyed_rest {a kS:Addr}{f:Value}{vs:Yf}{kz:Yh}{e1:Nat}{P:PySem.Fin->Yz}(hl:kz.length=vs.length)(h64:vs.length<1000)(hka:kS≠a)
 (hK:s.heap.get? kS=some (seqObj "list" #[] 0)) (hA:s.heap.get? a=some (seqObj "list" #[] e1))
 (turn:∀(i:Nat) (v:Value) (k:Int),vs[i]? = some v->kz[i]? = some k->∀(h:Heap) (tk:Nat),(∀b o,b≠kS->b≠a->s.heap.get? b=some o->h.get? b=some o) ->
  YG prog w A (call f [v]) (λr s'=>∃t tk',r=.int k t/\s'={ s with heap:=h,toks:=tk' }) (λ_ _=>False) { s with heap:=h,toks:=tk })
 (h:∀jx h' tk,Pl vs.length jx vs.length->Up (λi j=>decide (kz.getD i 0<kz.getD j 0)) jx vs.length->(∀b o,b≠kS->b≠a->s.heap.get? b=some o->h'.get? b=some o)->(∃c,h'.get? a=some (seqObj "list" (jx.map (xw vs)) c))->P (.done (.ret .none)) { s with heap:=h',toks:=tk }):
 YG prog w A (ksk_rest a f false vs.toArray e1 (.ref kS)) P E s:=by
 unfold ksk_rest;refine Za (wpAny_rule ?_)
 first
  |rw[List.forIn_toArray]
  | (rw[<- Array.forIn_toList];simp -iota only[List.toList_toArray])
  |rw[<- Array.forIn_toList]
 refine Za (ksk_fold (λi s'=>∃h' tk kA e,s'={ s with heap:=h',toks:=tk }/\(∀b o,b≠kS->s.heap.get? b=some o->h'.get? b=some o)/\h'.get? kS=some (seqObj "list" kA e)/\IntsAre kA.toList (kz.take i)) vs 0 s
  ⟨s.heap,s.toks,#[],0,rfl,λ_ _ _ e=>e,hK,by simpa -iota using IntsAre.nil⟩ ?step ?done)
 case step =>
  rintro j x s' hx ⟨h',tk,kA,e,rfl,kk,hk1,hk⟩;simp -iota only[Nat.zero_add] at hk ⊢;have hj:j<vs.length:=(ZH.mp hx).1;obtain⟨k,hkj⟩:∃k,kz[j]? = some k:=⟨_,Zqg ()⟩;have hz:kA.size<=vs.length:=by
   have h1:=hk.length;rw[ZM,ZV] at h1;omega
  refine Za (wpAny_attempt (Zc (turn j x k hx hkj h' tk λb o hb _ eb=>kk b o hb eb) (λv s'' he=>?_) λ_ _ hF=>hF.elim));refine zc2b he λt2 tk2 zr2 zr3=>?_;subst zr2;subst zr3
  try dsimp only
  obtain⟨c2,hc2⟩:∃c2,(h'.update kS (Obj.mapSeq (·.push (.int k t2)))).get? kS=some (seqObj "list" (kA.push (.int k t2)) c2):=⟨_,get?_update_seq hk1 (·.push (.int k t2))⟩;have ek:kz.take (j+1)=kz.take j++[k]:=by rw[List.take_add_one,hkj];simp -iota
  have ea:(kA.push (Value.int k t2)).toList=kA.toList++[Value.int k t2]:=by simp -iota
  refine Za (listUpdate_at (s:={ s with heap:=h',toks:=tk2 }) hk1 rfl ?_ (by rw[sizeLine_eq];omega) (Zh (XO (Array.size_push ..)) (by rw[sizeLine_eq];omega)));refine Zb ⟨rfl,_,_,kA.push (.int k t2),c2,rfl,λb o hb eb=>?_,hc2,by rw[ea,ek];exact ksk_snoc hk⟩;show(h'.update kS (Obj.mapSeq (·.push (.int k t2)))).get? b=some o;rw[Heap.get?_update_ne _ _ _ _ hb];exact kk b o hb eb
 case done =>
  rintro s' ⟨h',tk,kA,e,rfl,kk,hk1,hk⟩;have hk':IntsAre kA.toList kz:=by
   have e3:kz.take (0+vs.length)=kz:=Z4 ();rw[e3] at hk;exact hk
  try dsimp only
  refine Za (listItems_at (s:={ s with heap:=h',toks:=tk }) hk1 rfl ?_);exact keyed_end (s:={ s with heap:=h',toks:=tk }) hk' hl h64 hka hk1 (kk a _ (Ne.symm hka) hA) λjx h2 p u k2 g=>h jx h2 tk p u (λb o hb hb2 eb=>k2 b o hb hb2 (kk b o hb eb)) g
def keyed_sort {a:Addr}{f:Value}{vs:Yf}{kz:Yh}{n:Nat}{P:PySem.Fin->Yz}(ho:s.heap.get? a=some (seqObj "list" vs.toArray n))(hl:kz.length=vs.length)(h64:vs.length<1000)
 (turn:∀(i:Nat) (v:Value) (k:Int),vs[i]? = some v->kz[i]? = some k->∀(h:Heap) (tk:Nat),(∀b o,b≠a->s.heap.get? b=some o->h.get? b=some o) ->
  YG prog w A (call f [v]) (λr s'=>∃t tk',r=.int k t/\s'={ s with heap:=h,toks:=tk' }) (λ_ _=>False) { s with heap:=h,toks:=tk })
 (h:∀jx h' tk,Pl vs.length jx vs.length->Up (λi j=>decide (kz.getD i 0<kz.getD j 0)) jx vs.length->(∀b o,b≠a->s.heap.get? b=some o->h'.get? b=some o)->(∃c,h'.get? a=some (seqObj "list" (jx.map (xw vs)) c))->P (.done (.ret .none)) { s with heap:=h',toks:=tk }):
 YG prog w A (ksk_tree a f false) P E s:=by
 have la:a<s.heap.objs.size:=Zk ho;obtain⟨e1,ho1⟩:∃e1,(s.heap.update a (Obj.mapSeq λ_=>(#[]:Yn))).get? a=some (seqObj "list" #[] e1):=⟨_,get?_update_seq ho λ_ => #[]⟩;have hkS:((s.heap.update a (Obj.mapSeq λ_=>(#[]:Yn))).push (seqObj "tuple" vs.toArray 0)).objs.size=s.heap.objs.size+1:=by rw[size_push',Heap.size_update]
 unfold ksk_tree;refine Za (listItems_at ho rfl ?_);refine Za (listUpdate_at ho rfl ?_ (by rw[Zm,sizeLine_eq];omega) (Nat.zero_le _));refine Za (seqEpoch_at ho1 rfl ?_);refine Za (wpAny_newTuple ?_ (by show vs.length<=_;rw[sizeLine_eq];omega));refine Za (wpAny_newList ?_ (Nat.zero_le _));refine wpAny_holding ?_;have hlt:∀{b o},s.heap.get? b=some o->b≠s.heap.objs.size/\b≠s.heap.objs.size+1:=λe=>⟨Zi (Zk e),Zi (Z7 (Zk e))⟩;have keep:∀b o,b≠a->s.heap.get? b=some o->(((s.heap.update a (Obj.mapSeq λ_=>(#[]:Yn))).push (seqObj "tuple" vs.toArray 0)).push (seqObj "list" #[] 0)).get? b=some o:=λb o hb e=>by
  refine Zq _ (Zq _ ?_);rw[Heap.get?_update_ne _ _ _ _ hb];exact e
 refine keyed_rest (s:={ s with heap:=((s.heap.update a (Obj.mapSeq λ_=>(#[]:Yn))).push (seqObj "tuple" vs.toArray 0)).push (seqObj "list" #[] 0) }) (kS:=((s.heap.update a (Obj.mapSeq λ_=>(#[]:Yn))).push (seqObj "tuple" vs.toArray 0)).objs.size)
  hl h64 (by rw[hkS];exact Nat.ne_of_gt (Z7 la)) (Zr _ rfl) (Zq _ (Zq _ ho1))
  (λi v k hv hk h' tk kk=>turn i v k hv hk h' tk λb o hb e=>kk b o (by rw[hkS];exact(hlt e).2) hb (keep b o hb e))
  (λjx h' tk p u kk g=>h jx h' tk p u (λb o hb e=>kk b o (by rw[hkS];exact(hlt e).2) hb (keep b o hb e)) g)
end
section
variable {X:Cx}
def lR:YB->Hp->VK->Prop:=λxs H Q=>∃a ys rs,xs=[.ref a]/\Rd H a (.lst ys)/\zw H (rs.map rD) ys/\rs.Pairwise (λa b=>yF a b=true)/\rs.length<1000/\(∀r∈rs,r.length<=1000) /\
 ∀l zs,H l=none->(∀G,zw G (rs.map rD) ys->zw G ((zY llB rs).map rD) zs)->Q (.ref l) (upd H l (.lst zs))
def sortedLen {Y:Yb}{Z:St}{H:Hp}{s:Shared}{a:Addr}{ys:YB}{rs:X9}{Q:VK}(I:Inv X Y Z H s)(ha:Rd H a (.lst ys))(hA:zw H (rs.map rD) ys)(hs:rs.Pairwise (λa b=>yF a b=true))(h64:rs.length<1000)(hrl:∀r∈rs,r.length<=1000)
 (q:∀l zs,H l=none->(∀G,zw G (rs.map rD) ys->zw G ((zY llB rs).map rD) zs)->Q (.ref l) (upd H l (.lst zs))):
 YF X (call (.builtin "sorted") [.ref a] [(Str.ofString "key",.builtin "len")]) (EP X Y Z Q) X.xe s:=by
 refine zc1c (I.list (.inl ha)) λits ri pl hz=>?_;have l1:=hA.length;have l2:=ri.length;rw[Zql] at l1;have lw:its.length=rs.length:=()
 have hl:=pl.isList;have keep:∀b o,s.heap.get? b=some o->(((s.heap.push (seqObj "list" #[] 0)).update s.heap.objs.size (Obj.mapSeq (· ++ its.toArray))).push (seqObj "list" its.toArray 0)).get? b=some o:=λb o q=>by
  have hlt:b<s.heap.objs.size:=Zk q;refine Zq _ ?_;rw[Heap.get?_update_ne _ _ _ _ (Zi hlt),Heap.get?_push_ne _ _ _ (Zi hlt)];exact q
 have hsz:((s.heap.push (seqObj "list" #[] 0)).update s.heap.objs.size (Obj.mapSeq (· ++ its.toArray))).objs.size=s.heap.objs.size+1:=by
  rw[Heap.size_update,size_push']
 have hoL:(((s.heap.push (seqObj "list" #[] 0)).update s.heap.objs.size (Obj.mapSeq (· ++ its.toArray))).push (seqObj "list" its.toArray 0)).get? (s.heap.objs.size+1)=some (seqObj "list" its.toArray 0):=by
  rw[<- hsz];exact Zr _ rfl
 refine call_function_entry_kw kind_sorted plain_sorted entry_sorted (ksk_s1 _ _) ?_;unfold Builtin.«sorted»;refine Za (m:=checkCount "sorted" 1 1 _) (Zb ?_);refine Za (collect_list hl ?_ (by rw[lw,sizeLine_eq];omega));refine Za (wpAny_newList ?_ (by rw[lw,sizeLine_eq];omega));show wpAny _ _ _ _ _ { s with heap:=((s.heap.push (seqObj "list" #[] 0)).update s.heap.objs.size (Obj.mapSeq (· ++ its.toArray))).push (seqObj "list" its.toArray 0) };rw[hsz];generalize hH:((s.heap.push (seqObj "list" #[] 0)).update s.heap.objs.size (Obj.mapSeq (· ++ its.toArray))).push (seqObj "list" its.toArray 0)=hp at keep hoL;refine Za (wpAny_holding (wpAny_call_entry_kw slot_list_sort ⟨_,hoL,rfl⟩ entry_list_sort ?body (ksk_l1 _ _)))
 case body =>
  show wpAny (model X.prog X.w) X.A.in1.in1 (Builtin.«list.sort» ⟨[.ref (s.heap.objs.size+1)],[(Str.ofString "key",.builtin "len")]⟩) _ _ _;rw[ksk_t4];refine keyed_sort (s:={ s with heap:=hp }) (kz:=rs.map λr=>(r.length:Int)) hoL (by rw[Zql];omega) () (λi v k hv hk h' tk kk=>?_) λjx h' tk p u kk g=>⟨_,rfl,Zb ⟨_,rfl,?_⟩⟩
  .have hi:i<rs.length:=by
    have:=(ZH.mp hk).1
    rwa [Zql] at this
   refine zc1b (hA.get (i:=i) (d:=rD (rs.getD i [])) (by rw[Zv,Zqg hi,z6 (Zqg hi)];rfl)) λx hx hI=>?_;refine zc1b (ri.get hx) λv' hv' rr=>?_;rw[hv] at hv';obtain rfl:=Zqi hv';refine zc4a (ir I.hok hI rr) λb o ws m R=>?_;obtain rfl:v=Value.ref b:=R.isv;have hb:b≠s.heap.objs.size+1:=Zi (Z7 (Zk R.get));have ht:IsTup h' b ws.toArray:=⟨o,kk b o hb (keep b o R.get),R.cls,m,R.dat⟩;have lws:ws.length=(rs.getD i []).length:=R.prs.1;have ek:k=((rs.getD i []).length:Int):=by
    rw[Zv,Zqg hi] at hk;rw[z6 (Zqg hi)];exact(Zqi hk).symm
   have lrow:(rs.getD i []).length<=1000:=by
    rw[z6 (Zqg hi)];exact hrl _ (Z6 hi)
   have ev:Value.int ((ws.toArray.size:Nat):Int) (tk+1)=Value.int k (tk+1):=by rw[Zm,lws,ek]
   exact len_tuple (s:={ s with heap:=h',toks:=tk }) ht (by rw[Zm,lws];omega) ⟨tk+1,tk+1+1,ev,rfl⟩
  .obtain⟨c,g⟩:=g;have kk':∀b o,s.heap.get? b=some o->h'.get? b=some o:=λb o e=>kk b o (Zi (Z7 (Zk e))) (keep b o e);rw[lw] at p u;have ud:(λi j=>decide ((rs.map λr=>(r.length:Int)).getD i 0<(rs.map λr=>(r.length:Int)).getD j 0))=λi j=>decide (((rs.getD i []).length:Int)<((rs.getD j []).length:Int)):=by
    have e:∀i,(rs.map λr=>(r.length:Int)).getD i 0=((rs.getD i []).length:Int):=λi=>by
     rw[ZG,Zv,ZG];cases rs[i]?<;>rfl
    funext i j
    rw[e,e]
   rw[ud] at u;have sp:=len_places hs p u;have szl:s.heap.objs.size<=s.heap.objs.size+1:=Nat.le_succ _;have at_:∀i∈jx.toList,∃x v,ys[i]? = some x/\its[i]? = some v/\yw x v:=λi hi=>by
    have hn:=p.mem hi;obtain⟨x,hx⟩:∃x,ys[i]? = some x:=⟨ys[i]'(),Zqg ()⟩;refine zc1b (ri.get hx) λv hv rr=>?_;exact⟨x,v,hx,hv,rr⟩
   have fin:=q (s.heap.objs.size+1) (jx.toList.map λi=>ys.getD i .non) (I.hok.fresh szl) λG hG=>by
    have:=wT hG jx.toList λi hi=>p.mem hi;rw[sp] at this;exact this
   refine⟨.ref (s.heap.objs.size+1),upd H (s.heap.objs.size+1) (.lst (jx.toList.map λi=>ys.getD i .non)),I.laid (a:=s.heap.objs.size+1) (o:=.lst (jx.toList.map λi=>ys.getD i .non)) (t':=tk) kk' szl ⟨?_,jx.toList.map (xw its),c,?_,?_⟩,rfl,fin⟩
   .rw[Zql,p.len];exact v0 ()
   .refine wW λi hi=>?_;refine zc2c (at_ i hi) λx v hx hv rr=>?_;unfold xw;rw[z6 hx,z6 hv];exact rr
   .rw[g]
    congr 3
    apply Array.ext';simp -iota
def pe_sortLen (hg:Gl X "sorted")(hm:X.mg "sorted" = none)(hg2:Gl X "len")(hm2:X.mg "len" = none)(ha:PA X [e] t)
 (he:autoParam (backTo pos (starEach [e] X.env)=(false,eval e X.env)::backTo pos (starEach [] X.env)) zau._auto_1) (hpl:autoParam ((backTo pos (starEach [e] X.env)).any (·.1)=false) zau._auto_1):PE X (.Call (.Name "sorted" p) [e] [⟨some "key",.Name "len" lp,kp⟩] pos) (tCB lR t):=by
 intro Y s Z H Q I h;refine wpAny_Call_Name_kw (qx I hg hm (show bootBuiltins "sorted" = some (.builtin "sorted") by kernel_rfl) ?_ (by decide) (by decide));refine callWith_kw (thn (ha pos Y s Z H _ I h) λus s1 ⟨vs,H1,I1,r1,q1⟩=>?_) he hpl;refine kws_cons (qx I1 hg2 hm2 boot_len ?_ (by decide) (by decide));refine kws_nil ?_;refine zc3a q1 λa ys rs zz=>xk zz λzr3 h1 h2 h3 zz=>xF zz λh4 h5 q=>?_;subst zr3;refine zc1b (vF r1) λu zr1 ru=>?_;subst zr1;obtain rfl:u=Value.ref a:=ru;exact sortedLen I1 h1 h2 h3 h4 h5 q
end
end L2.ST
namespace L2.DL
open PySem PySem.Spec PyProof.Rows L2.ST
def vN:YD->YE
 | [.lst ds]=>(xH vI ds).bind λrs=>if rs.Pairwise (λa b=>yF a b=true)/\rs.length<1000/\∀r∈rs,r.length<=1000 then some (.lst ((zY llB rs).map rwD)) else none
 |_=>none
section
variable {X:Cx}{E:XK}{fr:FA}{es:Ym}{e:Expr}
def q_sortLen (h:∀{ta:TA},PA X es ta->PE X e (tCB lR ta))(ha:QA X E es fr):QN X E e (xB vN fr):=PE.weak (h ha) λZ H Q zh=>by
 refine zc3b zh λB F sd r n=>?_;refine⟨B,F,sd,r,(Res.need_bind n).mono (λds n1 vs F1 H1 e1 i1=>?_) λ_ _ q=>q⟩;refine zc1b (Res.need_ofO n1) λz hz q=>?_;unfold vN at hz
 split at hz
 .refine zc1b (Option.bind_eq_some_iff.mp hz) λrs h1 hz=>?_
  split at hz
  .rename_i hc;obtain rfl:=Zqi hz;refine zc1b (wB i1) λv zr1 h=>?_;subst zr1;rw[uG h1,IsD.lst_iff] at h;refine zc2c h λa ys zr2 g1 g2=>?_;subst zr2;refine⟨a,ys,rs,rfl,g1.same e1.fh,wY.mp (zo.same e1.fh _ _ g2),hc.1,hc.2.1,hc.2.2,λl zs hl hG=>?_⟩;exact(q.ext e1) l F1 _ (.keep e1.fh hl _) hl (zF e1.fh hl) ⟨zs,zv,wY.mpr (hG F1 (wY.mp g2))⟩
  .exact zqn hz
 .exact zqn hz
end
def gSortLen_rows (h:rs.Pairwise (λa b=>yF a b=true))(h2:rs.length<1000)(h3:∀r∈rs,r.length<=1000):vN [.lst (rs.map rwD)]=some (.lst ((zY llB rs).map rwD)):=by
 show(xH vI (rs.map rwD)).bind _=_;rw[wb];exact Zd ⟨h,h2,h3⟩
end L2.DL
namespace L2
def yr.has {P:Program}{w:World}{H:Hp}{h:Heap}{a:Addr}{o:HO}(x:yr P w H h a o):∃u,h.get? a=some u:=by
 cases o with
 |lst xs=>obtain⟨_,_,_,_,e⟩:=x;exact⟨_,e⟩
 |tup xs=>obtain⟨_,_,_,o,e,_⟩:=x;exact⟨_,e⟩
 |dK kvs=>obtain⟨_,_,_,_,o,_,_,e,_⟩:=x;exact⟨_,e⟩
 |dT kvs=>obtain⟨_,_,_,_,o,_,_,e,_⟩:=x;exact⟨_,e⟩
 |set S n=>obtain⟨o,_,_,_,e,_⟩:=x;exact⟨_,e⟩
 |ins C dx fs=>obtain⟨_,_,_,e,_⟩:=x;exact⟨_,e⟩
 |own y=>exact x
 |xd fs=>obtain⟨_,⟨_,_,_,e,_⟩,_⟩:=x;exact⟨_,e⟩
 |rng lo hi=>obtain⟨_,_,_,e⟩:=x;exact⟨_,e⟩
 |frz ob u=>exact⟨_,x.1⟩
 |tbl ps=>exact⟨_,show h.get? a=some _ from x⟩
 |met f y=>exact⟨_,show h.get? a=some _ from x⟩
 |ext φ => exact x.2.1
structure FlyAt (l:List Env)(h₀:Heap)(H:Hp)(x C:Addr)(B h:Heap):Prop where
 fly:∃t,Heap.FlyingW B l x (.ref C) (.ref t) h
 trk:∀b o,h.get? b=some o->(H b≠none\/((∃u,h₀.get? b=some u)/\b∉frs l))->B.get? b=some o
def CXE (P:Program)(w:World):CXT:=λouter H s E e s'=>∃H' x C B,e=.ref x/\s'.os=s.os/\AllBare s'.gens/\Un (frs outer) [] H H' s.heap s'.heap/\HOk P w H' s'.heap/\FlyAt outer s.heap H' x C B s'.heap/\E (.ref C) none H'
structure Thrown (X:Cx)(E:XK):Prop where
 on:∀(Y:Yb) (Z:St) (H:Hp) (s:Shared) (h₀:Heap) (x C:Addr) (B:Heap),Inv X Y Z H s->(∀b u,X.s₀.heap.get? b=some u->b∉X.ex->∃u',h₀.get? b=some u')->FlyAt X.stack h₀ H x C B s.heap->E (.ref C) none H->X.xe (.ref x) s
structure Raises (X:Cx)(E:XK):Prop where
 new:∀(Y:Yb) (Z:St) (H:Hp) (s:Shared) (h':Heap) (x C:Addr) (args:Yf),Inv X Y Z H s->Heap.MadeExcOf s.heap h' x (.ref C) args->E (.ref C) none H->X.xe (.ref x) { s with heap:=h' }
def Thrown.passes {X:Cx}{E:XK}(T:Thrown X E):kq (CXE X.prog X.w) X E:=by
 rintro Y Z H s e s' I ⟨H',x,C,B,h1,os,bare,un,hok,fl,hE⟩;subst h1;have I':=I.call' (s':=s') (ch:=[]) os un hok bare (λb z=>Zn z (by simp));exact T.on Y Z H' s' s.heap x C B I' (λb u e hx=>I.base.there b u e hx) fl hE
def je {X:Cx}:Thrown X E0:=⟨λ_ _ _ _ _ _ _ _ _ _ _ z=>z.elim⟩
section
variable {P:Program}{w:World}{K:W.Frag}{mg:Ye}{base:Heap}{N:Yk}{qual:Str}{scope:Scope}{f:Addr}{cd:Value}{A:Around}{outer:List Env}{s:Shared}{H:Hp}{E:XK}
def sL {Y:Yb}{Z:St}{H':Hp}{s':Shared}{h₀ h'' B:Heap}{x C t:Addr}(I:Inv (rA (CXE P w) P w K mg base N qual scope f cd A outer s H E) Y Z H' s')
 (h0:∀b u,s.heap.get? b=some u->∃u',h₀.get? b=some u') (fl:Heap.FlyingW B outer x (.ref C) (.ref t) h'') (up:s'.heap.UpToSlots h'')
 (trk:∀b o,s'.heap.get? b=some o->(H' b≠none\/((∃u,h₀.get? b=some u)/\b∉frs (envOfC qual scope s.heap.objs.size f cd::outer)))->B.get? b=some o) (hE:E (.ref C) none H'):
 CXE P w outer H s E (.ref x) { s' with heap:=h'' }:=by
 have nst:∀b u,s.heap.get? b=some u->b∉frs outer->b∉frs (envOfC qual scope s.heap.objs.size f cd::outer):=λb u e hb z=>by
  unfold frs at z hb;rw[Z2] at z;have z:b∈s.heap.objs.size::outer.filterMap (·.frame):=z;rcases ZD.mp z with q|q
  .exact Zn (Zk e) (by rw[q];exact Zx _)
  .exact hb q
 have nex:∀b:Addr,b∉(rA (CXE P w) P w K mg base N qual scope f cd A outer s H E).ex:=λb z=>Zn (show b∈([]:Yl) from z) (by simp);have keep:∀b o,s'.heap.get? b=some o->(H' b≠none\/((∃u,s.heap.get? b=some u)/\b∉frs outer))->B.get? b=some o:=λb o e c=>by
  refine trk b o e ?_;rcases c with c|⟨⟨u,hu⟩,hb⟩
  .exact .inl c
  .exact .inr ⟨h0 b u hu,nst b u hu hb⟩
 have slot:∀b o,s.heap.get? b=some o->b∈frs outer->∃sl,h''.get? b=some { o with slots:=sl }:=λb o e hb=>by
  obtain⟨sl,e1⟩:=I.base.slot b o e (I.ok.frf b hb) hb (nex b);refine wG (I.ok.funs.mem hb) λ_ zz=>zc1b zz λo' ho' hd=>?_;have ho':s.heap.get? b=some o':=ho';rw[e] at ho';obtain rfl:=Zqi ho';obtain⟨sl',e2⟩:=up b _ e1 hd;exact⟨sl',e2⟩
 refine⟨H',x,C,B,rfl,I.os,I.bare,⟨λb o e n hb _=>?_,λb o e n hb _=>slot b o e hb,λb o e n _=>I.base.free b o e n (nex b),λb o e _=>?_,I.base.tups,I.base.frzs,I.base.tbls⟩,λb u e=>?_,⟨⟨t,fl⟩,λb o e c=>?_⟩,hE⟩
 .exact fl.1 b o (keep b o (I.base.keep b o e n hb (nex b)) (.inr ⟨⟨o,e⟩,hb⟩))
 .by_cases hb:b∈frs outer
  .obtain⟨sl,q⟩:=slot b o e hb;exact⟨_,q⟩
  .obtain⟨o',e'⟩:=I.base.there b o e (nex b);exact⟨o',fl.1 b o' (keep b o' e' (.inr ⟨⟨o,e⟩,hb⟩))⟩
 .refine(I.hok b u e).stay (λc v hc q=>fl.1 c v (keep c v q (.inl ?_))) (λ_ q=>q) λ_ _ q=>q;rcases hc with z|z
  .rw[z,e];simp
  .rw[z];simp
 .have ex:∃o',s'.heap.get? b=some o':=by
   rcases c with c|⟨⟨u,hu⟩,_⟩
   .cases q:H' b with
    |none=>exact Zn q c
    |some u=>exact(I.hok b u q).has
   .exact I.base.there b u hu (nex b)
  obtain⟨o',e'⟩:=ex;have k:=keep b o' e' c;have:=fl.1 b o' k;have e:h''.get? b=some o:=e;rw[e] at this;obtain rfl:=Zqi this;exact k
def xy:Thrown (rA (CXE P w) P w K mg base N qual scope f cd A outer s H E) E:=by
 refine⟨λY Z H' s' h₀ x C B I h0 fl hE=>?_⟩;obtain⟨⟨t,fly⟩,trk⟩:=fl;have nex:∀b:Addr,b∉(rA (CXE P w) P w K mg base N qual scope f cd A outer s H E).ex:=λb z=>Zn (show b∈([]:Yl) from z) (by simp);exact wpAny_leaves_onW I.ok.frames rfl fly λh' fl up=>sL I (λb u e=>h0 b u e (nex b)) fl up trk hE
def raises_def:Raises (rA (CXE P w) P w K mg base N qual scope f cd A outer s H E) E:=by
 refine⟨λY Z H' s' h' x C args I hx hE=>?_⟩;have st:=I.stack;have fin:∀env∈(envOfC qual scope s.heap.objs.size f cd::outer),∀a,env.frame=some a->a∈frs (envOfC qual scope s.heap.objs.size f cd::outer):=λenv he a ha=>XI.mpr ⟨env,he,ha⟩;have B:=W.hideAll s'.heap (frs (envOfC qual scope s.heap.objs.size f cd::outer));refine wpAny_leaves_madeW (s:={ s' with heap:=h' }) (base:=W.hideAll s'.heap (frs (envOfC qual scope s.heap.objs.size f cd::outer))) (h:=s'.heap) I.ok.frames rfl (λb o e=>W.of_hideAll _ e) (W.funFrames_hide st fin) hx λh'' t fl tup tn up=>?_;refine sL (s':=s') (h₀:=s'.heap) I (λb u e=>I.base.there b u e (by show b∉([]:Yl);simp)) fl ((Heap.UpToSlots.of_keeps hx.keeps).trans up) (λb o e c=>?_) hE;refine W.hideAll_get _ e λz=>?_;rcases c with c|c
 .exact c (I.stkFree b z)
 .exact c.2 z
end
def ya (P:Program)(w:World)(K:W.Frag)(mg:Ye)(base:Heap)(name:Str)(k:Nat)(ps:Yk)(sp:Sp):Prop:=
 ∃f fd,FnOk P w K mg base (CXE P w) k f fd ps sp/\oX K fd ps []/\W.keepIn K (.ref f)=true/\mg name=some (.ref f)
theorem ya.mono {P:Program}{w:World}{K:W.Frag}{mg:Ye}{base:Heap}{name:Str}{j k:Nat}{ps:Yk}{sp:Sp}(c:ya P w K mg base name j ps sp)(h:j<=k):ya P w K mg base name k ps sp:=by
 refine zc2b c λf fd F r=>?_;exact⟨f,fd,F.mono h,r⟩
section
variable {X:Cx}{E:XK}{name:Str}{k:Nat}{ps:Yk}{sp:Sp}{p pos:Pos}{e:Expr}{es:Ym}{t:TA}
def pe_fnX (c:ya X.prog X.w X.K X.mg X.base name k ps sp)(T:Thrown X E)(hr:Room k X.A)(hg:Gl X name)(ha:PA X (e::es) t)
 (hdb:autoParam ((name == ("__debug__" : Str))=false) zav._auto_1) (he:starEach (e::es) X.env=(false,eval e X.env)::starEach es X.env:=by rfl) (hpl:(backTo pos (starEach es X.env)).any (·.1)=false:=by rfl):
 PE X (.Call (.Name name p) (e::es) [] pos) (eU sp [] E t):=by
 refine zc2d c λf fd F b hk hm=>?_;exact jY F hr hg hm hk b .nil T.passes ha hdb he hpl
end
def Fun.okX {P:Program}{w:World}{K:W.Frag}{mg:Ye}{base:Heap}{x qual:Str}{st:Stmt}{f:Addr}{fd:FuncData}{N ps:Yk}{k:Nat}{sp:Sp}(F:Fun K x qual st f fd)(S:FnScope N ps (zj st))(len:∀vs H Q E,sp vs H Q E->vs.length=ps.length)
 (hbody:∀(cdv:Value) (A:Around) (outer:List Env) (s:Shared) (H:Hp) (vs:YB) (Q:VK) (E:XK),Room k (A.deeper (envOfC qual (zj st) s.heap.objs.size f cdv))->sp vs H Q E ->
  ∃t,PSs (rA (CXE P w) P w K mg base N qual (zj st) f cdv A outer s H E) (xz st) t/\t { nx:=λ_ H'=>Q .non H',rt:=Q } (start N vs) H):FnOk P w K mg base (CXE P w) (k+1) f fd ps sp:=by
 refine zc4a F.ex λoc od kV doc zz=>zc4a zz λpm an cdv ct zz=>zc1c zz λosl zr9 lk hcd=>?_;subst zr9;exact cM lk hcd S len λA outer s H vs Q E hr hsp=>hbody cdv A outer s H vs Q E hr hsp
end L2
namespace L2.DL
def bE (K:W.Frag)(Fn:YD->Res D):Sp:=λvs H Q E=>∃F ds,yB F H/\zo K F ds vs/\(Fn ds).need (OkD K F H Q) (XW K E F H)
def pG (K:W.Frag)(Fn:YD->Res D):Sp:=λvs H Q E=>∃F ds,yB F H/\zo K F ds vs/\(Fn ds).need (OkN K F H Q) (XW K E F H)
noncomputable def Res.strict {α:Type}:Res α -> Res α
 | .ok a=>.ok a
 |_=>.no
@[simp]def Res.strict_ok {α:Type}(a:α):(Res.ok a).strict=.ok a:=rfl
def Res.need_strict {α:Type}{r:Res α}{p:α -> Prop}{q q':Str->YD->Prop}(h:r.strict.need p q):r.need p q':=by
 cases r with
 |ok a=>exact h
 |ex c fs=>exact h.elim
 |no=>exact h
def rj (Fn:YD->Res D)(fr:FA):FE:=λsd=>(fr sd).bind λds=>(Fn ds).strict
@[simp]def ev_call0 (Fn:YD->Res D)(fr:FA)(sd:SD):rj Fn fr sd=(fr sd).bind λds=>(Fn ds).strict:=rfl
section
variable {X:Cx}{E:XK}{name:Str}{k:Nat}{ps:Yk}{Fn:YD->Res D}{p pos:Pos}{e:Expr}{es:Ym}{fr:FA}
def vT (c:ya X.prog X.w X.K X.mg X.base name k ps (pG X.K Fn))(T:Thrown X E)(hr:Room k X.A)(hg:Gl X name)(ha:QA X E (e::es) fr)
 (hdb:autoParam ((name == ("__debug__" : Str))=false) zav._auto_1) (he:starEach (e::es) X.env=(false,eval e X.env)::starEach es X.env:=by rfl) (hpl:(backTo pos (starEach es X.env)).any (·.1)=false:=by rfl):
 QN X E (.Call (.Name name p) (e::es) [] pos) (zq Fn fr):=PE.weak (pe_fnX c T hr hg ha hdb he hpl) λZ H Q zh=>by
 obtain⟨B,F,sd,r,n⟩:=zh;refine⟨B,F,sd,r,(Res.need_bind n).mono (λxs n1 vs F1 H1 e1 i1=>?_) λ_ _ q=>q⟩;show pG X.K Fn (vs++[]) H1 Q E;rw[Zz];exact⟨F1,xs,e1.fh,i1,dF n1 e1⟩
def jp (c:z7 X.prog X.w X.K X.mg X.base name k ps (SpN X.K Fn))(hr:Room k X.A)(hg:Gl X name)(ha:QA X E (e::es) fr)
 (hdb:autoParam ((name == ("__debug__" : Str))=false) zav._auto_1) (he:starEach (e::es) X.env=(false,eval e X.env)::starEach es X.env:=by rfl) (hpl:(backTo pos (starEach es X.env)).any (·.1)=false:=by rfl):
 QN X E (.Call (.Name name p) (e::es) [] pos) (rj Fn fr):=PE.weak (dE c hr hg ha hdb he hpl) λZ H Q zh=>by
 refine zc3b zh λB F sd r n=>?_;refine⟨B,F,sd,r,(Res.need_bind n).mono (λxs n1 vs F1 H1 e1 i1=>?_) λ_ _ q=>q⟩;show SpN X.K Fn (vs++[]) H1 Q E0;rw[Zz];exact⟨F1,xs,e1.fh,i1,Res.need_strict (dF n1 e1)⟩
end
section
variable {P:Program}{w:World}{K:W.Frag}{mg:Ye}{base:Heap}{x qual:Str}{f:Addr}{fd:FuncData}{N ps:Yk}{k:Nat}{st:Stmt}
def i6 {g:FS}(F:Fun K x qual st f fd)(S:FnScope N ps (zj st))
 (hb:∀(cdv:Value) (A:Around) (outer:List Env) (s:Shared) (H:Hp) (E:XK),Room k (A.deeper (envOfC qual (zj st) s.heap.objs.size f cdv))->QSs (rA (CXE P w) P w K mg base N qual (zj st) f cdv A outer s H E) E true (xz st) g):
 FnOk P w K mg base (CXE P w) (k+1) f fd ps (pG K (ut N.length ps.length g)):=by
 refine F.okX S (λvs H Q E ⟨F,ds,_,h,n⟩=>?_) λcdv A outer s H vs Q E hr ⟨F,ds,hs,h,n⟩=>⟨_,hb cdv A outer s H E hr,?_⟩
 .unfold ut at n
  split at n
  .rw[h.length];assumption
  .exact n.elim
 .unfold ut at n
  split at n
  .refine⟨⟨F,H,λ_=>none⟩,F,_,RS.start hs h,(Res.need_bind n).mono (λo n1=>?_) λ_ _ q=>q⟩;cases o with
   |next sd=>exact n1.elim
   |ret d=>exact n1
   |brk sd=>exact n1.elim
   |cont sd=>exact n1.elim
  .exact n.elim
end
end L2.DL
namespace L2
def log2_small (h:n<1000000):n.log2<20:=by
 by_cases z:n=0
 .subst z;decide
 .exact(Nat.log2_lt z).mpr (Zg h (by decide))
section
variable {X:Cx}{x:Str}{v e:Expr}{tv:TE}{t:TA}{p1 p2 np cpos pos:Pos}{k}
noncomputable def tFmt (x:Str)(tv:TE):TE:=λZ H Q=>tv Z H λy H1=>∃a:Int,y=.int a/\a.natAbs<1000000/\Q (.str (Str.empty++x++Str.ofString (toString a))) H1
def pe_fmt (hx:x.length<=1000)(hv:PE X v tv):PE X (.JoinedStr [.Constant (.str x) k p1,.FormattedValue v (-1) none p2] pos) (tFmt x tv):=by
 intro Y s Z H Q I h;refine wpAny_JoinedStr ?_;have z0:(Str.empty:Str).length=0:=rfl;have sl:sizeLine=_:=sizeLine_eq;show wpAny _ _ (eval (.Constant (.str x) k p1) X.env) _ _ s;refine thn (pe_str Y s Z H (λy H1=>y=.str x/\H1=H) I ⟨rfl,rfl⟩) λu s1 zh=>?_;refine zc2d zh λy H1 I1 r1 e1 e2=>?_;subst e1 e2;obtain⟨t1,rfl⟩:=r1;refine⟨x,t1,rfl,by rw[strLen_append,z0,sizeLine_eq];omega,?_⟩;show wpAny _ _ (eval (.FormattedValue v (-1) none p2) X.env) _ _ s1;refine wpAny_FormattedValue_plain (thn (hv Y s1 Z H1 _ I1 h) λu s2 zh=>?_);refine zc2c zh λy H2 I2 r2 zz=>zc1c zz λa e1 ha q=>?_;subst e1;obtain⟨t2,rfl⟩:=r2;have lg:=log2_small ha;have ln:=int_text_length_le (a:=a) (k:=20) (by decide) lg;have lx:(Str.empty++x++Str.ofString (toString a)).length<=sizeLine:=by rw[strLen_append,strLen_append,z0,PySem.ofString_length,sizeLine_eq];omega
 refine wpAny_formatField_int () ⟨_,_,rfl,lx,lx,?_⟩;exact⟨.str (Str.empty++x++Str.ofString (toString a)),H2,I2.tok _,⟨_,rfl⟩,q⟩
structure Exc (K:W.Frag)(mg:Ye)(c:Str)(C:Addr):Prop where
 ns:W.nsIn K mainGlobals c=some (some (.ref C))
 mgc:mg c=some (.ref C)
 exc:W.excIn K C [.type "ValueError",.type "Exception",.type "BaseException",.type "object"] "ValueError.__new__" = true
noncomputable def ExcP (m:Yf)(l:List Yg)(g:Addr->List Value->Option Value->Option Value->Option Value->Option Value->String->Option Value->Bool):Prop:=
 ∃C bm k0 k1 k2 k3 n k5,m=.ref C::bm/\l=[k0,k1,k2,k3,some (.builtin n),k5]/\g C bm k0 k1 k2 k3 n k5=true
def exc_inner
 (q:W.excIn.match_1 (λ_ _=>Bool) m l g (λ_ _=>false)=true):ExcP m l g:=by
 cases m with
 |nil=>exact zqb q
 |cons v bm =>
  cases v with
  |ref C =>
   cases l with
   |nil=>exact zqb q
   |cons k0 l =>
    cases l with
    |nil=>exact zqb q
    |cons k1 l =>
     cases l with
     |nil=>exact zqb q
     |cons k2 l =>
      cases l with
      |nil=>exact zqb q
      |cons k3 l =>
       cases l with
       |nil=>exact zqb q
       |cons k4 l =>
        cases k4 with
        |none=>exact zqb q
        |some u =>
         cases u with
         |builtin n =>
          cases l with
          |nil=>exact zqb q
          |cons k5 l =>
           cases l with
           |nil=>exact⟨_,_,_,_,_,_,_,_,rfl,rfl,q⟩
           |cons _ _=>exact zqb q
         |_=>exact zqb q
  |_=>exact zqb q
def jt {K:W.Frag}{h:Heap}{C:Addr}{bmB:Yf}{newId:String}{P:Prop}(KI:K.In h)(q:W.excIn K C bmB newId=true)
 (k:∀bm N nm qn bs hdct sn sub ab col dd k0 k1 k2 k3 k5 mN,h.get? C=some (excClassObj nm qn C N bs bm hdct sn sub ab col dd k0 k1 k2 k3 k5 newId)->h.Ns N mN->mN "__init__" = none->OwnTail h bmB bm->P):P:=by
 unfold W.excIn at q
 split at q
 .rename_i dd cd sl ho;obtain⟨C',bm,k0,k1,k2,k3,n,k5,hm,hs,q⟩:=exc_inner q;simp only[ZQ,Ys,Bool.not_eq_true'] at q;obtain⟨⟨⟨⟨⟨z1,z2⟩,hdel⟩,ht⟩,hok⟩,hni⟩:=q;subst z1 z2;have hc:=KI _ _ ho;obtain⟨nm,bs,mro,ns,qn,hd,sn,sub,ab,col,del⟩:=cd;dsimp only at hm hdel hok hni hc;subst hm hdel;have hsl:sl = #[k0,k1,k2,k3,some (.builtin n),k5]:=by
   obtain⟨l⟩:=sl;exact Zt Array.mk hs
  subst hsl;exact k bm ns nm qn bs hd sn sub ab col dd k0 k1 k2 k3 k5 _ hc (.of_isNs (W.isNs_of_in KI hok)) (W.nsMap_none_of_in KI hok hni) (W.tail_of_in KI ht)
 .exact zqb q
noncomputable def tRaise (C:Addr)(E:XK)(t:TA):TS:=λ_ Z H=>t Z H λvs H1=>vs.length<=1000/\E (.ref C) none H1
def ps_raise {E:XK}{c:Str}{C:Addr}(R:Raises X E)(ex:Exc X.K X.mg c C)(hc:X.calm=true)(hg:Gl X c)(ha:PA X [e] t)(hd:autoParam ((c == ("__debug__" : Str))=false) zav._auto_1)
 (he:autoParam (starEach [e] X.env=(false,eval e X.env)::starEach [] X.env) zau._auto_1):PS X (.Raise (some (.Call (.Name c np) [e] [] cpos)) none pos) (tRaise C E t):=by
 intro Y s Z H D I h;refine jt (h:=X.base) I.mod.kin ex.exc λtl N nm q bs hdct sn sub ab col dd k0 k1 k2 k3 k5 mN hC hN hni T=>?_;refine wpAny_Raise_call_subU (C:=C) (nm:=nm) (q:=q) (N:=N) (bs:=bs) (bm:=tl) (hdct:=hdct) (sn:=sn) (sub:=sub) (ab:=ab) (col:=col) (dd:=dd) (k0:=k0) (k1:=k1) (k2:=k2) (k3:=k3) (k5:=k5)
  PySem.F.excBase_ValueError (by decide +kernel) PySem.F.excBase_ValueError (mN:=mN) (T.hasType PySem.F.excBase_ValueError.hasBase) (I.ok.hd hc) (by rw[he];rfl) hni (qX I hg ex.mgc ⟨rfl,?_⟩ hd)
 have hA:=ha cpos Y s Z H _ I h;rw[he] at hA ⊢;refine Calls.evalArgs_plain (Zc hA (λvs s2 ⟨ws,H2,I2,r2,hl,hE⟩=>?_) λ_ _ y=>y);have lw:=r2.length;refine⟨rfl,v0 (by show vs.length<=1000;omega),I2.bk _ _ hC,hN.keeps I2.bk,T.keeps I2.bk,λh' x hx=>R.new Y Z H2 s2 h' x C _ I2 hx hE⟩
end
end L2
namespace L2.DL
noncomputable def cW (x:Str):D->YE
 | .int a=>if Nat.ble a.natAbs 999999=true then some (.str (Str.empty++x++Str.ofString (toString a))) else none
 |_=>none
def gFmt_int (h0: -999999<=a)(h1:a<=999999):∃z,cW x (.int a)=some (.str z):=⟨_,Zd (Nat.ble_eq.mpr ())⟩
def mU (c:Str)(f:FE):FS:=λsd=>(f sd).bind λ_=>.ex c []
@[simp]def ev_raise (c:Str)(f:FE)(sd:SD):mU c f sd=(f sd).bind λ_=>.ex c []:=rfl
section
variable {X:Cx}{E:XK}{m:Option Bool}{x:Str}{v e:Expr}{fv fe:FE}{p1 p2 np cpos pos:Pos}{k}
def q_fmt (hx:x.length<=1000)(hv:QE X E v fv):QE X E (.JoinedStr [.Constant (.str x) k p1,.FormattedValue v (-1) none p2] pos) (dUn (cW x) fv):=
 PE.weak (pe_fmt hx hv) λZ H Q zh=>by
  refine zc3b zh λB F sd r n=>?_;refine⟨B,F,sd,r,(Res.need_bind n).mono (λd n1 y F1 H1 e1 i1=>?_) λ_ _ q=>q⟩;refine zc1b (Res.need_ofO n1) λz hz q=>?_;unfold cW at hz
  split at hz
  .rename_i a
   split at hz
   .rename_i hc;obtain rfl:=Zqi hz;exact⟨a,IsD.int_iff.mp i1,by have:=Nat.ble_eq.mp hc;omega,q _ F1 H1 e1 (IsD.str_iff.mpr rfl)⟩
   .exact zqn hz
  .exact zqn hz
def qs_raise (R:Raises X E)(ex:Exc X.K X.mg c C)(hc:X.calm=true)(hg:Gl X c)(he:QE X E e fe)(hd:autoParam ((c == ("__debug__" : Str))=false) zav._auto_1)
 (hst:autoParam (starEach [e] X.env=(false,eval e X.env)::starEach [] X.env) zau._auto_1):QS X E m (.Raise (some (.Call (.Name c np) [e] [] cpos)) none pos) (mU c fe):=
 PS.weak (ps_raise R ex hc hg (za he zd hst) hd hst) λT Z H zh=>by
  refine zc3b zh λB F sd r n=>?_;have n0:(zb fe zn sd).need (λds=>ds.length=1/\XW X.K E B.F0 B.H0 c []) (XW X.K E F H):=by
   unfold mU at n;unfold zb zn;cases hf:fe sd with
   |ok d=>rw[hf] at n;exact⟨rfl,n⟩
   |ex c' fs=>rw[hf] at n;exact XW.ext (n:XW X.K E B.F0 B.H0 c' fs) r.ext
   |no=>rw[hf] at n;exact n
  refine⟨B,F,sd,r,n0.mono (λds n1 vs F1 H1 e1 i1=>?_) λ_ _ q=>q⟩;have:=i1.length;exact⟨(),n1.2 (.ref C) none F1 H1 (r.ext.trans e1) ⟨C,rfl,ex.ns,.inl rfl⟩⟩
end
end L2.DL
namespace L2
noncomputable def qM (X:Cx)(Y:Yb)(Z:St)(E:XK)(e:Value)(s':Shared):Prop:=
 ∃H' h₀ x C B,e=.ref x/\Inv X Y Z H' s'/\(∀b u,X.s₀.heap.get? b=some u->b∉X.ex->∃u',h₀.get? b=some u')/\(∀p∈X.pn++Y,∃u,h₀.get? p.1=some u)/\FlyAt X.stack h₀ H' x C B s'.heap/\E (.ref C) none H'
section
variable {X:Cx}{Y:Yb}{Z:St}{H:Hp}{s:Shared}{E:XK}
def run_fn_here (F:FnOk X.prog X.w X.K X.mg X.base (CXE X.prog X.w) k f fd ps sp)(hr:Room k X.A)(hb:oX X.K fd ps [])
 (I:Inv X Y Z H s) (r:yi vs us) (h:sp vs H Q E):YF X (call (.ref f) us) (EP X Y Z Q) (qM X Y Z E) s:=by
 have hl:(us++[]).length=ps.length:=by rw[Zz,<- r.length];exact F.len _ _ _ _ h
 have hbb:=hb s us I.kIn hl;rw[Zz] at hbb;refine wpAny_call (codeAny_mono (F.run X.A X.stack s H ⟨us,[]⟩ us vs Q E hr I.env0 hbb r h) λr s' hq=>?_);cases r with
 |error e =>
  refine zc4a hq λH' x C B zz=>xk zz λh1 os bare un zz=>xF zz λhok fl hE=>?_;subst h1;exact⟨H',s.heap,x,C,B,rfl,I.call' (s':=s') (ch:=[]) os un hok bare (λb z=>Zn z (by simp)),λb u e hx=>I.base.there b u e hx,λp hp=>⟨_,(I.pin p hp).1⟩,fl,hE⟩
 |ok fl =>
  cases fl with
  |ret u=>exact I.after hq
  |next=>exact False.elim hq
  |brk=>exact False.elim hq
  |cont=>exact False.elim hq
def ev_call_here (c:ya X.prog X.w X.K X.mg X.base name k ps sp)(hr:Room k X.A)(hg:Gl X name)(ha:PA X.nox (e::es) t)
 (hdb:(name == ("__debug__" : Str))=false) (he:starEach (e::es) X.env=(false,eval e X.env)::starEach es X.env) (hpl:(backTo pos (starEach es X.env)).any (·.1)=false)
 (I:Inv X Y Z H s) (h:t Z H λvs H1=>sp vs H1 Q E):YF X (eval (.Call (.Name name p) (e::es) [] pos) X.env) (EP X Y Z Q) (qM X Y Z E) s:=by
 refine zc2d c λf fd F b hk hm=>?_;refine wpAny_Call_Name_kw (qX I hg hm ?_ hdb);refine W.callWith_K (h₀:=X.base) I.ok.mod.kin hk (Zc (ha pos Y s Z H _ (I.wish _) h) (λus s1 ⟨vs,H1,I1,r,q⟩=>⟨I1.kIn,?_⟩) λ_ _ z=>z.elim) he hpl;exact run_fn_here F hr b I1.unwish r q
def Inv.flown {h₀ h' B:Heap}{x C t:Addr}(I:Inv X Y Z H s)(h0:∀b u,X.s₀.heap.get? b=some u->b∉X.ex->∃u',h₀.get? b=some u')(hp:∀p∈X.pn++Y,∃u,h₀.get? p.1=some u)
 (trk:∀b o,s.heap.get? b=some o->(H b≠none\/((∃u,h₀.get? b=some u)/\b∉frs X.stack))->B.get? b=some o) (fl:Heap.FlyingW B X.stack x (.ref C) (.ref t) h') (up:s.heap.UpToSlots h'):Inv X Y Z H { s with heap:=h' }:=by
 have nst:∀b u,X.s₀.heap.get? b=some u->b∉X.fs->b∉frs X.stack:=λb u e hb z=>by
  rcases ZD.mp (I.stkSub b z) with q|q
  .exact Zn (Zk e) (by rw[q];exact Nat.not_lt.mpr I.ok.above)
  .exact hb q
 have slot:∀b o,X.s₀.heap.get? b=some o->b∈X.fs->b∉X.ex->∃sl,h'.get? b=some { o with slots:=sl }:=λb o e hb hx=>by
  obtain⟨sl,e1⟩:=I.base.slot b o e (I.ok.frf b hb) hb hx;refine wG (I.ok.funs.mem hb) λ_ zz=>zc1b zz λo' ho' hd=>?_;rw[e] at ho';obtain rfl:=Zqi ho';obtain⟨sl',e2⟩:=up b _ e1 hd;exact⟨sl',e2⟩
 have cell:∀c v,s.heap.IsCell c v->h'.IsCell c v:=λc v zh=>by
  refine zc1b zh λo ho hd=>?_;obtain⟨sl,e⟩:=up c o ho λvs q=>by rw[hd] at q;cases q
  exact⟨_,e,hd⟩
 refine zc1b (id I.loc) λm hn hl=>?_;refine⟨I.ok,I.os,I.bare,⟨λb o e n hb hx=>?_,λb o e n hb hx=>slot b o e hb hx,λb o e n hx=>I.base.free b o e n hx,λb o e hx=>?_,I.base.tups,I.base.frzs,I.base.tbls⟩,⟨m,up.ns hn,λi y v h1 h2 h3=>?_⟩,λy c e=>?_,I.free,I.freeC,λp hpp=>?_,λb u e=>?_,I.len⟩
 .exact fl.1 b o (trk b o (I.base.keep b o e n hb hx) (.inr ⟨h0 b o e hx,nst b o e hb⟩))
 .by_cases hb:b∈X.fs
  .obtain⟨sl,q⟩:=slot b o e hb hx;exact⟨_,q⟩
  .obtain⟨o',e'⟩:=I.base.there b o e hx;exact⟨o',fl.1 b o' (trk b o' e' (.inr ⟨h0 b o e hx,nst b o e hb⟩))⟩
 .refine zc1b (hl i y v h1 h2 h3) λu r l=>?_;refine⟨u,r,?_⟩;rcases l with l|⟨k,c,e,z⟩
  .exact .inl l
  .exact .inr ⟨k,c,e,cell c _ z⟩
 .obtain⟨v,q⟩:=I.cell y c e;exact⟨v,cell c v q⟩
 .refine xk (I.pin p hpp) λq1 q2 q3 q4 q5=>?_;refine⟨fl.1 _ _ (trk _ _ q1 (.inr ⟨hp p hpp,λz=>?_⟩)),q2,q3,q4,q5⟩;rcases ZD.mp (I.stkSub _ z) with q|q
  .exact q3 q
  .exact q4 q
 .refine(I.hok b u e).stay (λc v hc q=>fl.1 c v (trk c v q (.inl ?_))) (λ_ q=>q) λ_ _ q=>q;rcases hc with z|z
  .rw[z,e];simp
  .rw[z];simp
abbrev Cx.inSuite (X:Cx)(x:Addr):Cx:={ X with A:=X.A.mark (some (.ref x)),calm:=false,xe:=λ_ _=>False }
def Inv.suite (I:Inv X Y Z H s)(x:Addr):Inv (X.inSuite x) Y Z H s:=
 ⟨⟨I.ok.mod,I.ok.kind,I.ok.glob,I.ok.blt,I.ok.above,I.ok.inj,I.ok.has,I.ok.cab,(λz=>by exact zqb z),I.ok.frames,I.ok.stk,I.ok.exf,I.ok.bs,I.ok.bsz,I.ok.noex,I.ok.exfs,I.ok.funs,I.ok.frf⟩,I.os,I.bare,I.base,I.loc,I.cell,I.free,I.freeC,I.pin,I.hok,I.len⟩
def Inv.unsuite (I:Inv (X.inSuite x) Y Z H s)(ok:X.Ok):Inv X Y Z H s:=⟨ok,I.os,I.bare,I.base,I.loc,I.cell,I.free,I.freeC,I.pin,I.hok,I.len⟩
theorem SP.unsuite (h:SP (X.inSuite x) Y D f s')(ok:X.Ok):SP X Y D f s':=by
 cases f with
 |next=>obtain⟨Z',H',I,q⟩:=h;exact⟨Z',H',I.unsuite ok,q⟩
 |brk=>obtain⟨Z',H',I,q⟩:=h;exact⟨Z',H',I.unsuite ok,q⟩
 |cont=>obtain⟨Z',H',I,q⟩:=h;exact⟨Z',H',I.unsuite ok,q⟩
 |ret u=>obtain⟨v,Z',H',I,r,q⟩:=h;exact⟨v,Z',H',I.unsuite ok,r,q⟩
def handled_here {Ex:Ya}{c:Str}{C:Addr}{b₀:Stmt}{suite:List Stmt}{np hpos:Pos}{ts:TS}{D:Ends}{e:Value}(hst:X.stack=X.env::X.outer)(hfr:X.env.frame=some X.env.locals)(ex:Exc X.K X.mg c C)(hg:Gl X c)
 (hs:∀x,PSs (X.inSuite x) (b₀::suite) ts) (fl:qM X Y Z (λcv _ H2=>cv=.ref C/\ts D Z H2) e s) (hd:(c == ("__debug__" : Str))=false):
 YF X (noteFrame e X.env) (λ_ s₂=>YF X (setFlight e none) (λ_ s₃=>YF X (handleBy e X.env [.ExceptHandler (some (.Name c np)) none (b₀::suite) hpos]) (SP X Y D) Ex s₃) Ex s₂) Ex s:=by
 refine zc4a fl λH' h₀ x C' zz=>zc1a zz λB zz=>xk zz λzr5 I h0 hp zz=>xF zz λzr9 hC' hts=>?_;subst zr5;obtain⟨⟨t,fly⟩,trk⟩:=zr9;cases hC';have fly':=fly;rw[hst] at fly';refine wpAny_looks_onW (I.ok.frames.trans (by rw[hst])) hfr fly' λh₄ held₄ up₄=>?_;refine wpAny_landsW held₄ λh₅ fl₅ up₅=>?_;have fl5:=fl₅;rw[<- hst] at fl5;have up5:=up₄.trans up₅;have I5:=I.flown h0 hp trk fl5 up5;refine wpAny_handleBy_cons (codeAny_handlers_test (qX (X:=X.inSuite x) (I5.suite x) hg ex.mgc ?_ hd)) (by intro q;cases q);refine jt (h:=h₅) I5.kIn ex.exc λtl N nm q bs hdct sn sub ab col dd k0 k1 k2 k3 k5 mN hC hN hni T=>?_;obtain⟨ob,hob,hobc⟩:=fl₅.there;refine wpAny_excMatches_sub_self hC hob hobc (T.hasType PySem.F.excBase_ValueError.hasBase) (codeAny_handlers_suite ?_);refine lands_againW fl₅ λh₆ fl₆ up₆=>?_;rw[<- hst] at fl₆;have I6:=I.flown h0 hp trk fl₆ (up5.trans up₆);exact Zc (hs x Y _ Z H' D (I6.suite x) hts) (λf s2 q=>q.unsuite I.ok) λ_ _ z=>z.elim
end
end L2
namespace L2.DL
section
variable {X:Cx}{E:XK}{m:Option Bool}
def pG.d {K:W.Frag}{Fn:YD->Res D}{vs:YB}{H:Hp}{Q:VK}{E:XK}(h:bE K Fn vs H Q E):pG K Fn vs H Q E:=by
 refine zc2c h λF ds h1 h2 n=>?_;exact⟨F,ds,h1,h2,n.mono (λ_ q=>q.new) λ_ _ q=>q⟩
theorem ya.d {P:Program}{w:World}{K:W.Frag}{mg:Ye}{base:Heap}{name:Str}{k:Nat}{ps:Yk}{Fn:YD->Res D}(c:ya P w K mg base name k ps (pG K Fn)):ya P w K mg base name k ps (bE K Fn):=by
 refine zc2b c λf fd F r=>?_;exact⟨f,fd,F.imp λ_ _ _ _ h=>pG.d h,r⟩
end
end L2.DL
namespace L2
def qq {P:Program}{w:World}{K:W.Frag}{mg:Ye}{base:Heap}{N:Yk}{qual:Str}{scope:Scope}{f:Addr}{cd:Value}{A:Around}{outer:List Env}{s:Shared}{H:Hp}{E:XK} :
 PassesOwn (model (rA (CXE P w) P w K mg base N qual scope f cd A outer s H E).prog (rA (CXE P w) P w K mg base N qual scope f cd A outer s H E).w) (rA (CXE P w) P w K mg base N qual scope f cd A outer s H E).A (rA (CXE P w) P w K mg base N qual scope f cd A outer s H E).env (rA (CXE P w) P w K mg base N qual scope f cd A outer s H E).xe:=
 PassesOwn.leaving (Q₁:=λe s''=>CXE P w outer H s E e s'')
end L2
namespace L2.DL
def sw (R:Res Out->Prop)(P:Nat->SD->Prop)(h0:P 0 sd)(he:∀sd,P ds.length sd->R (.ok (.next sd)))
 (hs:∀(i:Nat) (x:D) (sd:SD),ds[i]? = some x->P i sd->(∃sd',(yD tg x sd).bind b=.ok (.next sd')/\P (i+1) sd')\/∃c es,(yD tg x sd).bind b=.ex c es/\R (.ex c es)):R (kU tg b ds sd):=by
 have key:∀(k i:Nat) (sd:SD),ds.length-i=k->i<=ds.length->P i sd->R (kU tg b (ds.drop i) sd):=by
  intro k
  induction k with
  |zero =>
   intro i sd e hi p;have:i=ds.length:=()
   subst this;rw[XM];exact he sd p
  |succ k ih =>
   intro i sd e hi p;have hlt:i<ds.length:=()
   rw[ZU hlt];unfold kU gg;rcases hs i ds[i] sd (Zqg hlt) p with ⟨sd',h1,h2⟩|⟨c,es,h1,h2⟩
   .rw[h1];exact ih (i+1) sd' () hlt h2
   .rw[h1];exact h2
 have:=key ds.length 0 sd () (Nat.zero_le _) h0
 rwa [List.drop_zero] at this
section
variable {X:Cx}{pos:Pos}
noncomputable def eJ:D->D->YE
 | .lst a,.lst b=>if a.length+b.length<=sizeLine then some (.lst (a++b)) else none
 |_,_=>none
def o_addL:af X (binaryOp .Add) eJ:=OpR.weak iY λx y H Q zh=>by
 refine zc4a zh λF d e z zz=>xk zz λsF id ie hz q=>?_;cases d with
 |lst a =>
  cases e with
  |lst b =>
   have hz:(if a.length+b.length<=sizeLine then some (D.lst (a++b)) else none)=some z:=hz
   split at hz
   .rename_i hl;obtain rfl:=Zqi hz;rw[IsD.lst_iff] at id ie;refine zc2c id λl xs zr2 h1 h2=>?_;subst zr2;refine zc2c ie λl' ys zr2 h3 h4=>?_;subst zr2;have l1:=h2.length;have l2:=h4.length;exact⟨l,l',xs,ys,rfl,rfl,h1.same sF,h3.same sF,(),λp hp=>q p F _ (.keep sF hp _) hp (zF sF hp) ⟨_,zv,h2.append h4⟩⟩
   .exact zqn hz
  |_=>exact zqn hz
 |_=>exact zqn hz
@[simp]def gAddL_lst (a b:YD):eJ (.lst a) (.lst b)=if a.length+b.length<=sizeLine then some (.lst (a++b)) else none:=rfl
end
end L2.DL
namespace L2
abbrev TB:=Ends->XK->St->Hp->Prop
def PB (X:Cx)(body:List Stmt)(t:TB):Prop:=
 ∀(Y:Yb) (s:Shared) (Z:St) (H:Hp) (D:Ends) (E:XK),Inv X Y Z H s->t D E Z H->YF X (execs body X.env) (SP X Y D) (qM X Y Z E) s
section
variable {X:Cx}
def PB.weak (h:PB X b t)(w:∀D E Z H,t' D E Z H->t D E Z H):PB X b t':=λY s Z H D E I q=>h Y s Z H D E I (w _ _ _ _ q)
def pb_expr
 (cc:ya X.prog X.w X.K X.mg X.base name k ps sp) (hr:Room k X.A) (hg:Gl X name) (ha:PA X.nox (e::es) t)
 (hdb:autoParam ((name == ("__debug__" : Str))=false) zav._auto_1) (he:starEach (e::es) X.env=(false,eval e X.env)::starEach es X.env:=by rfl) (hpl:(backTo cpos (starEach es X.env)).any (·.1)=false:=by rfl)
 (hsw:autoParam (swapsWith (.Call (.Name name p) (e::es) [] cpos) none apos.line X.env=pure false) zau._auto_1):
 PB X [.Expr (.Call (.Name name p) (e::es) [] cpos) apos] (λD E Z H=>t Z H λvs H1=>sp vs H1 (λ_ H2=>D.nx Z H2) E):=by
 intro Y s Z H D E I h;refine wpAny_execs_cons (wpAny_Expr_any (Zc (ev_call_here (Q:=λ_ H2=>D.nx Z H2) (E:=E) cc hr hg ha hdb he hpl I h) (λv s1 q=>?_) λe s1 fl=>fl) I.quiet hsw);refine zc2c q λz H1 I1 r1 q1=>?_;exact wpAny_execs_nil ⟨_,H1,I1,q1⟩
def ps_tryB (hst:X.stack=X.env::X.outer)(hfr:X.env.frame=some X.env.locals)(hb:PB X body tb)(ex:Exc X.K X.mg c C)(hgc:Gl X c)(hs:∀x,PSs (X.inSuite x) (b₀::suite) ts)
 (hd:autoParam ((c == ("__debug__" : Str))=false) zav._auto_1):PS X (.Try body [.ExceptHandler (some (.Name c np)) none (b₀::suite) hpos] [] [] pos) (λD Z H=>tb D (λcv _ H2=>cv=.ref C/\ts D Z H2) Z H):=by
 intro Y s Z H D I h;rw[arm_exec_Try];refine Za (wpAny_standAt (wpAny_tryStmt_except (Zc (hb Y s Z H D _ I h) (λf s1 q=>?_) λe s1 fl=>handled_here hst hfr ex hgc hs fl hd)));cases f with
 |next=>exact wpAny_execs_nil q
 |ret v=>exact q
 |brk=>exact q
 |cont=>exact q
end
end L2
namespace L2.DL
def tDB (K:W.Frag)(m:Option Bool)(g:FS):TB:=λD E Z H=>∃B F sd,RS K B F H sd Z /\ (g sd).need (uY K m B F D) (XW K E F H)
abbrev QB (X:Cx)(m:Option Bool)(body:List Stmt)(g:FS):Prop:=PB X body (tDB X.K m g)
def mZ (Fn:YD->Res D)(fr:FA):FE:=λsd=>(fr sd).strict.bind Fn
@[simp]def ev_callS (Fn:YD->Res D)(fr:FA)(sd:SD):mZ Fn fr sd=(fr sd).strict.bind Fn:=rfl
section
variable {X:Cx}{m:Option Bool}
def qb_expr
 (cc:ya X.prog X.w X.K X.mg X.base name k ps (bE X.K Fn)) (hr:Room k X.A) (hg:Gl X name) (ha:QA X.nox E0 (e::es) fr)
 (hdb:autoParam ((name == ("__debug__" : Str))=false) zav._auto_1) (he:starEach (e::es) X.env=(false,eval e X.env)::starEach es X.env:=by rfl) (hpl:(backTo cpos (starEach es X.env)).any (·.1)=false:=by rfl)
 (hsw:autoParam (swapsWith (.Call (.Name name p) (e::es) [] cpos) none apos.line X.env=pure false) zau._auto_1):
 QB X m [.Expr (.Call (.Name name p) (e::es) [] cpos) apos] (gz (mZ Fn fr)):=
 PB.weak (pb_expr cc hr hg ha hdb he hpl hsw) λT E Z H zh=>by
  refine zc3b zh λB F sd r n=>?_;refine⟨B,F,sd,r,?_⟩;unfold gz mZ at n;cases hf:fr sd with
  |ex c' fs=>rw[hf] at n;exact n.elim
  |no=>rw[hf] at n;exact n.elim
  |ok ds =>
   rw[hf] at n;have n:((Fn ds).bind λ_=>Res.ok (Out.next sd)).need (uY X.K m B F T) (XW X.K E F H):=n;show OkA X.K F H _ ds;intro vs F1 H1 e1 i1;refine⟨F1,ds,e1.fh,i1,?_⟩;cases hq:Fn ds with
   |ok d =>
    rw[hq] at n;exact λv F2 H2 e2 i2=>n _ F2 H2 (e1.ff.trans e2.ff) ((r.step e1).step e2)
   |no=>rw[hq] at n;exact n.elim
   |ex c' fs =>
    rw[hq] at n;have n:XW X.K E F H c' fs:=n;exact n.ext e1
def di (c:Str)(gs:FS)(sd:SD):Res Out->Res Out
 | .ok o=>.ok o
 | .ex c' [] => @ite _ (c'=c) (Classical.propDecidable _) (gs sd).strict .no
 |_=>.no
@[simp]def tryBK_ex (c:Str)(gs:FS)(sd:SD):di c gs sd (.ex c [])=(gs sd).strict:=@if_pos _ (Classical.propDecidable _) rfl _ _ _
def gO (c:Str)(g gs:FS):FS:=λsd=>di c gs sd (g sd)
@[simp]def ev_tryB (c:Str)(g gs:FS)(sd:SD):gO c g gs sd=di c gs sd (g sd):=rfl
def qs_tryB (hst:X.stack=X.env::X.outer)(hfr:X.env.frame=some X.env.locals)(hb:QB X m body g)(ex:Exc X.K X.mg c C)(hgc:Gl X c)(hs:∀x,QSs (X.inSuite x) E0 m (b₀::suite) gs)
 (hd:autoParam ((c == ("__debug__" : Str))=false) zav._auto_1):QS X E m (.Try body [.ExceptHandler (some (.Name c np)) none (b₀::suite) hpos] [] [] pos) (gO c g gs):=
 PS.weak (ps_tryB (ts:=tDS X.K E0 m gs) hst hfr hb ex hgc hs hd) λT Z H zh=>by
  refine zc3b zh λB F sd r n=>?_;refine⟨B,F,sd,r,?_⟩;unfold gO at n;cases hq:g sd with
  |ok o=>rw[hq] at n;exact n
  |no=>rw[hq] at n;exact n.elim
  |ex c' fs =>
   rw[hq] at n;cases fs with
   |cons d r=>exact n.elim
   |nil =>
    by_cases hc:c'=c
    .subst hc;rw[tryBK_ex] at n;rintro cv a F2 H2 e2 ⟨C',h1,h2,_⟩;rw[ex.ns] at h2;cases h2;refine⟨h1,B,F2,sd,r.step e2,?_⟩;exact(Res.need_strict n).mono (λo (q:uY X.K m B F T o)=>q.mono e2.ff) λ_ _ q=>q
    .have n:(@ite _ (c'=c) (Classical.propDecidable _) (gs sd).strict Res.no).need (uY X.K m B F T) (XW X.K E B.F0 B.H0):=n;rw[@if_neg _ (Classical.propDecidable _) hc] at n;exact n.elim
end
end L2.DL
namespace L2
noncomputable def yk (K:W.Frag)(x:Str)(st:Stmt):Prop:=∃f fd,W.nsIn K mainGlobals x=some (some (.ref f))/\Fun K x x st f fd
def yk.callee {P:Program}{w:World}{K:W.Frag}{h base:Heap}{mg:Ye}{x:Str}{st:Stmt}{k:Nat}{ps:Yk}{sp:Sp}(X:K.In h)(G:h.Ns mainGlobals mg)(d:yk K x st)
 (ok:∀{f:Addr} {fd:FuncData},Fun K x x st f fd->FnOk P w K mg base CX0 k f fd ps sp)
 (hb:∀(kV doc pm:Value) (an:Option Addr) (cdv ct:Value) (us:Yf),us.length=ps.length->bindArgs (W.fnOf x x (ui st) (xz st) (zj st) .none kV doc pm an cdv ct) ⟨us,[]⟩=pure (ps.zip us)):z7 P w K mg base x k ps sp:=by
 refine zc2b d λf fd a F=>?_;exact⟨f,fd,ok F,F.binds hb,F.kp,W.mg_of X G a⟩
def yk.calleeX {P:Program}{w:World}{K:W.Frag}{h base:Heap}{mg:Ye}{x:Str}{st:Stmt}{k:Nat}{ps:Yk}{sp:Sp}(X:K.In h)(G:h.Ns mainGlobals mg)(d:yk K x st)
 (ok:∀{f:Addr} {fd:FuncData},Fun K x x st f fd->FnOk P w K mg base (CXE P w) k f fd ps sp)
 (hb:∀(kV doc pm:Value) (an:Option Addr) (cdv ct:Value) (us:Yf),us.length=ps.length->bindArgs (W.fnOf x x (ui st) (xz st) (zj st) .none kV doc pm an cdv ct) ⟨us,[]⟩=pure (ps.zip us)):ya P w K mg base x k ps sp:=by
 refine zc2b d λf fd a F=>?_;exact⟨f,fd,ok F,F.binds hb,F.kp,W.mg_of X G a⟩
open PySem
def y9 (a:autoParam (sc.kind=.function) zau._auto_1)(b:autoParam (sc.isCoroutine=false) zau._auto_1)(c:autoParam (sc.isGenerator=false) zau._auto_1)(d:N.Nodup:=by decide +kernel)(e:N.take P.length=P:=by rfl)
 (f:∀x∈P,sc.names.lookup x=some .local\/sc.names.lookup x=some .cell:=by decide +kernel) (g:∀y∈sc.names,y.2 ≠ .free:=by decide +kernel):FnScope N P sc:=⟨a,b,c,d,e,f,g⟩
def xD (N:Yk)(h:N.Nodup:=by decide +kernel):N.Nodup:=h
def pgn (i:Nat)(hN:X.N.Nodup)(hi:autoParam (X.N[i]? = some x) zau._auto_1)(hx:Loc X.env.scope x:=by trivial)(hf:X.fn x=true\/X.env.scope.names.lookup x=some .local:=by trivial):PG X (.Name x pos) (qI i):=zE hN hi hx hf
section
variable {p:Yf->Prop}
def us1 (h:∀a,p [a]):∀us:Yf,us.length=1->p us:=λus e=>by
 obtain⟨a,rfl⟩:=List.length_eq_one_iff.mp e;exact h a
def us2 (h:∀a b,p [a,b]):∀us:Yf,us.length=2->p us:=λus e=>by
 cases us with
 |nil=>exact Zn e (by decide)
 |cons a us=>exact us1 (p:=λus=>p (a::us)) (λb=>h a b) us (Nat.succ.inj e)
def us3 (h:∀a b c,p [a,b,c]):∀us:Yf,us.length=3->p us:=λus e=>by
 cases us with
 |nil=>exact Zn e (by decide)
 |cons a us=>exact us2 (p:=λus=>p (a::us)) (λb c=>h a b c) us (Nat.succ.inj e)
end
section
variable {M:Model}{A:Around}{E:Ya}{s:Shared}{base:Heap}{e:Addr}{cls a0 fl:Value}
def mark_flight (hb:base.StaysIn s.heap)(hl:s.heap.FunFrames base l)(ht:s.heap.TracedAtW base e cls a0 fl)
 (h:∀h' T,base.get? T=none->(∀b,b≠T->h'.get? b=s.heap.get? b)->(∃o vs,s.heap.get? T=some o/\o.data=.fields vs)->base.StaysIn h'->h'.FunFrames base l->(∃fl',h'.TracedAtW base e cls a0 fl')->Q Yt { s with heap:=h' }):wpAny M A (setFlight (.ref e) f) Q E s:=by
 obtain⟨oe,vs,T,oT,ts,g1,g2,g3,g4,g5,g6,g7,g8,g9⟩:=ht;have z3:=(XA.mp g9).1;have ot:∀b,b≠T->(s.heap.update T (Obj.mapFields (·.setIfInBounds 3 (f.elim Value.none λa=>rawInt a)))).get? b=s.heap.get? b:=λb n=>Heap.get?_update_other _ _ n.symm;have nr:∀b o,s.heap.get? b=some o->(∀ws,o.data ≠ .fields ws)->b≠T:=λb o q n z=>by
  subst z;rw[g7] at q;cases q;exact n _ g8
 unfold setFlight;refine Za (wpAny_field g1 g3 g4 ?_);rw[Zd (by simp)];refine wpAny_setField g7 g8 z3 (h _ T g5 ot ⟨oT,ts,g7,g8⟩ (λb o q=>(ot b λz=>by rw[z,g5] at q;cases q).trans (hb b o q)) (hl.of_keeps λb o q n=>⟨o,(ot b (nr b o q n)).trans q,rfl⟩) ⟨f.elim Value.none λa=>rawInt a,oe,vs,T,_,_,(ot e g6.symm).trans g1,g2,g3,g4,g5,g6,Heap.get?_update_self _ g7 (Obj.isFreed_of_fields (Obj.data_mapFields g8 _)),Obj.data_mapFields g8 _,?_⟩);rw[Array.getElem?_setIfInBounds_self_of_lt z3]
def leaves_any (hfr:A.frames=some (env::outer))(hf:env.frame=some L)(hb:base.StaysIn s.heap)(hn:base.get? e=none)(hl:s.heap.FunFrames base (env::outer))(ht:s.heap.TracedAtW base e cls a0 fl)
 (hQ:∀h',Heap.FlyingW base outer e cls a0 h'->s.heap.UpToSlots h'->Q Yt { s with heap:=h' }):wpAny M A (leaving env (.ref e)) Q E s:=by
 by_cases c:fl=rawInt L
 .subst c;unfold leaving;refine Za (wpAny_noteFrame_againW hf ht ?_);exact wpAny_setFlight_noneW hb hl ht λh' k1 k2 k3 k4=>hQ h' ⟨k1,hn,k2.2.2,k3⟩ λb o q n=>⟨o.slots,k4 b o q n⟩
 .obtain⟨oe,vs,T,oT,ts,g1,⟨g2,g0⟩,g3,g4,g5,g6,g7,g8,g9⟩:=ht;subst g2;have z3:=(XA.mp g9).1;have ot:∀b,b≠T->(s.heap.update T (Obj.mapFields (·.setIfInBounds 3 Value.none))).get? b=s.heap.get? b:=λb n=>Heap.get?_update_other _ _ n.symm;have nr:∀b o,s.heap.get? b=some o->(∀ws,o.data ≠ .fields ws)->b≠T:=λb o q n z=>by
   subst z;rw[g7] at q;cases q;exact n _ g8
  unfold leaving noteFrame;simp only[hf];refine Za (Za (wpAny_field g1 g3 g4 ?_));rw[Zd (by simp)];refine Za (wpAny_field g7 g8 g9 ?_);rw[Ze (λz=>c (Ys.mp z))];refine Za (wpAny_setField g7 g8 z3 ?_);refine wpAny_newEntryW hfr (hl.of_keeps λb o q n=>⟨o,(ot b (nr b o q n)).trans q,rfl⟩) hf ((ot e g6.symm).trans g1) (λb o q=>(ot b λz=>by rw[z,g5] at q;cases q).trans (hb b o q)) hn g3 (XA.mp g4).1 g0 λh' ⟨x1,x2,x3,x4⟩=>?_;exact hQ h' ⟨x1,hn,x2.2.2,x3⟩ λb o q n=>x4 b o ((ot b (nr b o q n)).trans q) n
end
structure FlyAny (l:List Env)(h₀:Heap)(H:Hp)(x C:Addr)(B h:Heap):Prop where
 st:B.StaysIn h
 no:B.get? x=none
 fr:h.FunFrames B l
 tr:∃t fl,h.TracedAtW B x (.ref C) (.ref t) fl
 trk:∀b o,h.get? b=some o->(H b≠none\/((∃u,h₀.get? b=some u)/\b∉frs l))->B.get? b=some o
structure ThrownA (X:Cx)(E:XK):Prop where
 on:∀(Y:Yb) (Z:St) (H:Hp) (s:Shared) (x C:Addr) (B:Heap),Inv X Y Z H s->FlyAny X.stack X.s₀.heap H x C B s.heap->E (.ref C) none H->X.xe (.ref x) s
def thrownA_def {P:Program}{w:World}{K:W.Frag}{mg:Ye}{base:Heap}{N:Yk}{qual:Str}{scope:Scope}{f:Addr}{cd:Value}{A:Around}{outer:List Env}{s:Shared}{H:Hp}{E:XK}:ThrownA (rA (CXE P w) P w K mg base N qual scope f cd A outer s H E) E:=by
 refine⟨λY Z H' s' x C B I fl hE=>?_⟩;obtain⟨t,m,tr⟩:=fl.tr;exact leaves_any I.ok.frames rfl fl.st fl.no fl.fr tr λh' fly up=>sL (h₀:=s.heap) I (λb u e=>⟨u,e⟩) fly up fl.trk hE
theorem hX {h h' B B':Heap}(k0:∀b,B.get? b=none->B'.get? b=none):∀{l:List Env},(∀b∈frs l,h'.get? b=h.get? b)->h.FunFrames B l->h'.FunFrames B' l
 | [],_,_=>trivial
 |env::rest,k,⟨g1,⟨L,o,g2,g3,g4,g5⟩,r⟩=>by
  have hm:L∈frs (env::rest):=by
   unfold frs;rw[Z2,g2];exact Zqs
  refine⟨g1,⟨L,o,g2,k0 L g3,(k L hm).trans g4,g5⟩,hX k0 (λb hb=>k b ?_) r⟩;unfold frs at hb ⊢;rw[Z2,g2];exact Zqm _ hb
def thrown_comp {X:Cx}{E:XK}{scope:Scope}{N:Yk}{cl:List (Str×Addr)}{C:Addr}{s:Shared}{H:Hp}{ex:Yl}(hst:X.stack=X.env::X.outer)(hfr:X.env.frame=some X.env.locals)(hex:X.ex=[])(T:ThrownA X E)(at_:rg X C s H ex):Thrown (zy X scope N cl C s H ex) E:=by
 obtain⟨pins0,Z0,I0,f0,hC⟩:=at_;refine⟨λY Z H' s' h₀ x D B I h0 fl hE=>?_⟩;obtain⟨⟨t,fly⟩,trk⟩:=fl;have fly':Heap.FlyingW B (X.env::X.outer) x (.ref D) (.ref t) s'.heap:=by rw[<- hst];exact fly
 have note:noteFrame (.ref x) (compEnvC scope cl C X.env)=noteFrame (.ref x) X.env:=rfl;show YF X (noteFrame (.ref x) (compEnvC scope cl C X.env)) (λ_ s''=>sY X C (.ref x) s'') (sY X C) s';rw[note];refine wpAny_looks_onW (I0.ok.frames.trans (by rw[hst])) hfr fly' λh1 held up1=>?_;obtain⟨m,hm,_⟩:=id I.loc;have hm1:h1.Ns C m:=up1.ns hm;refine⟨m,hm1,λh2 hs2 cenv _=>?_⟩;obtain⟨hc1,hc2,hc3,hc4⟩:=held;obtain⟨oC,es,ep,hoC,hdC,_⟩:=id hm1;have nC:∀b o ws,h1.get? b=some o->o.data=.fields ws->b≠C:=λb o ws q d z=>by
  subst z;rw[hoC] at q;cases q;rw[hdC] at d;cases d
 have oldC:∀b o,s.heap.get? b=some o->b≠C:=λb o q=>Zi (Zg (Zk q) hC);have frC:∀b∈frs X.stack,b≠C:=λb hb=>by
  obtain⟨_,o',ho',_⟩:=I.ok.funs.mem hb;exact oldC b o' ho'
 obtain⟨B',hB'⟩:∃B',W.hideAll B [C]=B':=⟨_,rfl⟩;have inB:∀b o,B'.get? b=some o->B.get? b=some o:=λb o q=>by rw[<- hB'] at q;exact W.of_hideAll _ q
 have toB:∀b o,B.get? b=some o->b≠C->B'.get? b=some o:=λb o q n=>by rw[<- hB'];exact W.hideAll_get _ q (by simpa using n)
 have noB:∀b,B.get? b=none->B'.get? b=none:=λb q=>by
  cases z:B'.get? b with
  |none=>rfl
  |some o=>rw[inB b o z] at q;cases q
 have nBC:∀b o,B'.get? b=some o->b≠C:=λb o q z=>by
  have z1:B'.get? C=none:=by rw[<- hB'];exact W.hideAll_none [C] (ZF.mpr rfl)
  rw[z,z1] at q;cases q
 have st2:B'.StaysIn h2:=λb o q=>(hs2.2 b (nBC b o q)).trans (hc1 b o (inB b o q));have fr2:h2.FunFrames B' X.stack:=hX noB (λb hb=>hs2.2 b (frC b hb)) (by rw[hst];exact hc3);obtain⟨oe,vs,T0,oT,ts,g1,g2,g3,g4,g5,g6,g7,g8,g9⟩:=hc4;have tr2:h2.TracedAtW B' x (.ref D) (.ref t) (rawInt X.env.locals):=⟨oe,vs,T0,oT,ts,(hs2.2 x (nC _ _ _ g1 g3)).trans g1,g2,g3,g4,noB T0 g5,g6,(hs2.2 T0 (nC _ _ _ g7 g8)).trans g7,g8,g9⟩;unfold PySem.passOn;refine Za (wpAny_field (s:={ s' with heap:=h2 }) ((hs2.2 x (nC _ _ _ g1 g3)).trans g1) g3 g4 ?_);rw[Ze (by simp)];refine Za (mark_flight (s:={ s' with heap:=h2 }) st2 fr2 tr2 λh3 T' t1 t2 t3 st3 fr3 tr3=>wpAny_throw ?_);have K1:∀b o,B.get? b=some o->b≠C->h3.get? b=some o:=λb o q n=>st3 b o (toB b o q n);have nex:∀b u,X.s₀.heap.get? b=some u->b∉ex:=λb u q hb=>by
  rcases(f0 b hb).2.2.2.1 with z|z
  .rw[hex] at z;cases z
  .exact Zn (Zk q) (Nat.not_lt.mpr z)
 have slot:∀b o,s.heap.get? b=some o->b∈frs X.stack->b∉ex->∃sl,h3.get? b=some { o with slots:=sl }:=λb o q hb hx=>by
  obtain⟨_,o',ho',hd⟩:=I.ok.funs.mem hb;have ho':s.heap.get? b=some o':=ho';rw[q] at ho';obtain rfl:=Zqi ho';obtain⟨sl,e1⟩:=I.base.slot b o q (I.ok.frf b hb) hb hx;obtain⟨sl',e2⟩:=up1 b _ e1 hd;have e3:h2.get? b=some { o with slots:=sl' }:=(hs2.2 b (frC b hb)).trans e2;refine⟨sl',(t2 b λz=>?_).trans e3⟩;obtain⟨oz,wz,z1,z2⟩:=t3;rw[<- z] at z1;have z1:h2.get? b=some oz:=z1;rw[e3] at z1;cases z1;exact hd _ z2
 refine T.on pins0 Z0 H' _ x D B' (I0.call' (s':={ s' with heap:=h3 }) (ch:=ex) I.os ⟨λb o e n hb hx=>?_,λb o e n hb hx=>slot b o e hb hx,λb o e n hx=>I.base.free b o e n hx,λb o e hx=>?_,I.base.tups,I.base.frzs,I.base.tbls⟩ (λb u e=>?_) I.bare λb hb=>⟨(f0 b hb).2.2.2.1,(f0 b hb).2.1,(f0 b hb).2.2.2.2.1,(f0 b hb).2.2.2.2.2⟩) ⟨st3,noB x hc2,fr3,?_,λb o e c=>?_⟩ hE
 .exact K1 b o (trk b o (I.base.keep b o e n hb hx) (.inr ⟨h0 b o e hx,hb⟩)) (oldC b o e)
 .by_cases hb:b∈frs X.stack
  .obtain⟨sl,q⟩:=slot b o e hb hx;exact⟨_,q⟩
  .obtain⟨o',e'⟩:=I.base.there b o e hx;exact⟨o',K1 b o' (trk b o' e' (.inr ⟨h0 b o e hx,hb⟩)) (oldC b o e)⟩
 .refine(I.hok b u e).stay (λc v hc q=>K1 c v (trk c v q (.inl ?_)) ?_) (λ_ q=>q) λ_ _ q=>q
  .rcases hc with z|z
   .rw[z,e];simp
   .rw[z];simp
  .intro z;have fC:H' C=none:=I.free;rcases hc with y|y
   .rw[<- y,z,fC] at e;exact zqn e
   .rw[z,fC] at y;exact zqn y
 .obtain⟨fl',q⟩:=tr3;exact⟨t,fl',q⟩
 .have key:∃o2,B.get? b=some o2/\b≠C:=by
   rcases c with c|⟨⟨u,hu⟩,hb⟩
   .cases q:H' b with
    |none=>exact Zn q c
    |some u =>
     obtain⟨o2,h2'⟩:=(I.hok b u q).has;exact⟨o2,trk b o2 h2' (.inl c),λz=>by rw[z] at q;rw[show H' C=none from I.free] at q;exact zqn q⟩
   .obtain⟨o1,e1⟩:=I0.base.there b u hu (by rw[hex];simp);obtain⟨o2,e2⟩:=I.base.there b o1 e1 (nex b u hu);exact⟨o2,trk b o2 e2 (.inr ⟨h0 b o1 e1 (nex b u hu),hb⟩),oldC b o1 e1⟩
  obtain⟨o2,k1,k2⟩:=key;have:=K1 b o2 k1 k2;have e:h3.get? b=some o:=e;rw[e] at this;cases this;exact toB b o k1 k2
end L2
namespace L2.DL
def q_compX (N:Yk)(cap:List (Option Nat))(hc:X.calm=true)(okB:yK scope X.env N X.N cap=true)(hi:QI X E tg iter fi)
 (hg:∀cl C s H ex,QG (zy X scope N cl C s H ex) tg t) (he:∀cl C s H ex,rg X C s H ex->QE (zy X scope N cl C s H ex) E elt f) (hs:autoParam (∀x,foldedSetIterable iter X.env x=pure x) zaw._auto_1):
 QN X E (.ListComp elt [⟨tg,iter,[],0⟩] scope pos) (xt cap fi t f):=PE.weak (lV (g:=gT t X.K) (te:=tD X.K E f) N cap hc okB hi hg he hs) λ_ _ _ h=>qL h
end L2.DL
local macro_rules | `(tactic| omega) => `(tactic| lia)
namespace My
open PySem L2 L2.DL
@[simp high] def gt1 {α:Type}(a0 a1:α)(l:List α):(a0::a1::l)[1]? = some a1:=rfl
@[simp high] def se1 {α:Type}(a0 a1 v:α)(l:List α):(a0::a1::l).set 1 v=a0::v::l:=rfl
@[simp high] def gt2 {α:Type}(a0 a1 a2:α)(l:List α):(a0::a1::a2::l)[2]? = some a2:=rfl
@[simp high] def se2 {α:Type}(a0 a1 a2 v:α)(l:List α):(a0::a1::a2::l).set 2 v=a0::a1::v::l:=rfl
@[simp high] def gt3 {α:Type}(a0 a1 a2 a3:α)(l:List α):(a0::a1::a2::a3::l)[3]? = some a3:=rfl
@[simp high] def se3 {α:Type}(a0 a1 a2 a3 v:α)(l:List α):(a0::a1::a2::a3::l).set 3 v=a0::a1::a2::v::l:=rfl
@[simp high] def gt4 {α:Type}(a0 a1 a2 a3 a4:α)(l:List α):(a0::a1::a2::a3::a4::l)[4]? = some a4:=rfl
@[simp high] def se4 {α:Type}(a0 a1 a2 a3 a4 v:α)(l:List α):(a0::a1::a2::a3::a4::l).set 4 v=a0::a1::a2::a3::v::l:=rfl
@[simp high] def gt5 {α:Type}(a0 a1 a2 a3 a4 a5:α)(l:List α):(a0::a1::a2::a3::a4::a5::l)[5]? = some a5:=rfl
@[simp high] def se5 {α:Type}(a0 a1 a2 a3 a4 a5 v:α)(l:List α):(a0::a1::a2::a3::a4::a5::l).set 5 v=a0::a1::a2::a3::a4::v::l:=rfl
@[simp high] def gt6 {α:Type}(a0 a1 a2 a3 a4 a5 a6:α)(l:List α):(a0::a1::a2::a3::a4::a5::a6::l)[6]? = some a6:=rfl
@[simp high] def se6 {α:Type}(a0 a1 a2 a3 a4 a5 a6 v:α)(l:List α):(a0::a1::a2::a3::a4::a5::a6::l).set 6 v=a0::a1::a2::a3::a4::a5::v::l:=rfl
@[simp high] def gt7 {α:Type}(a0 a1 a2 a3 a4 a5 a6 a7:α)(l:List α):(a0::a1::a2::a3::a4::a5::a6::a7::l)[7]? = some a7:=rfl
@[simp high] def se7 {α:Type}(a0 a1 a2 a3 a4 a5 a6 a7 v:α)(l:List α):(a0::a1::a2::a3::a4::a5::a6::a7::l).set 7 v=a0::a1::a2::a3::a4::a5::a6::v::l:=rfl
@[simp high] def gt8 {α:Type}(a0 a1 a2 a3 a4 a5 a6 a7 a8:α)(l:List α):(a0::a1::a2::a3::a4::a5::a6::a7::a8::l)[8]? = some a8:=rfl
@[simp high] def se8 {α:Type}(a0 a1 a2 a3 a4 a5 a6 a7 a8 v:α)(l:List α):(a0::a1::a2::a3::a4::a5::a6::a7::a8::l).set 8 v=a0::a1::a2::a3::a4::a5::a6::a7::v::l:=rfl
@[simp high] def gt9 {α:Type}(a0 a1 a2 a3 a4 a5 a6 a7 a8 a9:α)(l:List α):(a0::a1::a2::a3::a4::a5::a6::a7::a8::a9::l)[9]? = some a9:=rfl
@[simp high] def se9 {α:Type}(a0 a1 a2 a3 a4 a5 a6 a7 a8 a9 v:α)(l:List α):(a0::a1::a2::a3::a4::a5::a6::a7::a8::a9::l).set 9 v=a0::a1::a2::a3::a4::a5::a6::a7::a8::v::l:=rfl
@[simp high] def gt10 {α:Type}(a0 a1 a2 a3 a4 a5 a6 a7 a8 a9 a10:α)(l:List α):(a0::a1::a2::a3::a4::a5::a6::a7::a8::a9::a10::l)[10]? = some a10:=rfl
@[simp high] def se10 {α:Type}(a0 a1 a2 a3 a4 a5 a6 a7 a8 a9 a10 v:α)(l:List α):(a0::a1::a2::a3::a4::a5::a6::a7::a8::a9::a10::l).set 10 v=a0::a1::a2::a3::a4::a5::a6::a7::a8::a9::v::l:=rfl
@[simp high] def gt11 {α:Type}(a0 a1 a2 a3 a4 a5 a6 a7 a8 a9 a10 a11:α)(l:List α):(a0::a1::a2::a3::a4::a5::a6::a7::a8::a9::a10::a11::l)[11]? = some a11:=rfl
@[simp high] def se11 {α:Type}(a0 a1 a2 a3 a4 a5 a6 a7 a8 a9 a10 a11 v:α)(l:List α):(a0::a1::a2::a3::a4::a5::a6::a7::a8::a9::a10::a11::l).set 11 v=a0::a1::a2::a3::a4::a5::a6::a7::a8::a9::a10::v::l:=rfl
noncomputable def t6 (cell salt:Int):Int:=((cell % 2147483647+salt)*48271 % 2147483647)*((cell % 2147483647+salt)*48271 % 2147483647) % 2147483629
noncomputable def xQ (ns:Yh)(k:Int):Int:=ns.getD k.toNat 0
noncomputable def vh (hs:Yh)(t:Int):Int:=hs.getD t.toNat 0
def y8 (r:X8)(hs:Yh):Int:=uZ (r.map λp=>vh hs p.1+p.2)
def oV (r:X8):plN 12 (rwD r)=true:=by
 show(r.map prD).all (plN 11)=true;rw[XZ,Xk];exact λp _=>rfl
def xW:plN 12 (.lst [])=true:=rfl
def lE (r:X8):plN 12 (.lst (r.map prD))=true:=by
 show(r.map prD).all (plN 11)=true;rw[XZ,Xk];exact λp _=>rfl
def pl_ints (r:Yh):plN 12 (.lst (r.map D.int))=true:=by
 show(r.map D.int).all (plN 11)=true;rw[XZ,Xk];exact λp _=>rfl
def m6 (r:X9):plN 12 (.lst (r.map rwD))=true:=by
 show(r.map rwD).all (plN 11)=true;rw[XZ,Xk];intro x _;show(x.map prD).all (plN 10)=true;rw[XZ,Xk];exact λp _=>rfl
def yd {α:Type}(f:α -> D)(l:List α):yN (.lst (l.map f)) (.lst [])=l.isEmpty:=by
 cases l with
 |nil=>exact zS _
 |cons x r=>exact wg.mpr λh=>by injection h with h;(first|exact zqn h|exact zqb h|(obtain rfl:=Zqi h)|cases h)
def iw {r s:X8}(h:rwD r=rwD s):r=s:=by
 have:=Zt vI h;rw[t5,t5] at this;exact Zqi this
def lQ (r s:X8):yN (rwD r) (rwD s)=decide (r=s):=by
 by_cases h:r=s
 .rw[h,zS,Zp rfl]
 .rw[Zo h];exact wg.mpr λz=>h (iw z)
def uA {α:Type}{l:List α}{k:Nat}(h:k<l.length):atI l (k:Int)=l[k]?:= by
 unfold atI ixN;rw[Zd (),Zd (),Int.toNat_natCast];rfl
def maxI_snoc {l:Yh}(h:l ≠ [])(x:Int):uZ (l++[x])=if uZ l<x then x else uZ l:=by
 obtain⟨h1,h2⟩:=yV h;refine(m7 ?_ λy hy=>?_).symm
 .split
  .exact ZK _ Zqs
  .exact ZY _ h1
 .rcases ZL.mp hy with q|q
  .have:=h2 y q
   split<;>omega
  .rw[ZF.mp q]
   split<;>omega
def maxI_one (x:Int):uZ [x]=x:=rfl
def lY {hs:Yh}{t:Int}(h0:0<=t)(h1:t<(hs.length:Int)):atI (hs.map D.int) t=some (.int (vh hs t)):=by
 have e:ixN hs.length t=some t.toNat:=by unfold ixN;rw[Zd h0,Zd h1]
 have hl:t.toNat<hs.length:=()
 unfold atI vh;rw[Zql,e];show(hs.map D.int)[t.toNat]? = _;rw[Zv,Zqg hl,ZG,Zqg hl];rfl
def xq {α:Type}{f:α -> D}{l:List α}{i:Nat}{x:D}(h:(l.map f)[i]? = some x):∃p,l[i]? = some p/\x=f p:=by
 rw[Zv] at h;cases q:l[i]? with
 |none=>rw[q] at h;(first|exact zqn h|exact zqb h|(obtain rfl:=Zqi h)|cases h)
 |some p=>rw[q] at h;exact⟨p,rfl,(Zqi h).symm⟩
noncomputable def kF (m:Int):Nat->Int
 | 0=>m
 |i+1=>kF m i / 2
def pK (m:Int)(w:Nat->Int):Nat->X8
 | 0=>[]
 |i+1=>if kF m i % 2=1 then pK m w i++[((i:Int),w i)] else pK m w i
theorem vW (m:Int)(w:Nat->Int):∀(i:Nat) (p:Int×Int),p∈pK m w i->0<=p.1/\p.1<(i:Int)
 | 0,p,h=>by first|exact zqn h|exact zqb h|(obtain rfl:=Zqi h)|cases h
 |i+1,p,h=>by
  unfold pK at h
  split at h
  .rcases ZL.mp h with q|q
   .have z:=vW m w i p q;omega
   .have e:=ZF.mp q;subst e;show(0:Int)<=(i:Int)/\(i:Int)<((i+1:Nat):Int);omega
  .have z:=vW m w i p h;omega
theorem pe (m:Int)(w:Nat->Int):∀i:Nat,(pK m w i).length<=i
 | 0=>Zf _
 |i+1=>by
  have z:=pe m w i;unfold pK
  split
  .rw[ZC,ZT];omega
  .omega
theorem oF (m:Int)(w:Nat->Int):∀i:Nat,yE (pK m w i)
 | 0=>List.nodup_nil
 |i+1=>by
  have ih:=oF m w i;unfold pK
  split
  .exact nA ih λp hp=>(vW m w i p hp).2
  .exact ih
structure RowOk (n:Int)(r:X8):Prop where
 ne:r ≠ []
 once:yE r
 mem:∀p∈r,0<=p.1/\p.1<n
 len:r.length<=12
def dU (m:Int)(w:Nat->Int)(c wl n:Int):X8:=if pK m w n.toNat=[] then[(c % n,wl)] else pK m w n.toNat
def rowG_ok {m:Int}{w:Nat->Int}{c wl n:Int}(h1:1<=n)(h2:n<=12):RowOk n (dU m w c wl n):=by
 unfold dU
 split
 .refine⟨by simp,by unfold yE;simp,λp h=>?_,Nat.le_of_ble_eq_true rfl⟩;have e:=ZF.mp h;subst e;exact⟨Int.emod_nonneg _ (),Int.emod_lt_of_pos _ ()⟩
 .rename_i h;have hl:=pe m w n.toNat;refine⟨h,oF m w _,λp hp=>?_,()⟩;have:=vW m w _ p hp;omega
def wE (r:X8)(f:Nat->Option Int->Option Int)(i:Nat):X8:=match f i (zk r i) with
 |some w=>[((i:Int),w)]
 |none=>[]
def wm (r:X8)(f:Nat->Option Int->Option Int):Nat->X8
 | 0=>[]
 |i+1=>wm r f i++wE r f i
def wK (r:X8)(f:Nat->Option Int->Option Int)(n:Int):X8:=if wm r f n.toNat=[] then r else wm r f n.toNat
def xO (r:X8)(f:Nat->Option Int->Option Int)(i:Nat):wE r f i=[]\/∃w,wE r f i=[((i:Int),w)]:=by
 unfold wE;cases f i (zk r i) with
 |some w=>exact .inr ⟨_,rfl⟩
 |none=>exact .inl rfl
theorem vX (r:X8)(f:Nat->Option Int->Option Int):∀(i:Nat) (p:Int×Int),p∈wm r f i->0<=p.1/\p.1<(i:Int)
 | 0,p,h=>by first|exact zqn h|exact zqb h|(obtain rfl:=Zqi h)|cases h
 |i+1,p,h=>by
  unfold wm at h;rcases ZL.mp h with q|q
  .have z:=vX r f i p q;omega
  .rcases xO r f i with e|⟨w,e⟩
   .rw[e] at q;(first|exact zqn q|exact zqb q|(obtain rfl:=Zqi q)|cases q)
   .rw[e] at q;have e:=ZF.mp q;subst e;show(0:Int)<=(i:Int)/\(i:Int)<((i+1:Nat):Int);omega
theorem qc (r:X8)(f:Nat->Option Int->Option Int):∀i:Nat,yE (wm r f i)
 | 0=>List.nodup_nil
 |i+1=>by
  have ih:=qc r f i;unfold wm;rcases xO r f i with e|⟨w,e⟩
  .rw[e,Zz];exact ih
  .rw[e];exact nA ih λp hp=>(vX r f i p hp).2
theorem rh (r:X8)(f:Nat->Option Int->Option Int):∀i:Nat,(wm r f i).length<=i
 | 0=>Zf _
 |i+1=>by
  have ih:=rh r f i;unfold wm;rw[ZC];rcases xO r f i with e|⟨w,e⟩<;>rw[e]<;>simp<;>omega
def variedG_ok {r:X8}{f:Nat->Option Int->Option Int}{n:Int}(h:RowOk n r)(h1:0<=n)(h2:n<=12):RowOk n (wK r f n):=by
 unfold wK
 split
 .exact h
 .rename_i q;have hl:=rh r f n.toNat;refine⟨q,qc r f _,λp hp=>?_,()⟩;have:=vX r f _ p hp;omega
def gIn_rows (neg:Bool)(r:X8)(ls:X9):gIn neg (rwD r) (.lst (ls.map rwD))=some (.bl (if neg then !decide (r∈ls) else decide (r∈ls))):=by
 have ha:(ls.map rwD).all (plN 12)=true:=by
  rw[XZ,Xk];exact λx _=>oV x
 have e:(ls.map rwD).any (λe=>yN e (rwD r))=decide (r∈ls):=by
  rw[List.any_map];by_cases h:r∈ls
  .rw[Zp h];exact Xb.mpr ⟨r,h,by show yN (rwD r) (rwD r)=true;exact zS _⟩
  .rw[Zo h];refine List.any_eq_false.mpr λx hx=>?_;show ¬yN (rwD x) (rwD r)=true;rw[lQ,decide_eq_true_iff];exact λz=>h (z ▸ hx)
 show(if plN 12 (rwD r)&&(ls.map rwD).all (plN 12) then some (D.bl (if neg then !(ls.map rwD).any (λe=>yN e (rwD r)) else(ls.map rwD).any λe=>yN e (rwD r))) else none)=_;rw[oV,ha,e];rfl
def vg {ls:X9}(h:∀r∈ls,r ≠ [])(hl:ls.length<1000):xA [.lst (ls.map rwD)]=some (.lst ((zY yF ls).map rwD)):=by
 show(xH vI (ls.map rwD)).bind _=_;rw[wb];exact Zd ⟨h,hl⟩
def frD (f:X9):D:=.lst (f.map rwD)
def frD_inj {f g:X9}(h:frD f=frD g):f=g:=by
 unfold frD at h;injection h with h
 have:=Zt (xH vI) h;rw[wb,wb] at this;exact Zqi this
def pP (f g:X9):yN (frD f) (frD g)=decide (f=g):=by
 by_cases h:f=g
 .rw[h,zS,Zp rfl]
 .rw[Zo h];exact wg.mpr λz=>h (frD_inj z)
def uE (all:X9)(row:X8):Bool:=(all.filter λone => !decide (one=row)&&zl one row).isEmpty
def xI (all least:X9)(row:X8):X9:=if uE all row=true/\row∉least then least++[row] else least
def yg (all rs:X9):X9:=rs.foldl (xI all) []
def z5 (rs:X9):X9:=zY yF (yg rs rs)
theorem yQ (all:X9):∀(rs least:X9),(rs.foldl (xI all) least).length<=least.length+rs.length/\(∀r,r∈rs.foldl (xI all) least↔r∈least\/(r∈rs/\uE all r=true))/\(least.Nodup->(rs.foldl (xI all) least).Nodup)
 | [],least=>⟨Zf _,λr=>by simp,id⟩
 |row::rs,least=>by
  rw[Xg];refine xF (yQ all rs (xI all least row)) λh1 h2 h3=>?_;unfold xI at h1 h2 h3 ⊢;by_cases c:uE all row=true/\row∉least
  .rw[Zd c] at h1 h2 h3 ⊢;refine⟨by rw[ZC] at h1;simp only[Zu,ZB] at h1 ⊢;omega,λr=>?_,λhn=>h3 ?_⟩
   .rw[h2,ZL,ZF,ZD];constructor
    .rintro((h|h)|⟨h,hq⟩)
     .exact .inl h
     .exact .inr ⟨.inl h,h ▸ c.1⟩
     .exact .inr ⟨.inr h,hq⟩
    .rintro(h|⟨h|h,hq⟩)
     .exact .inl (.inl h)
     .exact .inl (.inr h)
     .exact .inr ⟨h,hq⟩
   .rw[List.nodup_append];exact⟨hn,by simp,λa ha b hb=>by rw[ZF] at hb;subst hb;exact λz=>c.2 (z ▸ ha)⟩
  .rw[Ze c] at h1 h2 h3 ⊢;refine⟨by rw[Zu];omega,λr=>?_,h3⟩;rw[h2,ZD];constructor
   .rintro(h|⟨h,hq⟩)
    .exact .inl h
    .exact .inr ⟨.inr h,hq⟩
   .rintro(h|⟨h|h,hq⟩)
    .exact .inl h
    .by_cases hm:row∈least
     .exact .inl (h ▸ hm)
     .exact Zn ⟨h ▸ hq,hm⟩ c
    .exact .inr ⟨h,hq⟩
def zm {rs:X9}{r:X8}:r∈z5 rs↔r∈rs/\uE rs r=true:=by
 unfold z5 yg;rw[(zt (ltb:=yF) _).mem_iff,(yQ rs rs []).2.1];simp
def wR (rs:X9):(z5 rs).length<=rs.length:=by
 unfold z5 yg;rw[(zt (ltb:=yF) _).length_eq];have:=(yQ rs rs []).1;simpa using this
def zp (f:X9)(hs:Yh):Int:=kT (f.map λr=>y8 r hs)
def set_last {α:Type}(l:List α)(x y:α):(l++[x]).set l.length y=l++[y]:=by
 induction l with
 |nil=>rfl
 |cons a l ih=>show a::(l++[x]).set l.length y=_;rw[ih];rfl
def at_last {α:Type}(l:List α)(x:α):atI (l++[x]) (l.length:Int)=some x:=by
 rw[uA (by simp)];simp
def ix_last {α:Type}(l:List α)(x:α):ixN (l++[x]).length (l.length:Int)=some l.length:=by
 unfold ixN;rw[Zd (),Zd (by rw[ZC,ZT];omega),Int.toNat_natCast]
noncomputable def rC (n:Int)(k:Nat)(t:X9):X9:=if t=[] then[[((k:Int) % n,0)]] else t
def xL (n many:Int)(rs:X9)(i:Nat):List (X9):=(List.range i).map λk=>rC n k (z5 (zW rs (some (k:Int)) none (some many)))
@[simp]def gList_fr (f:X9):kJ [frD f]=some (frD f):=rfl
@[simp]def walkS_fr (f:X9):nW (frD f)=some (f.map rwD):=rfl
@[simp]def walkS_rw (r:X8):nW (rwD r)=some (r.map prD):=rfl
@[simp]def gLen_fr (f:X9):mH [frD f]=some (.int f.length):=by show some (D.int (f.map rwD).length)=_;rw[Zql]
@[simp]def isi_fr_list (f:X9):kX [frD f,.ty "list"]=some (.bl true):=rfl
@[simp]def isi_rw_tuple (f:X8):kX [rwD f,.ty "tuple"]=some (.bl true):=rfl
@[simp]def isi_pr_tuple (p:Int×Int):kX [prD p,.ty "tuple"]=some (.bl true):=rfl
@[simp]def gLen_pr (p:Int×Int):mH [prD p]=some (.int 2):=rfl
@[simp]def gIx_pr0 (p:Int×Int):gIx (prD p) (.int 0)=some (.int p.1):=rfl
@[simp]def gIx_pr1 (p:Int×Int):gIx (prD p) (.int 1)=some (.int p.2):=rfl
def pl_rw (n:Nat)(r:X8):plN (n+3) (rwD r)=true:=by
 show(r.map prD).all (plN (n+2))=true;rw[XZ,Xk];exact λp _=>rfl
def mG (n:Nat)(f:X9):plN (n+4) (frD f)=true:=by
 show(f.map rwD).all (plN (n+3))=true;rw[XZ,Xk];exact λr _=>pl_rw n r
def gEq_fr (f g:X9):gEq (frD f) (frD g)=some (.bl (decide (f=g))):=by rw[wO (mG 8 f) (mG 8 g),pP]
def gNe_fr (f g:X9):gNe (frD f) (frD g)=some (.bl (!decide (f=g))):=by rw[si (mG 8 f) (mG 8 g),pP]
def gEq_fr0 (f:X9):gEq (frD f) (.lst [])=some (.bl f.isEmpty):=by
 rw[wO (mG 8 f) xW];exact Zt _ (Zt _ (yd rwD f))
structure FormOk (n:Int)(f:X9):Prop where
 ne:f ≠ []
 rows:∀r∈f,RowOk n r
 len:f.length<=100
def minI_add {l:Yh}(h:l ≠ [])(w:Int):kT (l.map (· + w))=kT l+w:=by
 obtain⟨h1,h2⟩:=vD h;refine(nQ (ZE.mpr ⟨_,h1,rfl⟩) λy hy=>?_).symm;obtain⟨z,hz,rfl⟩:=ZE.mp hy;have:=h2 z hz;show kT l+w<=z+w;omega
def maxI_add {l:Yh}(h:l ≠ [])(w:Int):uZ (l.map (· + w))=uZ l+w:=by
 obtain⟨h1,h2⟩:=yV h;refine(m7 (ZE.mpr ⟨_,h1,rfl⟩) λy hy=>?_).symm;obtain⟨z,hz,rfl⟩:=ZE.mp hy;have:=h2 z hz;show z+w<=uZ l+w;omega
noncomputable def w5 (r:X8):Prop:=(r.map (·.1)).Pairwise (· < ·)
def qZ:w5 []:=List.Pairwise.nil
def km (p:Int×Int):w5 [p]:=Xu _ _
def ox {r:X8}{t w:Int}(h:w5 r)(hm:∀p∈r,p.1<t):w5 (r++[(t,w)]):=by
 unfold w5 at *;rw[ZR,Xd];refine⟨h,Xu _ _,λa ha b hb=>?_⟩;refine zc1b (ZE.mp ha) λp hp zr2=>?_;subst zr2;have:b=t:=by simpa using hb
 rw[this];exact hm p hp
theorem oi (m:Int)(w:Nat->Int):∀i:Nat,w5 (pK m w i)
 | 0=>qZ
 |i+1=>by
  have ih:=oi m w i;unfold pK
  split
  .exact ox ih λp hp=>(vW m w i p hp).2
  .exact ih
def rowG_rise (m:Int)(w:Nat->Int)(c wl n:Int):w5 (dU m w c wl n):=by
 unfold dU
 split
 .exact km _
 .exact oi m w _
theorem rS (r:X8)(f:Nat->Option Int->Option Int):∀i:Nat,w5 (wm r f i)
 | 0=>qZ
 |i+1=>by
  have ih:=rS r f i;unfold wm;rcases xO r f i with e|⟨w,e⟩
  .rw[e,Zz];exact ih
  .rw[e];exact ox ih λp hp=>(vX r f i p hp).2
def variedG_rise {r:X8}{f:Nat->Option Int->Option Int}{n:Int}(h:w5 r):w5 (wK r f n):=by
 unfold wK
 split
 .exact h
 .exact rS r f _
def lq {r:X8}(h:w5 r):r.Pairwise λx y=>wH x y=true:=by
 unfold w5 at h;rw[XB] at h;refine h.imp λ{a b} z=>?_;unfold wH;simp;omega
def zU {r o:X8}:zl r o=true↔∀p∈r,∃w,zk o p.1=some w/\p.2<=w:=by
 unfold zl;rw[Xk];refine forall_congr' λp=>forall_congr' λ_=>?_;unfold nB;cases zk o p.1 with
 |none=>simp
 |some w=>simp
def zA {a b c:X8}(h1:zl a b=true)(h2:zl b c=true):zl a c=true:=by
 rw[zU] at *;intro p hp;refine zc1b (h1 p hp) λw h3 h4=>?_;refine zc1b (h2 _ (zx h3)) λv h5 h6=>?_;exact⟨v,h5,Int.le_trans h4 h6⟩
def ou {a b:X8}(oa:yE a)(h1:zl a b=true)(h2:zl b a=true):∀p∈a,p∈b:=by
 rw[zU] at *;intro p hp;refine zc1b (h1 p hp) λw h3 h4=>?_;have hb:=zx h3;refine zc1b (h2 _ hb) λv h5 h6=>?_;have h5:zk a p.1=some v:=h5;rw[oa.look (t:=p.1) (w:=p.2) hp] at h5
 first|exact zqn h5|exact zqb h5|(obtain rfl:=Zqi h5)|cases h5
 have h6:w<=p.2:=h6;have:w=p.2:=()
 rw[this] at hb;exact hb
def q9 {a b:X8}(oa:yE a)(ob:yE b)(ra:w5 a)(rb:w5 b)(h1:zl a b=true)(h2:zl b a=true):a=b:=
 yZ xS (lq ra) (lq rb) λp=>⟨ou oa h1 h2 p,ou ob h2 h1 p⟩
theorem kg:∀{rs:X9},rs ≠ []->(∀r∈rs,yE r/\w5 r)->∃m∈rs,∀o∈rs,zl o m=true->o=m
 | [],h,_=>Zn rfl h
 |x::rs,_,ok=>by
  by_cases q:rs=[]
  .subst q;exact⟨x,Zqs,λo ho _=>ZF.mp ho⟩
  .refine zc1b (kg q λr hr=>ok r (Zqm _ hr)) λm hm hl=>?_;have okm:=ok m (Zqm _ hm);have okx:=ok x Zqs;by_cases c:zl x m=true
   .refine⟨x,Zqs,λo ho hu=>?_⟩;rcases ZD.mp ho with e|e
    .exact e
    .have e2:=hl o e (zA hu c);subst e2;exact q9 okm.1 okx.1 okm.2 okx.2 hu c
   .refine⟨m,Zqm _ hm,λo ho hu=>?_⟩;rcases ZD.mp ho with e|e
    .exact Zn (e ▸ hu) c
    .exact hl o e hu
def xR {rs:X9}{m:X8}:uE rs m=true↔∀o∈rs,zl o m=true->o=m:=by
 unfold uE;rw[List.isEmpty_iff,List.filter_eq_nil_iff];refine forall_congr' λo=>forall_congr' λ_=>?_;by_cases h:o=m
 .simp[h]
 .simp[h]
structure Good (n:Int)(f:X9):Prop where
 ne:f ≠ []
 rows:∀r∈f,RowOk n r
 rise:∀r∈f,w5 r
 len:f.length<=40
 anti:∀r∈f,∀s∈f,zl r s=true->r=s
 srt:f.Pairwise λa b=>yF a b=true
def thin_good {n:Int}{rs:X9}(ok:∀r∈rs,RowOk n r)(ri:∀r∈rs,w5 r)(hl:rs.length<=40)(hn:rs ≠ []):Good n (z5 rs):=by
 refine⟨λz=>?_,λr hr=>ok r (zm.mp hr).1,λr hr=>ri r (zm.mp hr).1,Zh (wR rs) hl,λr hr s hs hu=>?_,?_⟩
 .refine zc1b (kg hn λr hr=>⟨(ok r hr).once,ri r hr⟩) λm hm h=>?_;have:m∈z5 rs:=zm.mpr ⟨hm,xR.mpr h⟩;rw[z] at this
  first|exact zqn this|exact zqb this|(obtain rfl:=Zqi this)|cases this
 .exact xR.mp (zm.mp hs).2 r (zm.mp hr).1 hu
 .have hp:=zt (ltb:=yF) (yg rs rs);have nd:(zY yF (yg rs rs)).Nodup:=hp.nodup_iff.mpr ((yQ rs rs []).2.2 List.nodup_nil);have sd:=xM zR (yg rs rs);have both:(zY yF (yg rs rs)).Pairwise λx y=>yF y x=false/\x≠y:=List.Pairwise.and sd nd;refine both.imp λ{x y} z=>?_;cases q:yF x y with
  |true=>rfl
  |false=>exact Zn (zR.tot _ _ q z.1) z.2
def good_one {n:Int}{r:X8}(ok:RowOk n r)(ri:w5 r):Good n [r]:=
 ⟨by simp,λs hs=>by rw[ZF.mp hs];exact ok,λs hs=>by rw[ZF.mp hs];exact ri,by simp,λs hs t ht _=>by rw[ZF.mp hs,ZF.mp ht],Xu _ _⟩
def mI (j n:Nat):min (j:Int) (n:Int)=((min j n:Nat):Int):=by
 rcases Nat.le_total j n with h|h
 .rw[XS h,Int.min_eq_left (Int.ofNat_le.mpr h)]
 .rw[Nat.min_eq_right h,Int.min_eq_right (Int.ofNat_le.mpr h)]
def pick_upto {α:Type}(l:List α){k:Int}(h0:0<=k):zW l none (some k) none=l.take k.toNat:=by
 have e:sliceBounds none (some k) none l.length=(((0:Nat):Int),((min k.toNat l.length:Nat):Int),1):=by
  obtain⟨j,rfl⟩:=Int.eq_ofNat_of_zero_le h0;unfold sliceBounds;simp only[Option.getD_none];simp;rw[Ze (Int.not_lt.mpr h0),mI];exact Int.max_eq_right (Int.natCast_nonneg _)
 unfold zW;rw[e];show(sliceRange _ _ 1).filterMap _=_;have p:=pick_run l.toArray 0 (min k.toNat l.length-0);rw[sliceRange_one];have ep:(λx:Nat=>l[x]?)=λx:Nat=>l.toArray[x]?:= by funext x;simp
 rw[ep,p];simp
def oy {α:Type}(l:List α){k:Int}(h0:0<=k):zW l (some k) none none=l.drop k.toNat:=by
 have e:sliceBounds (some k) none none l.length=(((min k.toNat l.length:Nat):Int),(l.length:Int),1):=by
  obtain⟨j,rfl⟩:=Int.eq_ofNat_of_zero_le h0;unfold sliceBounds;simp only[Option.getD_none];simp;rw[Ze (Int.not_lt.mpr h0),mI];exact Int.max_eq_right (Int.natCast_nonneg _)
 unfold zW;rw[e];show(sliceRange _ _ 1).filterMap _=_;have p:=pick_run l.toArray (min k.toNat l.length) (l.length-min k.toNat l.length);rw[sliceRange_one];have ep:(λx:Nat=>l[x]?)=λx:Nat=>l.toArray[x]?:= by funext x;simp
 rw[ep,p];simp;by_cases c:k.toNat<=l.length
 .rw[XS c,Z4 (by simp)]
 .rw[Nat.min_eq_right (),Xy (Zf _),Xy ()];exact List.take_nil
structure ThingsOk (ts:Yh):Prop where
 ne:ts ≠ []
 len:ts.length<=4
 rng:∀t∈ts,0<=t/\t<12
 up:ts.Pairwise (· < ·)
def vA {r:X8}(h:w5 r):yE r:=by
 unfold w5 at h;unfold yE List.Nodup;exact h.imp λh e=>()
def once_same {r:X8}(h:yE r){p q:Int×Int}(hp:p∈r)(hq:q∈r)(e:p.1=q.1):p=q:=by
 induction r with
 |nil=>first|exact zqn hp|exact zqb hp|(obtain rfl:=Zqi hp)|cases hp
 |cons a r ih =>
  unfold yE at h;rw[Zl,List.nodup_cons] at h;rcases ZD.mp hp with z|z
  .rcases ZD.mp hq with y|y
   .rw[z,y]
   .exact Zn (ZE.mpr ⟨q,y,by rw[<- e,z]⟩) h.1
  .rcases ZD.mp hq with y|y
   .exact Zn (ZE.mpr ⟨p,z,by rw[e,y]⟩) h.1
   .exact ih h.2 z y
def jM {r:X8}{hs:Yh}{p:Int×Int}(hp:p∈r):vh hs p.1+p.2<=y8 r hs:=
 (yV (l:=r.map λp=>vh hs p.1+p.2) (λz=>by rw[ZW] at z;subst z;(first|exact zqn hp|exact zqb hp|(obtain rfl:=Zqi hp)|cases hp))).2 _ (ZE.mpr ⟨p,hp,rfl⟩)
def hour_ex {r:X8}{hs:Yh}(hr:r ≠ []):∃p∈r,y8 r hs=vh hs p.1+p.2:=by
 refine zc1b (ZE.mp (yV (l:=r.map λp=>vh hs p.1+p.2) (λz=>hr (ZW.mp z))).1) λp hp e=>?_;exact⟨p,hp,e.symm⟩
def hour_lt_iff {r:X8}{hs:Yh}{x:Int}(hr:r ≠ []):y8 r hs<=x↔∀p∈r,vh hs p.1+p.2<=x:=by
 constructor
 .intro h p hp;exact Int.le_trans (jM hp) h
 .intro h;refine zc1b (hour_ex (hs:=hs) hr) λp hp e=>?_;rw[e];exact h p hp
def xN {f:X9}{hs:Yh}{r:X8}(hr:r∈f):zp f hs<=y8 r hs:=
 (vD (l:=f.map λr=>y8 r hs) (λz=>by rw[ZW] at z;subst z;(first|exact zqn hr|exact zqb hr|(obtain rfl:=Zqi hr)|cases hr))).2 _ (ZE.mpr ⟨r,hr,rfl⟩)
def wx {f:X9}{hs:Yh}(hf:f ≠ []):∃r∈f,zp f hs=y8 r hs:=by
 refine zc1b (ZE.mp (vD (l:=f.map λr=>y8 r hs) (λz=>hf (ZW.mp z))).1) λp hp e=>?_;exact⟨p,hp,e.symm⟩
structure Over (f:X9)(hs:Yh):Prop where
 ne:f ≠ []
 rne:∀r∈f,r ≠ []
 once:∀r∈f,yE r
 bnd:∀r∈f,∀p∈r,0<=p.1/\p.1<(hs.length:Int)
structure RoundOk (n:Int)(fs:List (X9)):Prop where
 len:(fs.length:Int)=n
 low:1<=n
 most:n<=12
 forms:∀f∈fs,FormOk n f
def RoundOk.over {n:Int}{fs:List (X9)}(R:RoundOk n fs){hs:Yh}(h:hs.length=fs.length):∀f∈fs,Over f hs:=λf hf=>⟨(R.forms f hf).ne,λr hr=>((R.forms f hf).rows r hr).ne,λr hr=>((R.forms f hf).rows r hr).once,λr hr p hp=>by
 have:=((R.forms f hf).rows r hr).mem p hp;have:=R.len;omega⟩
def rdD (fs:List (X9)):D:=.lst (fs.map frD)
@[simp]def walkS_rd (fs:List (X9)):nW (rdD fs)=some (fs.map frD):=rfl
def pl_rd (n:Nat)(fs:List (X9)):plN (n+5) (rdD fs)=true:=by
 show(fs.map frD).all (plN (n+4))=true;rw[XZ,Xk];exact λf _=>mG n f
open L2.ST
theorem mw:∀{ys xs:Yh},xs.Pairwise (· < ·)->ys.Pairwise (· < ·)->(∀x∈xs,x∈ys)->xs.length<=ys.length/\(xs.length=ys.length->xs=ys)
 | [],xs,_,_,h=>by
  cases xs with
  |nil=>exact⟨Zf _,λ_=>rfl⟩
  |cons x xs=>cases h x Zqs
 |y::ys,[],_,_,_=>⟨Nat.zero_le _,λe=>by simp at e⟩
 |y::ys,x::xs,hx,hy,h=>by
  rw[Z5] at hx hy;rcases ZD.mp (h x Zqs) with q|q
  .subst q;obtain⟨h1,h2⟩:=mw (ys:=ys) hx.2 hy.2 λz hz=>by
    rcases ZD.mp (h z (Zqm _ hz)) with w|w
    .have:=hx.1 z hz;omega
    .exact w
   refine⟨by rw[Zu,Zu];omega,λe=>?_⟩;rw[Zu,Zu] at e;rw[h2 ()]
  .have hyx:=hy.1 x q;obtain⟨h1,_⟩:=mw (ys:=ys) (xs:=x::xs) (Z5.mpr hx) hy.2 λz hz=>by
    rcases ZD.mp (h z hz) with w|w
    .rcases ZD.mp hz with v|v
     .omega
     .have:=hx.1 z v;omega
    .exact w
   refine⟨by rw[Zu (as:=ys)];omega,λe=>?_⟩;rw[Zu (as:=ys)] at e;omega
theorem ee:∀{a b:X8},a.map (·.1)=b.map (·.1)->(∀(i:Nat) p q,a[i]? = some p->b[i]? = some q->p.2<=q.2)->a≠b->yF a b=true
 | [],[],_,_,h=>Zn rfl h
 | [],_::_,e,_,_=>by simp at e
 |_::_,[],e,_,_=>by simp at e
 |p::a,q::b,e,hw,hn=>by
  rw[Zl,Zl] at e;have e1:p.1=q.1:=(List.cons.inj e).1;have e2:=(List.cons.inj e).2;have w0:=hw 0 p q rfl rfl;rw[yR];by_cases z:p=q
  .rw[Zd z];refine ee e2 (λi p q hp hq=>hw (i+1) p q hp hq) λy=>hn (by rw[z,y])
  .rw[Ze z,xh];refine .inr ⟨e1,?_⟩;rcases Int.lt_or_eq_of_le w0 with y|y
   .exact y
   .exact Zn (Prod.ext e1 y) z
def under_ll {a b:X8}(ra:w5 a)(rb:w5 b)(h:zl a b=true)(hn:a≠b):llB a b=true:=by
 have u:=zU.mp h;have ob:=vA rb;obtain⟨h1,h2⟩:=mw ra rb λx hx=>by
  refine zc1b (ZE.mp hx) λp hp zr2=>?_;subst zr2;refine zc1b (u p hp) λw hw _=>?_;exact ZE.mpr ⟨(p.1,w),zx hw,rfl⟩
 rw[Zql,Zql] at h1 h2;rw[vk];rcases Nat.lt_or_eq_of_le h1 with q|q
 .exact .inl q
 .have e:=h2 q;refine .inr ⟨q,ee e (λi p r hp hr=>?_) hn⟩;refine zc1b (u p (ZP hp)) λw hw hle=>?_;have e1:p.1=r.1:=by
   have a1:(a.map (·.1))[i]? = some p.1:=by rw[Zv,hp];rfl
   have a2:(b.map (·.1))[i]? = some r.1:=by rw[Zv,hr];rfl
   rw[e,a2] at a1;exact(Zqi a1).symm
  have:=once_same ob (ZP hr) (zx hw) e1.symm;rw[this];exact hle
def x6 {α:Type}{ltb:α -> α -> Bool}(T:Tot ltb){l:List α}(hn:l.Nodup):(zY ltb l).Pairwise λa b=>ltb a b=true:=by
 have hn':(zY ltb l).Nodup:=(zt (ltb:=ltb) l).nodup_iff.mpr hn;have hs:=xM T l;generalize zY ltb l=s at hn' hs;unfold Sd at hs;unfold List.Nodup at hn';refine List.Pairwise.imp ?_ (hs.and hn');rintro a b ⟨h1,h2⟩;cases q:ltb a b with
 |true=>rfl
 |false=>exact Zn (T.tot _ _ q h1) h2
def nI (rs:X9):X9:=zY llB (zY yF (pQ rs))
def tm {rs:X9}{r:X8}:r∈nI rs↔r∈rs:=by
 unfold nI;rw[(zt (ltb:=llB) _).mem_iff,(zt (ltb:=yF) _).mem_iff,qF]
def tY (rs:X9):(nI rs).Pairwise λa b=>llB a b=true:=x6 qy ((zt (ltb:=yF) _).nodup_iff.mpr (qC rs))
def mP (rs:X9):(nI rs).length<=rs.length:=by
 unfold nI;rw[(zt (ltb:=llB) _).length_eq,(zt (ltb:=yF) _).length_eq];exact lJ rs
def dO (kept:X9)(r:X8):X9:=if kept.any (λo=>zl o r)=true then kept else kept++[r]
def nJ (rs:X9):X9:=(nI rs).filter (uE rs)
theorem mQ {rs:X9}(hr:∀r∈rs,w5 r):∀i,i<=(nI rs).length->((nI rs).take i).foldl dO []=((nI rs).take i).filter (uE rs)
 | 0,_=>by simp
 |i+1,hi=>by
  have ih:=mQ hr i ();have st:=tY rs;have hm:∀r,r∈nI rs↔r∈rs:=λr=>tm;generalize nI rs=L at hi ih st hm;have hlt:i<L.length:=()
  rw[yt (Zqg hlt),Xs,List.filter_append,ih];have bef:∀o∈L.take i,llB o L[i]=true:=λo ho=>by
   obtain⟨j,hj,rfl⟩:=Xf ho;rw[ZV] at hj;rw[List.getElem_take];exact ZZ.mp st j i () hlt ()
  have hin:=(hm L[i]).mp (Z6 hlt);show dO ((L.take i).filter (uE rs)) L[i]=_;unfold dO;cases q:uE rs L[i] with
  |true =>
   have low:=xR.mp q;rw[Ze,X3 q,List.filter_nil];intro z;refine zc1b (Xb.mp z) λo ho hu=>?_;have ho:=(ZN.mp ho).1;have e:=low o ((hm o).mp (Xv ho)) hu;have b:=bef o ho;rw[e] at b;have:=qy.asy _ _ b;rw[b] at this
   first|exact zqn this|exact zqb this|(obtain rfl:=Zqi this)|cases this
  |false =>
   have nl:¬ ∀o∈rs,zl o L[i]=true->o=L[i]:=λz=>by rw[xR.mpr z] at q;(first|exact zqn q|exact zqb q|(obtain rfl:=Zqi q)|cases q)
   obtain⟨o,ho,hu,hne⟩:∃o∈rs,zl o L[i]=true/\o≠L[i]:=by
    apply Classical.byContradiction;intro z;exact nl λo ho hu=>Classical.byContradiction λy=>z ⟨o,ho,hu,y⟩
   obtain⟨mn,hm1,hm2⟩:=kg (rs:=rs.filter λo=>zl o L[i]) (λz=>by
    have:o∈rs.filter λo=>zl o L[i]:=ZN.mpr ⟨ho,hu⟩;rw[z] at this
    (first|exact zqn this|exact zqb this|(obtain rfl:=Zqi this)|cases this)) λr h=>⟨vA (hr r (ZN.mp h).1),hr r (ZN.mp h).1⟩
   obtain⟨mr,mu⟩:=ZN.mp hm1;have mlow:uE rs mn=true:=xR.mpr λx hx hxu=>hm2 x (ZN.mpr ⟨hx,zA hxu mu⟩) hxu;have mne:mn≠L[i]:=λz=>hne (by
    have:=hm2 o (ZN.mpr ⟨ho,hu⟩) (by rw[z];exact hu);rw[this,z])
   have mll:=under_ll (hr mn mr) (hr _ hin) mu mne;have mtake:mn∈L.take i:=by
    obtain⟨j,hj,ej⟩:=Xf ((hm mn).mpr mr);rcases Xm j i with w|w|w
    .rw[<- ej,List.mem_take_iff_getElem];exact⟨j,(),rfl⟩
    .subst w;exact Zn ej.symm mne
    .have b:=ZZ.mp st i j hlt hj w;rw[ej] at b;have:=qy.asy _ _ b;rw[mll] at this
     first|exact zqn this|exact zqb this|(obtain rfl:=Zqi this)|cases this
   rw[Zd (Xb.mpr ⟨mn,ZN.mpr ⟨mtake,mlow⟩,mu⟩),X4 (by rw[q];simp),List.filter_nil,Zz]
def oA (rs:X9):zY yF (nJ rs)=z5 rs:=by
 have n1:(nJ rs).Nodup:=by
  have:(nI rs).Nodup:=by
   unfold List.Nodup;refine(tY rs).imp λ{a b} h e=>?_;subst e;have:=qy.asy _ _ h;rw[h] at this
   first|exact zqn this|exact zqb this|(obtain rfl:=Zqi this)|cases this
  exact List.Pairwise.sublist (List.filter_sublist) this
 have n2:(yg rs rs).Nodup:=(yQ rs rs []).2.2 List.nodup_nil;refine yZ zR (x6 zR n1) (x6 zR n2) λr=>?_;rw[(zt (ltb:=yF) _).mem_iff];show r∈nJ rs↔r∈z5 rs;rw[zm];unfold nJ;rw[ZN,tm]
structure PairsOk (ts:Yh)(r:X8):Prop where
 ne:r ≠ []
 len:r.length<=4
 mem:∀p∈r,p.1∈ts
 up:r.Pairwise λp q=>p.1<q.1
def up_once {r:X8}(h:r.Pairwise λp q=>p.1<q.1):yE r:=by
 unfold yE List.Nodup;rw[XB];exact h.imp λh e=>()
def PairsOk.row {ts:Yh}{r:X8}(T:ThingsOk ts)(P:PairsOk ts r):RowOk 12 r:=⟨P.ne,up_once P.up,λp hp=>T.rng _ (P.mem p hp),Zh P.len ()⟩
def under_hour {s r:X8}{hs:Yh}(hn:s ≠ [])(ho:yE r)(h:zl s r=true):y8 s hs<=y8 r hs:=by
 rw[hour_lt_iff hn];intro p hp;refine zc1b (zU.mp h p hp) λw hw hle=>?_;have:=jM (hs:=hs) (zx hw);show vh hs p.1+p.2<=_;have this:vh hs p.1+w<=y8 r hs:=this;omega
def xZ {rs:X9}(ok:∀r∈rs,yE r/\w5 r){r:X8}(hr:r∈rs):∃s∈z5 rs,zl s r=true:=by
 have rr:zl r r=true:=zU.mpr λp hp=>⟨p.2,(ok r hr).1.look (t:=p.1) (w:=p.2) hp,Int.le_refl _⟩;have ne:rs.filter (λo=>zl o r) ≠ []:=λz=>by
  have:r∈rs.filter λo=>zl o r:=ZN.mpr ⟨hr,rr⟩;rw[z] at this
  first|exact zqn this|exact zqb this|(obtain rfl:=Zqi this)|cases this
 refine zc1b (kg ne λo ho=>ok o (ZN.mp ho).1) λm hm h=>?_;obtain⟨hm1,hm2⟩:=ZN.mp hm;exact⟨m,zm.mpr ⟨hm1,xR.mpr λo ho hu=>h o (ZN.mpr ⟨ho,zA hu hm2⟩) hu⟩,hm2⟩
def thin_comes {rs:X9}{hs:Yh}(hn:rs ≠ [])(ok:∀r∈rs,r ≠ []/\yE r/\w5 r):zp (z5 rs) hs=zp rs hs:=by
 refine zc1b (wx (hs:=hs) hn) λr hr e=>?_;refine zc1b (xZ (λr h=>(ok r h).2) hr) λs hs' hu=>?_;have a:=xN (hs:=hs) hs';have b:=under_hour (hs:=hs) (ok s (zm.mp hs').1).1 (ok r hr).2.1 hu;have ne:z5 rs ≠ []:=λz=>by rw[z] at hs';(first|exact zqn hs'|exact zqb hs'|(obtain rfl:=Zqi hs')|cases hs')
 refine zc1b (wx (hs:=hs) ne) λs2 hs2 e2=>?_;have c:=xN (hs:=hs) (zm.mp hs2).1;omega
def m9 {f g:X9}(h:f.length+g.length<=1000):ww (frD f) (frD g)=some (frD (f++g)):=by
 show(if(f.map rwD).length+(g.map rwD).length<=sizeLine then _ else _)=_;rw[Zql,Zql,Zd (v0 h)];unfold frD;rw[ZR]
def yH (rs:X9):(z5 rs).Pairwise λa b=>yF a b=true:=x6 zR ((yQ rs rs []).2.2 List.nodup_nil)
structure JRow (r:X8):Prop where
 ne:r ≠ []
 rise:w5 r
 bnd:∀p∈r,0<=p.1/\p.1<12
def JRow.once {r:X8}(h:JRow r):yE r:=vA h.rise
def JRow.len {r:X8}(h:JRow r):r.length<=12:=by
 have up:(r.map (·.1)).Pairwise (· < ·):=h.rise;have key:∀(l:Yh) (a:Int),l.Pairwise (· < ·)->(∀x∈l,a<=x/\x<12)->(l.length:Int)<=max 0 (12-a):=by
  intro l
  induction l with
  |nil=>intro a _ _;simp;omega
  |cons x l ih =>
   intro a hp hb;rw[Z5] at hp;have h1:=hb x Zqs;have:=ih (x+1) hp.2 λy hy=>⟨by have:=hp.1 y hy;omega,(hb y (Zqm _ hy)).2⟩;rw[Zu];omega
 have:=key _ 0 up λx hx=>by
  refine zc1b (ZE.mp hx) λp hp zr2=>?_;subst zr2;exact h.bnd p hp
 rw[Zql] at this;omega
theorem o5 {α:Type}:∀{l m:List α},l.Nodup->(∀x∈l,x∈m)->l.length<=m.length
 | [],m,_,_=>Nat.zero_le _
 |x::l,m,h,s=>by
  refine zc2a (List.append_of_mem (s x Zqs)) λa b zr2=>?_;subst zr2;obtain⟨h1,h2⟩:=List.nodup_cons.mp h;have ih:=o5 (l:=l) (m:=a++b) h2 λy hy=>by
   rcases ZL.mp (s y (Zqm _ hy)) with z|z
   .exact ZY _ z
   .rcases ZD.mp z with z|z
    .rw[z] at hy;exact Zn hy h1
    .exact ZK _ z
  rw[ZC] at ih;rw[ZC,Zu,Zu];omega
def stF (t g:X9):X9:=z5 (t++g)
structure Fm (n:Int)(U:X9)(f:X9):Prop where
 good:Good n f
 sub:∀r∈f,r∈U
def good_nodup {n:Int}{f:X9}(G:Good n f):f.Nodup:=G.srt.imp λ{a b} h e=>by
 subst e;have:=zR.asy _ _ h;rw[h] at this
 first|exact zqn this|exact zqb this|(obtain rfl:=Zqi this)|cases this
def good_thin {n:Int}{f:X9}(G:Good n f):z5 f=f:=yZ zR (yH f) G.srt λr =>
 ⟨λh=>(zm.mp h).1,λh=>zm.mpr ⟨h,xR.mpr λo ho hu=>G.anti o ho r h hu⟩⟩
def Fm.len {n:Int}{U f:X9}(F:Fm n U f)(h:U.length<=28):f.length<=28:=Zh (o5 (good_nodup F.good) F.sub) h
def md:X9->List (X9)->List (X9)
 |t,[]=>[t]
 |t,g::gs=>t::md (stF t g) gs
def comes_app {a b:X9}{hs:Yh}(ha:a ≠ [])(hb:b ≠ []):zp (a++b) hs<=zp a hs/\zp (a++b) hs<=zp b hs/\(zp (a++b) hs=zp a hs\/zp (a++b) hs=zp b hs):=by
 refine zc1b (wx (hs:=hs) ha) λr hr e=>?_;refine zc1b (wx (hs:=hs) hb) λs hs' e'=>?_;have l1:=xN (hs:=hs) (ZY b hr);have l2:=xN (hs:=hs) (ZK a hs');refine zc1b (wx (f:=a++b) (hs:=hs) (λz=>ha (List.append_eq_nil_iff.mp z).1)) λq hq e2=>?_;refine⟨(),(),?_⟩;rcases ZL.mp hq with z|z
 .have:=xN (hs:=hs) z;exact .inl ()
 .have:=xN (hs:=hs) z;exact .inr ()
def neg_last {α:Type}{f:α -> D}(ys:List α)(x:α):gIx (.lst ((ys++[x]).map f)) (.int (-1))=some (f x):=by
 show atI ((ys++[x]).map f) (-1)=_;unfold atI ixN;rw[Ze (),Zd (by rw[Zql,ZC,ZT];omega)];have e:((-1:Int)+(((ys++[x]).map f).length:Int)).toNat=ys.length:=by
  rw[Zql,ZC,ZT];omega
 show((ys++[x]).map f)[_]? = _;rw[e,Zv,Xh (Zf _),Nat.sub_self];rfl
def ig:FS:=(zK (sIf (z4 (dOp gLt (zf 1) (xB mH (zb (zf 0) zn)))) (xG (dOp gIx (zf 0) (zf 1))) yI) (xG (dC (.int 0))))
def vy:YD->Res D:=tf 2 2 ig
def fm (ns:Yh)(k:Nat):vy [.scr ns,.int k]=.ok (.int (xQ ns k)):=by
 unfold xQ;rw[Int.toNat_natCast];by_cases h:k<ns.length
 .have e:atI ns (k:Int)=some ns[k]:=by rw[uA h];exact Zqg h
  have e2:ns.getD k 0=ns[k]:=by rw[ZG,Zqg h];rfl
  rw[e2];simp[vy,ig,h,e]
 .have e2:ns.getD k 0=0:=by rw[ZG,List.getElem?_eq_none ()];rfl
  rw[e2];simp[vy,ig,h]
def gi:FS:=(zK (xo 2 (dC .non)) (zK (tj (iS (zf 0)) (.tup [3,4]) (sIf (kR (z4 (dUn (cD false) (zf 2))) (z4 (dOp gGt (dOp ww (dOp gIx (zf 1) (zf 3)) (zf 4)) (zf 2)))) (xo 2 (dOp ww (dOp gIx (zf 1) (zf 3)) (zf 4))) yI)) (xG (zf 2))))
def kH:YD->Res D:=tf 5 2 gi
def f_z23 {r:X8}{hs:Yh}(hne:r ≠ [])(hb:∀p∈r,0<=p.1/\p.1<(hs.length:Int)):kH [rwD r,.lst (hs.map .int)]=.ok (.int (y8 r hs)):=by
 simp[kH,gi,rwD];generalize hB:sIf _ _ yI=b;obtain⟨sd',e,u,v,hsd⟩:=yG (tg:=.tup [3,4]) (b:=b) (ds:=r.map prD) (sd:=[some (.val (.tup (r.map prD))),some (.val (.lst (hs.map .int))),some (.val .non),none,none])
  (P:=λi sd=>∃u v,sd=[some (.val (.tup (r.map prD))),some (.val (.lst (hs.map .int))),some (.val (if i=0 then .non else .int (y8 (r.take i) hs))),u,v]) ⟨none,none,rfl⟩ (by
   rintro i x sd hx ⟨u,v,rfl⟩;refine zc1b (xq hx) λp hp zr2=>?_;subst zr2;obtain⟨b1,b2⟩:=hb p (ZP hp);have ha:=lY b1 b2;have et:r.take (i+1)=r.take i++[p]:=yt hp;subst hB;by_cases q:i=0
   .subst q;simp[ha,et,y8,maxI_one]
   .have hl:(r.take i).map (λp=>vh hs p.1+p.2) ≠ []:=by
     intro z;have:=Zt List.length z;rw[Zql,ZV] at this;have hi:=(ZH.mp hp).1;simp only[ZB] at this;omega
    have hm:y8 (r.take (i+1)) hs=if y8 (r.take i) hs<vh hs p.1+p.2 then vh hs p.1+p.2 else y8 (r.take i) hs:=by
     rw[et];unfold y8;rw[ZR];exact maxI_snoc hl _
    by_cases c:y8 (r.take i) hs<vh hs p.1+p.2
    .rw[Zd c] at hm;simp[q,ha,c,hm]
    .rw[Ze c] at hm;simp[q,ha,c,hm])
 rw[e];subst hsd;have hn:¬r.length=0:=λz=>hne (ZS.mp z);simp[hne]
def gR:FS:=(xG (xB j8 (zb (xt [none,some 1] (iS (zf 0)) (.one 0) (zq kH (zb (zf 0) (zb (zf 1) zn)))) zn)))
def uI:YD->Res D:=tf 2 2 gR
def dk {f:X9}{hs:Yh}(hf:f ≠ [])(hl:f.length<=1000)(hne:∀r∈f,r ≠ [])(hb:∀r∈f,∀p∈r,0<=p.1/\p.1<(hs.length:Int)):uI [frD f,.lst (hs.map .int)]=.ok (.int (zp f hs)):=by
 have key:sB (.one 0) (zq kH (zb (zf 0) (zb (zf 1) zn))) [none,some (.val (.lst (hs.map .int)))] (f.map rwD)=.ok (f.map λr=>.int (y8 r hs)):=xf λr hr=>by
  simp[f_z23 (hne r hr) (hb r hr)]
 have e:f.map (λr=>D.int (y8 r hs))=(f.map λr=>y8 r hs).map .int:=by rw[Zw];rfl
 have hm:=gMinL_ints (ns:=f.map λr=>y8 r hs) (λz=>hf (ZW.mp z));rw[<- e] at hm;simp[uI,gR,frD,key,zu hl,hm,zp]
def gW:FS:=(zK (xo 2 (dOp r9 (dOp cy (dOp ww (dOp r9 (zf 0) (dC (.int 2147483647))) (zf 1)) (dC (.int 48271))) (dC (.int 2147483647)))) (xG (dOp r9 (dOp cy (zf 2) (zf 2)) (dC (.int 2147483629)))))
def pF:YD->Res D:=tf 3 2 gW
@[simp]def f_z14 (c s:Int):pF [.int c,.int s]=.ok (.int (t6 c s)):=by
 have h1:tU (c % 2147483647+s) 48271=true:=nS () ();have h2:tU ((c % 2147483647+s)*48271 % 2147483647) ((c % 2147483647+s)*48271 % 2147483647)=true:=nS () ();simp[pF,gW,pB h1,pB h2,t6]
def kP:FS:=(zK (xo 2 (zq pF (zb (zf 0) (zb (zf 1) zn)))) (zK (sIf (z4 (dOp gGt (dOp r9 (zf 2) (dC (.int 4))) (dC (.int 0)))) (xG (dOp dS (dOp r9 (dOp sh (zf 2) (dC (.int 4))) (dC (.int 7))) (dC (.int 3)))) yI) (zK (xo 3 (dOp r9 (dOp cy (dOp sh (zf 0) (dC (.int 5))) (dOp ww (zf 1) (dC (.int 3)))) (dOp b5 (dC (.int 10)) (dC (.int 60))))) (zK (sIf (z4 (dOp gEq (dOp r9 (dOp sh (zf 2) (dC (.int 28))) (dC (.int 2))) (dC (.int 0)))) (xG (zf 3)) yI) (xG (dUn cg (zf 3)))))))
def uj:YD->Res D:=tf 4 2 kP
def mO (c s:Int):Int:=
 if 0<t6 c s % 4 then t6 c s / 4 % 7-3
 else if t6 c s / 28 % 2=0 then c / 5*(s+3) % (10:Int) ^ (60:Nat) else -(c / 5*(s+3) % (10:Int) ^ (60:Nat))
def gj {c s:Int}(h1: -1000000<=s)(h2:s<=1000000):uj [.int c,.int s]=.ok (.int (mO c s)):=by
 have h3:tU (c / 5) (s+3)=true:=nS () ();have h4:b5 (.int 10) (.int 60)=some (.int (10 ^ 60)):=rfl;unfold mO;by_cases c1:0<t6 c s % 4
 .simp[uj,kP,c1]
 .by_cases c2:t6 c s / 28 % 2=0
  .simp[uj,kP,c1,c2,pB h3,h4]
  .simp[uj,kP,c1,c2,pB h3,h4]
def gF:FS:=(zK (xo 2 (zq pF (zb (zf 0) (zb (dC (.int 7)) zn)))) (zK (qJ 3 (uh zn)) (zK (tj (iR1 (zb (zf 1) zn)) (.one 4) (zK (sIf (z4 (dOp gEq (dOp r9 (zf 2) (dC (.int 2))) (dC (.int 1)))) (zL 3 (pM (zb (zf 4) (zb (zq uj (zb (zf 0) (zb (dOp ww (dC (.int 13)) (zf 4)) zn))) zn)))) yI) (xo 2 (dOp sh (zf 2) (dC (.int 2)))))) (zK (sIf (nY [3] (z4 (dOp gEq (zf 3) (uh zn)))) (zL 3 (pM (zb (dOp r9 (zf 0) (zf 1)) (zb (zq uj (zb (zf 0) (zb (dC (.int 31)) zn))) zn)))) yI) (λsd=>(xG (xB wZ (zb (zf 3) zn))) (tE [3] sd))))))
def jz:YD->Res D:=tf 5 2 gF
def cJ (c n:Int):X8:=dU (t6 c 7) (λi=>mO c (13+i)) c (mO c 31) n
def f_z17 {c n:Int}(h1:1<=n)(h2:n<=12):jz [.int c,.int n]=.ok (rwD (cJ c n)):=by
 have r1:wM [.int n]=.ok (yc 0 n.toNat):=xc () ();simp[jz,gF,r1];generalize hb:zK (sIf _ _ _) (xo 2 _)=b;obtain⟨sd',e,u,rfl⟩:=yG (tg:=.one 4) (b:=b) (ds:=yc 0 n.toNat) (sd:=[some (.val (.int c)),some (.val (.int n)),some (.val (.int (t6 c 7))),some (.own false (.lst [])),none])
  (P:=λi sd=>∃u,sd=[some (.val (.int c)),some (.val (.int n)),some (.val (.int (kF (t6 c 7) i))),some (.own false (.lst ((pK (t6 c 7) (λi=>mO c (13+i)) i).map prD))),u]) ⟨none,rfl⟩ (by
   rintro i x sd hx ⟨u,rfl⟩;obtain⟨rfl,hi⟩:=vQ hx;have hw:=gj (c:=c) (s:=13+i) () ();have hl:=pe (t6 c 7) (λi=>mO c (13+i)) i;subst hb;by_cases q:kF (t6 c 7) i % 2=1
   .simp[q,hw,zu (show(pK (t6 c 7) (λi=>mO c (13+i)) i).length<=1000 by omega),pK,kF,prD]
   .simp[q,pK,kF])
 rw[e];have hp:=wO (lE (pK (t6 c 7) (λi=>mO c (13+i)) n.toNat)) xW;have hw:=gj (c:=c) (s:=31) () ();rw[xY];unfold cJ dU;by_cases q:pK (t6 c 7) (λi=>mO c (13+i)) n.toNat=[]
 .simp[q,hw,wO xW xW,zS,show 0<n by omega,zu (show 0<=1000 from ()),rwD,prD]
 .simp[q,hp,yd,rwD]
def gk:FS:=(zK (xo 3 (xB rH (zb (zf 0) zn))) (zK (qJ 4 (uh zn)) (zK (tj (iR1 (zb (zf 2) zn)) (.one 5) (zK (xo 6 (zq pF (zb (zf 1) (zb (dOp ww (dC (.int 43)) (zf 5)) zn)))) (zK (sIf (nv (z4 (dOp (gIn false) (zf 5) (zf 3))) (z4 (dOp gGt (dOp r9 (zf 6) (dC (.int 6))) (dC (.int 0))))) (zL 4 (pM (zb (zf 5) (zb (dOp ww (dOp gIx (zf 3) (zf 5)) (dOp gIx (uh (zb (dC (.int 0)) (zb (dC (.int 0)) (zb (dC (.int 1)) (zb (dUn cg (dC (.int 1))) zn))))) (dOp r9 (dOp sh (zf 6) (dC (.int 6))) (dC (.int 4))))) zn)))) yI) (sIf (nv (z4 (dOp (gIn true) (zf 5) (zf 3))) (z4 (dOp gEq (dOp r9 (zf 6) (dC (.int 5))) (dC (.int 0))))) (zL 4 (pM (zb (zf 5) (zb (zq uj (zb (zf 1) (zb (dOp ww (dC (.int 67)) (zf 5)) zn))) zn)))) yI)))) (zK (sIf (nY [4] (z4 (dOp gEq (zf 4) (uh zn)))) (xG (zf 0)) yI) (λsd=>(xG (xB wZ (zb (zf 4) zn))) (tE [4] sd))))))
def ic:YD->Res D:=tf 7 3 gk
noncomputable def gP:Yh:=[0,0,1,-1]
def nE (c:Int)(i:Nat):Option Int->Option Int
 |some w=>if 0<t6 c (43+i) % 6 then some (w+vh gP (t6 c (43+i) / 6 % 4)) else none
 |none=>if t6 c (43+i) % 5=0 then some (mO c (67+i)) else none
def f_z18 {r:X8}{c n:Int}(o:yE r)(hl:r.length<=100)(h1:0<=n)(h2:n<=12):ic [rwD r,.int c,.int n]=.ok (rwD (wK r (nE c) n)):=by
 have r1:wM [.int n]=.ok (yc 0 n.toNat):=xc () ();have hd:=vU hl o;simp[ic,gk,r1,hd];generalize hB:zK (xo 6 _) _=b;obtain⟨sd',e,u,v,hsd⟩:=yG (tg:=.one 5) (b:=b) (ds:=yc 0 n.toNat) (sd:=[some (.val (rwD r)),some (.val (.int c)),some (.val (.int n)),some (.val (dcR r)),some (.own false (.lst [])),none,none])
  (P:=λi sd=>∃u v,sd=[some (.val (rwD r)),some (.val (.int c)),some (.val (.int n)),some (.val (dcR r)),some (.own false (.lst ((wm r (nE c) i).map prD))),u,v]) ⟨none,none,rfl⟩ (by
   rintro i x sd hx ⟨u,v,rfl⟩;obtain⟨rfl,hi⟩:=vQ hx;have hw:=gj (c:=c) (s:=67+i) () ();have hl:=rh r (nE c) i;have hz:=zu (show(wm r (nE c) i).length<=1000 by omega);have hv:=ub o (i:Int);have hm:atI [D.int 0,D.int 0,D.int 1,D.int (-1)] (t6 c (43+i) / 6 % 4)=some (.int (vh gP (t6 c (43+i) / 6 % 4))):=lY (hs:=gP) () (by show _<(4:Int);omega);subst hB;cases q:zk r i with
   |some w =>
    rw[q] at hv;by_cases c1:0<t6 c (43+i) % 6
    .have es:wE r (nE c) i=[((i:Int),w+vh gP (t6 c (43+i) / 6 % 4))]:=by unfold wE nE;rw[q];simp[c1]
     simp[dcR,hv,c1,hm,hz,wm,es,prD]
    .have es:wE r (nE c) i=[]:=by unfold wE nE;rw[q];simp[c1]
     simp[dcR,hv,c1,hz,wm,es,prD]
   |none =>
    rw[q] at hv;by_cases c1:t6 c (43+i) % 5=0
    .have es:wE r (nE c) i=[((i:Int),mO c (67+i))]:=by unfold wE nE;rw[q];simp[c1]
     simp[dcR,hv,c1,hw,hz,wm,es,prD]
    .have es:wE r (nE c) i=[]:=by unfold wE nE;rw[q];simp[c1]
     simp[dcR,hv,c1,hz,wm,es,prD])
 rw[e];subst hsd;have hp:=wO (lE (wm r (nE c) n.toNat)) xW;rw[xY];unfold wK;by_cases q:wm r (nE c) n.toNat=[]
 .simp[q,wO xW xW,zS]
 .simp[q,hp,yd,rwD]
def gE:FS:=(zK (qJ 2 (uh zn)) (zK (tj (iS (zf 0)) (.one 3) (sIf (nv (nY [2] (z4 (dOp gNe (zf 2) (uh zn)))) (z4 (dOp gGt (dOp r9 (zf 3) (dC (.int 3))) (dC (.int 0))))) (zL 2 (zq ic (zb (qD 2 (dOp r9 (dOp sh (zf 3) (dC (.int 3))) (gD [2] (xB mH (zb (zf 2) zn))))) (zb (zf 3) (zb (zf 1) zn))))) (zL 2 (zq jz (zb (zf 3) (zb (zf 1) zn)))))) (yA 2)))
def jX:YD->Res D:=ut 4 2 gE
def yo (n:Int)(rs:X9)(c:Int):X9:=if rs ≠ []/\0<c % 3 then rs++[wK (rs.getD (c / 3 % (rs.length:Int)).toNat []) (nE c) n] else rs++[cJ c n]
def xr (n:Int)(cs:Yh):X9:=cs.foldl (yo n) []
def listStep_len (n:Int)(rs:X9)(c:Int):(yo n rs c).length=rs.length+1:=by
 unfold yo
 split<;>simp
theorem uc (n:Int):∀(cs:Yh) (rs:X9),(cs.foldl (yo n) rs).length=rs.length+cs.length
 | [],rs=>rfl
 |c::cs,rs=>by rw[Xg,uc n cs,listStep_len,Zu];omega
def sR (n:Int)(cs:Yh):(xr n cs).length=cs.length:=by
 have:=uc n cs [];unfold xr;rw[this];exact Nat.zero_add _
def listStep_ok {n:Int}{rs:X9}{c:Int}(h1:1<=n)(h2:n<=12)(h:∀r∈rs,RowOk n r):∀r∈yo n rs c,RowOk n r:=by
 intro r hr;unfold yo at hr
 split at hr
 .rename_i q;rcases ZL.mp hr with z|z
  .exact h r z
  .rw[ZF.mp z];have hp:0<rs.length:=XC.mpr q.1;have hi:(c / 3 % (rs.length:Int)).toNat<rs.length:=by
    have a:=Int.emod_nonneg (c / 3) (show(rs.length:Int)≠0 by omega);have b:=Int.emod_lt_of_pos (c / 3) (show(0:Int)<rs.length by omega);omega
   have e:rs.getD (c / 3 % (rs.length:Int)).toNat []=rs[(c / 3 % (rs.length:Int)).toNat]:=by rw[ZG,Zqg hi];rfl
   rw[e];exact variedG_ok (h _ (Z6 hi)) () h2
 .rcases ZL.mp hr with z|z
  .exact h r z
  .rw[ZF.mp z];exact rowG_ok h1 h2
theorem uL {n:Int}(h1:1<=n)(h2:n<=12):∀(cs:Yh) (rs:X9),(∀r∈rs,RowOk n r)->∀r∈cs.foldl (yo n) rs,RowOk n r
 | [],rs,h=>h
 |c::cs,rs,h=>by rw[Xg];exact uL h1 h2 cs _ (listStep_ok h1 h2 h)
def qV {n:Int}(h1:1<=n)(h2:n<=12)(cs:Yh):∀r∈xr n cs,RowOk n r:=uL h1 h2 cs [] λ_ h=>nomatch h
def f_z19 {cs:Yh}{n:Int}(h1:1<=n)(h2:n<=12)(hl:cs.length<=100):jX [.lst (cs.map .int),.int n]=.ok (.lst ((xr n cs).map rwD)):=by
 simp[jX,gE];generalize hB:sIf _ _ _=b;obtain⟨sd',e,u,hsd⟩:=yG (tg:=.one 3) (b:=b) (ds:=cs.map .int) (sd:=[some (.val (.lst (cs.map .int))),some (.val (.int n)),some (.own false (.lst [])),none])
  (P:=λi sd=>∃u,sd=[some (.val (.lst (cs.map .int))),some (.val (.int n)),some (.own false (.lst ((xr n (cs.take i)).map rwD))),u]) ⟨none,rfl⟩ (by
   rintro i x sd hx ⟨u,rfl⟩;refine zc1b (xq hx) λc hc zr2=>?_;subst zr2;have hi:=(ZH.mp hc).1;have et:xr n (cs.take (i+1))=yo n (xr n (cs.take i)) c:=by
    unfold xr;rw[yt hc,Xs];rfl
   have hlen:=sR n (cs.take i);rw[ZV] at hlen;have ok:=qV h1 h2 (cs.take i);generalize xr n (cs.take i)=rs at et hlen ok;have hz:=zu (show rs.length<=1000 from ());rw[et];have hr:=f_z17 (c:=c) h1 h2;subst hB;by_cases q:rs=[]
   .have es:yo n rs c=rs++[cJ c n]:=Ze λz=>z.1 q;rw[es];simp[q,si xW xW,zS,hr,zu (show 0<=1000 from ())]
   .have hn:=si (m6 rs) xW;by_cases c3:0<c % 3
    .have es:yo n rs c=rs++[wK (rs.getD (c / 3 % (rs.length:Int)).toNat []) (nE c) n]:=Zd ⟨q,c3⟩;have hp:0<rs.length:=XC.mpr q;have a:=Int.emod_nonneg (c / 3) (show(rs.length:Int)≠0 by omega);have b:=Int.emod_lt_of_pos (c / 3) (show(0:Int)<rs.length by omega);have hj:(c / 3 % (rs.length:Int)).toNat<rs.length:=()
     have eg:rs.getD (c / 3 % (rs.length:Int)).toNat []=rs[(c / 3 % (rs.length:Int)).toNat]:=by rw[ZG,Zqg hj];rfl
     have ea:atI (rs.map rwD) (c / 3 % (rs.length:Int))=some (rwD rs[(c / 3 % (rs.length:Int)).toNat]):=by
      have e1:ixN rs.length (c / 3 % (rs.length:Int))=some (c / 3 % (rs.length:Int)).toNat:=by unfold ixN;rw[Zd a,Zd b]
      unfold atI;rw[Zql,e1];show(rs.map rwD)[_]? = _;rw[Zv,Zqg hj];rfl
     rw[es,eg];have okr:RowOk n rs[(c / 3 % (rs.length:Int)).toNat]:=ok _ (Z6 hj);generalize rs[(c / 3 % (rs.length:Int)).toNat]=r0 at ea okr;have hv:=f_z18 (c:=c) okr.once (show r0.length<=100 by have:=okr.len;omega) (show 0<=n from ()) h2;have hmod:=mE (i:=c / 3) (show(0:Int)<rs.length by omega);simp[q,hn,yd,c3,hmod,ea,hv,hz]
    .have es:yo n rs c=rs++[cJ c n]:=Ze λz=>c3 z.2;rw[es];simp[q,hn,yd,c3,hr,hz])
 rw[e];subst hsd;simp
def gy:FS:=(zK (xo 2 (xB rH (zb (zf 1) zn))) (zK (tj (iS (zf 0)) (.one 3) (sIf (kR (z4 (dOp (gIn true) (dOp gIx (zf 3) (dC (.int 0))) (zf 2))) (z4 (dOp gGt (dOp gIx (zf 3) (dC (.int 1))) (dOp gIx (zf 2) (dOp gIx (zf 3) (dC (.int 0))))))) (xG (dC (.bl false))) yI)) (xG (dC (.bl true)))))
def kC:YD->Res D:=tf 4 2 gy
def f_z20 {r o:X8}(ho:yE o)(hl:o.length<=100):kC [rwD r,rwD o]=.ok (.bl (zl r o)):=by
 have hd:rH [.tup (o.map prD)]=some (dcR o):=vU hl ho;simp[kC,gy,hd,rwD];refine tu (R:=λz=>(z.bind (kY (xG (dC (.bl true))))).bind fH=.ok (.bl (zl r o))) (P:=λi sd=>(∃u,sd=[some (.val (.tup (r.map prD))),some (.val (.tup (o.map prD))),some (.val (dcR o)),u])/\zl (r.take i) o=true) ⟨⟨none,rfl⟩,rfl⟩ ?_ ?_
 .rintro sd ⟨⟨u,rfl⟩,hu⟩;rw[Zql,XN] at hu;simp[hu]
 .rintro i x sd hx ⟨⟨u,rfl⟩,hu⟩;refine zc1b (xq hx) λp hp zr2=>?_;subst zr2;have hv:=ub ho p.1;have a0:atI [D.int p.1,D.int p.2] 0=some (.int p.1):=rfl;have a1:atI [D.int p.1,D.int p.2] 1=some (.int p.2):=rfl;cases q:zk o p.1 with
  |none =>
   rw[q] at hv;have z:nB o p=false:=by unfold nB;rw[q]
   rw[wn hp z];exact .inr (.inr ⟨.bl false,by simp[prD,dcR,a0,hv],by simp⟩)
  |some w =>
   rw[q] at hv;by_cases c:w<p.2
   .have z:nB o p=false:=by unfold nB;rw[q];exact Zo ()
    rw[wn hp z];exact .inr (.inr ⟨.bl false,by simp[prD,dcR,a0,a1,hv,c],by simp⟩)
   .have z:nB o p=true:=by unfold nB;rw[q];exact Zp ()
    exact .inl ⟨[some (.val (.tup (r.map prD))),some (.val (.tup (o.map prD))),some (.val (dcR o)),some (.val (prD p))],.inl (by simp[prD,dcR,a0,a1,hv,c]),⟨_,rfl⟩,qh hp hu z⟩
def gY:FS:=(zK (qJ 1 (uh zn)) (zK (tj (iS (zf 0)) (.one 2) (zK (xo 3 (xU [none,some 2] (iS (zf 0)) (.one 0) (nv (z4 (dOp gNe (zf 0) (zf 1))) (z4 (zq kC (zb (zf 0) (zb (zf 1) zn))))) (zf 0))) (sIf (nv (z4 (dOp gEq (zf 3) (uh zn))) (nY [1] (z4 (dOp (gIn true) (zf 2) (zf 1))))) (zL 1 (zf 2)) yI))) (λsd=>(xG (xB xA (zb (zf 1) zn))) (tE [1] sd))))
def rE:YD->Res D:=ut 4 1 gY
def dJ {rs:X9}(hne:∀r∈rs,r ≠ [])(ho:∀r∈rs,yE r)(hl:∀r∈rs,r.length<=100)(hn:rs.length<1000):rE [frD rs]=.ok (frD (z5 rs)):=by
 simp[rE,gY,frD];generalize hB:zK (xo 3 _) _=b;obtain⟨sd',e,u,v,hsd⟩:=yG (tg:=.one 2) (b:=b) (ds:=rs.map rwD) (sd:=[some (.val (.lst (rs.map rwD))),some (.own false (.lst [])),none,none])
  (P:=λi sd=>∃u v,sd=[some (.val (.lst (rs.map rwD))),some (.own false (.lst ((yg rs (rs.take i)).map rwD))),u,v]) ⟨none,none,rfl⟩ (by
   rintro i x sd hx ⟨u,v,rfl⟩;refine zc1b (xq hx) λrow hr zr2=>?_;subst zr2;have hm:=ZP hr;have hi:=(ZH.mp hr).1;have et:yg rs (rs.take (i+1))=xI rs (yg rs (rs.take i)) row:=by
    unfold yg;rw[yt hr,Xs];rfl
   have hlen:=(yQ rs (rs.take i) []).1;have hz:(yg rs (rs.take i)).length<sizeLine:=zu (by unfold yg;rw[ZV] at hlen;simp only[ZB] at hlen;omega);have key:uf (.one 0) (nv (z4 (dOp gNe (zf 0) (zf 1))) (z4 (zq kC (zb (zf 0) (zb (zf 1) zn))))) (zf 0) [none,some (.val (rwD row))] (rs.map rwD)=.ok ((rs.filter λone => !decide (one=row)&&zl one row).map rwD):=
    vJ (s:=λo=>[some (.val (rwD o)),some (.val (rwD row))]) (λo _=>rfl) (λo ho'=>by
     have hq:=si (oV o) (oV row);rw[lQ] at hq;by_cases z:o=row
     .subst z;simp[hq]
     .simp[hq,z,f_z20 (r:=o) (ho row hm) (hl row hm)]) (λo _ _=>by simp)
   have hq:=wO (m6 (rs.filter λone => !decide (one=row)&&zl one row)) xW;have lz:=zu (show rs.length<=1000 from ());have hin:=gIn_rows true row (yg rs (rs.take i));generalize yg rs (rs.take i)=least at et hz hin;rw[et];unfold xI;have eq:uE rs row=(rs.filter λone => !decide (one=row)&&zl one row).isEmpty:=rfl;rw[yd,<- eq] at hq;subst hB;cases q:uE rs row with
   |false=>rw[q] at hq;simp[key,lz,hq,q]
   |true =>
    rw[q] at hq;by_cases w:row∈least
    .simp[key,lz,hq,q,hin,w]
    .simp[key,lz,hq,q,hin,w,hz])
 rw[e];subst hsd;have hs:=vg (ls:=yg rs rs) (λr hr=>hne r (by have:=(yQ rs rs []).2.1 r;unfold yg at hr;rw[this] at hr;simp at hr;exact hr.1)) (by have:=(yQ rs rs []).1;unfold yg;simp only[ZB] at this;omega);simp[hs,z5]
def gq:FS:=(zK (xo 3 (zq jX (zb (zf 0) (zb (zf 2) zn)))) (zK (qJ 4 (uh zn)) (zK (tj (iR1 (zb (zf 1) zn)) (.one 5) (zK (zL 4 (zq rE (zb (dSl (zf 3) (v9 (zf 5)) yM (v9 (zf 1))) zn))) (sIf (z4 (dOp gEq (qD 4 (zf 5)) (uh zn))) (gA 4 (zf 5) (uh (zb (pM (zb (pM (zb (dOp r9 (zf 5) (zf 2)) (zb (dC (.int 0)) zn))) zn)) zn))) yI))) (yA 4))))
def kB:YD->Res D:=ut 6 3 gq
def cx {cs:Yh}{many n:Int}(h1:1<=n)(h2:n<=12)(hl:cs.length<=63)(m1:1<=many)(m2:many<=60):kB [.lst (cs.map .int),.int many,.int n]=.ok (.lst ((xL n many (xr n cs) many.toNat).map frD)):=by
 have r1:wM [.int many]=.ok (yc 0 many.toNat):=xc () ();have fl:=f_z19 (cs:=cs) h1 h2 ();have ok:=qV h1 h2 cs;have ll:=sR n cs;simp[kB,gq,r1,fl];generalize xr n cs=rs at ok ll;generalize hB:zK (zL 4 _) _=b;obtain⟨sd',e,u,hsd⟩:=yG (tg:=.one 5) (b:=b) (ds:=yc 0 many.toNat) (sd:=[some (.val (.lst (cs.map .int))),some (.val (.int many)),some (.val (.int n)),some (.val (.lst (rs.map rwD))),some (.own false (.lst [])),none])
  (P:=λi sd=>∃u,sd=[some (.val (.lst (cs.map .int))),some (.val (.int many)),some (.val (.int n)),some (.val (.lst (rs.map rwD))),some (.own false (.lst ((xL n many rs i).map frD))),u]) ⟨none,rfl⟩ (by
   rintro i x sd hx ⟨u,rfl⟩;obtain⟨rfl,hi⟩:=vQ hx;have gs:gSl (.lst (rs.map rwD)) (some (i:Int)) none (some many)=some (frD (zW rs (some (i:Int)) none (some many))):=by
    rw[gSl_lst (),pJ];rfl
   have pk:∀r∈zW rs (some (i:Int)) none (some many),RowOk n r:=λr hr=>ok r (tq hr);have pl:=p7 rs (some (i:Int)) none (some many);have ft:=dJ (rs:=zW rs (some (i:Int)) none (some many)) (λr hr=>(pk r hr).ne) (λr hr=>(pk r hr).once) (λr hr=>by have:=(pk r hr).len;omega) ();have et:xL n many rs (i+1)=xL n many rs i++[rC n i (z5 (zW rs (some (i:Int)) none (some many)))]:=by
    unfold xL;rw[List.range_succ,ZR];rfl
   have lf:(xL n many rs i).length=i:=by unfold xL;rw[Zql,ZA]
   have hz:(xL n many rs i).length<sizeLine:=zu ();generalize z5 (zW rs (some (i:Int)) none (some many))=t at ft et;generalize xL n many rs i=fs at et lf hz;have lm:(fs.map frD).length=i:=by rw[Zql];exact lf
   have ha:atI (fs.map frD++[frD t]) (i:Int)=some (frD t):=by have:=at_last (fs.map frD) (frD t);rw[lm] at this;exact this
   have hx2:ixN (fs.length+1) (i:Int)=some i:=by have:=ix_last (fs.map frD) (frD t);rw[lm,ZC,Zql] at this;exact this
   have hset:∀y,(fs.map frD++[frD t]).set i y=fs.map frD++[y]:=λy=>by have:=set_last (fs.map frD) (frD t) y;rw[lm] at this;exact this
   have hq:gEq (frD t) (.lst [])=some (.bl t.isEmpty):=by
    have:=wO (m6 t) xW;rw[yd] at this;exact this
   have hmod:=mE (i:=(i:Int)) (show 0<n from ());rw[et];unfold rC;subst hB;by_cases q:t=[]
   .subst q;simp[gs,ft,hz,ha,hq,hmod,hx2,hset];rfl
   .simp[gs,ft,hz,ha,hq,q])
 rw[e];subst hsd;simp[xY]
def gM:FS:=(xG (xt [none,some 0] (iR1 (zb (zf 1) zn)) (.one 0) (zq uj (zb (dOp sh (zf 1) (dOp ww (dC (.int 1)) (zf 0))) (zb (dOp ww (dC (.int 101)) (zf 0)) zn)))))
def k7:YD->Res D:=ut 2 2 gM
def re (c:Int)(n:Nat):Yh:=(List.range n).map λk:Nat=>mO (c / (1+k)) (101+k)
def f_z25 {c n:Int}(h2:0<=n)(h3:n<=12):k7 [.int c,.int n]=.ok (.lst ((re c n.toNat).map .int)):=by
 have r1:wM [.int n]=.ok (yc 0 n.toNat):=xc () ();have key:sB (.one 0) (zq uj (zb (dOp sh (zf 1) (dOp ww (dC (.int 1)) (zf 0))) (zb (dOp ww (dC (.int 101)) (zf 0)) zn))) [none,some (.val (.int c))] (yc 0 n.toNat)=.ok ((List.range n.toNat).map λk:Nat=>.int (mO (c / (1+k)) (101+k))):=rL λi hi=>by
  have hw:=gj (c:=c / (1+i)) (s:=101+i) () ();have hd:=gFdiv_ok (i:=c) (j:=1+i) () ();simp[hd,hw]
 have e:(re c n.toNat).map D.int=(List.range n.toNat).map λk:Nat=>.int (mO (c / (1+k)) (101+k)):=by
  unfold re;rw[Zw];rfl
 simp[k7,gM,r1,key,xY,zu (show n.toNat<=1000 from ()),e]
def gK:FS:=(xG (i7 (xB kX (zb (zf 0) (zb (dC (.ty "int")) zn))) (dG (xB kX (zb (zf 0) (zb (dC (.ty "bool")) zn))))))
def ky:YD->Res D:=tf 1 1 gK
@[simp]def f_law_whole_int (i:Int):ky [.int i]=.ok (.bl true):=by
 simp[ky,gK]
def gJ:FS:=(zK (sIf (kR (uJ (z4 (xB kX (zb (zf 0) (zb (dC (.ty "list")) zn))))) (z4 (dOp gEq (zf 0) (uh zn)))) (xG (dC (.bl false))) yI) (zK (tj (iS (zf 0)) (.one 1) (zK (sIf (kR (uJ (z4 (xB kX (zb (zf 1) (zb (dC (.ty "tuple")) zn))))) (z4 (dOp gEq (zf 1) (pM zn)))) (xG (dC (.bl false))) yI) (tj (iS (zf 1)) (.one 2) (sIf (kR (uJ (z4 (xB kX (zb (zf 2) (zb (dC (.ty "tuple")) zn))))) (kR (z4 (dOp gNe (xB mH (zb (zf 2) zn)) (dC (.int 2)))) (kR (uJ (z4 (zq ky (zb (dOp gIx (zf 2) (dC (.int 0))) zn)))) (uJ (z4 (zq ky (zb (dOp gIx (zf 2) (dC (.int 1))) zn))))))) (xG (dC (.bl false))) yI)))) (xG (dC (.bl true)))))
def jj:YD->Res D:=tf 3 1 gJ
def f_z26 {f:X9}(hf:f ≠ [])(hne:∀r∈f,r ≠ []):jj [frD f]=.ok (.bl true):=by
 have he:f.isEmpty=false:=by cases f with|nil=>exact Zn rfl hf|cons a l=>rfl
 simp[jj,gJ,gEq_fr0,he];generalize hB:zK (sIf _ _ _) (tj _ _ _)=b;obtain⟨sd',e,u,v,hsd⟩:=yG (tg:=.one 1) (b:=b) (ds:=f.map rwD) (sd:=[some (.val (frD f)),none,none])
  (P:=λi sd=>∃u v,sd=[some (.val (frD f)),u,v]) ⟨none,none,rfl⟩ (by
   rintro i x sd hx ⟨u,v,rfl⟩;refine zc1b (xq hx) λr hr zr2=>?_;subst zr2;have hr0:=hne r (ZP hr);have hq:gEq (rwD r) (.tup [])=some (.bl false):=by
    rw[wO (oV r) rfl,wg.mpr];exact λz=>hr0 (iw (s:=[]) z)
   subst hB;simp[hq];generalize hB2:sIf _ _ _=b2;obtain⟨sd',e,v,hsd⟩:=yG (tg:=.one 2) (b:=b2) (ds:=r.map prD) (sd:=[some (.val (frD f)),some (.val (rwD r)),v])
    (P:=λi sd=>∃v,sd=[some (.val (frD f)),some (.val (rwD r)),v]) ⟨v,rfl⟩ (by
     rintro j y sd hy ⟨v,rfl⟩;refine zc1b (xq hy) λp hp zr2=>?_;subst zr2;subst hB2;simp)
   exact⟨sd',e,_,_,hsd⟩)
 rw[e];simp
def cU:FS:=(zK (tj (iS (zf 0)) (.tup [2,3]) (sIf (kR (z4 (dOp (gIn true) (zf 2) (zf 1))) (z4 (dOp gGt (zf 3) (dOp gIx (zf 1) (zf 2))))) (xG (dC (.bl false))) yI)) (xG (dC (.bl true))))
def c9:YD->Res D:=tf 4 2 cU
def f_z0 {r o:X8}(ho:yE o):c9 [rwD r,dcR o]=.ok (.bl (zl r o)):=by
 simp[c9,cU];refine tu (R:=λz=>(z.bind (kY (xG (dC (.bl true))))).bind fH=.ok (.bl (zl r o))) (P:=λi sd=>(∃u v,sd=[some (.val (rwD r)),some (.val (dcR o)),u,v])/\zl (r.take i) o=true) ⟨⟨none,none,rfl⟩,rfl⟩ ?_ ?_
 .rintro sd ⟨⟨u,v,rfl⟩,hu⟩;rw[Zql,XN] at hu;simp[hu]
 .rintro i x sd hx ⟨⟨u,v,rfl⟩,hu⟩;refine zc1b (xq hx) λp hp zr2=>?_;subst zr2;have hv:=ub ho p.1;cases q:zk o p.1 with
  |none =>
   rw[q] at hv;have z:nB o p=false:=by unfold nB;rw[q]
   rw[wn hp z];exact .inr (.inr ⟨.bl false,by simp[dcR,hv],by simp⟩)
  |some w =>
   rw[q] at hv;by_cases c:w<p.2
   .have z:nB o p=false:=by unfold nB;rw[q];exact Zo ()
    rw[wn hp z];exact .inr (.inr ⟨.bl false,by simp[dcR,hv,c],by simp⟩)
   .have z:nB o p=true:=by unfold nB;rw[q];exact Zp ()
    exact .inl ⟨[some (.val (rwD r)),some (.val (dcR o)),some (.val (.int p.1)),some (.val (.int p.2))],.inl (by simp[dcR,hv,c]),⟨_,_,rfl⟩,qh hp hu z⟩
def cS:FS:=(zK (xo 2 (xB rH (zb (zf 0) zn))) (zK (tj (iS (zf 1)) (.one 3) (sIf (z4 (zq c9 (zb (zf 3) (zb (zf 2) zn)))) (xG (dC (.bl true))) yI)) (xG (dC (.bl false)))))
def nG:YD->Res D:=tf 4 2 cS
def bY {r:X8}{ks:X9}(ho:yE r)(hl:r.length<=100):nG [rwD r,frD ks]=.ok (.bl (ks.any λo=>zl o r)):=by
 have hd:=vU hl ho;simp[nG,cS,hd];refine tu (R:=λz=>(z.bind (kY (xG (dC (.bl false))))).bind fH=.ok (.bl (ks.any λo=>zl o r))) (P:=λi sd=>(∃u,sd=[some (.val (rwD r)),some (.val (frD ks)),some (.val (dcR r)),u])/\∀o∈ks.take i,zl o r=false) ⟨⟨none,rfl⟩,λ_ h=>by simp at h⟩ ?_ ?_
 .rintro sd ⟨⟨u,rfl⟩,hu⟩;rw[Zql,XN] at hu;have e:ks.any (λo=>zl o r)=false:=List.any_eq_false.mpr λo h=>by rw[hu o h];simp
  rw[e];simp
 .rintro i x sd hx ⟨⟨u,rfl⟩,hu⟩;refine zc1b (xq hx) λo hp zr2=>?_;subst zr2;have ff:=f_z0 (r:=o) ho;cases q:zl o r with
  |true =>
   rw[q] at ff;have e:ks.any (λo=>zl o r)=true:=Xb.mpr ⟨o,ZP hp,q⟩;rw[e];exact .inr (.inr ⟨.bl true,by simp[ff],by simp⟩)
  |false =>
   rw[q] at ff;refine .inl ⟨[some (.val (rwD r)),some (.val (frD ks)),some (.val (dcR r)),some (.val (rwD o))],.inl (by simp[ff]),⟨_,rfl⟩,λy hy=>?_⟩;rw[yt hp] at hy;rcases ZL.mp hy with z|z
   .exact hu y z
   .rw[ZF.mp z];exact q
def bg:FS:=(zK (qJ 2 (uh zn)) (zK (tj (iS (xB vN (zb (xB vL (zb (zf 0) zn)) zn))) (.one 3) (zK (sIf (z4 (dOp gEq (gD [2] (xB mH (zb (zf 2) zn))) (zf 1))) bH yI) (sIf (uJ (z4 (gD [2] (zq nG (zb (zf 3) (zb (zf 2) zn)))))) (zL 2 (zf 3)) yI))) (yA 2)))
def cH:YD->Res D:=ut 4 2 bg
def sort_ded_strict (rs:X9):(zY yF (pQ rs)).Pairwise λa b=>yF a b=true:=x6 zR (qC rs)
def f_lowest_any {rs:X9}{en:Int}(ne:∀r∈rs,r ≠ [])(ri:∀r∈rs,w5 r)(hl:∀r∈rs,r.length<=100)(h64:rs.length<1000)(h0:0<=en):cH [frD rs,.int en]=.ok (frD ((nJ rs).take en.toNat)):=by
 have dl:=lJ rs;have s1:vL [frD rs]=some (.lst ((zY yF (pQ rs)).map rwD)):=gSortSet_rows ne () ();have sl:(zY yF (pQ rs)).length=(pQ rs).length:=(zt (ltb:=yF) _).length_eq;have s2:vN [.lst ((zY yF (pQ rs)).map rwD)]=some (.lst ((nI rs).map rwD)):=gSortLen_rows (sort_ded_strict rs) () λr hr=>by
  have:=hl r (qF.mp ((zt (ltb:=yF) _).mem_iff.mp hr));omega
 have fold:=mQ ri;have om:∀r,r∈nI rs->r∈rs:=λr h=>tm.mp h;have ol:=mP rs;have eL:nJ rs=(nI rs).filter (uE rs):=rfl;rw[eL];simp[cH,bg,s1,s2];generalize nI rs=L at fold om ol;refine tu (R:=λz=>(z.bind (kY (yA 2))).bind hZ=.ok (frD ((L.filter (uE rs)).take en.toNat))) (P:=λi sd=>i<=L.length/\(((L.take i).filter (uE rs)).length:Int)<=en/\∃u,sd=[some (.val (frD rs)),some (.val (.int en)),some (.own false (.lst (((L.take i).filter (uE rs)).map rwD))),u]) ⟨Nat.zero_le _,by simpa using h0,none,rfl⟩ ?_ ?_
 .rintro sd ⟨_,le,u,rfl⟩;rw[Zql,XN] at le ⊢;rw[Z4 ()];simp[frD]
 .rintro i x sd hx ⟨_,le,u,rfl⟩;refine zc1b (xq hx) λr hp zr2=>?_;subst zr2;have hi:=(ZH.mp hp).1;have f1:=fold (i+1) ();rw[yt hp,Xs,fold i (),<- yt hp] at f1;have f1:dO ((L.take i).filter (uE rs)) r=(L.take (i+1)).filter (uE rs):=f1;have kl:((L.take i).filter (uE rs)).length<=i:=by
   have a:=XH (uE rs) (L.take i);rw[ZV] at a;omega
  rw[<- f1];have hm:=om r (ZP hp);have fc:=bY (r:=r) (ks:=(L.take i).filter (uE rs)) (vA (ri r hm)) (hl r hm);have whole:L.filter (uE rs)=(L.take i).filter (uE rs)++(L.drop i).filter (uE rs):=by rw[<- List.filter_append,Xe]
  generalize (L.take i).filter (uE rs)=ks at kl fc le whole;have fc:nG [rwD r,.lst (ks.map rwD)]=.ok (.bl (ks.any λo=>zl o r)):=fc;have hz:=zu (show ks.length<=1000 from ());by_cases hne:(ks.length:Int)=en
  .have ek:(L.filter (uE rs)).take en.toNat=ks:=by
    rw[whole,List.take_left' ()]
   refine .inr (.inl ⟨[some (.val (frD rs)),some (.val (.int en)),some (.own false (.lst (ks.map rwD))),some (.val (rwD r))],by simp[hne],?_⟩);rw[ek];simp[frD]
  .have ls:∀b,(ks.any λo=>zl o r)=b->dO ks r=if b=true then ks else ks++[r]:=λb hb=>by unfold dO;rw[hb]
   cases q:ks.any λo=>zl o r with
   |true =>
    rw[q] at fc;rw[ls true q,Zd rfl];exact .inl ⟨[some (.val (frD rs)),some (.val (.int en)),some (.own false (.lst (ks.map rwD))),some (.val (rwD r))],.inl (by simp[hne,fc]),(),le,_,rfl⟩
   |false =>
    rw[q] at fc;rw[ls false q,Ze Zj];exact .inl ⟨[some (.val (frD rs)),some (.val (.int en)),some (.own false (.lst ((ks++[r]).map rwD))),some (.val (rwD r))],.inl (by simp[hne,fc,hz]),(),(by rw[ZC,ZT];omega),_,rfl⟩
def iZ:FS:=(zK (xo 2 (rj cH (zb (zf 0) (zb (dOp ww (zf 1) (dC (.int 1))) zn)))) (zK (sIf (z4 (dOp gGt (xB mH (zb (zf 2) zn)) (zf 1))) (mU "TooMany" (dUn (cW "more than ") (zf 1))) yI) (xG (xB xA (zb (zf 2) zn)))))
def xV:YD->Res D:=ut 3 2 iZ
def lowL_len (rs:X9):(nJ rs).length=(z5 rs).length:=by
 rw[<- oA,(zt (ltb:=yF) _).length_eq]
noncomputable def vz (most:Int)(t:X9):Option (X9):=if(t.length:Int)<=most then some t else none
def ow:Option (X9)->Res D
 |some t=>.ok (frD t)
 |none=>.ex "TooMany" []
def xb {rs:X9}{most:Int}(ne:∀r∈rs,r ≠ [])(ri:∀r∈rs,w5 r)(hl:∀r∈rs,r.length<=100)(h64:rs.length<1000)(h0:0<=most)(hm2:most<=1000):xV [frD rs,.int most]=ow (vz most (z5 rs)):=by
 have fl:=f_lowest_any (en:=most+1) ne ri hl h64 ();have ll:(nJ rs).length<=rs.length:=Zh (XH _ _) (mP rs);have l2:=lowL_len rs;have glen:∀k:X9,mH [frD k]=some (.int k.length):=λk=>by
  show some (D.int (k.map rwD).length)=_;rw[Zql]
 unfold vz;by_cases c:((z5 rs).length:Int)<=most
 .rw[Zd c];rw[Z4 ()] at fl;have gs:xA [frD (nJ rs)]=some (.lst ((zY yF (nJ rs)).map rwD)):=vg (λr hr=>ne r (tm.mp (ZN.mp hr).1)) ();rw[oA] at gs;have gs:xA [frD (nJ rs)]=some (frD (z5 rs)):=gs;have gl:=glen (nJ rs);have nl:¬most<((nJ rs).length:Int):=()
  show _=Res.ok (frD (z5 rs));simp[xV,iZ,fl,gl,nl,gs]
 .rw[Ze c];have gl:=glen ((nJ rs).take (most+1).toNat);have nl:most<(((nJ rs).take (most+1).toNat).length:Int):=by
   rw[ZV];omega
  generalize (nJ rs).take (most+1).toNat=k at fl gl nl;obtain⟨z,hz⟩:=gFmt_int (x:= "more than ") (a:=most) () ();show _=Res.ex "TooMany" [];simp[xV,iZ,fl,gl,nl,hz]
def cN:FS:=(zK (qJ 2 (zq xV (zb (dOp gIx (zf 0) (dC (.int 0))) (zb (zf 1) zn)))) (zK (tj (iS (dSl (zf 0) (v9 (dC (.int 1))) yM yM)) (.one 3) (λsd=>(qJ 2 (zq xV (zb (dOp ww (zf 2) (zf 3)) (zb (zf 1) zn)))) (tE [2] sd))) (yA 2)))
def gU:YD->Res D:=ut 4 2 cN
def foP (most:Int):X9->List (X9)->Option (X9)
 |t,[]=>vz most t
 |t,g::gs=>(vz most t).bind λ_=>foP most (stF t g) gs
def eC {most:Int}{t:X9}(h:vz most t=none)(gs:List (X9)):foP most t gs=none:=by
 cases gs with
 |nil=>exact h
 |cons g gs=>show(vz most t).bind _=none;rw[h];rfl
def qg {most:Int}{t:X9}(h:(t.length:Int)<=most):vz most t=some t:=Zd h
def qR {most:Int}{t:X9}(h:most<(t.length:Int)):vz most t=none:=Ze ()
theorem iD {most:Int}:∀(gs:List (X9)) (t:X9),(∀x∈md t gs,(x.length:Int)<=most)->foP most t gs=some (gs.foldl stF t)
 | [],t,h=>qg (h t Zqs)
 |g::gs,t,h=>by
  show(vz most t).bind _=_;rw[qg (h t Zqs)];exact iD gs (stF t g) λx hx=>h x (Zqm _ hx)
theorem iN {most:Int}:∀(gs:List (X9)) (t:X9),(∃x∈md t gs,most<(x.length:Int))->foP most t gs=none
 | [],t,⟨x,hx,h⟩=>by
  rw[ZF.mp hx] at h;exact qR h
 |g::gs,t,⟨x,hx,h⟩=>by
  show(vz most t).bind _=_;rcases ZD.mp hx with rfl|hx
  .rw[qR h];rfl
  .cases vz most t with
   |none=>rfl
   |some y=>exact iN gs (stF t g) ⟨x,hx,h⟩
def bd:FS:=(zK (qJ 2 (xB rH (zb (zf 0) zn))) (zK (tj (iS (zf 1)) (.tup [3,4]) (iq 2 (zf 3) (xB jT (zb (zf 4) (zb (gD [2] (gu (zf 2) (zf 3) (zf 4))) zn))))) (λsd=>(xG (xB wZ (zb (uF (zf 2)) zn))) (tE [2] sd))))
def dB:YD->Res D:=tf 5 2 bd
def yT (r o:X8):X8:=zY wH (yO r o)
def f_z1 {r o:X8}(hr:r ≠ [])(or:yE r)(oo:yE o)(lr:r.length<=20)(lo:o.length<=20):dB [rwD r,rwD o]=.ok (rwD (yT r o)):=by
 have hd:rH [.tup (r.map prD)]=some (dcR r):=vU (show r.length<=100 from ()) or;simp[dB,bd,hd,rwD];generalize hB:iq 2 _ _=b;obtain⟨sd',e,u,v,hsd⟩:=yG (tg:=.tup [3,4]) (b:=b) (ds:=o.map prD) (sd:=[some (.val (.tup (r.map prD))),some (.val (.tup (o.map prD))),some (.own false (dcR r)),none,none])
  (P:=λi sd=>∃u v,sd=[some (.val (.tup (r.map prD))),some (.val (.tup (o.map prD))),some (.own false (dcR (yO r (o.take i)))),u,v]) ⟨none,none,rfl⟩ (by
   rintro i x sd hx ⟨u,v,rfl⟩;refine zc1b (xq hx) λp hp zr2=>?_;subst zr2;have et:yO r (o.take (i+1))=xu (yO r (o.take i)) p:=by
    rw[yt hp];unfold yO;rw[Xs];rfl
   have hl:=rq (o.take i) r;have ht:(o.take i).length<=o.length:=by rw[ZV];omega
   have hz:=zu (show(yO r (o.take i)).length<=1000 by omega);have hv:=ub (wa (o.take i) r or) p.1;have hput:=put_dcR (yO r (o.take i)) p.1 (if(zk (yO r (o.take i)) p.1).getD p.2 > p.2 then(zk (yO r (o.take i)) p.1).getD p.2 else p.2);have hg:((zk (yO r (o.take i)) p.1).map D.int).getD (.int p.2)=.int ((zk (yO r (o.take i)) p.1).getD p.2):=by cases zk (yO r (o.take i)) p.1<;>rfl
   subst hB;have es:xu (yO r (o.take i)) p=pL (yO r (o.take i)) p.1 (if(zk (yO r (o.take i)) p.1).getD p.2 > p.2 then(zk (yO r (o.take i)) p.1).getD p.2 else p.2):=rfl;rw[et,es,<- hput];simp[dcR,hv,hg,hz])
 rw[e];subst hsd;have hl:=rq o r;have hs:=gSortItems_dcR (r:=yO r o) (lc hr oo) ();simp[hs,yT]
def gw:FS:=(zK (qJ 2 (dOp eJ (xU [none,some 1] (iS (zf 0)) (.one 0) (z4 (zq nG (zb (zf 0) (zb (zf 1) zn)))) (zf 0)) (xU [none,some 0] (iS (zf 1)) (.one 0) (z4 (zq nG (zb (zf 0) (zb (zf 1) zn)))) (zf 0)))) (zK (xo 3 (xU [none,some 0] (iS (zf 1)) (.one 0) (uJ (z4 (zq nG (zb (zf 0) (zb (zf 1) zn))))) (zf 0))) (zK (tj (iS (zf 0)) (.one 4) (sIf (uJ (z4 (zq nG (zb (zf 4) (zb (zf 1) zn))))) (ur 2 (xt [none,some 4] (iS (zf 3)) (.one 0) (zq dB (zb (zf 1) (zb (zf 0) zn))))) yI)) (yA 2))))
def kG:YD->Res D:=ut 5 2 gw
def xT (f g:X9):X9:=f.flatMap λr=>g.map (yT r)
def yS {f g:X9}{q:X8}:q∈xT f g↔∃r∈f,∃o∈g,yT r o=q:=by
 unfold xT;rw[List.mem_flatMap];refine exists_congr λr=>and_congr_right λ_=>?_;rw[ZE]
def nw (f g:X9):(xT f g).length=f.length*g.length:=by
 unfold xT
 induction f with
 |nil=>simp
 |cons r f ih=>rw[List.flatMap_cons,ZC,ih,Zql,Zu,Nat.succ_mul,Nat.add_comm]
def look_perm {a b:X8}(oa:yE a)(p:b.Perm a)(t:Int):zk b t=zk a t:=by
 have ob:yE b:=((p.map λz:Int×Int=>z.1).nodup_iff).mpr oa;cases h:zk a t with
 |some w=>exact(tF ob).mp (p.mem_iff.mpr (zx h))
 |none =>
  cases h2:zk b t with
  |none=>rfl
  |some w =>
   have:=(tF oa).mp (p.mem_iff.mp (zx h2));rw[h] at this
   first|exact zqn this|exact zqb this|(obtain rfl:=Zqi this)|cases this
def xx {r o:X8}(or:yE r)(oo:yE o)(t:Int):zk (yT r o) t=jw (zk r t) (zk o t):=by
 rw[<- wU t o r oo];exact look_perm (wa o r or) (zt (ltb:=wH) _) t
def xC {r o:X8}(hr:JRow r)(ho:JRow o):JRow (yT r o):=by
 have nj:yO r o ≠ []:=lc hr.ne ho.once;have oj:=wa o r hr.once;refine⟨λz=>nj ?_,?_,λp hp=>?_⟩
 .have:=(zt (ltb:=wH) (yO r o)).length_eq;unfold yT at z;rw[z,ZB] at this;exact ZS.mp this.symm
 .unfold w5 yT;have st:=uM oj;have od:(zY wH (yO r o)).Pairwise λx y=>x.1≠y.1:=by
   have:yE (zY wH (yO r o)):=(((zt (ltb:=wH) (yO r o)).map λz:Int×Int=>z.1).nodup_iff).mpr oj;unfold yE List.Nodup at this;rw[XB] at this;exact this
  rw[XB];refine(List.Pairwise.and st od).imp λ{x y} h=>?_;have h1:=h.1;rw[xh] at h1;have h2:=h.2;omega
 .have hp':=(zt (ltb:=wH) (yO r o)).mem_iff.mp hp;have hl:=oj.look (t:=p.1) (w:=p.2) hp';rw[wU p.1 o r ho.once] at hl;cases q1:zk r p.1 with
  |some w=>exact hr.bnd (p.1,w) (zx q1)
  |none =>
   cases q2:zk o p.1 with
   |some w=>exact ho.bnd (p.1,w) (zx q2)
   |none=>rw[q1,q2] at hl;(first|exact zqn hl|exact zqb hl|(obtain rfl:=Zqi hl)|cases hl)
def sV {r o:X8}(hr:JRow r)(ho:JRow o):zl r (yT r o)=true:=by
 rw[zU];intro p hp;have h1:=hr.once.look (t:=p.1) (w:=p.2) hp;rw[xx hr.once ho.once,h1];cases zk o p.1 with
 |none=>exact⟨p.2,rfl,Int.le_refl _⟩
 |some y=>exact⟨_,rfl,by split<;>omega⟩
def tN {r o:X8}(hr:JRow r)(ho:JRow o):zl o (yT r o)=true:=by
 rw[zU];intro p hp;have h1:=ho.once.look (t:=p.1) (w:=p.2) hp;rw[xx hr.once ho.once,h1];cases zk r p.1 with
 |none=>exact⟨p.2,rfl,Int.le_refl _⟩
 |some y=>exact⟨_,rfl,by split<;>omega⟩
def uq {r o q:X8}(hr:JRow r)(ho:JRow o)(h1:zl r q=true)(h2:zl o q=true):zl (yT r o) q=true:=by
 rw[zU] at h1 h2 ⊢;intro p hp;have hl:=(xC hr ho).once.look (t:=p.1) (w:=p.2) hp;rw[xx hr.once ho.once] at hl;cases q1:zk r p.1 with
 |none =>
  rw[q1] at hl;exact h2 p (zx hl)
 |some x =>
  cases q2:zk o p.1 with
  |none =>
   rw[q1,q2] at hl
   first|exact zqn hl|exact zqb hl|(obtain rfl:=Zqi hl)|cases hl
   exact h1 (p.1,p.2) (zx q1)
  |some y =>
   rw[q1,q2] at hl;refine zc1b (h1 (p.1,x) (zx q1)) λw hw a=>?_;refine zc1b (h2 (p.1,y) (zx q2)) λw' hw' b=>?_;have hw:zk q p.1=some w:=hw;rw[hw] at hw'
   first|exact zqn hw'|exact zqb hw'|(obtain rfl:=Zqi hw')|cases hw'
   have e:(if x > y then x else y)=p.2:=Zqi hl;have a:x<=w:=a;have b:y<=w:=b;exact⟨w,hw,by rw[<- e];split<;>omega⟩
def wC (g:X9)(r:X8):Bool:=g.any λo=>zl o r
def ji {g:X9}{r:X8}:wC g r=true↔∃o∈g,zl o r=true:=Xb
def xj (f g:X9)(l:X9):X9:=(l.filter λr => !wC g r).flatMap λr=>(g.filter λo => !wC f o).map (yT r)
def vV (f g:X9):X9:=(f.filter (wC g)++g.filter (wC f))++xj f g f
def rM (f g l:X9):(xj f g l).length=(l.filter λr => !wC g r).length*(g.filter λo => !wC f o).length:=by
 unfold xj;generalize l.filter (λr => !wC g r)=a
 induction a with
 |nil=>simp
 |cons r a ih=>rw[List.flatMap_cons,ZC,ih,Zql,Zu,Nat.succ_mul,Nat.add_comm]
theorem t7 {α:Type}(p:α -> Bool):∀l:List α,(l.filter p).length+(l.filter λx => !p x).length=l.length
 | []=>rfl
 |x::l=>by
  have:=t7 p l;cases h:p x with
  |true=>rw[X3 h,X4 (by rw[h];simp),Zu,Zu];omega
  |false=>rw[X4 (by rw[h];simp),X3 (by rw[h];rfl),Zu,Zu];omega
def qo {f g:X9}(hf:∀r∈f,JRow r)(hg:∀r∈g,JRow r):∀q∈vV f g,JRow q:=λq hq=>by
 unfold vV xj at hq;rcases ZL.mp hq with hq|hq
 .rcases ZL.mp hq with hq|hq
  .exact hf q (ZN.mp hq).1
  .exact hg q (ZN.mp hq).1
 .refine zc1b (List.mem_flatMap.mp hq) λr hr hq=>?_;refine zc1b (ZE.mp hq) λo ho zr2=>?_;subst zr2;exact xC (hf r (ZN.mp hr).1) (hg o (ZN.mp ho).1)
def eachK_up {f g:X9}(hf:∀r∈f,JRow r)(hg:∀r∈g,JRow r)(q:X8):(∃x∈vV f g,zl x q=true)↔(∃x∈xT f g,zl x q=true):=by
 constructor
 .rintro⟨x,hx,hu⟩;unfold vV xj at hx;rcases ZL.mp hx with hx|hx
  .rcases ZL.mp hx with hx|hx
   .obtain⟨hx,hc⟩:=ZN.mp hx;refine zc1b (ji.mp hc) λo ho hou=>?_;exact⟨yT x o,yS.mpr ⟨x,hx,o,ho,rfl⟩,uq (hf x hx) (hg o ho) hu (zA hou hu)⟩
   .obtain⟨hx,hc⟩:=ZN.mp hx;refine zc1b (ji.mp hc) λo ho hou=>?_;exact⟨yT o x,yS.mpr ⟨o,ho,x,hx,rfl⟩,uq (hf o ho) (hg x hx) (zA hou hu) hu⟩
  .refine zc1b (List.mem_flatMap.mp hx) λr hr hx=>?_;refine zc1b (ZE.mp hx) λo ho zr2=>?_;subst zr2;exact⟨_,yS.mpr ⟨r,(ZN.mp hr).1,o,(ZN.mp ho).1,rfl⟩,hu⟩
 .rintro⟨x,hx,hu⟩;refine zc1b (yS.mp hx) λr hr zz=>zc1b zz λo ho zr4=>?_;subst zr4;have u1:=zA (sV (hf r hr) (hg o ho)) hu;have u2:=zA (tN (hf r hr) (hg o ho)) hu;unfold vV xj;cases c1:wC g r with
  |true=>exact⟨r,ZY _ (ZY _ (ZN.mpr ⟨hr,c1⟩)),u1⟩
  |false =>
   cases c2:wC f o with
   |true=>exact⟨o,ZY _ (ZK _ (ZN.mpr ⟨ho,c2⟩)),u2⟩
   |false=>exact⟨yT r o,ZK _ (List.mem_flatMap.mpr ⟨r,ZN.mpr ⟨hr,by rw[c1];rfl⟩,ZE.mpr ⟨o,ZN.mpr ⟨ho,by rw[c2];rfl⟩,rfl⟩⟩),hu⟩
def f_z10 {f g:X9}(hf:∀r∈f,JRow r)(hg:∀r∈g,JRow r)(l1:f.length+g.length+f.length*g.length<=1000):kG [frD f,frD g]=.ok (frD (vV f g)):=by
 have cv:∀(ks:X9) (r:X8),JRow r->nG [rwD r,frD ks]=.ok (.bl (wC ks r)):=λks r h=>bY h.once (by have:=h.len;omega);have m1:uf (.one 0) (z4 (zq nG (zb (zf 0) (zb (zf 1) zn)))) (zf 0) [none,some (.val (frD g))] (f.map rwD)=.ok ((f.filter (wC g)).map rwD):=
  vJ (s:=λr=>[some (.val (rwD r)),some (.val (frD g))]) (λr _=>rfl) (λr hr=>by simp[cv g r (hf r hr)]) (λr _ _=>by simp)
 have m2:uf (.one 0) (z4 (zq nG (zb (zf 0) (zb (zf 1) zn)))) (zf 0) [none,some (.val (frD f))] (g.map rwD)=.ok ((g.filter (wC f)).map rwD):=
  vJ (s:=λr=>[some (.val (rwD r)),some (.val (frD f))]) (λr _=>rfl) (λr hr=>by simp[cv f r (hg r hr)]) (λr _ _=>by simp)
 have m3:uf (.one 0) (uJ (z4 (zq nG (zb (zf 0) (zb (zf 1) zn))))) (zf 0) [none,some (.val (frD f))] (g.map rwD)=.ok ((g.filter λo => !wC f o).map rwD):=
  vJ (s:=λr=>[some (.val (rwD r)),some (.val (frD f))]) (λr _=>rfl) (λr hr=>by simp[cv f r (hg r hr)]) (λr _ _=>by simp)
 have la:=t7 (wC g) f;have lb:=t7 (wC f) g;have hrest:∀o∈g.filter (λo => !wC f o),JRow o:=λo ho=>hg o (ZN.mp ho).1;have ek:vV f g=(f.filter (wC g)++g.filter (wC f))++xj f g f:=rfl;have bl:∀i,(xj f g (f.take i)).length<=min i f.length*g.length:=λi=>by
  rw[rM];refine Nat.mul_le_mul ?_ (XH _ _);have:=XH (λr => !wC g r) (f.take i);rw[ZV] at this;exact this
 have cs:∀(i:Nat) (r:X8),f[i]? = some r->xj f g (f.take (i+1))=xj f g (f.take i)++(if wC g r=true then[] else(g.filter λo => !wC f o).map (yT r)):=λi r hr=>by
  unfold xj;rw[yt hr,List.filter_append,List.flatMap_append];cases c:wC g r with
  |true=>rw[X4 (by rw[c];simp),Zd rfl];rfl
  |false=>rw[X3 (by rw[c];rfl),Ze Zj];simp
 generalize hR:(g.filter λo => !wC f o)=rest at m3 hrest cs lb;have lr:rest.length<=g.length:=()
 generalize hA:f.filter (wC g)++g.filter (wC f)=A at ek;have lA:A.length<=f.length+g.length:=by rw[<- hA,ZC];omega
 have sA:(f.filter (wC g)).length+(g.filter (wC f)).length<=sizeLine:=v0 ();have eA:(f.filter (wC g)).map rwD++(g.filter (wC f)).map rwD=A.map rwD:=by rw[<- hA,ZR]
 obtain⟨sd',e,u4,hsd⟩:=yG (tg:=.one 4) (b:=(sIf (uJ (z4 (zq nG (zb (zf 4) (zb (zf 1) zn))))) (ur 2 (xt [none,some 4] (iS (zf 3)) (.one 0) (zq dB (zb (zf 1) (zb (zf 0) zn))))) yI)) (ds:=f.map rwD) (sd:=[some (.val (frD f)),some (.val (frD g)),some (.own false (.lst (A.map rwD))),some (.val (.lst (rest.map rwD))),none])
  (P:=λi sd=>∃(u4:Option SV),sd=[some (.val (frD f)),some (.val (frD g)),some (.own false (.lst ((A++xj f g (f.take i)).map rwD))),some (.val (.lst (rest.map rwD))),u4]) ⟨none,by rw[List.take_zero];simp[xj]⟩ (by
   rintro i x sd hx ⟨u4,rfl⟩;refine zc1b (xq hx) λr hr zr2=>?_;subst zr2;have hi:=(ZH.mp hr).1;have hm:=ZP hr;have c1:=cv g r (hf r hm);have b0:=bl i;have b1:(min i f.length+1)*g.length<=f.length*g.length:=Nat.mul_le_mul () (Zf _);rw[Nat.succ_mul] at b1;rw[cs i r hr];cases c:wC g r with
   |true =>
    rw[c] at c1;rw[Zd rfl,Zz];exact⟨[some (.val (frD f)),some (.val (frD g)),some (.own false (.lst ((A++xj f g (f.take i)).map rwD))),some (.val (.lst (rest.map rwD))),some (.val (rwD r))],by simp[c1],_,rfl⟩
   |false =>
    rw[c] at c1;rw[Ze Zj];have key:sB (.one 0) (zq dB (zb (zf 1) (zb (zf 0) zn))) [none,some (.val (rwD r))] (rest.map rwD)=.ok (rest.map λo=>rwD (yT r o)):=xf λo ho=>by
     have l1:=(hf r hm).len;have l2:=(hrest o ho).len;simp[f_z1 (hf r hm).ne (hf r hm).once (hrest o ho).once () ()]
    have em:(rest.map (yT r)).map rwD=rest.map λo=>rwD (yT r o):=by rw[Zw];rfl
    have sz:(A++xj f g (f.take i)).length+rest.length<=sizeLine:=v0 (by rw[ZC];omega);have lz:=zu (show rest.length<=1000 from ());refine⟨[some (.val (frD f)),some (.val (frD g)),some (.own false (.lst ((A++(xj f g (f.take i)++rest.map (yT r))).map rwD))),some (.val (.lst (rest.map rwD))),some (.val (rwD r))],?_,_,rfl⟩;rw[<- ZJ];generalize A++xj f g (f.take i)=acc at sz ⊢;rw[ZR,em];simp[c1,key,lz,sz])
 subst hsd;rw[Zql,XN] at e;have z1:=zu (show f.length<=1000 from ());have z2:=zu (show g.length<=1000 from ());rw[ek];simp[frD] at m1 m2 m3 e ⊢;simp[kG,gw,m1,m2,m3,z1,z2,sA,eA,e]
def cB:FS:=(zK (qJ 2 (zq xV (zb (dOp gIx (zf 0) (dC (.int 0))) (zb (zf 1) zn)))) (zK (tj (iS (dSl (zf 0) (v9 (dC (.int 1))) yM yM)) (.one 3) (λsd=>(qJ 2 (zq xV (zb (rj kG (zb (zf 2) (zb (zf 3) zn))) (zb (zf 1) zn)))) (tE [2] sd))) (yA 2)))
def fu:YD->Res D:=ut 4 2 cB
def zB (t f:X9):X9:=z5 (xT t f)
structure AllOk (fs:List (X9))(t:X9):Prop where
 row:∀r∈t,JRow r
 abv:∀r∈t,∀f∈fs,∃s∈f,zl s r=true
 least:∀q:X8,(∀f∈fs,∃s∈f,zl s q=true)->∃r∈t,zl r q=true
 anti:∀r∈t,∀s∈t,zl r s=true->r=s
 strict:t.Pairwise λa b=>yF a b=true
def uD {r:X8}(o:yE r):zl r r=true:=zU.mpr λp hp=>⟨p.2,o.look (t:=p.1) (w:=p.2) hp,Int.le_refl _⟩
def rm {rs:X9}:∀r∈z5 rs,∀s∈z5 rs,zl r s=true->r=s:=λr hr s hs hu=>xR.mp (zm.mp hs).2 r (zm.mp hr).1 hu
def ng {f:X9}(h:∀r∈f,JRow r):AllOk [f] (z5 f):=by
 refine⟨λr hr=>h r (zm.mp hr).1,λr hr g hg=>?_,λq hq=>?_,rm,yH f⟩
 .rw[ZF.mp hg];exact⟨r,(zm.mp hr).1,uD (h r (zm.mp hr).1).once⟩
 .refine zc1b (hq f (ZF.mpr rfl)) λs hs hu=>?_;refine zc1b (xZ (λr hr=>⟨(h r hr).once,(h r hr).rise⟩) hs) λr hr hr2=>?_;exact⟨r,hr,zA hr2 hu⟩
def rN {fs:List (X9)}{t f:X9}(A:AllOk fs t)(h:∀r∈f,JRow r):AllOk (fs++[f]) (zB t f):=by
 have rows:∀q∈xT t f,JRow q:=λq hq=>by
  refine zc1b (yS.mp hq) λr hr zz=>zc1b zz λo ho zr4=>?_;subst zr4;exact xC (A.row r hr) (h o ho)
 refine⟨λr hr=>rows r (zm.mp hr).1,λq hq g hg=>?_,λq hq=>?_,rm,yH _⟩
 .refine zc1b (yS.mp (zm.mp hq).1) λr hr zz=>zc1b zz λo ho zr4=>?_;subst zr4;rcases ZL.mp hg with z|z
  .refine zc1b (A.abv r hr g z) λs hs hu=>?_;exact⟨s,hs,zA hu (sV (A.row r hr) (h o ho))⟩
  .rw[ZF.mp z];exact⟨o,ho,tN (A.row r hr) (h o ho)⟩
 .refine zc1b (A.least q λg hg=>hq g (ZY _ hg)) λr hr hu=>?_;refine zc1b (hq f (ZK _ (ZF.mpr rfl))) λo ho hu2=>?_;have hj:yT r o∈xT t f:=yS.mpr ⟨r,hr,o,ho,rfl⟩;refine zc1b (xZ (λr hr=>⟨(rows r hr).once,(rows r hr).rise⟩) hj) λs hs hs2=>?_;exact⟨s,hs,zA hs2 (uq (A.row r hr) (h o ho) hu hu2)⟩
def thin_ne {rs:X9}(h:∀r∈rs,JRow r)(hn:rs ≠ []):z5 rs ≠ []:=λz=>by
 cases rs with
 |nil=>exact hn rfl
 |cons r rs =>
  refine zc1b (xZ (λr hr=>⟨(h r hr).once,(h r hr).rise⟩) (Zqs (a:=r) (l:=rs))) λs hs _=>?_;rw[z] at hs
  first|exact zqn hs|exact zqb hs|(obtain rfl:=Zqi hs)|cases hs
def eachJ_ne {f g:X9}(hf:f ≠ [])(hg:g ≠ []):xT f g ≠ []:=λz=>by
 have:=nw f g;rw[z,ZB] at this;have a:=XC.mpr hf;have b:=XC.mpr hg;have:=Nat.mul_pos a b;omega
def jk {a b:X9}(ha:∀r∈a,JRow r)(hb:∀r∈b,JRow r)(h:∀q,(∃x∈a,zl x q=true)↔∃x∈b,zl x q=true):z5 a=z5 b:=by
 have half:∀{a b:X9},(∀r∈a,JRow r)->(∀r∈b,JRow r)->(∀q,(∃x∈a,zl x q=true)↔∃x∈b,zl x q=true)->∀r,r∈z5 a->r∈z5 b:=by
  intro a b ha hb h r hr;obtain⟨h1,h2⟩:=zm.mp hr;refine zc1b ((h r).mp ⟨r,h1,uD (ha r h1).once⟩) λy hy hu=>?_;refine zc1b (xZ (λr hr=>⟨(hb r hr).once,(hb r hr).rise⟩) hy) λy' hy' hu'=>?_;have hyb:=(zm.mp hy').1;have u1:=zA hu' hu;refine zc1b ((h y').mpr ⟨y',hyb,uD (hb y' hyb).once⟩) λx hx hxu=>?_;have e:=xR.mp h2 x hx (zA hxu u1);rw[e] at hxu;rw[q9 (ha r h1).once (hb y' hyb).once (ha r h1).rise (hb y' hyb).rise hxu u1];exact hy'
 exact yZ zR (yH a) (yH b) λr=>⟨half ha hb h r,half hb ha (λq=>(h q).symm) r⟩
def uv {f g:X9}(hf:∀r∈f,JRow r)(hg:∀r∈g,JRow r):∀q∈xT f g,JRow q:=λq hq=>by
 refine zc1b (yS.mp hq) λr hr zz=>zc1b zz λo ho zr4=>?_;subst zr4;exact xC (hf r hr) (hg o ho)
def stepK_eq {t g:X9}(ht:∀r∈t,JRow r)(hg:∀r∈g,JRow r):z5 (vV t g)=zB t g:=jk (qo ht hg) (uv ht hg) (eachK_up ht hg)
def nH (most:Int):X9->List (X9)->Option (X9)
 |t,[]=>some t
 |t,g::gs=>(vz most (zB t g)).bind λt'=>nH most t' gs
def oS (most:Int)(t g:X9)(gs:List (X9)):nH most t (g::gs)=(vz most (zB t g)).bind λt'=>nH most t' gs:=rfl
def cY (most:Int)(f:X9)(fs:List (X9)):Option (X9):=(vz most (z5 f)).bind λt=>nH most t fs
def kt {most:Int}{t t':X9}(h:vz most t=some t'):t'=t/\(t.length:Int)<=most:=by
 unfold vz at h
 split at h
 .rename_i c
  first|exact zqn h|exact zqb h|(obtain rfl:=Zqi h)|cases h
  exact⟨rfl,c⟩
 .first|exact zqn h|exact zqb h|(obtain rfl:=Zqi h)|cases h
def f_all_of_any {f:X9}{fs:List (X9)}{most:Int}(hf:f ≠ []/\∀r∈f,JRow r)(hfs:∀g∈fs,g ≠ []/\∀r∈g,JRow r)(l1:f.length<1000)(m1:0<=most)(m2:most<=1000)(l2:fs.length<=900)
 (sz:∀(i:Nat) (t g:X9),AllOk (f::fs.take i) t->(t.length:Int)<=most->fs[i]? = some g->(vV t g).length<1000/\t.length+g.length+t.length*g.length<=1000):
 fu [.lst ((f::fs).map frD),.int most]=ow (cY most f fs):=by
 have w1:=xb (rs:=f) (most:=most) (λr hr=>(hf.2 r hr).ne) (λr hr=>(hf.2 r hr).rise) (λr hr=>by have:=(hf.2 r hr).len;omega) l1 m1 m2;have a0:atI ((f::fs).map frD) 0=some (frD f):=by
  rw[show((0:Int))=((0:Nat):Int) from rfl,uA (by simp)];rfl
 have sl:zW (frD f::fs.map frD) (some 1) none none=fs.map frD:=by
  rw[oy _ ()];rfl
 unfold cY;cases q:vz most (z5 f) with
 |none =>
  rw[q] at w1;have w1:xV [frD f,.int most]=.ex "TooMany" []:=w1;show _=Res.ex "TooMany" [];simp[fu,cB] at a0 ⊢;simp[a0,w1]
 |some t0 =>
  rw[q] at w1;obtain⟨e0,l0⟩:=kt q;have w1:xV [frD f,.int most]=.ok (frD t0):=w1;show _=ow (nH most t0 fs);have A0:AllOk [f] t0:=by rw[e0];exact ng hf.2
  have key:((kU (.one 3) (λsd=>qJ 2 (zq xV (zb (rj kG (zb (zf 2) (zb (zf 3) zn))) (zb (zf 1) zn))) (tE [2] sd)) (fs.map frD) [some (.val (.lst ((f::fs).map frD))),some (.val (.int most)),some (.own false (frD t0)),none]).bind (kY (yA 2))).bind hZ=ow (nH most t0 fs):=by
   refine sw (R:=λz=>(z.bind (kY (yA 2))).bind hZ=ow (nH most t0 fs)) (P:=λi sd=>∃(t:X9) (u3:Option SV),sd=[some (.val (.lst ((f::fs).map frD))),some (.val (.int most)),some (.own false (frD t)),u3]/\AllOk (f::fs.take i) t/\(t.length:Int)<=most/\nH most t (fs.drop i)=nH most t0 fs) ⟨t0,none,rfl,A0,by rw[e0];exact l0,rfl⟩ ?_ ?_
   .rintro sd ⟨t,u3,rfl,A,lt,hq⟩;rw[Zql,XM] at hq;rw[<- hq];simp[ow,nH]
   .rintro i x sd hx ⟨t,u3,rfl,A,lt,hq⟩;refine zc1b (xq hx) λg hg zr2=>?_;subst zr2;have hi:=(ZH.mp hg).1;have hm:=ZP hg;obtain⟨s1,s2⟩:=sz i t g A lt hg;have fj:=f_z10 (f:=t) (g:=g) A.row (hfs g hm).2 s2;have rows:=qo A.row (hfs g hm).2;have fw:=xb (rs:=vV t g) (most:=most) (λr hr=>(rows r hr).ne) (λr hr=>(rows r hr).rise) (λr hr=>by have:=(rows r hr).len;omega) s1 m1 m2;rw[stepK_eq A.row (hfs g hm).2] at fw;have ed:fs.drop i=g::fs.drop (i+1):=by
     rw[ZU hi];rw[Zqg hi] at hg;rw[Zqi hg]
    rw[ed,oS] at hq;cases y:vz most (zB t g) with
    |none =>
     rw[y] at fw hq;have fw:xV [frD (vV t g),.int most]=.ex "TooMany" []:=fw;refine .inr ⟨"TooMany",[],by simp[tE,fj,fw],?_⟩;rw[<- hq];rfl
    |some t1 =>
     rw[y] at fw hq;obtain⟨e1,l1⟩:=kt y;have fw:xV [frD (vV t g),.int most]=.ok (frD t1):=fw;refine .inl ⟨[some (.val (.lst ((f::fs).map frD))),some (.val (.int most)),some (.own false (frD t1)),some (.val (frD g))],by simp[tE,fj,fw],t1,_,rfl,?_,by rw[e1];exact l1,hq⟩;rw[yt hg,e1];exact rN A (hfs g hm).2
  simp[fu,cB] at a0 key ⊢;simp[a0,w1,sl,key]
def stepJ_len (t g:X9):(zB t g).length<=t.length*g.length:=by
 have a:=wR (xT t g);rw[nw] at a;exact a
theorem ka {c:Nat}:∀{gs:List (X9)} {t:X9},(∀g∈gs,g.length<=c)->(gs.foldl zB t).length<=t.length*c ^ gs.length
 | [],t,_=>by simp
 |g::gs,t,h=>by
  rw[Xg,Zu,Nat.pow_succ];have a:=ka (gs:=gs) (t:=zB t g) λx hx=>h x (Zqm _ hx);have b:=Zh (stepJ_len t g) (Nat.mul_le_mul (Zf t.length) (h g Zqs));have d:=Nat.mul_le_mul b (Zf (c ^ gs.length));rw[Nat.mul_comm (c ^ gs.length) c,<- Nat.mul_assoc];exact Zh a d
theorem ip:∀{gs fs:List (X9)} {t:X9},AllOk fs t->(∀g∈gs,∀r∈g,JRow r)->AllOk (fs++gs) (gs.foldl zB t)
 | [],fs,t,A,_=>by rw[Zz];exact A
 |g::gs,fs,t,A,h=>by
  have:=ip (gs:=gs) (rN A (h g Zqs)) λx hx=>h x (Zqm _ hx);rw[ZJ] at this;exact this
def eachK_le {f g:X9}(hg:g ≠ []):(vV f g).length<=f.length*g.length+g.length:=by
 unfold vV;rw[ZC,ZC,rM];have a:=t7 (wC g) f;have b:=XH (wC f) g;have c:=XH (λo => !wC f o) g;have p:0<g.length:=XC.mpr hg;have d:=Nat.mul_le_mul (Zf (f.filter λr => !wC g r).length) c;have e:=Nat.le_mul_of_pos_right (f.filter (wC g)).length p;have h:f.length*g.length=(f.filter (wC g)).length*g.length+(f.filter λr => !wC g r).length*g.length:=by rw[<- Nat.add_mul,a]
 omega
def cV:FS:=(xG (xB wZ (zb (xt [none,none,some 1] (iS (zf 0)) (.tup [0,1]) (pM (zb (zf 0) (zb (dOp ww (zf 1) (zf 2)) zn)))) zn)))
def dP:YD->Res D:=tf 2 2 cV
noncomputable def ym (r:X8)(w:Int):X8:=r.map λp=>(p.1,p.2+w)
def f_z2 {r:X8}{w:Int}(hl:r.length<=1000):dP [rwD r,.int w]=.ok (rwD (ym r w)):=by
 have key:sB (.tup [0,1]) (pM (zb (zf 0) (zb (dOp ww (zf 1) (zf 2)) zn))) [none,none,some (.val (.int w))] (r.map prD)=.ok (r.map λp=>prD (p.1,p.2+w)):=xf λp hp=>by
  simp[prD]
 simp[dP,cV,rwD,key,zu hl,ym]<;>rfl
def ba:FS:=(xG (xt [none,some 1] (iS (zf 0)) (.one 0) (zq dP (zb (zf 0) (zb (zf 1) zn)))))
def dX:YD->Res D:=ut 2 2 ba
def yJ (f:X9)(w:Int):X9:=f.map λr=>ym r w
def f_z5 {f:X9}{w:Int}(hl:f.length<=1000)(hr:∀r∈f,r.length<=1000):dX [frD f,.int w]=.ok (frD (yJ f w)):=by
 have key:sB (.one 0) (zq dP (zb (zf 0) (zb (zf 1) zn))) [none,some (.val (.int w))] (f.map rwD)=.ok (f.map λr=>rwD (ym r w)):=xf λr h=>by
  simp[f_z2 (w:=w) (hr r h)]
 have e:(yJ f w).map rwD=f.map λr=>rwD (ym r w):=by unfold yJ;rw[Zw];rfl
 simp[dX,ba,frD,key,zu hl,e]
def cp:FS:=(xG (zq fu (zb (xt [none,none,some 1] (iS (zf 0)) (.tup [0,1]) (rj dX (zb (dOp gIx (zf 2) (zf 0)) (zb (zf 1) zn)))) (zb (zf 2) zn))))
def kW:YD->Res D:=ut 3 3 cp
noncomputable def jC (fs:List (X9))(t:Int):X9:=fs.getD t.toNat []
def vR {fs:List (X9)}{t:Int}(h0:0<=t)(h1:t<(fs.length:Int)):jC fs t∈fs:=by
 unfold jC;rw[ZG,Zqg ()];exact Z6 _
def nX {fs:List (X9)}{t:Int}(h0:0<=t)(h1:t<(fs.length:Int)):atI (fs.map frD) t=some (frD (jC fs t)):=by
 obtain⟨k,rfl⟩:∃k:Nat,t=(k:Int):=⟨t.toNat,()⟩;rw[uA (by rw[Zql];omega),Zv];unfold jC;rw[Int.toNat_natCast,ZG,Zqg ()];rfl
def put_row_key {r:X8}{fs:List (X9)}(hb:∀p∈r,0<=p.1/\p.1<(fs.length:Int))(hl:∀f∈fs,f.length<=1000/\∀r∈f,r.length<=1000):
 sB (.tup [0,1]) (rj dX (zb (dOp gIx (zf 2) (zf 0)) (zb (zf 1) zn))) [none,none,some (.val (.lst (fs.map frD)))] (r.map prD)=.ok ((r.map λp=>yJ (jC fs p.1) p.2).map frD):=by
 rw[Zw];exact xf λp hp=>by
  obtain⟨h0,h1⟩:=hb p hp;have ha:=nX h0 h1;obtain⟨l1,l2⟩:=hl _ (vR h0 h1);have fw:=f_z5 (w:=p.2) l1 l2;simp[prD,ha,fw]
def dZ:FS:=(xG (zq gU (zb (xt [none,some 1,some 2] (iS (zf 0)) (.one 0) (zq kW (zb (zf 0) (zb (zf 1) (zb (zf 2) zn))))) (zb (zf 2) zn))))
def mD:YD->Res D:=ut 3 3 dZ
def fg:FS:=(zK (xo 3 (dC (.bl false))) (zK (gO "TooMany" (gz (mZ mD (zb (zf 0) (zb (zf 1) (zb (zf 2) zn))))) (xo 3 (dC (.bl true)))) (xG (zf 3))))
def iX:YD->Res D:=tf 4 3 fg
def f_z31 {a b:D}{most:Int}(h:mD [a,b,.int most]=.ex "TooMany" []):iX [a,b,.int most]=.ok (.bl true):=by
 simp[iX,fg,h,Res.strict]
def gB:FS:=(zK (xo 3 (xB gS (zb (zf 2) (zb (xB jT (zb (dC (.int 0)) (zb (dOp dS (xB mH (zb (zf 0) zn)) (zf 1)) zn))) zn)))) (xG (xt [none,some 0,some 1,some 2] (iR1 (zb (zf 3) zn)) (.one 0) (xB c7 (zb (dSl (zf 1) (v9 (dOp ww (zf 2) (zf 0))) yM (v9 (zf 3))) zn)))))
def kM:YD->Res D:=ut 4 3 gB
def uQ {ns:Yh}(h:ns.length<=63){a most:Int}(a0:0<=a)(a1:a<=100)(m0:1<=most)(m1:most<=60):∃cs:Yh,(cs.length:Int)<=most/\kM [.scr ns,.int a,.int most]=.ok (.lst (cs.map .int)):=by
 obtain⟨m,hm,em⟩:∃m:Nat,(m:Int)<=most/\(if(if a<(ns.length:Int) then(ns.length:Int)-a else 0)<most then(if a<(ns.length:Int) then(ns.length:Int)-a else 0) else most)=(m:Int):=by
  refine⟨(if(if a<(ns.length:Int) then(ns.length:Int)-a else 0)<most then(if a<(ns.length:Int) then(ns.length:Int)-a else 0) else most).toNat,?_,?_⟩<;>(repeat' split)<;>omega
 have r1:wM [.int (m:Int)]=.ok (yc 0 m):=by
  rw[xc () (),Int.toNat_natCast]
 have key:sB (.one 0) (xB c7 (zb (dSl (zf 1) (v9 (dOp ww (zf 2) (zf 0))) yM (v9 (zf 3))) zn)) [none,some (.val (.scr ns)),some (.val (.int a)),some (.val (.int most))] (yc 0 m)=.ok ((List.range m).map λk:Nat=>.int (zW ns (some (a+(k:Int))) none (some most)).sum):=rL λi hi=>by
  have gs:=gSl_scr (ds:=ns) (lo:=some (a+(i:Int))) (hi:=none) (c:=most) ();simp[gs]
 refine⟨(List.range m).map λk:Nat=>(zW ns (some (a+(k:Int))) none (some most)).sum,by simpa using hm,?_⟩;rw[Zw];have lz:=zu (show m<=1000 from ());simp[kM,gB,em,r1,key,xY,lz]<;>rfl
def gG:FS:=(xG (xt [none,some 1] (iS (zf 0)) (.one 0) (xB wZ (zb (xt [none,none,some 1] (iS (zf 0)) (.tup [0,1]) (pM (zb (zf 0) (zb (dOp ww (zf 1) (zf 2)) zn)))) zn))))
def rB:YD->Res D:=ut 2 2 gG
def fq:FS:=(zK (qJ 2 (uh zn)) (zK (tj (iR1 (zb (dC (.int 12)) zn)) (.one 3) (zK (xo 4 (xU [none,some 3] (iS (dOp ww (zf 0) (zf 1))) (.one 0) (z4 (dOp gEq (dOp gIx (zf 0) (dC (.int 0))) (zf 1))) (dOp gIx (zf 0) (dC (.int 1))))) (sIf (z4 (dOp gNe (zf 4) (uh zn))) (zL 2 (pM (zb (zf 3) (zb (xB mf (zb (zf 4) zn)) zn)))) yI))) (λsd=>(xG (xB wZ (zb (zf 2) zn))) (tE [2] sd))))
def nV:YD->Res D:=tf 5 2 fq
def gX:FS:=(zK (xo 2 (uh zn)) (zK (tj (iS (zf 0)) (.one 3) (xo 2 (dOp ww (zf 2) (xt [none,some 3] (iS (zf 1)) (.one 0) (zq nV (zb (zf 1) (zb (zf 0) zn))))))) (xG (zq rE (zb (zf 2) zn)))))
def nN:YD->Res D:=ut 4 2 gX
def gv:FS:=(zK (qJ 2 (uh zn)) (zK (xo 3 (uh zn)) (zK (tj (iS (zf 0)) (.one 4) (zK (xo 5 (zq rB (zb (dOp gIx (zf 1) (dOp gIx (dOp gIx (zf 4) (dC (.int 0))) (dC (.int 0)))) (zb (dOp gIx (dOp gIx (zf 4) (dC (.int 0))) (dC (.int 1))) zn)))) (zK (zL 2 (zf 5)) (zK (tj (iS (cZ (zf 4) (v9 (dC (.int 1))) yM)) (.tup [6,7]) (zK (xo 5 (zq nN (zb (zf 5) (zb (zq rB (zb (dOp gIx (zf 1) (zf 6)) (zb (zf 7) zn))) zn)))) (zL 2 (zf 5)))) (zK (xo 3 (zq rE (zb (dOp ww (zf 3) (zf 5)) zn))) (zL 2 (zf 3))))))) (yA 2))))
def kQ:YD->Res D:=ut 8 2 gv
def jH:FS:=(zK (xo 1 (dOp ww (dC (.int 2)) (dOp r9 (zq vy (zb (zf 0) (zb (dC (.int 0)) zn))) (dC (.int 2))))) (zK (xo 2 (dOp gIx (uh (zb (dC (.int 2)) (zb (dC (.int 3)) (zb (dC (.int 4)) (zb (dC (.int 12)) zn))))) (dOp r9 (zq vy (zb (zf 0) (zb (dC (.int 1)) zn))) (dC (.int 4))))) (zK (xo 3 (dOp ww (dC (.int 1)) (dOp r9 (dOp sh (zq vy (zb (zf 0) (zb (dC (.int 2)) zn))) (dC (.int 2))) (dOp gIx (uh (zb (dC (.int 60)) (zb (dC (.int 8)) zn))) (dOp r9 (zq vy (zb (zf 0) (zb (dC (.int 2)) zn))) (dC (.int 2))))))) (zK (xo 4 (dOp gIx (zq kB (zb (zq kM (zb (zf 0) (zb (dC (.int 3)) (zb (dC (.int 5)) zn)))) (zb (dC (.int 1)) (zb (zf 1) zn)))) (dC (.int 0)))) (zK (xo 5 (zq kB (zb (zq kM (zb (zf 0) (zb (dC (.int 4)) (zb (dC (.int 15)) zn)))) (zb (dOp ww (zf 1) (dC (.int 1))) (zb (zf 2) zn))))) (zK (xo 5 (xt [none] (iS (zf 5)) (.one 0) (dSl (zf 0) yM (v9 (dC (.int 4))) yM))) (zK (xo 6 (zq kQ (zb (zf 4) (zb (zf 5) zn)))) (zK (xo 7 (uh (zb (xB kJ (zb (zf 4) zn)) (zb (xt [none] (iS (zf 5)) (.one 0) (xB kJ (zb (zf 0) zn))) zn)))) (zK (sIf (z4 (dOp gGt (xB mf (zb (xt [none] (iS (zf 6)) (.one 0) (xB mH (zb (zf 0) zn))) zn)) (zf 3))) (xG (i7 (zq iX (zb (dOp gIx (zf 7) (dC (.int 0))) (zb (dOp gIx (zf 7) (dC (.int 1))) (zb (zf 3) zn)))) (dOp gEq (zf 7) (uh (zb (zf 4) (zb (zf 5) zn)))))) yI) (zK (qJ 8 (zq mD (zb (dOp gIx (zf 7) (dC (.int 0))) (zb (dOp gIx (zf 7) (dC (.int 1))) (zb (zf 3) zn))))) (zK (sIf (kR (uJ (z4 (gD [8] (zq jj (zb (zf 8) zn))))) (kR (nY [8] (z4 (dOp gNe (zf 8) (dOp gIx (zf 6) (dUn cg (dC (.int 1))))))) (z4 (dOp gNe (zf 7) (uh (zb (zf 4) (zb (zf 5) zn))))))) (xG (dC (.bl false))) yI) (zK (tj (iR1 (zb (dC (.int 3)) zn)) (.one 9) (zK (xo 10 (zq k7 (zb (dOp ww (zq vy (zb (zf 0) (zb (dOp ww (dC (.int 3)) (zf 9)) zn))) (zf 9)) (zb (zf 2) zn)))) (zK (xo 11 (xt [none,some 10] (iS (zf 5)) (.one 0) (zq uI (zb (zf 0) (zb (zf 1) zn))))) (sIf (z4 (dOp gNe (gD [8] (zq uI (zb (zf 8) (zb (zf 10) zn)))) (zq uI (zb (zf 4) (zb (zf 11) zn))))) (xG (dC (.bl false))) yI)))) (zK (zL 8 (pM (zb (pM (zb (dC (.int 0)) (zb (dC (.int 7)) zn))) zn))) (xG (i7 (dOp gEq (zq mD (zb (dOp gIx (zf 7) (dC (.int 0))) (zb (dOp gIx (zf 7) (dC (.int 1))) (zb (zf 3) zn)))) (dOp gIx (zf 6) (dUn cg (dC (.int 1))))) (dOp gEq (zf 7) (uh (zb (zf 4) (zb (zf 5) zn)))))))))))))))))))
def pS:YD->Res D:=tf 12 1 jH
def rise_getD {rs:X9}(h:∀r∈rs,w5 r)(i:Nat):w5 (rs.getD i []):=by
 rw[ZG];cases q:rs[i]? with
 |none=>exact qZ
 |some r=>exact h r (ZP q)
def listStep_rise {n:Int}{rs:X9}{c:Int}(h:∀r∈rs,w5 r):∀r∈yo n rs c,w5 r:=by
 intro r hr;unfold yo at hr
 split at hr
 .rcases ZL.mp hr with z|z
  .exact h r z
  .rw[ZF.mp z];exact variedG_rise (rise_getD h _)
 .rcases ZL.mp hr with z|z
  .exact h r z
  .rw[ZF.mp z];exact rowG_rise _ _ _ _ _
theorem va {n:Int}:∀(cs:Yh) (rs:X9),(∀r∈rs,w5 r)->∀r∈cs.foldl (yo n) rs,w5 r
 | [],rs,h=>h
 |c::cs,rs,h=>by rw[Xg];exact va cs _ (listStep_rise h)
def listB_rise (n:Int)(cs:Yh):∀r∈xr n cs,w5 r:=va cs [] λ_ h=>nomatch h
def formB_fm {n:Int}{k:Nat}{U rs:X9}(h1:1<=n)(ok:∀r∈rs,RowOk n r)(ri:∀r∈rs,w5 r)(hl:rs.length<=40)(u1:∀r∈rs,r∈U)(u2: [((k:Int) % n,0)]∈U):Fm n U (rC n k (z5 rs)):=by
 unfold rC
 split
 .refine⟨good_one ⟨by simp,by unfold yE;simp,λp hp=>?_,by simp⟩ (km _),λr hr=>by rw[ZF.mp hr];exact u2⟩;rw[ZF.mp hp];exact⟨Int.emod_nonneg _ (),Int.emod_lt_of_pos _ ()⟩
 .rename_i q;have l:=wR rs;refine⟨thin_good ok ri hl λz=>q ?_,λr hr=>u1 r (zm.mp hr).1⟩;subst z;exact ZS.mp (Nat.le_zero.mp l)
theorem qY {k:Int}:∀{r:X8},yE r->(r.filter λp=>decide (p.1=k)).map (·.2)=(zk r k).toList
 | [],_=>rfl
 |p::r,o=>by
  have o1:yE r:=(List.nodup_cons.mp o).2;have o2:p.1∉r.map (·.1):=(List.nodup_cons.mp o).1;have ih:=qY (k:=k) o1;rw[xg,List.filter_cons];by_cases c:p.1=k
  .have e:zk r k=none:=by
    cases q:zk r k with
    |none=>rfl
    |some w=>exact Zn (ZE.mpr ⟨(k,w),zx q,c.symm⟩) o2
   rw[e] at ih ⊢;rw[Zd (Zp c),Zl,ih,Zd c];rfl
  .rw[Ze (by simpa using c),ih,Ze c];cases zk r k<;>rfl
def gC (r o:X8)(i:Nat):X8:=(List.range i).filterMap λ(k:Nat)=>(jw (zk r (k:Int)) (zk o (k:Int))).map λw=>((k:Int),w)
def lawJ_succ (r o:X8)(i:Nat):gC r o (i+1)=gC r o i++((jw (zk r (i:Int)) (zk o (i:Int))).map λw=>((i:Int),w)).toList:=by
 unfold gC;rw[List.range_succ,List.filterMap_append]
 congr 1
def lawJ_len (r o:X8)(i:Nat):(gC r o i).length<=i:=by
 refine Zh (List.length_filterMap_le _ _) ?_;rw[ZA];exact Zf _
def lawJ_eq {r o:X8}(hr:JRow r)(ho:JRow o):gC r o 12=yT r o:=by
 refine yZ xS ?_ (uM (wa o r hr.once)) λp=>?_
 .unfold gC;rw[List.pairwise_filterMap];refine(List.pairwise_lt_range (n:=12)).imp λ{a b} h x hx y hy=>?_;obtain⟨w,_,rfl⟩:=Z3.mp hx;obtain⟨v,_,rfl⟩:=Z3.mp hy;rw[xh];left;show(a:Int)<(b:Int);omega
 .have J:=xC hr ho;have lk:=xx hr.once ho.once p.1;constructor
  .intro h;obtain⟨k,hk,e⟩:=XI.mp h;obtain⟨w,hw,rfl⟩:=Z3.mp e;exact(tF J.once).mpr ((xx hr.once ho.once _).trans hw)
  .intro h;have b:=J.bnd p h;have e:=(tF J.once (t:=p.1) (w:=p.2)).mp h;rw[lk] at e;refine XI.mpr ⟨p.1.toNat,Xc.mpr (),?_⟩;rw[show((p.1.toNat:Nat):Int)=p.1 by omega,e];rfl
def f_z27 {r o:X8}(hr:JRow r)(ho:JRow o):nV [rwD r,rwD o]=.ok (rwD (yT r o)):=by
 have lr:=hr.len;have lo:=ho.len;have ga:ww (.tup (r.map prD)) (.tup (o.map prD))=some (.tup ((r++o).map prD)):=by
  rw[ZR];show(if r.map prD ≠ []/\o.map prD ≠ []/\(r.map prD).length+(o.map prD).length<=sizeLine then _ else _)=_;exact Zd ⟨λz=>hr.ne (ZW.mp z),λz=>ho.ne (ZW.mp z),v0 (by rw[Zql,Zql];omega)⟩
 have r12:wM [.int 12]=.ok (yc 0 12):=xc () ();have lz:((r++o).map prD).length<sizeLine:=zu (by rw[Zql,ZC];omega);obtain⟨sd',e,u3,u4,hsd⟩:=yG (tg:=.one 3) (b:=(zK (xo 4 (xU [none,some 3] (iS (dOp ww (zf 0) (zf 1))) (.one 0) (z4 (dOp gEq (dOp gIx (zf 0) (dC (.int 0))) (zf 1))) (dOp gIx (zf 0) (dC (.int 1))))) (sIf (z4 (dOp gNe (zf 4) (uh zn))) (zL 2 (pM (zb (zf 3) (zb (xB mf (zb (zf 4) zn)) zn)))) yI))) (ds:=yc 0 12)
  (sd:=[some (.val (.tup (r.map prD))),some (.val (.tup (o.map prD))),some (.own false (.lst [])),none,none])
  (P:=λi sd=>∃u3 u4:Option SV,sd=[some (.val (.tup (r.map prD))),some (.val (.tup (o.map prD))),some (.own false (.lst ((gC r o i).map prD))),u3,u4]) ⟨none,none,rfl⟩ (by
   rintro i x sd hx ⟨u3,u4,rfl⟩;obtain⟨rfl,hi⟩:=vQ hx;have eI:(0+(i:Int))=(i:Int):=()
   rw[eI];have key:uf (.one 0) (z4 (dOp gEq (dOp gIx (zf 0) (dC (.int 0))) (zf 1))) (dOp gIx (zf 0) (dC (.int 1))) [none,some (.val (.int (i:Int)))] ((r++o).map prD)=.ok (((r++o).filter λp=>decide (p.1=(i:Int))).map λp=>D.int p.2):=vJ (s:=λp=>[some (.val (prD p)),some (.val (.int (i:Int)))]) (λp _=>by simp) (λp _=>by simp) (λp _ _=>by simp);have ws:((r++o).filter λp=>decide (p.1=(i:Int))).map (λp=>D.int p.2)=((zk r (i:Int)).toList++(zk o (i:Int)).toList).map .int:=by
    rw[<- qY hr.once,<- qY ho.once,<- ZR,<- List.filter_append,Zw];rfl
   rw[ws] at key;generalize (r++o).map prD=ds at ga key lz;have lj:=lawJ_len r o i;have lz2:=zu (show(gC r o i).length<=1000 by omega);refine⟨[some (.val (.tup (r.map prD))),some (.val (.tup (o.map prD))),some (.own false (.lst ((gC r o (i+1)).map prD))),some (.val (.int (i:Int))),some (.val (.lst (((zk r (i:Int)).toList++(zk o (i:Int)).toList).map .int)))],?_,_,_,rfl⟩;rw[lawJ_succ];generalize zk r (i:Int)=a at key;generalize zk o (i:Int)=b at key;obtain⟨ws,hws⟩:∃ws,a.toList++b.toList=ws:=⟨_,rfl⟩;have ne:gNe (.lst (ws.map .int)) (.lst [])=some (.bl (!ws.isEmpty)):=by rw[si (pl_ints ws) xW,yd]
   rw[hws] at key ⊢;have sm:Option.map (λw=>(((i:Nat):Int),w)) (jw a b)=if ws=[] then none else some ((i:Int),uZ ws):=by
    rw[<- hws];cases a with
    |none =>
     cases b with
     |none=>rfl
     |some y=>rfl
    |some x =>
     cases b with
     |none=>rfl
     |some y =>
      show some (((i:Nat):Int),if x > y then x else y)=some ((i:Int),max x y)
      congr 2
      omega
   rw[sm];cases ws with
   |nil =>
    have ne:gNe (.lst []) (.lst [])=some (.bl false):=ne;simp[ga,key,lz,ne]
   |cons w ws =>
    have mx:=qv (ns:=w::ws) (by simp);generalize hd:w::ws=vs at *;have vn:vs ≠ []:=by rw[<- hd];simp
    have ve:vs.isEmpty=false:=by rw[<- hd];rfl
    rw[ve] at ne;simp[ga,key,lz,ne,mx,lz2,vn,prD])
 rw[xY] at hsd;subst hsd;have eq:=lawJ_eq hr ho;simp[nV,fq,rwD,r12,e,eq]
def mdJ:X9->List (X9)->List (X9)
 |t,[]=>[t]
 |t,g::gs=>t::mdJ (zB t g) gs
theorem l8:∀(gs:List (X9)) (t g:X9),mdJ t (gs++[g])=mdJ t gs++[zB (gs.foldl zB t) g]
 | [],t,g=>rfl
 |x::gs,t,g=>by
  show t::mdJ (zB t x) (gs++[g])=t::mdJ (zB t x) gs++[zB (gs.foldl zB (zB t x)) g];rw[l8 gs];rfl
theorem pH:∀(gs:List (X9)) (t:X9),(mdJ t gs).length=gs.length+1
 | [],t=>rfl
 |g::gs,t=>by show(mdJ (zB t g) gs).length+1=_;rw[pH gs];rfl
theorem mq {most:Int}:∀(gs:List (X9)) (t:X9),(t.length:Int)<=most->((∀x∈mdJ t gs,(x.length:Int)<=most)->nH most t gs=some (gs.foldl zB t))/\((∃x∈mdJ t gs,most<(x.length:Int))->nH most t gs=none)
 | [],t,h=>⟨λ_=>rfl,λ⟨x,hx,hl⟩=>by
  rw[ZF.mp hx] at hl;omega⟩
 |g::gs,t,h=>by
  rw[oS];by_cases c:((zB t g).length:Int)<=most
  .have e:vz most (zB t g)=some (zB t g):=Zd c;rw[e];obtain⟨a,b⟩:=mq gs (zB t g) c;refine⟨λk=>a λx hx=>k x (Zqm _ hx),λ⟨x,hx,hl⟩=>b ?_⟩;rcases ZD.mp hx with z|z
   .rw[z] at hl;omega
   .exact⟨x,z,hl⟩
  .have e:vz most (zB t g)=none:=Ze c;rw[e];refine⟨λk=>?_,λ_=>rfl⟩;have:zB t g∈mdJ t (g::gs):=by
    refine Zqm _ ?_;cases gs with
    |nil=>exact Zqs
    |cons x gs=>exact Zqs
   exact Zn (k _ this) c
def all_comes {n:Int}{fs:List (X9)}{t:X9}{hs:Yh}(A:AllOk fs t)(tn:t ≠ [])(fn:fs ≠ [])(hf:∀f∈fs,f ≠ []/\∀r∈f,r ≠ []/\yE r/\∀p∈r,0<=p.1/\p.1<12):zp t hs=uZ (fs.map λf=>zp f hs):=by
 have hmax:∀{r:X8},r ≠ []->∀p∈r,vh hs p.1+p.2<=y8 r hs:=λ{r} hr p hp=>(yV (l:=r.map λp=>vh hs p.1+p.2) (λz=>hr (ZW.mp z))).2 _ (ZE.mpr ⟨p,hp,rfl⟩);have hle:∀{r:X8} {M:Int},r ≠ []->(∀p∈r,vh hs p.1+p.2<=M)->y8 r hs<=M:=λ{r M} hr h=>by
  obtain⟨m,_⟩:=yV (l:=r.map λp=>vh hs p.1+p.2) (λz=>hr (ZW.mp z));obtain⟨p,hp,e⟩:=ZE.mp m;have:=h p hp;have e:vh hs p.1+p.2=y8 r hs:=e;omega
 obtain⟨m1,m2⟩:=yV (l:=fs.map λf=>zp f hs) (λz=>fn (ZW.mp z));have m2:∀f∈fs,zp f hs<=uZ (fs.map λf=>zp f hs):=λf h=>m2 _ (ZE.mpr ⟨f,h,rfl⟩);obtain⟨f0,hf0,e0⟩:=ZE.mp m1;have e0:zp f0 hs=uZ (fs.map λf=>zp f hs):=e0;generalize uZ (fs.map λf=>zp f hs)=M at m2 e0;obtain⟨r,hr,er⟩:=wx (hs:=hs) tn;have lo:M<=zp t hs:=by
  obtain⟨s,hs',hu⟩:=A.abv r hr f0 hf0;have c1:=xN (hs:=hs) hs';have c2:y8 s hs<=y8 r hs:=hle ((hf f0 hf0).2 s hs').1 λp hp=>by
   obtain⟨w,hw,hl⟩:=zU.mp hu p hp;have:=hmax (A.row r hr).ne (p.1,w) (zx hw);have this:vh hs p.1+w<=y8 r hs:=this;omega
  omega
 obtain⟨q,hq,hu⟩:=A.least ((List.range 12).map λk:Nat=>((k:Int),M-vh hs (k:Int))) λf h=>by
  obtain⟨s,hs',es⟩:=wx (hs:=hs) (hf f h).1;obtain⟨s1,s2,s3⟩:=(hf f h).2 s hs';refine⟨s,hs',zU.mpr λp hp=>⟨M-vh hs p.1,?_,?_⟩⟩
  .have on:yE ((List.range 12).map λk:Nat=>((k:Int),M-vh hs (k:Int))):=by
    unfold yE;rw[Zw];unfold List.Nodup;rw[XB];exact(List.nodup_range (n:=12)).imp λ{a b} h e=>h (by have e:(a:Int)=(b:Int):=e;omega)
   have b:=s3 p hp;exact on.look (ZE.mpr ⟨p.1.toNat,Xc.mpr (),by rw[show((p.1.toNat:Nat):Int)=p.1 by omega]⟩)
  .have a:=hmax s1 p hp;have b:=m2 f h;omega
 have c1:=xN (hs:=hs) hq;have c2:y8 q hs<=M:=hle (A.row q hq).ne λp hp=>by
  obtain⟨w,hw,hl⟩:=zU.mp hu p hp;obtain⟨k,hk,ek⟩:=ZE.mp (zx hw);have e1:((k:Nat):Int)=p.1:=Zt Prod.fst ek;have e2:M-vh hs ((k:Nat):Int)=w:=Zt Prod.snd ek;rw[e1] at e2;omega
 omega
def eachJ_take {t g:X9}{j:Nat}{r:X8}(h:t[j]? = some r):xT (t.take (j+1)) g=xT (t.take j) g++g.map (yT r):=by
 unfold xT;rw[List.take_succ,h];show List.flatMap _ (_++[r])=_;rw[List.flatMap_append,List.flatMap_singleton]
def rW (t g:X9):(xT t g).length=t.length*g.length:=by
 unfold xT
 induction t with
 |nil=>simp
 |cons r t ih=>rw[List.flatMap_cons,ZC,ih,Zql,Zu,Nat.succ_mul,Nat.add_comm]
def join_fst {a b:X8}(ha:JRow a)(hb:JRow b){n:Int}(h1:∀p∈a,p.1<n)(h2:∀p∈b,p.1<n):∀p∈yT a b,p.1<n:=λp hp=>by
 have hl:=(xC ha hb).once.look (t:=p.1) (w:=p.2) hp;rw[xx ha.once hb.once] at hl;cases q1:zk a p.1 with
 |some w=>exact h1 (p.1,w) (zx q1)
 |none =>
  cases q2:zk b p.1 with
  |some w=>exact h2 (p.1,w) (zx q2)
  |none=>rw[q1,q2] at hl;(first|exact zqn hl|exact zqb hl|(obtain rfl:=Zqi hl)|cases hl)
theorem lL {n:Int}:∀(gs:List (X9)) (t:X9),(∀r∈t,JRow r/\∀p∈r,p.1<n)->(∀g∈gs,∀r∈g,JRow r/\∀p∈r,p.1<n)->∀r∈gs.foldl zB t,∀p∈r,p.1<n
 | [],t,ht,_=>λr hr=>(ht r hr).2
 |g::gs,t,ht,hg=>lL gs (zB t g) (λr hr=>by
  obtain⟨a,ha,b,hb,rfl⟩:=yS.mp (zm.mp hr).1;obtain⟨a1,a2⟩:=ht a ha;obtain⟨b1,b2⟩:=hg g Zqs b hb;exact⟨xC a1 b1,join_fst a1 b1 a2 b2⟩) λx hx=>hg x (Zqm _ hx)
def upF (f:X9)(q:X8):Prop:=∃x∈f,zl x q=true
structure Cn (f:X9):Prop where
 ne:f ≠ []
 rows:∀r∈f,JRow r
 thin:z5 f=f
def Cn.anti {f:X9}(C:Cn f):∀r∈f,∀s∈f,zl r s=true->r=s:=by
 have h:=rm (rs:=f);rw[C.thin] at h;exact h
def Cn.strict {f:X9}(C:Cn f):f.Pairwise λa b=>yF a b=true:=by
 have h:=yH f;rw[C.thin] at h;exact h
def cn_of {n:Int}{f:X9}(h:n<=12)(G:Good n f):Cn f:=⟨G.ne,λr hr=>⟨(G.rows r hr).ne,G.rise r hr,λp hp=>by have:=(G.rows r hr).mem p hp;omega⟩,good_thin G⟩
def up_thin {l:X9}(h:∀r∈l,JRow r)(q:X8):upF (z5 l) q↔upF l q:=by
 constructor
 .rintro⟨x,hx,hu⟩;exact⟨x,(zm.mp hx).1,hu⟩
 .rintro⟨x,hx,hu⟩;obtain⟨s,hs,hs2⟩:=xZ (λr hr=>⟨(h r hr).once,(h r hr).rise⟩) hx;exact⟨s,hs,zA hs2 hu⟩
def jU {l:X9}(h:∀r∈l,JRow r)(hn:l ≠ []):Cn (z5 l):=⟨thin_ne h hn,λr hr=>h r (zm.mp hr).1,jk (λr hr=>h r (zm.mp hr).1) h (up_thin h)⟩
theorem vo (w:Int):∀(r:X8) (t:Int),zk (ym r w) t=(zk r t).map (· + w)
 | [],_=>rfl
 |p::r,t=>by
  have ih:=vo w r t;show(match zk (ym r w) t with|some v=>some v|none=>if p.1=t then some (p.2+w) else none)=Option.map _ (match zk r t with|some v=>some v|none=>if p.1=t then some p.2 else none);rw[ih];cases zk r t with
  |some v=>rfl
  |none =>
   show(if p.1=t then some (p.2+w) else none)=Option.map (· + w) (if p.1=t then some p.2 else none);by_cases h:p.1=t
   .rw[Zd h,Zd h];rfl
   .rw[Ze h,Ze h];rfl
def shift_back (r:X8)(w:Int):ym (ym r w) (-w)=r:=by
 unfold ym;rw[Zw];refine(XD λp _=>?_).trans (List.map_id r);show(p.1,p.2+w + -w)=p;rw[Int.add_neg_cancel_right]
def under_shift {r q:X8}{w:Int}:zl (ym r w) q=true↔zl r (ym q (-w))=true:=by
 rw[zU,zU];constructor
 .intro h p hp;obtain⟨u,hu,l⟩:=h (p.1,p.2+w) (ZE.mpr ⟨p,hp,rfl⟩);have hu:zk q p.1=some u:=hu;have l:p.2+w<=u:=l;refine⟨u + -w,?_,()⟩;rw[vo,hu];rfl
 .intro h p hp;obtain⟨p',hp',rfl⟩:=ZE.mp hp;obtain⟨u,hu,l⟩:=h p' hp';rw[vo] at hu;show ∃w',zk q p'.1=some w'/\p'.2+w<=w';cases e:zk q p'.1 with
  |none=>rw[e] at hu;(first|exact zqn hu|exact zqb hu|(obtain rfl:=Zqi hu)|cases hu)
  |some v =>
   rw[e] at hu;have hu:v + -w=u:=Zqi hu;exact⟨v,rfl,()⟩
def shift_row {r:X8}(h:JRow r)(w:Int):JRow (ym r w):=by
 refine⟨λz=>h.ne (ZW.mp z),?_,λp hp=>?_⟩
 .have e:(ym r w).map (·.1)=r.map (·.1):=by
   unfold ym;rw[Zw];rfl
  unfold w5;rw[e];exact h.rise
 .obtain⟨p',hp',rfl⟩:=ZE.mp hp;exact h.bnd p' hp'
theorem n8 (w:Int):∀a b:X8,yF (ym a w) (ym b w)=yF a b
 | [],[]=>rfl
 | [],_::_=>rfl
 |_::_,[]=>rfl
 |p::a,q::b=>by
  show yF ((p.1,p.2+w)::ym a w) ((q.1,q.2+w)::ym b w)=_;rw[yR,yR,n8 w a b];by_cases h:p=q
  .rw[Zd h,h,Zd rfl]
  .rw[Ze h,Ze λz=>h ?_]
   .unfold wH;have e:decide (p.2+w<q.2+w)=decide (p.2<q.2):=by
     rw[decide_eq_decide];omega
    rw[e]
   .have z1:=Zt Prod.fst z;have z2:=Zt Prod.snd z;have z1:p.1=q.1:=z1;have z2:p.2+w=q.2+w:=z2;exact Prod.ext z1 ()
def cn_z5 {f:X9}(C:Cn f)(w:Int):Cn (yJ f w):=by
 refine⟨λz=>C.ne (ZW.mp z),λr hr=>?_,yZ zR (yH _) ?_ λr=>⟨λh=>(zm.mp h).1,λh=>zm.mpr ⟨h,xR.mpr λo ho hu=>?_⟩⟩⟩
 .obtain⟨r',hr',rfl⟩:=ZE.mp hr;exact shift_row (C.rows r' hr') w
 .unfold yJ;rw[XB];exact C.strict.imp λ{a b} h=>by rw[n8];exact h
 .obtain⟨o',ho',rfl⟩:=ZE.mp ho;obtain⟨r',hr',rfl⟩:=ZE.mp h;have hu:=under_shift.mp hu;rw[shift_back] at hu;rw[C.anti o' ho' r' hr' hu]
def hour_shift {r:X8}(h:r ≠ [])(w:Int)(hs:Yh):y8 (ym r w) hs=y8 r hs+w:=by
 unfold y8 ym;rw[<- maxI_add (λz=>h (ZW.mp z)),Zw,Zw]
 congr 1
 refine XD λp _=>?_;show vh hs p.1+(p.2+w)=vh hs p.1+p.2+w;omega
def comes_shift {f:X9}(hf:f ≠ [])(hne:∀r∈f,r ≠ [])(w:Int)(hs:Yh):zp (yJ f w) hs=zp f hs+w:=by
 unfold zp yJ;rw[<- minI_add (λz=>hf (ZW.mp z)),Zw,Zw]
 congr 1
 exact XD λr hr=>hour_shift (hne r hr) w hs
def sq {g1 g2:FS}{sd sd':SD}{r:Res Out}(h:g1 sd=.ok (.next sd'))(k:g2 sd'=r):zK g1 g2 sd=r:=by
 rw[ez,h];exact k
def bt1 {i:Nat}{d:D}{sd:SD}{b:FS}{r:Res Out}(h:b (sd.set i (some (.val d)))=r):(yD (.one i) d sd).bind b=r:=h
def step_cn {t g:X9}(T:Cn t)(G:Cn g):Cn (zB t g):=jU (uv T.rows G.rows) (eachJ_ne T.ne G.ne)
theorem ju:∀{gs:List (X9)} {t:X9},Cn t->(∀g∈gs,Cn g)->Cn (gs.foldl zB t)
 | [],t,T,_=>T
 |g::gs,t,T,h=>ju (gs:=gs) (step_cn T (h g Zqs)) λx hx=>h x (Zqm _ hx)
def f_z28 {f:X9}{w:Int}(hf:f.length<=1000)(hln:∀r∈f,r.length<=1000):rB [frD f,.int w]=.ok (frD (yJ f w)):=by
 have key:sB (.one 0) (xB wZ (zb (xt [none,none,some 1] (iS (zf 0)) (.tup [0,1]) (pM (zb (zf 0) (zb (dOp ww (zf 1) (zf 2)) zn)))) zn)) [none,some (.val (.int w))] (f.map rwD)=.ok (f.map λr=>rwD (ym r w)):=xf λr hr=>by
  have key2:sB (.tup [0,1]) (pM (zb (zf 0) (zb (dOp ww (zf 1) (zf 2)) zn))) [none,none,some (.val (.int w))] (r.map prD)=.ok (r.map λp=>prD (p.1,p.2+w)):=xf λp _=>by simp[prD]
  simp[key2,zu (hln r hr)];show D.tup _=D.tup _;unfold ym;rw[Zw];rfl
 have e:D.lst (f.map λr=>rwD (ym r w))=frD (yJ f w):=by unfold yJ frD;rw[Zw];rfl
 simp[rB,gG,key,zu hf,<- e]
def f_z29 {t g:X9}(T:∀r∈t,JRow r)(jg:∀r∈g,JRow r)(s1:t.length*g.length<=900)(s2:g.length<=900):nN [frD t,frD g]=.ok (frD (zB t g)):=by
 have lz2:=zu (show g.length<=1000 from ());obtain⟨sd2,e2,v4,hsd2⟩:=yG (tg:=.one 3) (b:=(xo 2 (dOp ww (zf 2) (xt [none,some 3] (iS (zf 1)) (.one 0) (zq nV (zb (zf 1) (zb (zf 0) zn))))))) (ds:=t.map rwD)
  (sd:=[some (.val (frD t)),some (.val (frD g)),some (.val (frD [])),none])
  (P:=λj sd=>∃v4:Option SV,sd=[some (.val (frD t)),some (.val (frD g)),some (.val (frD (xT (t.take j) g))),v4]) ⟨none,rfl⟩ (by
   rintro j y sd hy ⟨v4,rfl⟩;obtain⟨r,hr,rfl⟩:=xq hy;have hj:=(ZH.mp hr).1;have jr:=T r (ZP hr);have key:sB (.one 0) (zq nV (zb (zf 1) (zb (zf 0) zn))) [none,some (.val (rwD r))] (g.map rwD)=.ok (g.map λo=>rwD (yT r o)):=xf λo ho=>by
    have:=f_z27 jr (jg o ho);simp[this]
   have eg:D.lst (g.map λo=>rwD (yT r o))=frD (g.map (yT r)):=by unfold frD;rw[Zw];rfl
   have lt:(t.take j).length*g.length+g.length<=t.length*g.length:=by
    rw[ZV,XS ()];have:(j+1)*g.length<=t.length*g.length:=Nat.mul_le_mul_right _ hj;rw[Nat.succ_mul] at this;exact this
   have ga:=m9 (f:=xT (t.take j) g) (g:=g.map (yT r)) (by rw[rW,Zql];omega);rw[<- eg] at ga;refine⟨[some (.val (frD t)),some (.val (frD g)),some (.val (frD (xT (t.take (j+1)) g))),some (.val (rwD r))],?_,_,rfl⟩;rw[eachJ_take hr];simp[key,lz2,ga])
 rw[Zql,XN] at hsd2;subst hsd2;have rows:=uv T jg;have ft:=dJ (rs:=xT t g) (λr hr=>(rows r hr).ne) (λr hr=>(rows r hr).once) (λr hr=>by have:=(rows r hr).len;omega) (by rw[rW];omega);have f0:frD []=.lst []:=rfl;rw[f0] at e2;show _=Res.ok (frD (z5 (xT t g)));simp[nN,gX,e2,ft]
abbrev RW3 (fs:List (X9))(r:X8):Prop:=(r ≠ []/\r.length<=3)/\∀p∈r,0<=p.1/\p.1<(fs.length:Int)
abbrev CF (fs:List (X9)):Prop:=∀f∈fs,Cn f/\f.length<=4
def wF (fs:List (X9))(p:Int×Int):X9:=yJ (jC fs p.1) p.2
def zM (fs:List (X9)):X8->X9
 | []=>[]
 |p::ps=>(ps.map (wF fs)).foldl zB (wF fs p)
def yL (fs:List (X9)):X8->List (X9)
 | []=>[]
 |p::ps=>mdJ (wF fs p) (ps.map (wF fs))
def yu (fs:List (X9))(s:List (X9)×X9)(r:X8):List (X9)×X9:=(s.1++yL fs r++[z5 (s.2++zM fs r)],z5 (s.2++zM fs r))
def dv {fs:List (X9)}(cf:CF fs){p:Int×Int}(hb:0<=p.1/\p.1<(fs.length:Int)):Cn (wF fs p)/\(wF fs p).length<=4:=by
 obtain⟨c,l⟩:=cf _ (vR hb.1 hb.2);exact⟨cn_z5 c _,by unfold wF yJ;rw[Zql];exact l⟩
def d9 {fs:List (X9)}(cf:CF fs){p:Int×Int}{ps:X8}(hb:∀q∈p::ps,0<=q.1/\q.1<(fs.length:Int))(l:ps.length<=2):Cn ((ps.map (wF fs)).foldl zB (wF fs p))/\((ps.map (wF fs)).foldl zB (wF fs p)).length<=64:=by
 have c0:=dv cf (hb p Zqs);have cs:∀g∈ps.map (wF fs),Cn g/\g.length<=4:=λg hg=>by
  obtain⟨q,hq,rfl⟩:=ZE.mp hg;exact dv cf (hb q (Zqm _ hq))
 refine⟨ju c0.1 λg hg=>(cs g hg).1,?_⟩;have fl:=ka (c:=4) (gs:=ps.map (wF fs)) (t:=wF fs p) λg hg=>(cs g hg).2;rw[Zql] at fl;have e:4 ^ ps.length<=4 ^ 2:=Nat.pow_le_pow_right () l;have m:(wF fs p).length*4 ^ ps.length<=4*4 ^ 2:=Nat.mul_le_mul c0.2 e;omega
def f_z30 {form:X9}{fs:List (X9)}(hr:∀r∈form,RW3 fs r)(cf:CF fs)(lf:form.length<=5):kQ [frD form,.lst (fs.map frD)]=.ok (.lst ((form.foldl (yu fs) ([],[])).1.map frD)):=by
 have mv:∀{p:Int×Int},0<=p.1/\p.1<(fs.length:Int)->rB [frD (jC fs p.1),.int p.2]=.ok (frD (wF fs p)):=λ{p} hb=>by
  obtain⟨c,l⟩:=cf _ (vR hb.1 hb.2);exact f_z28 () λr h=>by have:=(c.rows r h).len;omega
 obtain⟨sd1,e1,u4,u5,u6,u7,hsd1,_⟩:=yG (tg:=.one 4) (b:=(zK (xo 5 (zq rB (zb (dOp gIx (zf 1) (dOp gIx (dOp gIx (zf 4) (dC (.int 0))) (dC (.int 0)))) (zb (dOp gIx (dOp gIx (zf 4) (dC (.int 0))) (dC (.int 1))) zn)))) (zK (zL 2 (zf 5)) (zK (tj (iS (cZ (zf 4) (v9 (dC (.int 1))) yM)) (.tup [6,7]) (zK (xo 5 (zq nN (zb (zf 5) (zb (zq rB (zb (dOp gIx (zf 1) (zf 6)) (zb (zf 7) zn))) zn)))) (zL 2 (zf 5)))) (zK (xo 3 (zq rE (zb (dOp ww (zf 3) (zf 5)) zn))) (zL 2 (zf 3))))))) (ds:=form.map rwD)
  (sd:=[some (.val (frD form)),some (.val (.lst (fs.map frD))),some (.own false (.lst [])),some (.val (frD [])),none,none,none,none])
  (P:=λi sd=>∃u4 u5 u6 u7:Option SV,sd=[some (.val (frD form)),some (.val (.lst (fs.map frD))),some (.own false (.lst (((form.take i).foldl (yu fs) ([],[])).1.map frD))),some (.val (frD ((form.take i).foldl (yu fs) ([],[])).2)),u4,u5,u6,u7]/\((form.take i).foldl (yu fs) ([],[])).1.length<=4*i/\((form.take i).foldl (yu fs) ([],[])).2.length<=64*i/\∀r∈((form.take i).foldl (yu fs) ([],[])).2,JRow r) ⟨none,none,none,none,rfl,Nat.zero_le _,Nat.zero_le _,λr h=>nomatch h⟩ (by
   rintro i x sd hx ⟨u4,u5,u6,u7,rfl,lm,la,ja⟩;obtain⟨r,hri,rfl⟩:=xq hx;have hi:=(ZH.mp hri).1;obtain⟨⟨rn,r3⟩,rb⟩:=hr r (ZP hri);have tk:form.take (i+1)=form.take i++[r]:=by rw[List.take_succ,hri];rfl
   rw[tk,Xs];show ∃sd',_/\∃u4 u5 u6 u7:Option SV,sd'=[_,_,some (.own false (.lst ((yu fs ((form.take i).foldl (yu fs) ([],[])) r).1.map frD))),some (.val (frD (yu fs ((form.take i).foldl (yu fs) ([],[])) r).2)),u4,u5,u6,u7]/\(yu fs ((form.take i).foldl (yu fs) ([],[])) r).1.length<=_/\(yu fs ((form.take i).foldl (yu fs) ([],[])) r).2.length<=_/\∀q∈(yu fs ((form.take i).foldl (yu fs) ([],[])) r).2,JRow q;generalize (form.take i).foldl (yu fs) ([],[])=st at lm la ja;obtain⟨met,acc⟩:=st;have lm:met.length<=4*i:=lm;have la:acc.length<=64*i:=la;have ja:∀r∈acc,JRow r:=ja;cases r with
   |nil=>exact Zn rfl rn
   |cons p ps =>
    have l2:ps.length<=2:=by rw[Zu] at r3;omega
    have pb:=rb p Zqs;have a0:=nX pb.1 pb.2;have m0:=mv pb;obtain⟨sd2,e2,v6,v7,hsd2⟩:=yG (tg:=.tup [6,7]) (b:=(zK (xo 5 (zq nN (zb (zf 5) (zb (zq rB (zb (dOp gIx (zf 1) (zf 6)) (zb (zf 7) zn))) zn)))) (zL 2 (zf 5)))) (ds:=ps.map prD)
     (sd:=[some (.val (frD form)),some (.val (.lst (fs.map frD))),some (.own false (.lst (met.map frD++[frD (wF fs p)]))),some (.val (frD acc)),some (.val (rwD (p::ps))),some (.val (frD (wF fs p))),u6,u7])
     (P:=λj sd=>∃v6 v7:Option SV,sd=[some (.val (frD form)),some (.val (.lst (fs.map frD))),some (.own false (.lst (met.map frD++(mdJ (wF fs p) ((ps.take j).map (wF fs))).map frD))),some (.val (frD acc)),some (.val (rwD (p::ps))),some (.val (frD (((ps.take j).map (wF fs)).foldl zB (wF fs p)))),v6,v7]) ⟨u6,u7,rfl⟩ (by
      rintro j y sd hy ⟨v6,v7,rfl⟩;obtain⟨q,hq,rfl⟩:=xq hy;have hj:=(ZH.mp hq).1;have qb:=rb q (Zqm _ (ZP hq));have a1:=nX qb.1 qb.2;have m1:=mv qb;have tk2:(ps.take (j+1)).map (wF fs)=(ps.take j).map (wF fs)++[wF fs q]:=by rw[List.take_succ,hq,ZR];rfl
      have F4:=d9 (p:=p) (ps:=ps.take j) cf (λx hx=>rb x (by
       rcases ZD.mp hx with z|z
       .rw[z];exact Zqs
       .exact Zqm _ (Xv z))) (by rw[ZV];omega)
      have lmd:=pH ((ps.take j).map (wF fs)) (wF fs p);rw[Zql,ZV] at lmd;have es:(mdJ (wF fs p) ((ps.take (j+1)).map (wF fs))).map frD=(mdJ (wF fs p) ((ps.take j).map (wF fs))).map frD++[frD (zB (((ps.take j).map (wF fs)).foldl zB (wF fs p)) (wF fs q))]:=by rw[tk2,l8,ZR];rfl
      have ef:((ps.take (j+1)).map (wF fs)).foldl zB (wF fs p)=zB (((ps.take j).map (wF fs)).foldl zB (wF fs p)) (wF fs q):=by rw[tk2,Xs];rfl
      have wq:=dv cf qb;have pr:=f_z29 (t:=((ps.take j).map (wF fs)).foldl zB (wF fs p)) (g:=wF fs q) F4.1.rows wq.1.rows (by
       have:(((ps.take j).map (wF fs)).foldl zB (wF fs p)).length*(wF fs q).length<=64*4:=Nat.mul_le_mul F4.2 wq.2;omega) ()
      refine⟨[some (.val (frD form)),some (.val (.lst (fs.map frD))),some (.own false (.lst (met.map frD++(mdJ (wF fs p) ((ps.take (j+1)).map (wF fs))).map frD))),some (.val (frD acc)),some (.val (rwD (p::ps))),some (.val (frD (((ps.take (j+1)).map (wF fs)).foldl zB (wF fs p)))),some (.val (.int q.1)),some (.val (.int q.2))],?_,_,_,rfl⟩;rw[es,ef];have lz:(met.map frD++(mdJ (wF fs p) ((ps.take j).map (wF fs))).map frD).length<sizeLine:=zu (by rw[ZC,Zql,Zql];omega);rw[<- ZJ];generalize met.map frD++(mdJ (wF fs p) ((ps.take j).map (wF fs))).map frD=zs at lz;generalize ((ps.take j).map (wF fs)).foldl zB (wF fs p)=t at pr;generalize fs.map frD=FD at a1;simp[prD,a1,m1,pr,lz])
    rw[Zql,XN] at hsd2;subst hsd2;have F4:=d9 (p:=p) (ps:=ps) cf rb l2;have lmd:=pH (ps.map (wF fs)) (wF fs p);rw[Zql] at lmd;have rows:∀q∈acc++(ps.map (wF fs)).foldl zB (wF fs p),JRow q:=λq hq=>by
     rcases ZL.mp hq with z|z
     .exact ja q z
     .exact F4.1.rows q z
    have ll:(acc++(ps.map (wF fs)).foldl zB (wF fs p)).length<=64*(i+1):=by rw[ZC];have:=F4.2;omega
    have ga:=m9 (f:=acc) (g:=(ps.map (wF fs)).foldl zB (wF fs p)) (by rw[ZC] at ll;omega);have ft:=dJ (rs:=acc++(ps.map (wF fs)).foldl zB (wF fs p)) (λr hr=>(rows r hr).ne) (λr hr=>(rows r hr).once) (λr hr=>by have:=(rows r hr).len;omega) ();have lt:=wR (acc++(ps.map (wF fs)).foldl zB (wF fs p));have sl:bD (rwD (p::ps)) (some 1) none=some (.tup (ps.map prD)):=by
     have ec:jy ((p::ps).map prD) (some 1) none=ps.map prD:=by
      unfold jy;rw[HT.sIx_none,show(1:Int)=((1:Nat):Int) from rfl,HT.sIx_nat,Zql,XS (by simp),Z4 (by simp)];rfl
     show(if Nat.blt (jy ((p::ps).map prD) (some 1) none).length ((p::ps).map prD).length then some (D.tup (jy ((p::ps).map prD) (some 1) none)) else none)=_;rw[ec,Zd (by simp[Nat.blt_eq])]
    refine⟨[some (.val (frD form)),some (.val (.lst (fs.map frD))),some (.own false (.lst ((yu fs (met,acc) (p::ps)).1.map frD))),some (.val (frD (yu fs (met,acc) (p::ps)).2)),some (.val (rwD (p::ps))),some (.val (frD ((ps.map (wF fs)).foldl zB (wF fs p)))),v6,v7],?_,_,_,_,_,rfl,?_,?_,?_⟩
    .have es:(yu fs (met,acc) (p::ps)).1.map frD=met.map frD++(mdJ (wF fs p) (ps.map (wF fs))).map frD++[frD (z5 (acc++(ps.map (wF fs)).foldl zB (wF fs p)))]:=by
      show(met++mdJ (wF fs p) (ps.map (wF fs))++[z5 (acc++(ps.map (wF fs)).foldl zB (wF fs p))]).map frD=_;rw[ZR,ZR];rfl
     have e3:(yu fs (met,acc) (p::ps)).2=z5 (acc++(ps.map (wF fs)).foldl zB (wF fs p)):=rfl;rw[es,e3];have lz:(met.map frD++(mdJ (wF fs p) (ps.map (wF fs))).map frD).length<sizeLine:=zu (by rw[ZC,Zql,Zql];omega);have lz0:(met.map frD).length<sizeLine:=zu (by rw[Zql];omega);have g0:gIx (rwD (p::ps)) (.int 0)=some (prD p):=by
      show atI ((p::ps).map prD) ((0:Nat):Int)=_;rw[uA (by simp)];rfl
     generalize met.map frD++(mdJ (wF fs p) (ps.map (wF fs))).map frD=zs at lz e2;generalize met.map frD=ms at lz0 e2;generalize (ps.map (wF fs)).foldl zB (wF fs p)=t at ga ft e2;generalize fs.map frD=FD at a0 e2;generalize rwD (p::ps)=rr at sl g0 e2;refine bt1 ?_;have p0:gIx (prD p) (.int 0)=some (.int p.1):=rfl;have p1:gIx (prD p) (.int 1)=some (.int p.2):=rfl;refine sq (by simp[g0,p0,p1,a0,m0];rfl) ?_;refine sq (by simp[lz0];rfl) ?_;refine sq (by simp[sl];exact e2) ?_;refine sq (by simp[ga,ft];rfl) ?_;simp[lz]
    .show(met++mdJ (wF fs p) (ps.map (wF fs))++[z5 (acc++(ps.map (wF fs)).foldl zB (wF fs p))]).length<=4*(i+1);rw[ZC,ZC,ZT];omega
    .show(z5 (acc++(ps.map (wF fs)).foldl zB (wF fs p))).length<=64*(i+1);omega
    .exact λq hq=>rows q (zm.mp hq).1)
 rw[Zql,XN] at hsd1;subst hsd1;have f0:frD []=.lst []:=rfl;rw[f0] at e1;simp[kQ,gv,e1]
theorem jO {α:Type}{tg:Tg}{f:FE}{c:SD}{k:α -> D}{n:Str}{as:YD}:∀{xs:List α},(∀x∈xs,(∃v,(yD tg (k x) c).bind f=.ok v)\/(yD tg (k x) c).bind f=.ex n as)->(∃x∈xs,(yD tg (k x) c).bind f=.ex n as)->sB tg f c (xs.map k)=.ex n as
 | [],_,⟨_,h,_⟩=>nomatch h
 |x::xs,h,⟨y,hy,e⟩=>by
  have nx:sB tg f c ((x::xs).map k)=((yD tg (k x) c).bind f).bind λv=>(sB tg f c (xs.map k)).bind λvs=>.ok (v::vs):=rfl;rw[nx];rcases h x Zqs with ⟨v,q⟩|q
  .rw[q];show(sB tg f c (xs.map k)).bind _=_;rw[jO (xs:=xs) (λz hz=>h z (Zqm _ hz)) ?_]
   .rfl
   .rcases ZD.mp hy with z|z
    .rw[z,q] at e;(first|exact zqn e|exact zqb e|(obtain rfl:=Zqi e)|cases e)
    .exact⟨y,z,e⟩
  .rw[q];rfl
def f_first_ofC {f:X9}{fs:List (X9)}{most:Int}(hf:Cn f/\f.length<=64)(hfs:∀g∈fs,Cn g/\g.length<=64)(m1:0<=most)(m2:most<=60)(l2:fs.length<=900):
 gU [.lst ((f::fs).map frD),.int most]=ow (foP most f fs):=by
 have fw:∀{rs:X9},(∀r∈rs,JRow r)->rs.length<=200->xV [frD rs,.int most]=ow (vz most (z5 rs)):=λ{rs} h l=>xb (λr hr=>(h r hr).ne) (λr hr=>(h r hr).rise) (λr hr=>by have:=(h r hr).len;omega) () m1 ();have w1:=fw (rs:=f) hf.1.rows ();rw[hf.1.thin] at w1;have a0:atI ((f::fs).map frD) 0=some (frD f):=by
  rw[show((0:Int))=((0:Nat):Int) from rfl,uA (by simp)];rfl
 have sl:zW (frD f::fs.map frD) (some 1) none none=fs.map frD:=by
  rw[oy _ ()];rfl
 by_cases l0:(f.length:Int)<=most
 .rw[qg l0] at w1;have w1:xV [frD f,.int most]=.ok (frD f):=w1;have key:((kU (.one 3) (λsd=>(qJ 2 (zq xV (zb (dOp ww (zf 2) (zf 3)) (zb (zf 1) zn)))) (tE [2] sd)) (fs.map frD) [some (.val (.lst ((f::fs).map frD))),some (.val (.int most)),some (.own false (frD f)),none]).bind (kY (yA 2))).bind hZ=ow (foP most f fs):=by
   refine sw (R:=λz=>(z.bind (kY (yA 2))).bind hZ=ow (foP most f fs)) (P:=λi sd=>∃(t:X9) (u3:Option SV),sd=[some (.val (.lst ((f::fs).map frD))),some (.val (.int most)),some (.own false (frD t)),u3]/\(∀r∈t,JRow r)/\(t.length:Int)<=most/\foP most t (fs.drop i)=foP most f fs) ⟨f,none,rfl,hf.1.rows,l0,rfl⟩ ?_ ?_
   .rintro sd ⟨t,u3,rfl,T,lt,hq⟩;rw[Zql,XM] at hq;rw[<- hq];show _=ow (vz most t);rw[qg lt];simp[ow]
   .rintro i x sd hx ⟨t,u3,rfl,T,lt,hq⟩;obtain⟨g,hg,rfl⟩:=xq hx;have hi:=(ZH.mp hg).1;obtain⟨G,lg⟩:=hfs g (ZP hg);have ga:=m9 (f:=t) (g:=g) ();have tg:∀r∈t++g,JRow r:=λr hr=>(ZL.mp hr).elim (λz=>T r z) λz=>G.rows r z;have fw2:=fw (rs:=t++g) tg (by rw[ZC];omega);have ed:fs.drop i=g::fs.drop (i+1):=by
     rw[ZU hi];rw[Zqg hi] at hg;rw[Zqi hg]
    rw[ed] at hq;have hq:(vz most t).bind (λ_=>foP most (stF t g) (fs.drop (i+1)))=foP most f fs:=hq;rw[qg lt] at hq;have hq:foP most (stF t g) (fs.drop (i+1))=foP most f fs:=hq;by_cases c:((stF t g).length:Int)<=most
    .have fw2:xV [frD (t++g),.int most]=.ok (frD (stF t g)):=by
      rw[fw2];show ow (vz most (stF t g))=_;rw[qg c];rfl
     exact .inl ⟨[some (.val (.lst ((f::fs).map frD))),some (.val (.int most)),some (.own false (frD (stF t g))),some (.val (frD g))],by simp[ga,fw2],stF t g,_,rfl,λr hr=>tg r (zm.mp hr).1,c,hq⟩
    .have no:vz most (stF t g)=none:=Ze c;have fw2:xV [frD (t++g),.int most]=.ex "TooMany" []:=by
      rw[fw2];show ow (vz most (stF t g))=_;rw[no];rfl
     refine .inr ⟨"TooMany",[],by simp[ga,fw2],?_⟩;rw[<- hq,eC no];rfl
  simp[gU,cN] at a0 key ⊢;simp[a0,w1,sl,key]
 .rw[qR ()] at w1;have w1:xV [frD f,.int most]=.ex "TooMany" []:=w1;rw[eC (qR ())];show _=Res.ex "TooMany" [];simp[gU,cN] at a0 ⊢;simp[a0,w1]
def f_put_row {p:Int×Int}{ps:X8}{fs:List (X9)}{most:Int}(hb:∀q∈p::ps,0<=q.1/\q.1<(fs.length:Int))(cf:CF fs)(l2:ps.length<=2)(m1:0<=most)(m2:most<=60):
 ((∀x∈yL fs (p::ps),(x.length:Int)<=most)->kW [rwD (p::ps),.lst (fs.map frD),.int most]=.ok (frD (zM fs (p::ps))))/\((∃x∈yL fs (p::ps),most<(x.length:Int))->kW [rwD (p::ps),.lst (fs.map frD),.int most]=.ex "TooMany" []):=by
 have key:=put_row_key (r:=p::ps) hb λf hf=>⟨by have:=(cf f hf).2;omega,λr hr=>by have:=((cf f hf).1.rows r hr).len;omega⟩;have c0:=dv cf (hb p Zqs);have cs:∀g∈ps.map (wF fs),Cn g/\g.length<=4:=λg hg=>by
  obtain⟨q,hq,rfl⟩:=ZE.mp hg;exact dv cf (hb q (Zqm _ hq))
 have fa:=f_all_of_any (f:=wF fs p) (fs:=ps.map (wF fs)) (most:=most) ⟨c0.1.ne,c0.1.rows⟩ (λg hg=>⟨(cs g hg).1.ne,(cs g hg).1.rows⟩) () m1 () (by rw[Zql];omega) (λi t g A lt hg=>by
  have G:=cs g (ZP hg);have a:=eachK_le (f:=t) (g:=g) G.1.ne;have b:t.length*g.length<=60*4:=Nat.mul_le_mul () G.2;omega)
 have pa:cY most (wF fs p) (ps.map (wF fs))=(vz most (wF fs p)).bind λt=>nH most t (ps.map (wF fs)):=by
  unfold cY;rw[c0.1.thin]
 rw[pa] at fa;have hz:=zu (show(p::ps).length<=1000 by rw[Zu];omega);have ey:((p::ps).map λp=>yJ (jC fs p.1) p.2)=wF fs p::ps.map (wF fs):=rfl;rw[ey] at key;have p0:wF fs p∈yL fs (p::ps):=by
  show wF fs p∈mdJ (wF fs p) (ps.map (wF fs));cases ps.map (wF fs) with
  |nil=>exact Zqs
  |cons g gs=>exact Zqs
 generalize (wF fs p::ps.map (wF fs)).map frD=ds at key fa;constructor
 .intro h;rw[show vz most (wF fs p)=some (wF fs p) from Zd (h _ p0)] at fa;have q:nH most (wF fs p) (ps.map (wF fs))=some (zM fs (p::ps)):=(mq (ps.map (wF fs)) (wF fs p) (h _ p0)).1 h;have fa:fu [.lst ds,.int most]=ow (nH most (wF fs p) (ps.map (wF fs))):=fa;rw[q] at fa;have fa:fu [.lst ds,.int most]=.ok (frD (zM fs (p::ps))):=fa;rw[Zl] at key;rw[Zu] at hz;simp[kW,cp,key,fa,hz]
 .intro h;have q:((vz most (wF fs p)).bind λt=>nH most t (ps.map (wF fs)))=none:=by
   by_cases c:((wF fs p).length:Int)<=most
   .rw[show vz most (wF fs p)=some (wF fs p) from Zd c];exact(mq (ps.map (wF fs)) (wF fs p) c).2 h
   .rw[show vz most (wF fs p)=none from Ze c];rfl
  rw[q] at fa;have fa:fu [.lst ds,.int most]=.ex "TooMany" []:=fa;rw[Zl] at key;rw[Zu] at hz;simp[kW,cp,key,fa,hz]
def kK (fs:List (X9)):X9->X9->List (X9)
 |_,[]=>[]
 |a,r::rs=>z5 (a++zM fs r)::kK fs (z5 (a++zM fs r)) rs
theorem mz {fs:List (X9)}{x:X9}:∀(rs:X9) (met:List (X9)) (acc:X9),x∈(rs.foldl (yu fs) (met,acc)).1↔x∈met\/(∃r∈rs,x∈yL fs r)\/x∈kK fs acc rs
 | [],met,acc=>by
  show x∈met↔_;constructor
  .exact .inl
  .rintro(h|⟨_,h,_⟩|h)
   .exact h
   .nomatch h
   .nomatch h
 |r::rs,met,acc=>by
  rw[Xg];have ih:=mz (fs:=fs) (x:=x) rs (met++yL fs r++[z5 (acc++zM fs r)]) (z5 (acc++zM fs r));refine ih.trans ?_;show _↔_\/_\/x∈z5 (acc++zM fs r)::kK fs (z5 (acc++zM fs r)) rs;rw[ZL,ZL,ZF,ZD];constructor
  .rintro(((h|h)|h)|⟨s,hs,h⟩|h)
   .exact .inl h
   .exact .inr (.inl ⟨r,Zqs,h⟩)
   .exact .inr (.inr (.inl h))
   .exact .inr (.inl ⟨s,Zqm _ hs,h⟩)
   .exact .inr (.inr (.inr h))
  .rintro(h|⟨s,hs,h⟩|h|h)
   .exact .inl (.inl (.inl h))
   .rcases ZD.mp hs with z|z
    .rw[z] at h;exact .inl (.inl (.inr h))
    .exact .inr (.inl ⟨s,z,h⟩)
   .exact .inl (.inr h)
   .exact .inr (.inr h)
theorem jQ {fs:List (X9)}:∀(rs:X9) (t:X9),md t (rs.map (zM fs))=t::kK fs t rs
 | [],_=>rfl
 |r::rs,t=>by
  show t::md (stF t (zM fs r)) (rs.map (zM fs))=_;rw[jQ rs (stF t (zM fs r))];rfl
theorem qQ {fs:List (X9)}:∀(rs:X9) (met:List (X9)) (acc:X9),(rs.foldl (yu fs) (met,acc)).2=(rs.map (zM fs)).foldl stF acc
 | [],_,_=>rfl
 |r::rs,met,acc=>qQ rs _ _
def way_last {fs:List (X9)}{form:X9}(hn:form ≠ []):∃ys,(form.foldl (yu fs) ([],[])).1=ys++[(form.foldl (yu fs) ([],[])).2]:=by
 rw[<- List.dropLast_concat_getLast hn,Xs];exact⟨_,rfl⟩
section
variable {fs:List (X9)}{form:X9}{most:Int}
def uH (cf:CF fs){r:X8}(hr:RW3 fs r):Cn (zM fs r)/\(zM fs r).length<=64:=by
 obtain⟨⟨h1,h2⟩,h3⟩:=hr;cases r with
 |nil=>exact Zn rfl h1
 |cons p ps=>exact d9 cf h3 (by rw[Zu] at h2;omega)
def put_all (hn:form ≠ [])(hr:∀r∈form,RW3 fs r)(cf:CF fs)(lf:form.length<=100)(m1:0<=most)(m2:most<=60):
 ((∀x∈(form.foldl (yu fs) ([],[])).1,(x.length:Int)<=most)->mD [frD form,.lst (fs.map frD),.int most]=.ok (frD (form.foldl (yu fs) ([],[])).2))/\((∃x∈(form.foldl (yu fs) ([],[])).1,most<(x.length:Int))->mD [frD form,.lst (fs.map frD),.int most]=.ex "TooMany" []):=by
 have rowS:∀r∈form,((∀x∈yL fs r,(x.length:Int)<=most)->kW [rwD r,.lst (fs.map frD),.int most]=.ok (frD (zM fs r)))/\((∃x∈yL fs r,most<(x.length:Int))->kW [rwD r,.lst (fs.map frD),.int most]=.ex "TooMany" []):=λr h=>by
  obtain⟨⟨h1,h2⟩,h3⟩:=hr r h;cases r with
  |nil=>exact Zn rfl h1
  |cons p ps=>exact f_put_row h3 cf (by rw[Zu] at h2;omega) m1 m2
 have fo:gU [.lst ((form.map (zM fs)).map frD),.int most]=ow (foP most (zM fs (form.headD [])) (form.tail.map (zM fs))):=by
  cases form with
  |nil=>exact Zn rfl hn
  |cons r rs=>exact f_first_ofC (uH cf (hr r Zqs)) (λg hg=>by
   obtain⟨s,hs,rfl⟩:=ZE.mp hg;exact uH cf (hr s (Zqm _ hs))) m1 m2 (by rw[Zql];rw[Zu] at lf;omega)
 have mds:md (zM fs (form.headD [])) (form.tail.map (zM fs))=kK fs [] form:=by
  cases form with
  |nil=>exact Zn rfl hn
  |cons r rs =>
   show md (zM fs r) (rs.map (zM fs))=z5 ([]++zM fs r)::kK fs (z5 ([]++zM fs r)) rs;rw[jQ,List.nil_append,(uH cf (hr r Zqs)).1.thin]
 have fold:(form.tail.map (zM fs)).foldl stF (zM fs (form.headD []))=(form.foldl (yu fs) ([],[])).2:=by
  rw[qQ];cases form with
  |nil=>exact Zn rfl hn
  |cons r rs =>
   show _=(rs.map (zM fs)).foldl stF (z5 ([]++zM fs r));rw[List.nil_append,(uH cf (hr r Zqs)).1.thin];rfl
 have hz:=zu (show form.length<=1000 from ());have keyOk:(∀r∈form,∀x∈yL fs r,(x.length:Int)<=most)->sB (.one 0) (zq kW (zb (zf 0) (zb (zf 1) (zb (zf 2) zn)))) [none,some (.val (.lst (fs.map frD))),some (.val (.int most))] (form.map rwD)=.ok ((form.map (zM fs)).map frD):=λh=>by
  rw[Zw];exact xf λr hm=>by
   have:=(rowS r hm).1 (h r hm);simp[this]
 have whole:(∀r∈form,∀x∈yL fs r,(x.length:Int)<=most)->mD [frD form,.lst (fs.map frD),.int most]=ow (foP most (zM fs (form.headD [])) (form.tail.map (zM fs))):=λh=>by
  have key:=keyOk h;generalize (form.map (zM fs)).map frD=ds at key fo;cases q:foP most (zM fs (form.headD [])) (form.tail.map (zM fs)) with
  |none =>
   rw[q] at fo;have fo:gU [.lst ds,.int most]=.ex "TooMany" []:=fo;show _=Res.ex "TooMany" [];simp[mD,dZ,key,hz,fo]
  |some t =>
   rw[q] at fo;have fo:gU [.lst ds,.int most]=.ok (frD t):=fo;show _=Res.ok (frD t);simp[mD,dZ,key,hz,fo]
 constructor
 .intro h;have h:=λx hx=>h x ((mz form [] []).mpr hx);rw[whole λr hm x hx=>h x (.inr (.inl ⟨r,hm,hx⟩)),iD _ _ λx hx=>h x (.inr (.inr (by rw[<- mds];exact hx))),fold];rfl
 .rintro⟨x,hx,lx⟩;by_cases c:∀r∈form,∀x∈yL fs r,(x.length:Int)<=most
  .rcases(mz form [] []).mp hx with z|⟨r,hm,z⟩|z
   .nomatch z
   .have:=c r hm x z;omega
   .rw[whole c,iN _ _ ⟨x,by rw[mds];exact z,lx⟩];rfl
  .have key:sB (.one 0) (zq kW (zb (zf 0) (zb (zf 1) (zb (zf 2) zn)))) [none,some (.val (.lst (fs.map frD))),some (.val (.int most))] (form.map rwD)=.ex "TooMany" []:=by
    have big:∀r∈form,(¬ ∀x∈yL fs r,(x.length:Int)<=most)->(yD (.one 0) (rwD r) [none,some (.val (.lst (fs.map frD))),some (.val (.int most))]).bind (zq kW (zb (zf 0) (zb (zf 1) (zb (zf 2) zn))))=.ex "TooMany" []:=λr hm hh=>by
     have:=(rowS r hm).2 (Classical.byContradiction λz=>hh λx hx=>by
      by_cases q:(x.length:Int)<=most
      .exact q
      .exact Zn ⟨x,hx,()⟩ z)
     simp[this]
    refine jO (λr hm=>?_) (Classical.byContradiction λz=>c λr hm=>Classical.byContradiction λhh=>z ⟨r,hm,big r hm hh⟩);by_cases q:∀x∈yL fs r,(x.length:Int)<=most
    .have:=(rowS r hm).1 q;exact .inl ⟨frD (zM fs r),by simp[this]⟩
    .exact .inr (big r hm q)
   simp[mD,dZ,key,hz]
def nth_comes (hs:Yh){t:Int}(h0:0<=t)(h1:t<(fs.length:Int)):vh (fs.map λf=>zp f hs) t=zp (jC fs t) hs:=by
 unfold vh jC;rw[ZG,ZG,Zv,Zqg ()];rfl
def made_comes (cf:CF fs){r:X8}(hr:RW3 fs r)(hs:Yh):zp (zM fs r) hs=y8 r (fs.map λf=>zp f hs):=by
 have C:=(uH cf hr).1;obtain⟨⟨h1,h2⟩,h3⟩:=hr;cases r with
 |nil=>exact Zn rfl h1
 |cons p ps =>
  have cw:∀g∈wF fs p::ps.map (wF fs),Cn g:=λg hg=>by
   obtain⟨q,hq,rfl⟩:=ZE.mp (show g∈(p::ps).map (wF fs) from hg);exact(dv cf (h3 q hq)).1
  have A:=ip (gs:=ps.map (wF fs)) (ng (cw _ Zqs).rows) λg hg=>(cw g (Zqm _ hg)).rows;rw[(cw _ Zqs).thin] at A;have e:=all_comes (n:=12) (hs:=hs) A C.ne (by simp) λg hg=>⟨(cw g hg).ne,λr hr=>⟨((cw g hg).rows r hr).ne,((cw g hg).rows r hr).once,((cw g hg).rows r hr).bnd⟩⟩;refine e.trans ?_;show uZ (((p::ps).map (wF fs)).map λf=>zp f hs)=uZ ((p::ps).map λq=>vh (fs.map λf=>zp f hs) q.1+q.2);rw[Zw];refine Zt uZ (XD λq hq=>?_);obtain⟨c,_⟩:=cf _ (vR (h3 q hq).1 (h3 q hq).2);show zp (yJ (jC fs q.1) q.2) hs=_;rw[comes_shift c.ne λr hr=>(c.rows r hr).ne,nth_comes hs (h3 q hq).1 (h3 q hq).2]
def st_comes {a b:X9}(A:Cn a)(B:Cn b)(hs:Yh):Cn (stF a b)/\zp (stF a b) hs<=zp a hs/\zp (stF a b) hs<=zp b hs/\(zp (stF a b) hs=zp a hs\/zp (stF a b) hs=zp b hs):=by
 have rows:∀r∈a++b,JRow r:=λr hr=>(ZL.mp hr).elim (A.rows r) (B.rows r);have ne:a++b ≠ []:=λz=>A.ne (List.append_eq_nil_iff.mp z).1;refine⟨jU rows ne,?_⟩;unfold stF;rw[thin_comes ne λr hr=>⟨(rows r hr).ne,(rows r hr).once,(rows r hr).rise⟩];exact comes_app A.ne B.ne
theorem tK (hs:Yh):∀(gs:List (X9)) (t:X9),Cn t->(∀g∈gs,Cn g)->Cn (gs.foldl stF t)/\(zp (gs.foldl stF t) hs=zp t hs\/∃g∈gs,zp (gs.foldl stF t) hs=zp g hs)/\zp (gs.foldl stF t) hs<=zp t hs/\∀g∈gs,zp (gs.foldl stF t) hs<=zp g hs
 | [],t,T,_=>⟨T,.inl rfl,Int.le_refl _,λ_ h=>nomatch h⟩
 |g::gs,t,T,G=>by
  obtain⟨s1,s2,s3,s4⟩:=st_comes T (G g Zqs) hs;obtain⟨c,i1,i2,i3⟩:=tK hs gs (stF t g) s1 λx hx=>G x (Zqm _ hx);rw[Xg];refine⟨c,?_,(),λx hx=>?_⟩
  .rcases i1 with z|⟨x,hx,z⟩
   .rcases s4 with y|y
    .exact .inl (z.trans y)
    .exact .inr ⟨g,Zqs,z.trans y⟩
   .exact .inr ⟨x,Zqm _ hx,z⟩
  .rcases ZD.mp hx with z|z
   .rw[z];omega
   .exact i3 x z
def way_comes (hn:form ≠ [])(hr:∀r∈form,RW3 fs r)(cf:CF fs)(hs:Yh):
 Cn (form.foldl (yu fs) ([],[])).2/\zp (form.foldl (yu fs) ([],[])).2 hs=zp form (fs.map λf=>zp f hs):=by
 rw[qQ];cases form with
 |nil=>exact Zn rfl hn
 |cons r rs =>
  show Cn ((rs.map (zM fs)).foldl stF (z5 ([]++zM fs r)))/\zp ((rs.map (zM fs)).foldl stF (z5 ([]++zM fs r))) hs=_;have M:=λs hm=>(uH cf (hr s hm)).1;have E:=λs hm=>made_comes cf (hr s hm) hs;rw[List.nil_append,(M r Zqs).thin];obtain⟨c,i1,i2,i3⟩:=tK hs (rs.map (zM fs)) (zM fs r) (M r Zqs) λg hg=>by
   obtain⟨s,h,rfl⟩:=ZE.mp hg;exact M s (Zqm _ h)
  refine⟨c,nQ ?_ ?_⟩
  .rcases i1 with z|⟨g,hg,z⟩
   .exact ZE.mpr ⟨r,Zqs,by rw[z,E r Zqs]⟩
   .obtain⟨s,h,rfl⟩:=ZE.mp hg;exact ZE.mpr ⟨s,Zqm _ h,by rw[z,E s (Zqm _ h)]⟩
  .intro y hy;obtain⟨s,h,rfl⟩:=ZE.mp hy;rw[<- E s h];rcases ZD.mp h with z|z
   .rw[z];exact i2
   .exact i3 _ (ZE.mpr ⟨s,z,rfl⟩)
end
def rise_len {n:Int}(h0:0<=n){r:X8}(h:w5 r)(bnd:∀p∈r,0<=p.1/\p.1<n):(r.length:Int)<=n:=by
 have up:(r.map (·.1)).Pairwise (· < ·):=h;have key:∀(l:Yh) (a:Int),l.Pairwise (· < ·)->(∀x∈l,a<=x/\x<n)->(l.length:Int)<=max 0 (n-a):=by
  intro l
  induction l with
  |nil=>intro a _ _;simp;omega
  |cons x l ih =>
   intro a hp hb;rw[Z5] at hp;have h1:=hb x Zqs;have:=ih (x+1) hp.2 λy hy=>⟨by have:=hp.1 y hy;omega,(hb y (Zqm _ hy)).2⟩;rw[Zu];omega
 have:=key _ 0 up λx hx=>by
  obtain⟨p,hp,rfl⟩:=ZE.mp hx;exact bnd p hp
 rw[Zql] at this;omega
def good_take {n:Int}{f:X9}(G:Good n f):Good n (f.take 4):=⟨λz=>G.ne (by
 cases f with
 |nil=>rfl
 |cons r rs=>(first|exact zqn z|exact zqb z|(obtain rfl:=Zqi z)|cases z)),λr hr=>G.rows r (Xv hr),λr hr=>G.rise r (Xv hr),by have:=G.len;rw[ZV];omega,λr hr s hs=>G.anti r (Xv hr) s (Xv hs),G.srt.sublist (List.take_sublist 4 f)⟩
def rY {n:Int}{cs:Yh}{many:Int}(n1:1<=n)(n2:n<=12)(hc:cs.length<=15)(k:Nat):Good n (rC n k (z5 (zW (xr n cs) (some (k:Int)) none (some many))))/\(rC n k (z5 (zW (xr n cs) (some (k:Int)) none (some many)))).length<=max 1 cs.length:=by
 have a:=p7 (xr n cs) (some (k:Int)) none (some many);have bl:=sR n cs;have F:=formB_fm (n:=n) (k:=k) (U:=xr n cs++[[((k:Int) % n,(0:Int))]]) (rs:=zW (xr n cs) (some (k:Int)) none (some many)) n1 (λr hr=>qV n1 n2 cs r (tq hr)) (λr hr=>listB_rise n cs r (tq hr)) () (λr hr=>ZY _ (tq hr)) (ZK _ Zqs);refine⟨F.good,?_⟩;unfold rC
 split
 .rw[ZT];omega
 .have:=wR (zW (xr n cs) (some (k:Int)) none (some many));omega
theorem jZ {fs:List (X9)}:∀{rs:X9} {met:List (X9)} {acc:X9},(∀r∈rs,RW3 fs r)->(rs.foldl (yu fs) (met,acc)).1.length<=met.length+4*rs.length
 | [],met,acc,_=>Zf _
 |r::rs,met,acc,hr=>by
  have ih:=jZ (rs:=rs) (met:=met++yL fs r++[z5 (acc++zM fs r)]) (acc:=z5 (acc++zM fs r)) λs hs=>hr s (Zqm _ hs);have l:(yL fs r).length<=3:=by
   obtain⟨⟨h1,h2⟩,_⟩:=hr r Zqs;cases r with
   |nil=>exact Nat.zero_le _
   |cons p ps =>
    show(mdJ (wF fs p) (ps.map (wF fs))).length<=3;rw[pH,Zql];rw[Zu] at h2;omega
  rw[Xg,Zu];refine Zh ih ?_;rw[ZC,ZC,ZT];omega
theorem ke {P:X8->Prop}:∀(gs:List (X9)) (t:X9),(∀r∈t,P r)->(∀g∈gs,∀r∈g,P r)->∀r∈gs.foldl stF t,P r
 | [],_,h,_=>h
 |g::gs,t,h,k=>ke gs (stF t g) (λr hr=>(ZL.mp (zm.mp hr).1).elim (h r) (k g Zqs r)) λx hx=>k x (Zqm _ hx)
def way_fst {o:Int}{fs:List (X9)}{form:X9}(hr:∀r∈form,RW3 fs r)(cf:CF fs)(hb:∀f∈fs,∀r∈f,∀p∈r,p.1<o):∀r∈(form.foldl (yu fs) ([],[])).2,∀p∈r,p.1<o:=by
 rw[qQ];refine ke (P:=λr=>∀p∈r,p.1<o) _ _ (λr h=>nomatch h) λg hg=>?_;obtain⟨r,h,rfl⟩:=ZE.mp hg;obtain⟨⟨h1,_⟩,h3⟩:=hr r h;have w:∀q∈r,∀s∈wF fs q,JRow s/\∀p∈s,p.1<o:=λq hq s hs=>by
  refine⟨(dv cf (h3 q hq)).1.rows s hs,λp hp=>?_⟩;obtain⟨s0,k0,rfl⟩:=ZE.mp hs;obtain⟨p0,k1,rfl⟩:=ZE.mp hp;exact hb _ (vR (h3 q hq).1 (h3 q hq).2) s0 k0 p0 k1
 cases r with
 |nil=>exact Zn rfl h1
 |cons p ps =>
  refine lL (ps.map (wF fs)) (wF fs p) (w p Zqs) λx hx=>?_;obtain⟨q,hq,rfl⟩:=ZE.mp hx;exact w q (Zqm _ hq)
def sqR {g1 g2:FS}{sd:SD}{d:D}(h:g1 sd=.ok (.ret d)):zK g1 g2 sd=.ok (.ret d):=by
 rw[ez,h];rfl
def law_true (ns:Yh)(h:ns.length<=63):pS [.scr ns]=.ok (.bl true):=by
 have fc0:vy [.scr ns,.int 0]=.ok (.int (xQ ns 0)):=fm ns 0;have fc1:vy [.scr ns,.int 1]=.ok (.int (xQ ns 1)):=fm ns 1;have fc2:vy [.scr ns,.int 2]=.ok (.int (xQ ns 2)):=fm ns 2;obtain⟨n,hn,n1,n2⟩:∃n:Int,2+xQ ns 0 % 2=n/\2<=n/\n<=3:=⟨_,rfl,(),()⟩;obtain⟨o,ho,o1,o2⟩:∃o:Int,atI [D.int 2,D.int 3,D.int 4,D.int 12] (xQ ns 1 % 4)=some (.int o)/\1<=o/\o<=12:=by
  have:xQ ns 1 % 4=0\/xQ ns 1 % 4=1\/xQ ns 1 % 4=2\/xQ ns 1 % 4=3:=()
  rcases this with z|z|z|z
  .exact⟨2,by rw[z];rfl,(),()⟩
  .exact⟨3,by rw[z];rfl,(),()⟩
  .exact⟨4,by rw[z];rfl,(),()⟩
  .exact⟨12,by rw[z];rfl,(),()⟩
 obtain⟨b,hb,b1,b2⟩:∃b:Int,atI [D.int 60,D.int 8] (xQ ns 2 % 2)=some (.int b)/\1<=b/\b<=60:=by
  have:xQ ns 2 % 2=0\/xQ ns 2 % 2=1:=()
  rcases this with z|z
  .exact⟨60,by rw[z];rfl,(),()⟩
  .exact⟨8,by rw[z];rfl,(),()⟩
 have gm:r9 (.int (xQ ns 2 / 2)) (.int b)=some (.int (xQ ns 2 / 2 % b)):=mE ();obtain⟨most,hmost,q1,q2⟩:∃q:Int,1+xQ ns 2 / 2 % b=q/\1<=q/\q<=60:=⟨_,rfl,by have:=Int.emod_nonneg (xQ ns 2 / 2) (show b≠0 from ());omega,by have:=Int.emod_lt_of_pos (xQ ns 2 / 2) (show 0<b from ());omega⟩;obtain⟨cs,hcs,ftu⟩:=uQ h (a:=3) (most:=5) () () () ();obtain⟨cs2,hcs2,ftu2⟩:=uQ h (a:=4) (most:=15) () () () ();have ff:=cx (cs:=cs) (many:=1) (n:=n) () () () () ();have ff2:=cx (cs:=cs2) (many:=n+1) (n:=o) o1 o2 () () ();have e1:xL n 1 (xr n cs) (1:Int).toNat=[rC n 0 (z5 (zW (xr n cs) (some ((0:Nat):Int)) none (some 1)))]:=rfl;rw[e1] at ff;obtain⟨G,lG⟩:=rY (n:=n) (cs:=cs) (many:=1) () () () 0;generalize rC n 0 (z5 (zW (xr n cs) (some ((0:Nat):Int)) none (some 1)))=form at ff G lG;have gd:∀f∈xL o (n+1) (xr o cs2) (n+1).toNat,Good o f:=λf hf=>by
  obtain⟨k,hk,rfl⟩:=ZE.mp hf;exact(rY o1 o2 () k).1
 have lF:((xL o (n+1) (xr o cs2) (n+1).toNat).length:Int)=n+1:=by unfold xL;rw[Zql,ZA];omega
 generalize xL o (n+1) (xr o cs2) (n+1).toNat=fs0 at ff2 gd lF;have cut:sB (.one 0) (dSl (zf 0) yM (v9 (dC (.int 4))) yM) [none] (fs0.map frD)=.ok ((fs0.map (·.take 4)).map frD):=by
  rw[Zw];exact xf λf hf=>by
   have e:gSl (frD f) none (some 4) none=some (frD (f.take 4)):=by
    show some (D.lst (zW (f.map rwD) none (some 4) none))=some (D.lst ((f.take 4).map rwD));rw[pick_upto _ (),List.map_take];rfl
   simp[e]
 have lz0:(fs0.map frD).length<sizeLine:=zu (by rw[Zql];omega);obtain⟨fs,hfs⟩:∃fs,fs0.map (·.take 4)=fs:=⟨_,rfl⟩;rw[hfs] at cut;have gt:∀f∈fs,Good o f/\f.length<=4:=λf hf=>by
  rw[<- hfs] at hf;obtain⟨g,hg,rfl⟩:=ZE.mp hf;exact⟨good_take (gd g hg),List.length_take_le 4 g⟩
 have lfs:(fs.length:Int)=n+1:=by rw[<- hfs,Zql];exact lF
 have cf:∀f∈fs,Cn f/\f.length<=4:=λf hf=>⟨cn_of o2 (gt f hf).1,(gt f hf).2⟩;have hr:∀r∈form,RW3 fs r:=λr hr=>by
  have m:=(G.rows r hr).mem;have l:=rise_len (show 0<=n from ()) (G.rise r hr) m;exact⟨⟨(G.rows r hr).ne,()⟩,λp hp=>by have:=m p hp;omega⟩
 have l5:form.length<=5:=()
 have fway:=f_z30 (form:=form) hr cf l5;obtain⟨PY,PN⟩:=put_all (most:=most) G.ne hr cf () () q2;have WC:=way_comes G.ne hr cf;obtain⟨ys,ey⟩:=way_last (fs:=fs) G.ne;have ml:=jZ (met:=[]) (acc:=[]) hr;have lf:∀r∈(form.foldl (yu fs) ([],[])).2,∀p∈r,p.1<o:=way_fst hr cf λf hf r hr p hp=>(((gt f hf).1.rows r hr).mem p hp).2;generalize hst:form.foldl (yu fs) ([],[])=st at *;obtain⟨met,last⟩:=st;have ey:met=ys++[last]:=ey;have ml:met.length<=0+4*form.length:=ml;have lf:∀r∈last,∀p∈r,p.1<o:=lf;have WC:∀hs,Cn last/\zp last hs=zp form (fs.map λf=>zp f hs):=WC;have PY:(∀x∈met,(x.length:Int)<=most)->mD [frD form,.lst (fs.map frD),.int most]=.ok (frD last):=PY;have PN:(∃x∈met,most<(x.length:Int))->mD [frD form,.lst (fs.map frD),.int most]=.ex "TooMany" []:=PN;have fway:kQ [frD form,.lst (fs.map frD)]=.ok (.lst (met.map frD)):=fway;clear hst;have C:=(WC []).1;have ll:gIx (.lst (met.map frD)) (.int (-1))=some (frD last):=by rw[ey];exact neg_last ys _
 have lin:last∈met:=by rw[ey];exact ZK _ Zqs
 have lenE:sB (.one 0) (xB mH (zb (zf 0) zn)) [none] (met.map frD)=.ok ((met.map λx=>(x.length:Int)).map .int):=by
  rw[Zw];exact xf λx _=>by simp
 have mxne:(met.map λx=>(x.length:Int)) ≠ []:=λz=>by
  rw[ZW.mp z] at lin
  nomatch lin
 have mx:=qv mxne;obtain⟨x1,x2⟩:=yV mxne;have lz5:(met.map frD).length<sizeLine:=zu (by rw[Zql];omega);have lz4:(fs.map frD).length<sizeLine:=zu (by rw[Zql];omega);have copy:sB (.one 0) (xB kJ (zb (zf 0) zn)) [none] (fs.map frD)=.ok (fs.map frD):=xf λx _=>by simp
 have pl:plN 12 (.lst [frD form,.lst (fs.map frD)])=true:=by
  show([frD form,.lst (fs.map frD)]:YD).all (plN 11)=true;rw[Xw,Xw,List.all_nil,mG 7,show plN 11 (.lst (fs.map frD))=true from pl_rd 6 fs];rfl
 have same:gEq (.lst [frD form,.lst (fs.map frD)]) (.lst [frD form,.lst (fs.map frD)])=some (.bl true):=by rw[wO pl pl,zS]
 have nsame:gNe (.lst [frD form,.lst (fs.map frD)]) (.lst [frD form,.lst (fs.map frD)])=some (.bl false):=by
  rw[si pl pl,zS];rfl
 have memb:∀v∈met.map (λx=>(x.length:Int)),∃x∈met,(x.length:Int)=v:=λv hv=>ZE.mp hv;have memb2:∀x∈met,(x.length:Int)∈met.map (λx=>(x.length:Int)):=λx hx=>ZE.mpr ⟨x,hx,rfl⟩;have ctx:∀hs:Yh,hs.length=o.toNat->last.length<=60->∃v,uI [frD last,.lst (hs.map .int)]=.ok (.int v)/\sB (.one 0) (zq uI (zb (zf 0) (zb (zf 1) zn))) [none,some (.val (.lst (hs.map .int)))] (fs.map frD)=.ok ((fs.map λx=>zp x hs).map .int)/\uI [frD form,.lst ((fs.map λx=>zp x hs).map .int)]=.ok (.int v):=λhs lh l60=>by
  refine⟨zp last hs,dk C.ne () (λr hr=>(C.rows r hr).ne) (λr hr p hp=>by have:=(C.rows r hr).bnd p hp;have:=lf r hr p hp;omega),?_,?_⟩
  .rw[Zw];exact xf λx hx=>by
    have G:=(gt x hx).1;have:=dk (f:=x) (hs:=hs) G.ne (by have:=G.len;omega) (λr hr=>(G.rows r hr).ne) λr hr p hp=>by
     have:=(G.rows r hr).mem p hp;omega
    simp[this]
  .rw[(WC hs).2];exact dk G.ne () (λr hr=>(G.rows r hr).ne) λr hm p hp=>by
    rw[Zql];exact(hr r hm).2 p hp
 have isf:=f_z26 (f:=last) C.ne λr hr=>(C.rows r hr).ne;have nfr:=gNe_fr last last;rw[show(!decide (last=last))=false by simp] at nfr;have efr:=gEq_fr last last;rw[show decide (last=last)=true by simp] at efr;have l60:(∀x∈met,(x.length:Int)<=most)->last.length<=60:=λk=>by have:=k last lin;omega
 have a0:atI [frD form,D.lst (fs.map frD)] 0=some (frD form):=rfl;have a1:atI [frD form,D.lst (fs.map frD)] 1=some (.lst (fs.map frD)):=rfl;have a9:atI [frD form] 0=some (frD form):=rfl;generalize met.map (λx=>(x.length:Int))=ms at *;generalize met.map frD=ds at *;generalize fs0.map frD=d0 at *;have run:∀{r:Res Out} {d:D},r=.ok (.ret d)->jH [some (.val (.scr ns)),none,none,none,none,none,none,none,none,none,none,none]=r->pS [.scr ns]=.ok d:=λe1 e2=>by
  rw[e1] at e2;simp[pS,e2]
 generalize hpd:fs.map frD=pd at *;refine run rfl ?_;unfold jH;refine sq (by simp[fc0,hn];rfl) ?_;refine sq (by simp[fc1,ho];rfl) ?_;refine sq (by simp[fc2,hb,gm,hmost];rfl) ?_;refine sq (by simp[ftu,ff,a9];rfl) ?_;refine sq (by simp[ftu2,ff2];rfl) ?_;refine sq (by simp[cut,lz0];rfl) ?_;refine sq (by simp[fway];rfl) ?_;refine sq (by simp[lz4,copy];rfl) ?_;by_cases c:most<uZ ms
 .obtain⟨x,hx,ex⟩:=memb _ x1;have fa:=PN ⟨x,hx,()⟩;have r1:=f_z31 fa;refine sqR ?_;simp[lz5,lenE,mx,c,a0,a1,r1,same]
 .have all:∀x∈met,(x.length:Int)<=most:=λx hx=>by
   have:=x2 _ (memb2 x hx);omega
  have fa:=PY all;have fsz:=l60 all;refine sq (by simp[lz5,lenE,mx,c];rfl) ?_;refine sq (by simp[a0,a1,fa];rfl) ?_;refine sq (by
   simp[isf];simp at ll nfr;simp[ll,nfr,nsame,pI];rfl) ?_
  obtain⟨sd1,e1,u8,u9,u10,hsd1⟩:=yG (tg:=.one 9) (b:=(zK (xo 10 (zq k7 (zb (dOp ww (zq vy (zb (zf 0) (zb (dOp ww (dC (.int 3)) (zf 9)) zn))) (zf 9)) (zb (zf 2) zn)))) (zK (xo 11 (xt [none,some 10] (iS (zf 5)) (.one 0) (zq uI (zb (zf 0) (zb (zf 1) zn))))) (sIf (z4 (dOp gNe (gD [8] (zq uI (zb (zf 8) (zb (zf 10) zn)))) (zq uI (zb (zf 4) (zb (zf 11) zn))))) (xG (dC (.bl false))) yI)))) (ds:=yc 0 3)
   (sd:=[some (.val (.scr ns)),some (.val (.int n)),some (.val (.int o)),some (.val (.int most)),some (.val (frD form)),some (.val (.lst pd)),some (.val (.lst ds)),some (.val (.lst [frD form,.lst pd])),some (.own false (frD last)),none,none,none])
   (P:=λ_ sd=>∃u8 u9 u10:Option SV,sd=[some (.val (.scr ns)),some (.val (.int n)),some (.val (.int o)),some (.val (.int most)),some (.val (frD form)),some (.val (.lst pd)),some (.val (.lst ds)),some (.val (.lst [frD form,.lst pd])),some (.own false (frD last)),u8,u9,u10]) ⟨none,none,none,rfl⟩ (by
    rintro i x sd hx ⟨u8,u9,u10,rfl⟩;obtain⟨rfl,hi⟩:=vQ hx;have fc:vy [.scr ns,.int (3+(i:Int))]=.ok (.int (xQ ns (3+i:Nat))):=by rw[<- fm ns (3+i)];congr 3
    obtain⟨w,hw⟩:∃w,xQ ns (3+i:Nat)+(i:Int)=w:=⟨_,rfl⟩;have fh:=f_z25 (c:=w) (n:=o) () o2;obtain⟨v,w1,w2,w3⟩:=ctx (re w o.toNat) (by unfold re;rw[Zql,ZA]) fsz;generalize (re w o.toNat).map D.int=hh at fh w1 w2;generalize (fs.map λx=>zp x (re w o.toNat)).map D.int=mm at w2 w3;refine⟨[some (.val (.scr ns)),some (.val (.int n)),some (.val (.int o)),some (.val (.int most)),some (.val (frD form)),some (.val (.lst pd)),some (.val (.lst ds)),some (.val (.lst [frD form,.lst pd])),some (.own false (frD last)),some (.val (.int (i:Int))),some (.val (.lst hh)),some (.val (.lst mm))],?_,_,_,_,rfl⟩;simp at fc hw;simp[fc,hw,fh,w1,w2,w3,lz4,pI])
  subst hsd1;have r4:wM [.int 3]=.ok (yc 0 3):=xc () ();have fz:last.length<sizeLine:=zu ();refine sq (by simp[r4];exact e1) ?_;have ol:dR (some (some (.own false (frD last))))=.ok (last.map rwD):=rfl;refine sq (by simp[fz,ol];rfl) ?_;simp at ll;simp[a0,a1,fa,ll,efr,same,pI]
end My
namespace My
open PySem L2 L2.DL
noncomputable def top (i:Nat):Stmt:=PySem.Challenge.pw_allfirst_k10_forms_put_in.main.body.getD i (.Pass ⟨0,0,0,0⟩)
structure Mg (mg:Ye):Prop where
 bool_:mg "bool" = none
 dict_:mg "dict" = none
 int_:mg "int" = none
 isinstance_:mg "isinstance" = none
 len_:mg "len" = none
 list_:mg "list" = none
 max_:mg "max" = none
 min_:mg "min" = none
 range_:mg "range" = none
 set_:mg "set" = none
 sorted_:mg "sorted" = none
 sum_:mg "sum" = none
 tuple_:mg "tuple" = none
section
variable {P:Program}{w:World}{K:W.Frag}{mg:Ye}{base:Heap}{f:Addr}{fd:FuncData}
abbrev eN:Stmt:=top 19
def sc_z13:FnScope ["script", "k"] ["script", "k"] (zj eN):=y9
def ok_z13 {k:Nat}(F:Fun K "_law_cell_at" "_law_cell_at" eN f fd)(m:Mg mg)  : FnOk P w K mg base CX0 (k+1) f fd ["script", "k"] (SpD K vy):=by
 have sc:=sc_z13;refine n9 (N:=["script", "k"]) (ps:=["script", "k"]) (g:=ig) F sc λcdv A outer s H E hr=>?_;unfold ig;exact(ze (xi (zZ o_lt (zc (pv 1)) (yh (x:= "len") mt rfl m.len_ sX (za (zc (pv 0)) zd)) (zQ _)) (zg (zP (yz (yj hr) (zc (pv 0)) (zc (pv 1)) (λ_ _=>rfl) (λ_ _=>rfl)))) zJ) (zg (zP zi)))
abbrev dM:Stmt:=top 29
def sc_z23:FnScope ["row", "hours", "late", "thing", "wait"] ["row", "hours"] (zj dM):=y9
def ok_z23 {k:Nat}(F:Fun K "_law_done" "_law_done" dM f fd)(m:Mg mg)  : FnOk P w K mg base CX0 (k+1) f fd ["row", "hours"] (SpD K kH):=by
 have sc:=sc_z23;refine n9 (N:=["row", "hours", "late", "thing", "wait"]) (ps:=["row", "hours"]) (g:=gi) F sc λcdv A outer s H E hr=>?_;unfold gi;exact(ze (zO (i:=2) sc.nd rfl (.inl rfl) qc_non) (ze (yC PassesOwn.never rfl (zH (zc (pv 0))) (tZ [3,4] (sQ rfl (yq (zE (i:=3) sc.nd rfl (.inl rfl)) (yq (zE (i:=4) sc.nd rfl (.inl rfl)) v8)))) (zg (xi (QW.qt (rG (qt_isN (zc (pv 2))) (tJ (zZ eu (yY xE (yz (yj hr) (zc (pv 1)) (zc (pv 3)) (λ_ _=>rfl) (λ_ _=>rfl)) (zc (pv 4))) (zc (pv 2)) (zQ _))))) (zg (zO (i:=2) sc.nd rfl (.inl rfl) (yY xE (yz (yj hr) (zc (pv 1)) (zc (pv 3)) (λ_ _=>rfl) (λ_ _=>rfl)) (zc (pv 4))))) zJ))) (zg (zP (zc (pv 2))))))
abbrev eX:Stmt:=top 30
def sc_z24:FnScope ["form", "hours"] ["form", "hours"] (zj eX):=y9
def ok_z24 {k:Nat}(F:Fun K "_law_comes" "_law_comes" eX f fd)(m:Mg mg)(c_z23:z7 P w K mg base "_law_done" k ["row", "hours"] (SpD K kH)):FnOk P w K mg base CX0 (k+1) f fd ["form", "hours"] (SpD K uI):=by
 have sc:=sc_z24;refine n9 (N:=["form", "hours"]) (ps:=["form", "hours"]) (g:=gR) F sc λcdv A outer s H E hr=>?_;unfold gR;exact(zg (zP (yh (x:= "min") (b_minL rfl) rfl m.min_ fD (za (QN.qe (wD ["row", "hours"] [none,some 1] rfl rfl (zH (zc (pv 0))) (λ_ _ _ _ _=>(zG (pgn 0 (xD ["row", "hours"])))) (λ_ _ _ _ _=>(vi c_z23 hr rfl (za (zc (pv 0)) (za (zc (pv 1)) zd)))))) zd))))
abbrev eM:Stmt:=top 20
def sc_z14:FnScope ["cell", "salt", "mixed"] ["cell", "salt"] (zj eM):=y9
def ok_z14 {k:Nat}(F:Fun K "_law_mixed" "_law_mixed" eM f fd)(m:Mg mg)  : FnOk P w K mg base CX0 (k+1) f fd ["cell", "salt"] (SpD K pF):=by
 have sc:=sc_z14;refine n9 (N:=["cell", "salt", "mixed"]) (ps:=["cell", "salt"]) (g:=gW) F sc λcdv A outer s H E hr=>?_;unfold gW;exact(ze (zO (i:=2) sc.nd rfl (.inl rfl) (yY wu (yY eP (yY xE (yY wu (zc (pv 0)) zi) (zc (pv 1))) zi) zi)) (zg (zP (yY wu (yY eP (zc (pv 2)) (zc (pv 2))) zi))))
abbrev dA:Stmt:=top 22
def sc_z16:FnScope ["cell", "salt", "mixed", "size"] ["cell", "salt"] (zj dA):=y9
def ok_z16 {k:Nat}(F:Fun K "_law_number" "_law_number" dA f fd)(m:Mg mg)(c_z14:z7 P w K mg base "_law_mixed" k ["cell", "salt"] (SpD K pF)):FnOk P w K mg base CX0 (k+1) f fd ["cell", "salt"] (SpD K uj):=by
 have sc:=sc_z16;refine n9 (N:=["cell", "salt", "mixed", "size"]) (ps:=["cell", "salt"]) (g:=kP) F sc λcdv A outer s H E hr=>?_;unfold kP;exact(ze (zO (i:=2) sc.nd rfl (.inl rfl) (vi c_z14 hr rfl (za (zc (pv 0)) (za (zc (pv 1)) zd)))) (ze (xi (zZ eu (yY wu (zc (pv 2)) zi) zi (zQ _)) (zg (zP (yY cu (yY wu (yY uV (zc (pv 2)) zi) zi) zi))) zJ) (ze (zO (i:=3) sc.nd rfl (.inl rfl) (yY wu (yY eP (yY uV (zc (pv 0)) zi) (yY xE (zc (pv 1)) zi)) (yY o_pow zi zi))) (ze (xi (zZ (ku hr.units) (yY wu (yY uV (zc (pv 2)) zi) zi) zi (zQ _)) (zg (zP (zc (pv 3)))) zJ) (zg (zP (cT gr (zc (pv 3)))))))))
abbrev da:Stmt:=top 23
def sc_z17:FnScope ["cell", "things", "mask", "row", "thing"] ["cell", "things"] (zj da):=y9
def ok_z17 {k:Nat}(F:Fun K "_law_row" "_law_row" da f fd)(m:Mg mg)(c_z14:z7 P w K mg base "_law_mixed" k ["cell", "salt"] (SpD K pF))(c_z16:z7 P w K mg base "_law_number" k ["cell", "salt"] (SpD K uj)):FnOk P w K mg base CX0 (k+1) f fd ["cell", "things"] (SpD K jz):=by
 have sc:=sc_z17;refine n9 (N:=["cell", "things", "mask", "row", "thing"]) (ps:=["cell", "things"]) (g:=gF) F sc λcdv A outer s H E hr=>?_;unfold gF;exact(ze (zO (i:=2) sc.nd rfl (.inl rfl) (vi c_z14 hr rfl (za (zc (pv 0)) (za zi zd)))) (ze (x8 (i:=3) sc.nd rfl (.inl rfl) (xm zd)) (ze (yC PassesOwn.never rfl (x9 rfl m.range_ (za (zc (pv 1)) zd)) (zG (zE (i:=4) sc.nd rfl (.inl rfl))) (ze (xi (zZ (ku hr.units) (yY wu (zc (pv 2)) zi) zi (zQ _)) (zg (zT (pv 3) (uX (za (zc (pv 4)) (za (vi c_z16 hr rfl (za (zc (pv 0)) (za (yY xE zi (zc (pv 4))) zd))) zd))) (λh1 h2=>vm Yv Yw Yx zV h1 h2))) zJ) (zg (zO (i:=2) sc.nd rfl (.inl rfl) (yY uV (zc (pv 2)) zi))))) (ze (xi (oh [3] (zZ (ku hr.units) (zc (pv 3)) (QN.qe (xm zd)) (zQ _))) (zg (zT (pv 3) (uX (za (yY wu (zc (pv 0)) (zc (pv 1))) (za (vi c_z16 hr rfl (za (zc (pv 0)) (za zi zd))) zd))) (λh1 h2=>vm Yv Yw Yx zV h1 h2))) zJ) (zg (sK [3] (zP (wS (x:= "tuple") um rfl m.tuple_ xK (za (zc (pv 3)) zd)))))))))
abbrev dj:Stmt:=top 24
def sc_z18:FnScope ["row", "cell", "things", "waits", "other", "thing", "mixed"] ["row", "cell", "things"] (zj dj):=y9
def ok_z18 {k:Nat}(F:Fun K "_law_varied" "_law_varied" dj f fd)(m:Mg mg)(c_z14:z7 P w K mg base "_law_mixed" k ["cell", "salt"] (SpD K pF))(c_z16:z7 P w K mg base "_law_number" k ["cell", "salt"] (SpD K uj)):FnOk P w K mg base CX0 (k+1) f fd ["row", "cell", "things"] (SpD K ic):=by
 have sc:=sc_z18;refine n9 (N:=["row", "cell", "things", "waits", "other", "thing", "mixed"]) (ps:=["row", "cell", "things"]) (g:=gk) F sc λcdv A outer s H E hr=>?_;unfold gk
 exact(ze (zO (i:=3) sc.nd rfl (.inl rfl) (QN.qe (xX (x:= "dict") (lC rfl) rfl m.dict_ qE (za (zc (pv 0)) zd)))) (ze (x8 (i:=4) sc.nd rfl (.inl rfl) (xm zd)) (ze (yC PassesOwn.never rfl (x9 rfl m.range_ (za (zc (pv 2)) zd)) (zG (zE (i:=5) sc.nd rfl (.inl rfl))) (ze (zO (i:=6) sc.nd rfl (.inl rfl) (vi c_z14 hr rfl (za (zc (pv 1)) (za (yY xE zi (zc (pv 5))) zd)))) (ze (xi (QW.qt (nc (qt_in hr.units (zc (pv 5)) (zc (pv 3))) (tW (zZ eu (yY wu (zc (pv 6)) zi) zi (zQ _))))) (zg (zT (pv 4) (uX (za (zc (pv 5)) (za (yY xE (yz (yj hr) (zc (pv 3)) (zc (pv 5)) (λ_ _=>rfl) (λ_ _=>rfl)) (yz (yj hr) (QN.qe (xm (za zi (za zi (za zi (za (cT gr zi) zd)))))) (yY wu (yY uV (zc (pv 6)) zi) zi) (λ_ _=>rfl) (λ_ _=>rfl))) zd))) (λh1 h2=>vm Yv Yw Yx zV h1 h2))) zJ) (zg (xi (QW.qt (nc (t8 hr.units (zc (pv 5)) (zc (pv 3))) (tW (zZ (ku hr.units) (yY wu (zc (pv 6)) zi) zi (zQ _))))) (zg (zT (pv 4) (uX (za (zc (pv 5)) (za (vi c_z16 hr rfl (za (zc (pv 1)) (za (yY xE zi (zc (pv 5))) zd))) zd))) (λh1 h2=>vm Yv Yw Yx zV h1 h2))) zJ))))) (ze (xi (oh [4] (zZ (ku hr.units) (zc (pv 4)) (QN.qe (xm zd)) (zQ _))) (zg (zP (zc (pv 0)))) zJ) (zg (sK [4] (zP (wS (x:= "tuple") um rfl m.tuple_ xK (za (zc (pv 4)) zd)))))))))
abbrev eG:Stmt:=top 25
def sc_z19:FnScope ["cells", "things", "rows", "cell"] ["cells", "things"] (zj eG):=y9
def ok_z19 {k:Nat}(F:Fun K "_law_list" "_law_list" eG f fd)(m:Mg mg)(c_z17:z7 P w K mg base "_law_row" k ["cell", "things"] (SpD K jz))(c_z18:z7 P w K mg base "_law_varied" k ["row", "cell", "things"] (SpD K ic)):FnOk P w K mg base CX0 (k+1) f fd ["cells", "things"] (SpN K jX):=by
 have sc:=sc_z19;refine jV (N:=["cells", "things", "rows", "cell"]) (ps:=["cells", "things"]) (g:=gE) F sc λcdv A outer s H E hr=>?_;unfold gE;exact(ze (x8 (i:=2) sc.nd rfl (.inl rfl) (xm zd)) (ze (yC PassesOwn.never rfl (zH (zc (pv 0))) (zG (zE (i:=3) sc.nd rfl (.inl rfl))) (zg (xi (QW.qt (nc (oh [2] (zZ (dm hr.units) (zc (pv 2)) (QN.qe (xm zd)) (zQ _))) (tW (zZ eu (yY wu (zc (pv 3)) zi) zi (zQ _))))) (zg (zT (pv 2) (vi c_z18 hr rfl (za (jW (yj hr) (pv 2) (yY wu (yY uV (zc (pv 3)) zi) (kO [2] (yh (x:= "len") mt rfl m.len_ sX (za (zc (pv 2)) zd)))) (λ_ _=>rfl) (λ_ _=>rfl)) (za (zc (pv 3)) (za (zc (pv 1)) zd)))) (λh1 h2=>vm Yv Yw Yx zV h1 h2))) (zg (zT (pv 2) (vi c_z17 hr rfl (za (zc (pv 3)) (za (zc (pv 1)) zd))) (λh1 h2=>vm Yv Yw Yx zV h1 h2)))))) (zg (x5 (pv 2)))))
abbrev dD:Stmt:=top 26
def sc_z20:FnScope ["row", "other", "waits", "pair"] ["row", "other"] (zj dD):=y9
def ok_z20 {k:Nat}(F:Fun K "_law_beneath" "_law_beneath" dD f fd)(m:Mg mg)  : FnOk P w K mg base CX0 (k+1) f fd ["row", "other"] (SpD K kC):=by
 have sc:=sc_z20;refine n9 (N:=["row", "other", "waits", "pair"]) (ps:=["row", "other"]) (g:=gy) F sc λcdv A outer s H E hr=>?_;unfold gy;exact(ze (zO (i:=2) sc.nd rfl (.inl rfl) (QN.qe (xX (x:= "dict") (lC rfl) rfl m.dict_ qE (za (zc (pv 1)) zd)))) (ze (yC PassesOwn.never rfl (zH (zc (pv 0))) (zG (zE (i:=3) sc.nd rfl (.inl rfl))) (zg (xi (QW.qt (rG (t8 hr.units (yz (yj hr) (zc (pv 3)) zi (λ_ _=>rfl) (λ_ _=>rfl)) (zc (pv 2))) (tJ (zZ eu (yz (yj hr) (zc (pv 3)) zi (λ_ _=>rfl) (λ_ _=>rfl)) (yz (yj hr) (zc (pv 2)) (yz (yj hr) (zc (pv 3)) zi (λ_ _=>rfl) (λ_ _=>rfl)) (λ_ _=>rfl) (λ_ _=>rfl)) (zQ _))))) (zg (zP vG)) zJ))) (zg (zP vG))))
abbrev dI:Stmt:=top 27
def sc_z21:FnScope ["rows", "least", "row", "beneath"] ["rows"] (zj dI):=y9
def ok_z21 {k:Nat}(F:Fun K "_law_thin" "_law_thin" dI f fd)(m:Mg mg)(c_z20:z7 P w K mg base "_law_beneath" k ["row", "other"] (SpD K kC)):FnOk P w K mg base CX0 (k+1) f fd ["rows"] (SpN K rE):=by
 have sc:=sc_z21;refine jV (N:=["rows", "least", "row", "beneath"]) (ps:=["rows"]) (g:=gY) F sc λcdv A outer s H E hr=>?_;unfold gY;exact(ze (x8 (i:=1) sc.nd rfl (.inl rfl) (xm zd)) (ze (yC PassesOwn.never rfl (zH (zc (pv 0))) (zG (zE (i:=2) sc.nd rfl (.inr rfl))) (ze (wI ["one", "row"] [none,some 2] sc.nd rfl (.inl rfl) rfl rfl (zH (zc (pv 0))) (λ_ _ _ _ _=>(zG (pgn 0 (xD ["one", "row"])))) (λ_ _ _ _ _=>(QW.qt (nc (zZ (dm hr.units) (zc (pv 0)) (zc (pv 1)) (zQ _)) (tW (wc (vi c_z20 hr rfl (za (zc (pv 0)) (za (zc (pv 1)) zd)))))))) (λ_ _ _ _ _=>(zc (pv 0)))) (zg (xi (QW.qt (nc (zZ (ku hr.units) (zc (pv 3)) (QN.qe (xm zd)) (zQ _)) (tW (oh [1] (t8 hr.units (zc (pv 2)) (zc (pv 1))))))) (zg (zT (pv 1) (zc (pv 2)) (λh1 h2=>vm Yv Yw Yx zV h1 h2))) zJ)))) (zg (sK [1] (wf (mR (x:= "sorted") (rP hr.units) rfl m.sorted_ ua (za (zc (pv 1)) zd)))))))
abbrev eD:Stmt:=top 28
def sc_z22:FnScope ["cells", "many", "things", "rows", "forms", "k"] ["cells", "many", "things"] (zj eD):=y9
def ok_z22 {k:Nat}(F:Fun K "_law_forms" "_law_forms" eD f fd)(m:Mg mg)(c_z19:z7 P w K mg base "_law_list" k ["cells", "things"] (SpN K jX))(c_z21:z7 P w K mg base "_law_thin" k ["rows"] (SpN K rE)):FnOk P w K mg base CX0 (k+1) f fd ["cells", "many", "things"] (SpN K kB):=by
 have sc:=sc_z22;refine jV (N:=["cells", "many", "things", "rows", "forms", "k"]) (ps:=["cells", "many", "things"]) (g:=gq) F sc λcdv A outer s H E hr=>?_;unfold gq;exact(ze (zO (i:=3) sc.nd rfl (.inl rfl) (QN.qe (uz c_z19 hr rfl (za (zc (pv 0)) (za (zc (pv 2)) zd))))) (ze (x8 (i:=4) sc.nd rfl (.inl rfl) (xm zd)) (ze (yC PassesOwn.never rfl (x9 rfl m.range_ (za (zc (pv 1)) zd)) (zG (zE (i:=5) sc.nd rfl (.inl rfl))) (ze (zT (pv 4) (QN.qe (uz c_z21 hr rfl (za (QN.qe (sv (zc (pv 3)) (wN (zc (pv 5))) wv (wN (zc (pv 1))))) zd))) (λh1 h2=>vm Yv Yw Yx zV h1 h2)) (zg (xi (zZ (ku hr.units) (jW (yj hr) (pv 4) (zc (pv 5)) (λ_ _=>rfl) (λ_ _=>rfl)) (QN.qe (xm zd)) (zQ _)) (zg (qs_lput (pv 4) (zc (pv 5)) (QN.qe (xm (za (uX (za (uX (za (yY wu (zc (pv 5)) (zc (pv 2))) (za zi zd))) zd)) zd))))) zJ)))) (zg (x5 (pv 4))))))
abbrev dr:Stmt:=top 31
def sc_z25:FnScope ["cell", "things"] ["cell", "things"] (zj dr):=y9
def ok_z25 {k:Nat}(F:Fun K "_law_hours" "_law_hours" dr f fd)(m:Mg mg)(c_z16:z7 P w K mg base "_law_number" k ["cell", "salt"] (SpD K uj)):FnOk P w K mg base CX0 (k+1) f fd ["cell", "things"] (SpN K k7):=by
 have sc:=sc_z25;refine jV (N:=["cell", "things"]) (ps:=["cell", "things"]) (g:=gM) F sc λcdv A outer s H E hr=>?_;unfold gM;exact(zg (wf (wD ["thing", "cell"] [none,some 0] rfl rfl (x9 rfl m.range_ (za (zc (pv 1)) zd)) (λ_ _ _ _ _=>(zG (pgn 0 (xD ["thing", "cell"])))) (λ_ _ _ _ _=>(vi c_z16 hr rfl (za (yY uV (zc (pv 1)) (yY xE zi (zc (pv 0)))) (za (yY xE zi (zc (pv 0))) zd)))))))
abbrev dy:Stmt:=top 18
def sc_z12:FnScope ["found"] ["found"] (zj dy):=y9
def ok_z12 {k:Nat}(F:Fun K "_law_whole" "_law_whole" dy f fd)(m:Mg mg)  : FnOk P w K mg base CX0 (k+1) f fd ["found"] (SpD K ky):=by
 have sc:=sc_z12;refine n9 (N:=["found"]) (ps:=["found"]) (g:=gK) F sc λcdv A outer s H E hr=>?_;unfold gK;exact(zg (zP (dH (yh (x:= "isinstance") jK rfl m.isinstance_ yX (za (zc (pv 0)) (za (jA (n:= "int") (x:= "int") rfl m.int_ bt_int rfl) zd))) (dw (q_not (yh (x:= "isinstance") jK rfl m.isinstance_ yX (za (zc (pv 0)) (za (jA (n:= "bool") (x:= "bool") rfl m.bool_ bt_bool rfl) zd))))))))
abbrev eT:Stmt:=top 32
def sc_z26:FnScope ["found", "row", "pair"] ["found"] (zj eT):=y9
def ok_z26 {k:Nat}(F:Fun K "_law_is_form" "_law_is_form" eT f fd)(m:Mg mg)(c_z12:z7 P w K mg base "_law_whole" k ["found"] (SpD K ky)):FnOk P w K mg base CX0 (k+1) f fd ["found"] (SpD K jj):=by
 have sc:=sc_z26;refine n9 (N:=["found", "row", "pair"]) (ps:=["found"]) (g:=gJ) F sc λcdv A outer s H E hr=>?_;unfold gJ;exact(ze (xi (QW.qt (rG (vY (wc (yh (x:= "isinstance") jK rfl m.isinstance_ yX (za (zc (pv 0)) (za (jA (n:= "list") (x:= "list") rfl m.list_ me rfl) zd))))) (tJ (zZ (ku hr.units) (zc (pv 0)) (QN.qe (xm zd)) (zQ _))))) (zg (zP vG)) zJ) (ze (yC PassesOwn.never rfl (zH (zc (pv 0))) (zG (zE (i:=1) sc.nd rfl (.inl rfl))) (ze (xi (QW.qt (rG (vY (wc (yh (x:= "isinstance") jK rfl m.isinstance_ yX (za (zc (pv 1)) (za (jA (n:= "tuple") (x:= "tuple") rfl m.tuple_ xK rfl) zd))))) (tJ (zZ (ku hr.units) (zc (pv 1)) (uX zd) (zQ _))))) (zg (zP vG)) zJ) (zg (yC PassesOwn.never rfl (zH (zc (pv 1))) (zG (zE (i:=2) sc.nd rfl (.inl rfl))) (zg (xi (QW.qt (rG (vY (wc (yh (x:= "isinstance") jK rfl m.isinstance_ yX (za (zc (pv 2)) (za (jA (n:= "tuple") (x:= "tuple") rfl m.tuple_ xK rfl) zd))))) (rG (zZ (dm hr.units) (yh (x:= "len") mt rfl m.len_ sX (za (zc (pv 2)) zd)) zi (zQ _)) (rG (vY (wc (vi c_z12 hr rfl (za (yz (yj hr) (zc (pv 2)) zi (λ_ _=>rfl) (λ_ _=>rfl)) zd)))) (tJ (vY (wc (vi c_z12 hr rfl (za (yz (yj hr) (zc (pv 2)) zi (λ_ _=>rfl) (λ_ _=>rfl)) zd))))))))) (zg (zP vG)) zJ)))))) (zg (zP vG))))
abbrev bo:Stmt:=top 4
def sc_z0:FnScope ["row", "waits", "thing", "wait"] ["row", "waits"] (zj bo):=y9
def ok_z0 {k:Nat}(F:Fun K "fits_in" "fits_in" bo f fd)(m:Mg mg)  : FnOk P w K mg base CX0 (k+1) f fd ["row", "waits"] (SpD K c9):=by
 have sc:=sc_z0;refine n9 (N:=["row", "waits", "thing", "wait"]) (ps:=["row", "waits"]) (g:=cU) F sc λcdv A outer s H E hr=>?_;unfold cU;exact(ze (yC PassesOwn.never rfl (zH (zc (pv 0))) (tZ [2,3] (sQ rfl (yq (zE (i:=2) sc.nd rfl (.inl rfl)) (yq (zE (i:=3) sc.nd rfl (.inl rfl)) v8)))) (zg (xi (QW.qt (rG (t8 hr.units (zc (pv 2)) (zc (pv 1))) (tJ (zZ eu (zc (pv 3)) (yz (yj hr) (zc (pv 1)) (zc (pv 2)) (λ_ _=>rfl) (λ_ _=>rfl)) (zQ _))))) (zg (zP vG)) zJ))) (zg (zP vG)))
abbrev b9:Stmt:=top 8
def sc_z4:FnScope ["row", "kept", "waits", "other"] ["row", "kept"] (zj b9):=y9
def ok_z4 {k:Nat}(F:Fun K "is_covered" "is_covered" b9 f fd)(m:Mg mg)(c_z0:z7 P w K mg base "fits_in" k ["row", "waits"] (SpD K c9)):FnOk P w K mg base CX0 (k+1) f fd ["row", "kept"] (SpD K nG):=by
 have sc:=sc_z4;refine n9 (N:=["row", "kept", "waits", "other"]) (ps:=["row", "kept"]) (g:=cS) F sc λcdv A outer s H E hr=>?_;unfold cS;exact(ze (zO (i:=2) sc.nd rfl (.inl rfl) (QN.qe (xX (x:= "dict") (lC rfl) rfl m.dict_ qE (za (zc (pv 0)) zd)))) (ze (yC PassesOwn.never rfl (zH (zc (pv 1))) (zG (zE (i:=3) sc.nd rfl (.inl rfl))) (zg (xi (wc (vi c_z0 hr rfl (za (zc (pv 3)) (za (zc (pv 2)) zd)))) (zg (zP vG)) zJ))) (zg (zP vG))))
abbrev bq:Stmt:=top 7
def sc_z3:FnScope ["rows", "enough", "kept", "row"] ["rows", "enough"] (zj bq):=y9
def ok_z3 {k:Nat}(F:Fun K "lowest" "lowest" bq f fd)(m:Mg mg)(c_z4:z7 P w K mg base "is_covered" k ["row", "kept"] (SpD K nG)):FnOk P w K mg base CX0 (k+1) f fd ["rows", "enough"] (SpN K cH):=by
 have sc:=sc_z3;refine jV (N:=["rows", "enough", "kept", "row"]) (ps:=["rows", "enough"]) (g:=bg) F sc λcdv A outer s H E hr=>?_;unfold bg;exact(ze (x8 (i:=2) sc.nd rfl (.inl rfl) (xm zd)) (ze (yC PassesOwn.never rfl (zH (QN.qe (q_sortLen (λh=>L2.ST.pe_sortLen rfl m.sorted_ rfl m.len_ h) (za (QN.qe (q_sortSet (λh=>tw (L2.ST.call_sortedSet rfl hr.units) rfl m.sorted_ ua (qG (tP (L2.ST.call_setRows rfl hr.units) rfl m.set_ L2.bt_set h) mL)) (za (zc (pv 0)) zd))) zd)))) (zG (zE (i:=3) sc.nd rfl (.inl rfl))) (ze (xi (zZ (ku hr.units) (kO [2] (yh (x:= "len") mt rfl m.len_ sX (za (zc (pv 2)) zd))) (zc (pv 1)) (zQ _)) (zg qs_break) zJ) (zg (xi (vY (wc (kO [2] (vi c_z4 hr rfl (za (zc (pv 3)) (za (zc (pv 2)) zd)))))) (zg (zT (pv 2) (zc (pv 3)) (λh1 h2=>vm Yv Yw Yx zV h1 h2))) zJ)))) (zg (x5 (pv 2)))))
abbrev de:Stmt:=top 16
def sc_z11:FnScope ["rows", "most", "kept"] ["rows", "most"] (zj de):=y9
def ok_z11 {k:Nat}(F:Fun K "form_within" "form_within" de f fd)(m:Mg mg)(c_z3:z7 P w K mg base "lowest" k ["rows", "enough"] (SpN K cH)){C_TooMany:Addr}(x_TooMany:Exc K mg "TooMany" C_TooMany):FnOk P w K mg base (CXE P w) (k+1) f fd ["rows", "most"] (pG K xV):=by
 have sc:=sc_z11;refine i6 (N:=["rows", "most", "kept"]) (ps:=["rows", "most"]) (g:=iZ) F sc λcdv A outer s H E hr=>?_;unfold iZ;exact(ze (zO (i:=2) sc.nd rfl (.inl rfl) (QN.qe (jp c_z3 hr rfl (za (zc (pv 0)) (za (yY xE (zc (pv 1)) zi) zd))))) (ze (xi (zZ eu (yh (x:= "len") mt rfl m.len_ sX (za (zc (pv 2)) zd)) (zc (pv 1)) (zQ _)) (zg (qs_raise raises_def x_TooMany rfl rfl (q_fmt (by decide) (zc (pv 1))))) zJ) (zg (wf (mR (x:= "sorted") (rP hr.units) rfl m.sorted_ ua (za (zc (pv 2)) zd))))))
abbrev b8:Stmt:=top 11
def sc_z6:FnScope ["forms", "most", "told", "form"] ["forms", "most"] (zj b8):=y9
def ok_z6 {k:Nat}(F:Fun K "first_of" "first_of" b8 f fd)(m:Mg mg)(c_z11:ya P w K mg base "form_within" k ["rows", "most"] (pG K xV)):FnOk P w K mg base (CXE P w) (k+1) f fd ["forms", "most"] (pG K gU):=by
 have sc:=sc_z6;refine i6 (N:=["forms", "most", "told", "form"]) (ps:=["forms", "most"]) (g:=cN) F sc λcdv A outer s H E hr=>?_;unfold cN;exact(ze (x8 (i:=2) sc.nd rfl (.inl rfl) (vT c_z11 xy hr rfl (za (yz (yj hr) (zc (pv 0)) zi (λ_ _=>rfl) (λ_ _=>rfl)) (za (zc (pv 1)) zd)))) (ze (yC qq rfl (zH (QN.qe (sv (zc (pv 0)) (wN zi) wv wv))) (zG (zE (i:=3) sc.nd rfl (.inl rfl))) (zg (sK [2] (x8 (i:=2) sc.nd rfl (.inl rfl) (vT c_z11 xy hr rfl (za (yY xE (zc (pv 2)) (zc (pv 3))) (za (zc (pv 1)) zd))))))) (zg (x5 (pv 2)))))
abbrev br:Stmt:=top 5
def sc_z1:FnScope ["row", "other", "waits", "thing", "wait"] ["row", "other"] (zj br):=y9
def ok_z1 {k:Nat}(F:Fun K "joined" "joined" br f fd)(m:Mg mg)  : FnOk P w K mg base CX0 (k+1) f fd ["row", "other"] (SpD K dB):=by
 have sc:=sc_z1;refine n9 (N:=["row", "other", "waits", "thing", "wait"]) (ps:=["row", "other"]) (g:=bd) F sc λcdv A outer s H E hr=>?_;unfold bd;exact(ze (x8 (i:=2) sc.nd rfl (.inl rfl) (xX (x:= "dict") (lC rfl) rfl m.dict_ qE (za (zc (pv 0)) zd))) (ze (yC PassesOwn.never rfl (zH (zc (pv 1))) (tZ [3,4] (sQ rfl (yq (zE (i:=3) sc.nd rfl (.inl rfl)) (yq (zE (i:=4) sc.nd rfl (.inl rfl)) v8)))) (zg (qs_dput (yj hr) (pv 2) (zc (pv 3)) (yh (x:= "max") (fU rfl) rfl m.max_ ki (za (zc (pv 4)) (za (kO [2] (q_get2 (yj hr) (zc (pv 2)) (zc (pv 3)) (zc (pv 4)) ⟨rfl,rfl,rfl,rfl⟩)) zd)))))) (zg (sK [2] (zP (wS (x:= "tuple") um rfl m.tuple_ xK (za (q_sortItems (λh=>tw (call_sortedItems rfl) rfl m.sorted_ ua (qG (pe_bm0 PySem.F.plainAttrs_dict PySem.F.slot_dict_items PySem.F.type_dict_items mt_items h) mL)) (zc (pv 2))) zd)))))))
abbrev eR:Stmt:=top 15
def sc_z10:FnScope ["form", "other", "rows", "rest", "row"] ["form", "other"] (zj eR):=y9
def ok_z10 {k:Nat}(F:Fun K "each_joined" "each_joined" eR f fd)(m:Mg mg)(c_z4:z7 P w K mg base "is_covered" k ["row", "kept"] (SpD K nG))(c_z1:z7 P w K mg base "joined" k ["row", "other"] (SpD K dB)):FnOk P w K mg base CX0 (k+1) f fd ["form", "other"] (SpN K kG):=by
 have sc:=sc_z10;refine jV (N:=["form", "other", "rows", "rest", "row"]) (ps:=["form", "other"]) (g:=gw) F sc λcdv A outer s H E hr=>?_;unfold gw;exact(ze (x8 (i:=2) sc.nd rfl (.inl rfl) (q_opN o_addL (QN.qe (lW ["row", "other"] [none,some 1] rfl rfl (zH (zc (pv 0))) (λ_ _ _ _ _=>(zG (pgn 0 (xD ["row", "other"])))) (λ_ _ _ _ _=>(wc (vi c_z4 hr rfl (za (zc (pv 0)) (za (zc (pv 1)) zd))))) (λ_ _ _ _ _=>(zc (pv 0))))) (QN.qe (lW ["row", "form"] [none,some 0] rfl rfl (zH (zc (pv 1))) (λ_ _ _ _ _=>(zG (pgn 0 (xD ["row", "form"])))) (λ_ _ _ _ _=>(wc (vi c_z4 hr rfl (za (zc (pv 0)) (za (zc (pv 1)) zd))))) (λ_ _ _ _ _=>(zc (pv 0))))))) (ze (wI ["row", "form"] [none,some 0] sc.nd rfl (.inl rfl) rfl rfl (zH (zc (pv 1))) (λ_ _ _ _ _=>(zG (pgn 0 (xD ["row", "form"])))) (λ_ _ _ _ _=>(vY (wc (vi c_z4 hr rfl (za (zc (pv 0)) (za (zc (pv 1)) zd)))))) (λ_ _ _ _ _=>(zc (pv 0)))) (ze (yC PassesOwn.never rfl (zH (zc (pv 0))) (zG (zE (i:=4) sc.nd rfl (.inr rfl))) (zg (xi (vY (wc (vi c_z4 hr rfl (za (zc (pv 4)) (za (zc (pv 1)) zd))))) (zg (qs_extend (pv 2) (wD ["other_row", "row"] [none,some 4] rfl rfl (zH (zc (pv 3))) (λ_ _ _ _ _=>(zG (pgn 0 (xD ["other_row", "row"])))) (λ_ _ _ _ _=>(vi c_z1 hr rfl (za (zc (pv 1)) (za (zc (pv 0)) zd))))) (λh1 h2=>vm Yv PySem.F.slot_list_extend PySem.F.type_list_extend mt_extend h1 h2))) zJ))) (zg (x5 (pv 2))))))
abbrev bw:Stmt:=top 12
def sc_z7:FnScope ["forms", "most", "told", "form"] ["forms", "most"] (zj bw):=y9
def ok_z7 {k:Nat}(F:Fun K "all_of" "all_of" bw f fd)(m:Mg mg)(c_z10:z7 P w K mg base "each_joined" k ["form", "other"] (SpN K kG))(c_z11:ya P w K mg base "form_within" k ["rows", "most"] (pG K xV)):FnOk P w K mg base (CXE P w) (k+1) f fd ["forms", "most"] (pG K fu):=by
 have sc:=sc_z7;refine i6 (N:=["forms", "most", "told", "form"]) (ps:=["forms", "most"]) (g:=cB) F sc λcdv A outer s H E hr=>?_;unfold cB;exact(ze (x8 (i:=2) sc.nd rfl (.inl rfl) (vT c_z11 xy hr rfl (za (yz (yj hr) (zc (pv 0)) zi (λ_ _=>rfl) (λ_ _=>rfl)) (za (zc (pv 1)) zd)))) (ze (yC qq rfl (zH (QN.qe (sv (zc (pv 0)) (wN zi) wv wv))) (zG (zE (i:=3) sc.nd rfl (.inl rfl))) (zg (sK [2] (x8 (i:=2) sc.nd rfl (.inl rfl) (vT c_z11 xy hr rfl (za (QN.qe (jp c_z10 hr rfl (za (zc (pv 2)) (za (zc (pv 3)) zd)))) (za (zc (pv 1)) zd))))))) (zg (x5 (pv 2)))))
abbrev bG:Stmt:=top 6
def sc_z2:FnScope ["row", "wait"] ["row", "wait"] (zj bG):=y9
def ok_z2 {k:Nat}(F:Fun K "shifted" "shifted" bG f fd)(m:Mg mg)  : FnOk P w K mg base CX0 (k+1) f fd ["row", "wait"] (SpD K dP):=by
 have sc:=sc_z2;refine n9 (N:=["row", "wait"]) (ps:=["row", "wait"]) (g:=cV) F sc λcdv A outer s H E hr=>?_;unfold cV;exact(zg (zP (wS (x:= "tuple") um rfl m.tuple_ xK (za (QN.qe (wD ["thing", "own", "wait"] [none,none,some 1] rfl rfl (zH (zc (pv 0))) (λ_ _ _ _ _=>(tZ [0,1] (sQ rfl (yq (pgn 0 (xD ["thing", "own", "wait"])) (yq (pgn 1 (xD ["thing", "own", "wait"])) v8))))) (λ_ _ _ _ _=>(uX (za (zc (pv 0)) (za (yY xE (zc (pv 1)) (zc (pv 2))) zd)))))) zd))))
abbrev bj:Stmt:=top 10
def sc_z5:FnScope ["form", "wait"] ["form", "wait"] (zj bj):=y9
def ok_z5 {k:Nat}(F:Fun K "waited" "waited" bj f fd)(m:Mg mg)(c_z2:z7 P w K mg base "shifted" k ["row", "wait"] (SpD K dP)):FnOk P w K mg base CX0 (k+1) f fd ["form", "wait"] (SpN K dX):=by
 have sc:=sc_z5;refine jV (N:=["form", "wait"]) (ps:=["form", "wait"]) (g:=ba) F sc λcdv A outer s H E hr=>?_;unfold ba;exact(zg (wf (wD ["row", "wait"] [none,some 1] rfl rfl (zH (zc (pv 0))) (λ_ _ _ _ _=>(zG (pgn 0 (xD ["row", "wait"])))) (λ_ _ _ _ _=>(vi c_z2 hr rfl (za (zc (pv 0)) (za (zc (pv 1)) zd)))))))
abbrev bt:Stmt:=top 14
def sc_z9:FnScope ["row", "forms", "most"] ["row", "forms", "most"] (zj bt):=y9
def ok_z9 {k:Nat}(F:Fun K "put_into_row" "put_into_row" bt f fd)(m:Mg mg)(c_z7:ya P w K mg base "all_of" k ["forms", "most"] (pG K fu))(c_z5:z7 P w K mg base "waited" k ["form", "wait"] (SpN K dX)):FnOk P w K mg base (CXE P w) (k+1) f fd ["row", "forms", "most"] (pG K kW):=by
 have sc:=sc_z9;refine i6 (N:=["row", "forms", "most"]) (ps:=["row", "forms", "most"]) (g:=cp) F sc λcdv A outer s H E hr=>?_;unfold cp;exact(zg (wf (vT c_z7 xy hr rfl (za (QN.qe (wD ["thing", "wait", "forms"] [none,none,some 1] rfl rfl (zH (zc (pv 0))) (λ_ _ _ _ _=>(tZ [0,1] (sQ rfl (yq (pgn 0 (xD ["thing", "wait", "forms"])) (yq (pgn 1 (xD ["thing", "wait", "forms"])) v8))))) (λ_ _ _ _ _=>(QN.qe (jp c_z5 hr rfl (za (yz (yj hr) (zc (pv 2)) (zc (pv 0)) (λ_ _=>rfl) (λ_ _=>rfl)) (za (zc (pv 1)) zd))))))) (za (zc (pv 2)) zd)))))
abbrev bi:Stmt:=top 13
def sc_z8:FnScope ["form", "forms", "most"] ["form", "forms", "most"] (zj bi):=y9
def ok_z8 {k:Nat}(F:Fun K "put_into" "put_into" bi f fd)(m:Mg mg)(c_z6:ya P w K mg base "first_of" k ["forms", "most"] (pG K gU))(c_z9:ya P w K mg base "put_into_row" k ["row", "forms", "most"] (pG K kW)):FnOk P w K mg base (CXE P w) (k+1) f fd ["form", "forms", "most"] (pG K mD):=by
 have sc:=sc_z8;refine i6 (N:=["form", "forms", "most"]) (ps:=["form", "forms", "most"]) (g:=dZ) F sc λcdv A outer s H E hr=>?_;unfold dZ;exact(zg (wf (vT c_z6 xy hr rfl (za (QN.qe (q_compX ["row", "forms", "most"] [none,some 1,some 2] rfl rfl (zH (zc (pv 0))) (λ_ _ _ _ _=>(zG (pgn 0 (xD ["row", "forms", "most"])))) (λ_ _ _ _ _ hq=>(QN.qe (vT c_z9 (thrown_comp rfl rfl rfl thrownA_def hq) hr rfl (za (zc (pv 0)) (za (zc (pv 1)) (za (zc (pv 2)) zd)))))))) (za (zc (pv 2)) zd)))))
abbrev eF:Stmt:=top 37
def sc_z31:FnScope ["form", "parts", "most", "refused"] ["form", "parts", "most"] (zj eF):=y9
def ok_z31 {k:Nat}(F:Fun K "_law_refused" "_law_refused" eF f fd)(m:Mg mg)(c_z8:ya P w K mg base "put_into" k ["form", "forms", "most"] (pG K mD)){C_TooMany:Addr}(x_TooMany:Exc K mg "TooMany" C_TooMany):FnOk P w K mg base CX0 (k+1) f fd ["form", "parts", "most"] (SpD K iX):=by
 have sc:=sc_z31;refine n9 (N:=["form", "parts", "most", "refused"]) (ps:=["form", "parts", "most"]) (g:=fg) F sc λcdv A outer s H E hr=>?_;unfold fg;exact(ze (zO (i:=3) sc.nd rfl (.inl rfl) vG) (ze (qs_tryB rfl rfl (qb_expr (ya.d c_z8) hr rfl (za (zc (pv 0)) (za (zc (pv 1)) (za (zc (pv 2)) zd)))) x_TooMany rfl (λ_=>(zg (zO (i:=3) sc.nd rfl (.inl rfl) vG)))) (zg (zP (zc (pv 3))))))
abbrev eW:Stmt:=top 21
def sc_z15:FnScope ["script", "start", "most", "many"] ["script", "start", "most"] (zj eW):=y9
def ok_z15 {k:Nat}(F:Fun K "_law_turns" "_law_turns" eW f fd)(m:Mg mg)  : FnOk P w K mg base CX0 (k+1) f fd ["script", "start", "most"] (SpN K kM):=by
 have sc:=sc_z15;refine jV (N:=["script", "start", "most", "many"]) (ps:=["script", "start", "most"]) (g:=gB) F sc λcdv A outer s H E hr=>?_;unfold gB;exact(ze (zO (i:=3) sc.nd rfl (.inl rfl) (yh (x:= "min") (b_min2 rfl) rfl m.min_ fD (za (zc (pv 2)) (za (yh (x:= "max") (fU rfl) rfl m.max_ ki (za zi (za (yY cu (yh (x:= "len") mt rfl m.len_ sX (za (zc (pv 0)) zd)) (zc (pv 1))) zd))) zd)))) (zg (wf (wD ["k", "script", "start", "most"] [none,some 0,some 1,some 2] rfl rfl (x9 rfl m.range_ (za (zc (pv 3)) zd)) (λ_ _ _ _ _=>(zG (pgn 0 (xD ["k", "script", "start", "most"])))) (λ_ _ _ _ _=>(yh (x:= "sum") (b_sum rfl) rfl m.sum_ bt_sum (za (QN.qe (sv (zc (pv 1)) (wN (yY xE (zc (pv 2)) (zc (pv 0)))) wv (wN (zc (pv 3))))) zd)))))))
abbrev eY:Stmt:=top 34
def sc_z28:FnScope ["form", "wait"] ["form", "wait"] (zj eY):=y9
def ok_z28 {k:Nat}(F:Fun K "_law_moved" "_law_moved" eY f fd)(m:Mg mg)  : FnOk P w K mg base CX0 (k+1) f fd ["form", "wait"] (SpN K rB):=by
 have sc:=sc_z28;refine jV (N:=["form", "wait"]) (ps:=["form", "wait"]) (g:=gG) F sc λcdv A outer s H E hr=>?_;unfold gG;exact(zg (wf (wD ["row", "wait"] [none,some 1] rfl rfl (zH (zc (pv 0))) (λ_ _ _ _ _=>(zG (pgn 0 (xD ["row", "wait"])))) (λ_ _ _ _ _=>(wS (x:= "tuple") um rfl m.tuple_ xK (za (QN.qe (wD ["thing", "own", "wait"] [none,none,some 1] rfl rfl (zH (zc (pv 0))) (λ_ _ _ _ _=>(tZ [0,1] (sQ rfl (yq (pgn 0 (xD ["thing", "own", "wait"])) (yq (pgn 1 (xD ["thing", "own", "wait"])) v8))))) (λ_ _ _ _ _=>(uX (za (zc (pv 0)) (za (yY xE (zc (pv 1)) (zc (pv 2))) zd)))))) zd))))))
abbrev eK:Stmt:=top 33
def sc_z27:FnScope ["row", "other", "pairs", "thing", "waits"] ["row", "other"] (zj eK):=y9
def ok_z27 {k:Nat}(F:Fun K "_law_joined" "_law_joined" eK f fd)(m:Mg mg)  : FnOk P w K mg base CX0 (k+1) f fd ["row", "other"] (SpD K nV):=by
 have sc:=sc_z27;refine n9 (N:=["row", "other", "pairs", "thing", "waits"]) (ps:=["row", "other"]) (g:=fq) F sc λcdv A outer s H E hr=>?_;unfold fq;exact(ze (x8 (i:=2) sc.nd rfl (.inl rfl) (xm zd)) (ze (yC PassesOwn.never rfl (x9 rfl m.range_ (za zi zd)) (zG (zE (i:=3) sc.nd rfl (.inr rfl))) (ze (wI ["pair", "thing"] [none,some 3] sc.nd rfl (.inl rfl) rfl rfl (zH (yY xE (zc (pv 0)) (zc (pv 1)))) (λ_ _ _ _ _=>(zG (pgn 0 (xD ["pair", "thing"])))) (λ_ _ _ _ _=>(zZ (ku hr.units) (yz (yj hr) (zc (pv 0)) zi (λ_ _=>rfl) (λ_ _=>rfl)) (zc (pv 1)) (zQ _))) (λ_ _ _ _ _=>(yz (yj hr) (zc (pv 0)) zi (λ_ _=>rfl) (λ_ _=>rfl)))) (zg (xi (zZ (dm hr.units) (zc (pv 4)) (QN.qe (xm zd)) (zQ _)) (zg (zT (pv 2) (uX (za (zc (pv 3)) (za (yh (x:= "max") (fQ rfl) rfl m.max_ ki (za (zc (pv 4)) zd)) zd))) (λh1 h2=>vm Yv Yw Yx zV h1 h2))) zJ)))) (zg (sK [2] (zP (wS (x:= "tuple") um rfl m.tuple_ xK (za (zc (pv 2)) zd)))))))
abbrev eE:Stmt:=top 35
def sc_z29:FnScope ["one", "other", "rows", "row"] ["one", "other"] (zj eE):=y9
def ok_z29 {k:Nat}(F:Fun K "_law_product" "_law_product" eE f fd)(m:Mg mg)(c_z27:z7 P w K mg base "_law_joined" k ["row", "other"] (SpD K nV))(c_z21:z7 P w K mg base "_law_thin" k ["rows"] (SpN K rE)):FnOk P w K mg base CX0 (k+1) f fd ["one", "other"] (SpN K nN):=by
 have sc:=sc_z29;refine jV (N:=["one", "other", "rows", "row"]) (ps:=["one", "other"]) (g:=gX) F sc λcdv A outer s H E hr=>?_;unfold gX;exact(ze (zO (i:=2) sc.nd rfl (.inl rfl) (QN.qe (xm zd))) (ze (yC PassesOwn.never rfl (zH (zc (pv 0))) (zG (zE (i:=3) sc.nd rfl (.inr rfl))) (zg (zO (i:=2) sc.nd rfl (.inl rfl) (yY xE (zc (pv 2)) (QN.qe (wD ["more", "row"] [none,some 3] rfl rfl (zH (zc (pv 1))) (λ_ _ _ _ _=>(zG (pgn 0 (xD ["more", "row"])))) (λ_ _ _ _ _=>(vi c_z27 hr rfl (za (zc (pv 1)) (za (zc (pv 0)) zd)))))))))) (zg (wf (uz c_z21 hr rfl (za (zc (pv 2)) zd))))))
abbrev eQ:Stmt:=top 36
def sc_z30:FnScope ["form", "parts", "met", "rows", "row", "made", "thing", "wait"] ["form", "parts"] (zj eQ):=y9
def ok_z30 {k:Nat}(F:Fun K "_law_way" "_law_way" eQ f fd)(m:Mg mg)(c_z28:z7 P w K mg base "_law_moved" k ["form", "wait"] (SpN K rB))(c_z29:z7 P w K mg base "_law_product" k ["one", "other"] (SpN K nN))(c_z21:z7 P w K mg base "_law_thin" k ["rows"] (SpN K rE)):FnOk P w K mg base CX0 (k+1) f fd ["form", "parts"] (SpN K kQ):=by
 have sc:=sc_z30;refine jV (N:=["form", "parts", "met", "rows", "row", "made", "thing", "wait"]) (ps:=["form", "parts"]) (g:=gv) F sc λcdv A outer s H E hr=>?_;unfold gv
 exact(ze (x8 (i:=2) sc.nd rfl (.inl rfl) (xm zd)) (ze (zO (i:=3) sc.nd rfl (.inl rfl) (QN.qe (xm zd))) (ze (yC PassesOwn.never rfl (zH (zc (pv 0))) (zG (zE (i:=4) sc.nd rfl (.inl rfl))) (ze (zO (i:=5) sc.nd rfl (.inl rfl) (QN.qe (uz c_z28 hr rfl (za (yz (yj hr) (zc (pv 1)) (yz (yj hr) (yz (yj hr) (zc (pv 4)) zi (λ_ _=>rfl) (λ_ _=>rfl)) zi (λ_ _=>rfl) (λ_ _=>rfl)) (λ_ _=>rfl) (λ_ _=>rfl)) (za (yz (yj hr) (yz (yj hr) (zc (pv 4)) zi (λ_ _=>rfl) (λ_ _=>rfl)) zi (λ_ _=>rfl) (λ_ _=>rfl)) zd))))) (ze (zT (pv 2) (zc (pv 5)) (λh1 h2=>vm Yv Yw Yx zV h1 h2)) (ze (yC PassesOwn.never rfl (zH (q_sliceT (zc (pv 4)) (wN zi) wv)) (tZ [6,7] (sQ rfl (yq (zE (i:=6) sc.nd rfl (.inl rfl)) (yq (zE (i:=7) sc.nd rfl (.inl rfl)) v8)))) (ze (zO (i:=5) sc.nd rfl (.inl rfl) (QN.qe (uz c_z29 hr rfl (za (zc (pv 5)) (za (QN.qe (uz c_z28 hr rfl (za (yz (yj hr) (zc (pv 1)) (zc (pv 6)) (λ_ _=>rfl) (λ_ _=>rfl)) (za (zc (pv 7)) zd)))) zd))))) (zg (zT (pv 2) (zc (pv 5)) (λh1 h2=>vm Yv Yw Yx zV h1 h2))))) (ze (zO (i:=3) sc.nd rfl (.inl rfl) (QN.qe (uz c_z21 hr rfl (za (yY xE (zc (pv 3)) (zc (pv 5))) zd)))) (zg (zT (pv 2) (zc (pv 3)) (λh1 h2=>vm Yv Yw Yx zV h1 h2)))))))) (zg (x5 (pv 2))))))
abbrev du:Stmt:=top 38
def sc_law:FnScope ["script", "things", "others", "most", "form", "parts", "met", "handed", "found", "k", "hours", "between"] ["script"] (zj du):=y9
def ok_law {k:Nat}(F:Fun K "law" "law" du f fd)(m:Mg mg)(c_z13:z7 P w K mg base "_law_cell_at" k ["script", "k"] (SpD K vy))(c_z24:z7 P w K mg base "_law_comes" k ["form", "hours"] (SpD K uI))(c_z22:z7 P w K mg base "_law_forms" k ["cells", "many", "things"] (SpN K kB))(c_z25:z7 P w K mg base "_law_hours" k ["cell", "things"] (SpN K k7))(c_z26:z7 P w K mg base "_law_is_form" k ["found"] (SpD K jj))(c_z31:z7 P w K mg base "_law_refused" k ["form", "parts", "most"] (SpD K iX))(c_z15:z7 P w K mg base "_law_turns" k ["script", "start", "most"] (SpN K kM))(c_z30:z7 P w K mg base "_law_way" k ["form", "parts"] (SpN K kQ))(c_z8:ya P w K mg base "put_into" k ["form", "forms", "most"] (pG K mD)):FnOk P w K mg base CX0 (k+1) f fd ["script"] (SpD K pS):=by
 have sc:=sc_law;refine n9 (N:=["script", "things", "others", "most", "form", "parts", "met", "handed", "found", "k", "hours", "between"]) (ps:=["script"]) (g:=jH) F sc λcdv A outer s H E hr=>?_;unfold jH
 exact(ze (zO (i:=1) sc.nd rfl (.inl rfl) (yY xE zi (yY wu (vi c_z13 hr rfl (za (zc (pv 0)) (za zi zd))) zi))) (ze (zO (i:=2) sc.nd rfl (.inl rfl) (yz (yj hr) (QN.qe (xm (za zi (za zi (za zi (za zi zd)))))) (yY wu (vi c_z13 hr rfl (za (zc (pv 0)) (za zi zd))) zi) (λ_ _=>rfl) (λ_ _=>rfl))) (ze (zO (i:=3) sc.nd rfl (.inl rfl) (yY xE zi (yY wu (yY uV (vi c_z13 hr rfl (za (zc (pv 0)) (za zi zd))) zi) (yz (yj hr) (QN.qe (xm (za zi (za zi zd)))) (yY wu (vi c_z13 hr rfl (za (zc (pv 0)) (za zi zd))) zi) (λ_ _=>rfl) (λ_ _=>rfl))))) (ze (zO (i:=4) sc.nd rfl (.inl rfl) (yz (yj hr) (QN.qe (uz c_z22 hr rfl (za (QN.qe (uz c_z15 hr rfl (za (zc (pv 0)) (za zi (za zi zd))))) (za zi (za (zc (pv 1)) zd))))) zi (λ_ _=>rfl) (λ_ _=>rfl))) (ze (zO (i:=5) sc.nd rfl (.inl rfl) (QN.qe (uz c_z22 hr rfl (za (QN.qe (uz c_z15 hr rfl (za (zc (pv 0)) (za zi (za zi zd))))) (za (yY xE (zc (pv 1)) zi) (za (zc (pv 2)) zd)))))) (ze (qj ["part"] [none] sc.nd rfl (.inl rfl) rfl rfl (zH (zc (pv 5))) (λ_ _ _ _ _=>(zG (pgn 0 (xD ["part"])))) (λ_ _ _ _ _=>(QN.qe (sv (zc (pv 0)) wv (wN zi) wv)))) (ze (zO (i:=6) sc.nd rfl (.inl rfl) (QN.qe (uz c_z30 hr rfl (za (zc (pv 4)) (za (zc (pv 5)) zd))))) (ze (zO (i:=7) sc.nd rfl (.inl rfl) (QN.qe (xm (za (QN.qe (xX (x:= "list") fO rfl m.list_ me (za (zc (pv 4)) zd))) (za (QN.qe (wD ["part"] [none] rfl rfl (zH (zc (pv 5))) (λ_ _ _ _ _=>(zG (pgn 0 (xD ["part"])))) (λ_ _ _ _ _=>(QN.qe (xX (x:= "list") fO rfl m.list_ me (za (zc (pv 0)) zd)))))) zd))))) (ze (xi (zZ eu (yh (x:= "max") (fQ rfl) rfl m.max_ ki (za (QN.qe (wD ["one"] [none] rfl rfl (zH (zc (pv 6))) (λ_ _ _ _ _=>(zG (pgn 0 (xD ["one"])))) (λ_ _ _ _ _=>(yh (x:= "len") mt rfl m.len_ sX (za (zc (pv 0)) zd))))) zd)) (zc (pv 3)) (zQ _)) (zg (zP (dH (vi c_z31 hr rfl (za (yz (yj hr) (zc (pv 7)) zi (λ_ _=>rfl) (λ_ _=>rfl)) (za (yz (yj hr) (zc (pv 7)) zi (λ_ _=>rfl) (λ_ _=>rfl)) (za (zc (pv 3)) zd)))) (dw (dq (ku hr.units) (zc (pv 7)) (QN.qe (xm (za (zc (pv 4)) (za (zc (pv 5)) zd)))) (zQ _)))))) zJ) (ze (x8 (i:=8) sc.nd rfl (.inl rfl) (vT c_z8 je hr rfl (za (yz (yj hr) (zc (pv 7)) zi (λ_ _=>rfl) (λ_ _=>rfl)) (za (yz (yj hr) (zc (pv 7)) zi (λ_ _=>rfl) (λ_ _=>rfl)) (za (zc (pv 3)) zd))))) (ze (xi (QW.qt (rG (vY (wc (kO [8] (vi c_z26 hr rfl (za (zc (pv 8)) zd))))) (rG (oh [8] (zZ (dm hr.units) (zc (pv 8)) (yz (yj hr) (zc (pv 6)) (cT gr zi) (λ_ _=>rfl) (λ_ _=>rfl)) (zQ _))) (tJ (zZ (dm hr.units) (zc (pv 7)) (QN.qe (xm (za (zc (pv 4)) (za (zc (pv 5)) zd)))) (zQ _)))))) (zg (zP vG)) zJ) (ze (yC PassesOwn.never rfl (x9 rfl m.range_ (za zi zd)) (zG (zE (i:=9) sc.nd rfl (.inl rfl))) (ze (zO (i:=10) sc.nd rfl (.inr rfl) (QN.qe (uz c_z25 hr rfl (za (yY xE (vi c_z13 hr rfl (za (zc (pv 0)) (za (yY xE zi (zc (pv 9))) zd))) (zc (pv 9))) (za (zc (pv 2)) zd))))) (ze (qj ["part", "hours"] [none,some 10] sc.nd rfl (.inl rfl) rfl rfl (zH (zc (pv 5))) (λ_ _ _ _ _=>(zG (pgn 0 (xD ["part", "hours"])))) (λ_ _ _ _ _=>(vi c_z24 hr rfl (za (zc (pv 0)) (za (zc (pv 1)) zd))))) (zg (xi (zZ (dm hr.units) (kO [8] (vi c_z24 hr rfl (za (zc (pv 8)) (za (zc (pv 10)) zd)))) (vi c_z24 hr rfl (za (zc (pv 4)) (za (zc (pv 11)) zd))) (zQ _)) (zg (zP vG)) zJ))))) (ze (zT (pv 8) (uX (za (uX (za zi (za zi zd))) zd)) (λh1 h2=>vm Yv Yw Yx zV h1 h2)) (zg (zP (dH (dq (ku hr.units) (QN.qe (vT c_z8 je hr rfl (za (yz (yj hr) (zc (pv 7)) zi (λ_ _=>rfl) (λ_ _=>rfl)) (za (yz (yj hr) (zc (pv 7)) zi (λ_ _=>rfl) (λ_ _=>rfl)) (za (zc (pv 3)) zd))))) (yz (yj hr) (zc (pv 6)) (cT gr zi) (λ_ _=>rfl) (λ_ _=>rfl)) (zQ _)) (dw (dq (ku hr.units) (zc (pv 7)) (QN.qe (xm (za (zc (pv 4)) (za (zc (pv 5)) zd)))) (zQ _)))))))))))))))))))
end
def lX (K:W.Frag):Sp:=λvs H Q _=>∃(a:Addr) (ns:Yh),vs=[.ref a]/\SqL K H a (ns.map V.int)/\ns.length<=63/\∀H',Q (.bl true) H'
def law_imp (K:W.Frag)(vs:YB)(H:Hp)(Q:VK)(E:XK)(h:lX K vs H Q E):SpD K pS vs H Q E:=by
 refine zc2d h λa ns zr2 hS hl q=>?_;subst zr2;refine⟨H,[.scr ns],yB.refl _,zo.mk (IsD.scr_iff.mpr ⟨a,rfl,hS⟩) .nil,?_⟩;rw[law_true ns hl];intro v F' H' e i;rw[IsD.bl_iff.mp i];exact q H'
def all_mk {l:W.OpenLaw}{w:World}{K:W.Frag}{h:Heap}{mg:Ye}{fa:Addr}(X:K.In h)(G:h.Ns mainGlobals mg)(hfa:mg "law" = some (.ref fa))
 {C_TooMany:Addr}
 (d_z13:yk K "_law_cell_at" eN)
 (d_z23:yk K "_law_done" dM)
 (d_z24:yk K "_law_comes" eX)
 (d_z14:yk K "_law_mixed" eM)
 (d_z16:yk K "_law_number" dA)
 (d_z17:yk K "_law_row" da)
 (d_z18:yk K "_law_varied" dj)
 (d_z19:yk K "_law_list" eG)
 (d_z20:yk K "_law_beneath" dD)
 (d_z21:yk K "_law_thin" dI)
 (d_z22:yk K "_law_forms" eD)
 (d_z25:yk K "_law_hours" dr)
 (d_z12:yk K "_law_whole" dy)
 (d_z26:yk K "_law_is_form" eT)
 (d_z0:yk K "fits_in" bo)
 (d_z4:yk K "is_covered" b9)
 (d_z3:yk K "lowest" bq)
 (d_z11:yk K "form_within" de)
 (d_z6:yk K "first_of" b8)
 (d_z1:yk K "joined" br)
 (d_z10:yk K "each_joined" eR)
 (d_z7:yk K "all_of" bw)
 (d_z2:yk K "shifted" bG)
 (d_z5:yk K "waited" bj)
 (d_z9:yk K "put_into_row" bt)
 (d_z8:yk K "put_into" bi)
 (d_z31:yk K "_law_refused" eF)
 (d_z15:yk K "_law_turns" eW)
 (d_z28:yk K "_law_moved" eY)
 (d_z27:yk K "_law_joined" eK)
 (d_z29:yk K "_law_product" eE)
 (d_z30:yk K "_law_way" eQ)
 (d_law:yk K "law" du)
 (a_TooMany:W.nsIn K mainGlobals "TooMany" = some (some (.ref C_TooMany))) (q_TooMany:W.excIn K C_TooMany [.type "ValueError",.type "Exception",.type "BaseException",.type "object"] "ValueError.__new__" = true)
 (z_bool:W.nsIn K mainGlobals "bool" = some none)
 (z_dict:W.nsIn K mainGlobals "dict" = some none)
 (z_int:W.nsIn K mainGlobals "int" = some none)
 (z_isinstance:W.nsIn K mainGlobals "isinstance" = some none)
 (z_len:W.nsIn K mainGlobals "len" = some none)
 (z_list:W.nsIn K mainGlobals "list" = some none)
 (z_max:W.nsIn K mainGlobals "max" = some none)
 (z_min:W.nsIn K mainGlobals "min" = some none)
 (z_range:W.nsIn K mainGlobals "range" = some none)
 (z_set:W.nsIn K mainGlobals "set" = some none)
 (z_sorted:W.nsIn K mainGlobals "sorted" = some none)
 (z_sum:W.nsIn K mainGlobals "sum" = some none)
 (z_tuple:W.nsIn K mainGlobals "tuple" = some none):
 ∃fd:FuncData,(∀(s:Shared) (v:Value),BindsTo s fd ⟨[v],[]⟩ [("script",v)])/\∀base:Heap,K.In base->base.Ns mainGlobals mg->FnOk l.prog w K mg base CX0 9 fa fd ["script"] (lX K):=by
 refine zc2b d_law λf_law fd_law a_law pS=>?_;have e:=hfa.symm.trans (W.mg_of X G a_law)
 first|exact zqn e|exact zqb e|(obtain rfl:=Zqi e)|cases e
 have m:Mg mg:=⟨W.mg_none_of X G z_bool,W.mg_none_of X G z_dict,W.mg_none_of X G z_int,W.mg_none_of X G z_isinstance,W.mg_none_of X G z_len,W.mg_none_of X G z_list,W.mg_none_of X G z_max,W.mg_none_of X G z_min,W.mg_none_of X G z_range,W.mg_none_of X G z_set,W.mg_none_of X G z_sorted,W.mg_none_of X G z_sum,W.mg_none_of X G z_tuple⟩;have x_TooMany:Exc K mg "TooMany" C_TooMany:=⟨a_TooMany,W.mg_of X G a_TooMany,q_TooMany⟩;refine⟨fd_law,(by obtain⟨_,_,_,_,_,_,_,_,_,rfl,_,_⟩:=id pS.ex;exact λs v=>.of_eq rfl),λbase _ _=>?_⟩;have C_z13:=d_z13.callee (P:=l.prog) (w:=w) (base:=base) X G (λF=>ok_z13 (k:=0) F m) λ_ _ _ _ _ _=>us2 λ_ _=>rfl;have C_z23:=d_z23.callee (P:=l.prog) (w:=w) (base:=base) X G (λF=>ok_z23 (k:=0) F m) λ_ _ _ _ _ _=>us2 λ_ _=>rfl;have C_z24:=d_z24.callee (P:=l.prog) (w:=w) (base:=base) X G (λF=>ok_z24 (k:=1) F m (C_z23.mono (by decide))) λ_ _ _ _ _ _=>us2 λ_ _=>rfl;have C_z14:=d_z14.callee (P:=l.prog) (w:=w) (base:=base) X G (λF=>ok_z14 (k:=0) F m) λ_ _ _ _ _ _=>us2 λ_ _=>rfl;have C_z16:=d_z16.callee (P:=l.prog) (w:=w) (base:=base) X G (λF=>ok_z16 (k:=1) F m (C_z14.mono (by decide))) λ_ _ _ _ _ _=>us2 λ_ _=>rfl;have C_z17:=d_z17.callee (P:=l.prog) (w:=w) (base:=base) X G (λF=>ok_z17 (k:=2) F m (C_z14.mono (by decide)) (C_z16.mono (by decide))) λ_ _ _ _ _ _=>us2 λ_ _=>rfl
 have C_z18:=d_z18.callee (P:=l.prog) (w:=w) (base:=base) X G (λF=>ok_z18 (k:=2) F m (C_z14.mono (by decide)) (C_z16.mono (by decide))) λ_ _ _ _ _ _=>us3 λ_ _ _=>rfl;have C_z19:=d_z19.callee (P:=l.prog) (w:=w) (base:=base) X G (λF=>ok_z19 (k:=3) F m (C_z17.mono (by decide)) (C_z18.mono (by decide))) λ_ _ _ _ _ _=>us2 λ_ _=>rfl;have C_z20:=d_z20.callee (P:=l.prog) (w:=w) (base:=base) X G (λF=>ok_z20 (k:=0) F m) λ_ _ _ _ _ _=>us2 λ_ _=>rfl;have C_z21:=d_z21.callee (P:=l.prog) (w:=w) (base:=base) X G (λF=>ok_z21 (k:=1) F m (C_z20.mono (by decide))) λ_ _ _ _ _ _=>us1 λ_=>rfl;have C_z22:=d_z22.callee (P:=l.prog) (w:=w) (base:=base) X G (λF=>ok_z22 (k:=4) F m (C_z19.mono (by decide)) (C_z21.mono (by decide))) λ_ _ _ _ _ _=>us3 λ_ _ _=>rfl;have C_z25:=d_z25.callee (P:=l.prog) (w:=w) (base:=base) X G (λF=>ok_z25 (k:=2) F m (C_z16.mono (by decide))) λ_ _ _ _ _ _=>us2 λ_ _=>rfl;have C_z12:=d_z12.callee (P:=l.prog) (w:=w) (base:=base) X G (λF=>ok_z12 (k:=0) F m) λ_ _ _ _ _ _=>us1 λ_=>rfl;have C_z26:=d_z26.callee (P:=l.prog) (w:=w) (base:=base) X G (λF=>ok_z26 (k:=1) F m (C_z12.mono (by decide))) λ_ _ _ _ _ _=>us1 λ_=>rfl;have C_z0:=d_z0.callee (P:=l.prog) (w:=w) (base:=base) X G (λF=>ok_z0 (k:=0) F m) λ_ _ _ _ _ _=>us2 λ_ _=>rfl;have C_z4:=d_z4.callee (P:=l.prog) (w:=w) (base:=base) X G (λF=>ok_z4 (k:=1) F m (C_z0.mono (by decide))) λ_ _ _ _ _ _=>us2 λ_ _=>rfl
 have C_z3:=d_z3.callee (P:=l.prog) (w:=w) (base:=base) X G (λF=>ok_z3 (k:=2) F m (C_z4.mono (by decide))) λ_ _ _ _ _ _=>us2 λ_ _=>rfl;have C_z11:=d_z11.calleeX (P:=l.prog) (w:=w) (base:=base) X G (λF=>ok_z11 (k:=3) F m (C_z3.mono (by decide)) x_TooMany) λ_ _ _ _ _ _=>us2 λ_ _=>rfl;have C_z6:=d_z6.calleeX (P:=l.prog) (w:=w) (base:=base) X G (λF=>ok_z6 (k:=4) F m (C_z11.mono (by decide))) λ_ _ _ _ _ _=>us2 λ_ _=>rfl;have C_z1:=d_z1.callee (P:=l.prog) (w:=w) (base:=base) X G (λF=>ok_z1 (k:=0) F m) λ_ _ _ _ _ _=>us2 λ_ _=>rfl;have C_z10:=d_z10.callee (P:=l.prog) (w:=w) (base:=base) X G (λF=>ok_z10 (k:=2) F m (C_z4.mono (by decide)) (C_z1.mono (by decide))) λ_ _ _ _ _ _=>us2 λ_ _=>rfl;have C_z7:=d_z7.calleeX (P:=l.prog) (w:=w) (base:=base) X G (λF=>ok_z7 (k:=4) F m (C_z10.mono (by decide)) (C_z11.mono (by decide))) λ_ _ _ _ _ _=>us2 λ_ _=>rfl;have C_z2:=d_z2.callee (P:=l.prog) (w:=w) (base:=base) X G (λF=>ok_z2 (k:=0) F m) λ_ _ _ _ _ _=>us2 λ_ _=>rfl;have C_z5:=d_z5.callee (P:=l.prog) (w:=w) (base:=base) X G (λF=>ok_z5 (k:=1) F m (C_z2.mono (by decide))) λ_ _ _ _ _ _=>us2 λ_ _=>rfl;have C_z9:=d_z9.calleeX (P:=l.prog) (w:=w) (base:=base) X G (λF=>ok_z9 (k:=5) F m (C_z7.mono (by decide)) (C_z5.mono (by decide))) λ_ _ _ _ _ _=>us3 λ_ _ _=>rfl
 have C_z8:=d_z8.calleeX (P:=l.prog) (w:=w) (base:=base) X G (λF=>ok_z8 (k:=6) F m (C_z6.mono (by decide)) (C_z9.mono (by decide))) λ_ _ _ _ _ _=>us3 λ_ _ _=>rfl;have C_z31:=d_z31.callee (P:=l.prog) (w:=w) (base:=base) X G (λF=>ok_z31 (k:=7) F m (C_z8.mono (by decide)) x_TooMany) λ_ _ _ _ _ _=>us3 λ_ _ _=>rfl;have C_z15:=d_z15.callee (P:=l.prog) (w:=w) (base:=base) X G (λF=>ok_z15 (k:=0) F m) λ_ _ _ _ _ _=>us3 λ_ _ _=>rfl;have C_z28:=d_z28.callee (P:=l.prog) (w:=w) (base:=base) X G (λF=>ok_z28 (k:=0) F m) λ_ _ _ _ _ _=>us2 λ_ _=>rfl;have C_z27:=d_z27.callee (P:=l.prog) (w:=w) (base:=base) X G (λF=>ok_z27 (k:=0) F m) λ_ _ _ _ _ _=>us2 λ_ _=>rfl;have C_z29:=d_z29.callee (P:=l.prog) (w:=w) (base:=base) X G (λF=>ok_z29 (k:=2) F m (C_z27.mono (by decide)) (C_z21.mono (by decide))) λ_ _ _ _ _ _=>us2 λ_ _=>rfl;have C_z30:=d_z30.callee (P:=l.prog) (w:=w) (base:=base) X G (λF=>ok_z30 (k:=3) F m (C_z28.mono (by decide)) (C_z29.mono (by decide)) (C_z21.mono (by decide))) λ_ _ _ _ _ _=>us2 λ_ _=>rfl;exact((ok_law (k:=8) (P:=l.prog) (w:=w) (base:=base) pS m (C_z13.mono (by decide)) (C_z24.mono (by decide)) (C_z22.mono (by decide)) (C_z25.mono (by decide)) (C_z26.mono (by decide)) (C_z31.mono (by decide)) (C_z15.mono (by decide)) (C_z30.mono (by decide)) (C_z8.mono (by decide))).mono (by decide)).imp (law_imp K)
def walk {l:W.OpenLaw}{q:Program}{loose:Yk}{XP:(Ye)->Heap->Prop}{YP:World->Heap->Prop}{d:DefRec}{K:Params->W.Frag}(hn:l.most=some 63)(hdf:d.params.defaults=[])
 (hY:∀(w:World) (h:Heap),YP w h->(K w.params).In h)
 (F:∀(w:World) (mg:Ye) (fa:Addr) (h:Heap),(K w.params).In h->h.Ns mainGlobals mg->mg d.name=some (.ref fa) ->
  ∃fd:FuncData,(∀(s:Shared) (u:Value),BindsTo s fd ⟨[u],[]⟩ [("script",u)])/\∀base:Heap,(K w.params).In base->base.Ns mainGlobals mg->FnOk l.prog w (K w.params) mg base CX0 9 fa fd ["script"] (lX (K w.params))):
 W.WalkO q loose XP YP l.row.toRowW d [] (λf vs=>PySem.call f vs):=
 L2.walk_of (n:=63) (k:=9) (x:= "script") (CX:=λ_=>CX0) (sp:=λw=>lX (K w.params)) hn (by decide) hdf ⟨rfl,by decide,by decide⟩ hY F (λ_ _ a ns hl _ hS=>⟨a,ns,rfl,hS,hl,λ_=>rfl⟩) λ_ _ _ _ _ z=>z
end My
end
open PySem PySem.W PyProof.Rows
set_option maxRecDepth 100000 in
set_option maxHeartbeats 0 in
theorem PySem.Challenge.cw_allfirst_k10_forms_put_in_holds : PySem.Challenge.rw_allfirst_k10_forms_put_in.Holds := by
 w_on;o_law;k_head;(case hw=>w_witness2)
 k_fill
 refine My.walk (l:=PySem.Challenge.rw_allfirst_k10_forms_put_in) rfl rfl (fun w h Y=>PySem.W.kIn_of Y) ?F
 case F =>
  intro w mg fa h KX G hmg;refine' My.all_mk KX G hmg ?d_z13 ?d_z23 ?d_z24 ?d_z14 ?d_z16 ?d_z17 ?d_z18 ?d_z19 ?d_z20 ?d_z21 ?d_z22 ?d_z25 ?d_z12 ?d_z26 ?d_z0 ?d_z4 ?d_z3 ?d_z11 ?d_z6 ?d_z1 ?d_z10 ?d_z7 ?d_z2 ?d_z5 ?d_z9 ?d_z8 ?d_z31 ?d_z15 ?d_z28 ?d_z27 ?d_z29 ?d_z30 ?d_law ?a_TooMany ?q_TooMany ?z_bool ?z_dict ?z_int ?z_isinstance ?z_len ?z_list ?z_max ?z_min ?z_range ?z_set ?z_sorted ?z_sum ?z_tuple
  (case d_z13|d_z23|d_z24|d_z14|d_z16|d_z17|d_z18|d_z19|d_z20|d_z21|d_z22|d_z25|d_z12|d_z26|d_z0|d_z4|d_z3|d_z11|d_z6|d_z1|d_z10|d_z7|d_z2|d_z5|d_z9|d_z8|d_z31|d_z15|d_z28|d_z27|d_z29|d_z30|d_law=>refine' ⟨_,_,?a,L2.fun_mk ?l ?c ?k⟩;(case a=>k_is);(case l=>k_is);(case c=>k_is);(case k=>k_is))
  (case a_TooMany=>k_is)
  (case q_TooMany=>k_exc)
  (case z_bool|z_dict|z_int|z_isinstance|z_len|z_list|z_max|z_min|z_range|z_set|z_sorted|z_sum|z_tuple=>k_is)
