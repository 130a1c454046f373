import PyProof.Rows.All
import Wide.All
import OpenK.AllK
import Wide.FinOn
import Lean
import PyProof.EqAt
import PyProof.EqKinds
import PyProof.TupleCall
import PyProof.P3Eq
import PyProof.NeData
import PySem.Challenge.RW_allfirst_k35_whole_one_alone
set_option autoImplicit true
set_option relaxedAutoImplicit true
set_option Elab.async false
set_option linter.all false
set_option maxRecDepth 100000
set_option bootstrap.genMatcherCode false
set_option compiler.extract_closed false
set_option genSizeOf false
noncomputable section
local macro_rules | `(tactic| omega) => `(tactic| lia)
theorem zau (_:True=True:=by rfl):True:=trivial
theorem zav (_:True:=by decide):True:=trivial
theorem zaw (_:Nat->True=True:=by intro _;rfl):True:=trivial
theorem wx {p0 p1:Prop}{P:Prop}(h:p0/\p1)(k:p0->p1->P):P:=by
 obtain ⟨h0,h1⟩:=h;exact k h0 h1
theorem x8 {p0 p1 p2:Prop}{P:Prop}(h:p0/\p1/\p2)(k:p0->p1->p2->P):P:=by
 obtain ⟨h0,h1,h2⟩:=h;exact k h0 h1 h2
theorem ng {p0 p1 p2 p3:Prop}{P:Prop}(h:p0/\p1/\p2/\p3)(k:p0->p1->p2->p3->P):P:=by
 obtain ⟨h0,h1,h2,h3⟩:=h;exact k h0 h1 h2 h3
theorem xf {p0 p1 p2 p3 p4:Prop}{P:Prop}(h:p0/\p1/\p2/\p3/\p4)(k:p0->p1->p2->p3->p4->P):P:=by
 obtain ⟨h0,h1,h2,h3,h4⟩:=h;exact k h0 h1 h2 h3 h4
theorem zc1a.{u0}{α0:Sort u0}{p0:α0->Prop}{P:Prop}(h:∃ a0,p0 a0)(k:∀ a0,p0 a0->P):P:=by
 obtain ⟨a0,h0⟩:=h;exact k a0 h0
theorem zc1b.{u0}{α0:Sort u0}{p0 p1:α0->Prop}{P:Prop}(h:∃ a0,p0 a0/\p1 a0)(k:∀ a0,p0 a0->p1 a0->P):P:=by
 obtain ⟨a0,h0,h1⟩:=h;exact k a0 h0 h1
theorem zc1c.{u0}{α0:Sort u0}{p0 p1 p2:α0->Prop}{P:Prop}(h:∃ a0,p0 a0/\p1 a0/\p2 a0)(k:∀ a0,p0 a0->p1 a0->p2 a0->P):P:=by
 obtain ⟨a0,h0,h1,h2⟩:=h;exact k a0 h0 h1 h2
theorem zc1d.{u0}{α0:Sort u0}{p0 p1 p2 p3:α0->Prop}{P:Prop}(h:∃ a0,p0 a0/\p1 a0/\p2 a0/\p3 a0)(k:∀ a0,p0 a0->p1 a0->p2 a0->p3 a0->P):P:=by
 obtain ⟨a0,h0,h1,h2,h3⟩:=h;exact k a0 h0 h1 h2 h3
theorem zc1e.{u0}{α0:Sort u0}{p0 p1 p2 p3 p4:α0->Prop}{P:Prop}(h:∃ a0,p0 a0/\p1 a0/\p2 a0/\p3 a0/\p4 a0)(k:∀ a0,p0 a0->p1 a0->p2 a0->p3 a0->p4 a0->P):P:=by
 obtain ⟨a0,h0,h1,h2,h3,h4⟩:=h;exact k a0 h0 h1 h2 h3 h4
theorem zc2a.{u0,u1}{α0:Sort u0}{α1:Sort u1}{p0:α0 -> α1->Prop}{P:Prop}(h:∃ a0 a1,p0 a0 a1)(k:∀ a0 a1,p0 a0 a1->P):P:=by
 obtain ⟨a0,a1,h0⟩:=h;exact k a0 a1 h0
theorem zc2b.{u0,u1}{α0:Sort u0}{α1:Sort u1}{p0 p1:α0 -> α1->Prop}{P:Prop}(h:∃ a0 a1,p0 a0 a1/\p1 a0 a1)(k:∀ a0 a1,p0 a0 a1->p1 a0 a1->P):P:=by
 obtain ⟨a0,a1,h0,h1⟩:=h;exact k a0 a1 h0 h1
theorem zc2c.{u0,u1}{α0:Sort u0}{α1:Sort u1}{p0 p1 p2:α0 -> α1->Prop}{P:Prop}(h:∃ a0 a1,p0 a0 a1/\p1 a0 a1/\p2 a0 a1)(k:∀ a0 a1,p0 a0 a1->p1 a0 a1->p2 a0 a1->P):P:=by
 obtain ⟨a0,a1,h0,h1,h2⟩:=h;exact k a0 a1 h0 h1 h2
theorem zc2d.{u0,u1}{α0:Sort u0}{α1:Sort u1}{p0 p1 p2 p3:α0 -> α1->Prop}{P:Prop}(h:∃ a0 a1,p0 a0 a1/\p1 a0 a1/\p2 a0 a1/\p3 a0 a1)(k:∀ a0 a1,p0 a0 a1->p1 a0 a1->p2 a0 a1->p3 a0 a1->P):P:=by
 obtain ⟨a0,a1,h0,h1,h2,h3⟩:=h;exact k a0 a1 h0 h1 h2 h3
theorem zc3a.{u0,u1,u2}{α0:Sort u0}{α1:Sort u1}{α2:Sort u2}{p0:α0 -> α1 -> α2->Prop}{P:Prop}(h:∃ a0 a1 a2,p0 a0 a1 a2)(k:∀ a0 a1 a2,p0 a0 a1 a2->P):P:=by
 obtain ⟨a0,a1,a2,h0⟩:=h;exact k a0 a1 a2 h0
theorem zc3b.{u0,u1,u2}{α0:Sort u0}{α1:Sort u1}{α2:Sort u2}{p0 p1:α0 -> α1 -> α2->Prop}{P:Prop}(h:∃ a0 a1 a2,p0 a0 a1 a2/\p1 a0 a1 a2)(k:∀ a0 a1 a2,p0 a0 a1 a2->p1 a0 a1 a2->P):P:=by
 obtain ⟨a0,a1,a2,h0,h1⟩:=h;exact k a0 a1 a2 h0 h1
theorem zc3c.{u0,u1,u2}{α0:Sort u0}{α1:Sort u1}{α2:Sort u2}{p0 p1 p2:α0 -> α1 -> α2->Prop}{P:Prop}(h:∃ a0 a1 a2,p0 a0 a1 a2/\p1 a0 a1 a2/\p2 a0 a1 a2)(k:∀ a0 a1 a2,p0 a0 a1 a2->p1 a0 a1 a2->p2 a0 a1 a2->P):P:=by
 obtain ⟨a0,a1,a2,h0,h1,h2⟩:=h;exact k a0 a1 a2 h0 h1 h2
theorem zc4a.{u0,u1,u2,u3}{α0:Sort u0}{α1:Sort u1}{α2:Sort u2}{α3:Sort u3}{p0:α0 -> α1 -> α2 -> α3->Prop}{P:Prop}(h:∃ a0 a1 a2 a3,p0 a0 a1 a2 a3)(k:∀ a0 a1 a2 a3,p0 a0 a1 a2 a3->P):P:=by
 obtain ⟨a0,a1,a2,a3,h0⟩:=h;exact k a0 a1 a2 a3 h0
open PySem PySem.Spec PyProof.Rows
theorem Zqi.{u} {α:Type u}{a b:α}(h:some a=some b):a=b:=Option.some.inj h
theorem Zqg.{u} {α:Type u}{l:List α}{i:Nat}(h:i<l.length):l[i]? = some l[i]:=List.getElem?_eq_getElem h
theorem Zqs.{u} {α:Type u}{a:α}{l:List α}:a∈a::l:=List.mem_cons_self
theorem Zqm.{u} {α:Type u}(y:α){a:α}{l:List α}(h:a∈l):a∈y::l:=List.mem_cons_of_mem y h
theorem Zql.{u,v} {α:Type u}{β:Type v}{l:List α}(f:α->β):(l.map f).length=l.length:=List.length_map f
abbrev Za:=@wpAny_bind
abbrev Zb:=@wpAny_pure
abbrev Zc:=@wpAny_mono
abbrev Zd:=@if_pos
abbrev Ze:=@if_neg
abbrev Zf:=@Nat.le_refl
abbrev Zg:=@Nat.lt_of_lt_of_le
abbrev Zh:=@Nat.le_trans
abbrev Zi:=@Nat.ne_of_lt
abbrev Zj:=@Bool.false_ne_true
abbrev Zk:=@Heap.lt_size
abbrev Zl:=@List.map_cons
abbrev Zm:=@List.size_toArray
abbrev Zn:=@absurd
abbrev Zo:=@decide_eq_false
abbrev Zp:=@decide_eq_true
abbrev Zq:=@Heap.get?_push_of_some
abbrev Zr:=@Heap.get?_push_size
abbrev Zs:=@iff_of_false
abbrev Zt:=@congrArg
abbrev Zu:=@List.length_cons
abbrev Zv:=@List.getElem?_map
abbrev Zw:=@List.map_map
abbrev Zx:=@Nat.lt_irrefl
abbrev Zy:=@Nat.le_of_lt
abbrev Zz:=@List.append_nil
abbrev ZA:=@List.length_range
abbrev ZB:=@List.length_nil
abbrev ZC:=@List.mem_singleton
abbrev ZD:=@List.mem_map
abbrev ZE:=@List.getD_eq_getElem?_getD
abbrev ZF:=@List.mem_cons
abbrev ZG:=@List.length_append
abbrev ZH:=@Array.getElem?_eq_getElem
abbrev ZI:=@List.getElem?_eq_some_iff
abbrev ZJ:=@List.append_assoc
abbrev ZK:=@List.mem_filter
abbrev ZL:=@List.mem_append_right
abbrev ZM:=@List.mem_append
abbrev ZN:=@Array.length_toList
abbrev ZO:=@Bool.false_eq_true
abbrev ZP:=@List.any_eq_true
abbrev ZQ:=@List.length_eq_zero_iff
abbrev ZR:=@Bool.and_eq_true
abbrev ZS:=@List.mem_of_getElem?
abbrev ZT:=@List.map_eq_nil_iff
abbrev ZU:=@List.drop_eq_getElem_cons
abbrev ZV:=@List.map_append
abbrev ZW:=@List.length_filter_le
abbrev ZX:=@Nat.le_of_lt_succ
abbrev ZY:=@Nat.le_add_right
abbrev ZZ:=@List.pairwise_iff_getElem
abbrev Z0:=@Array.size_map
abbrev Z1:=@Array.getD_eq_getD_getElem?
abbrev Z2:=@List.length_take
abbrev Z3:=@List.take_of_length_le
abbrev Z4:=@List.length_singleton
abbrev Z5:=@Nat.not_lt_zero
abbrev Z6:=@List.pairwise_cons
abbrev Z7:=@List.mem_range
abbrev Z8:=@List.mem_append_left
abbrev Z9:=@List.getElem_mem
abbrev Xa:=@Nat.lt_succ_of_lt
abbrev Xb:=@Nat.le_of_succ_le
abbrev Xc:=@List.filterMap_cons
abbrev Xd:=@List.getElem_of_mem
abbrev Xe:=@List.all_eq_true
abbrev Xf:=@Option.map_eq_some_iff
abbrev Xg:=@List.pairwise_append
abbrev Xh:=@Nat.lt_of_le_of_ne
abbrev Xi:=@List.take_append_drop
abbrev Xj:=@Nat.lt_trans
abbrev Xk:=@List.map_congr_left
abbrev Xl:=@Bool.eq_iff_iff
abbrev Xm:=@Nat.lt_succ_self
abbrev Xn:=@List.pairwise_singleton
abbrev Xo:=@List.getElem?_set_self
abbrev Xp:=@Nat.lt_trichotomy
abbrev Xq:=@List.getElem?_append_right
abbrev Xr:=@Nat.lt_of_le_of_lt
abbrev Xs:=@Array.getElem?_map
abbrev Xt:=@List.map_nil
abbrev Xu:=@Array.getElem?_eq_none
abbrev Xv:=@List.getElem?_append_left
abbrev Xw:=@Bool.eq_false_iff
abbrev Xx:=@Nat.lt_of_succ_lt
abbrev Xy:=@Array.getElem?_toList
abbrev Xz:=@List.take_length
abbrev XA:=@List.all_cons
abbrev XB:=@Nat.le_of_eq
abbrev XC:=@List.drop_eq_nil_of_le
abbrev XD:=@List.length_pos_iff
abbrev XE:=@List.length_set
abbrev XF:=@List.foldl_cons
abbrev XG:=@Nat.lt_of_add_lt_add_left
abbrev XH:=@List.zip_cons_cons
abbrev XI:=@List.all_map
abbrev XJ:=@Bool.and_eq_true_iff
abbrev XL:=@Nat.min_eq_left
abbrev XM:=@Bool.not_true
abbrev XN:=@Nat.lt_of_not_le
abbrev XO:=@List.drop_length
abbrev XQ:=@List.getElem?_eq_none_iff
abbrev XR:=@Nat.le_succ_of_le
abbrev XS:=@Array.getElem?_range
abbrev XT:=@List.any_eq_false
abbrev XU:=@List.pairwise_map
abbrev XV:=@Array.mem_toList_iff
abbrev XX:=@List.foldl_append
abbrev XY:=@List.getElem?_range
abbrev XZ:=@Nat.add_sub_cancel_left
abbrev X0:=@List.filter_cons_of_pos
abbrev X1:=@List.filter_cons_of_neg
abbrev X2:=@List.mem_filterMap
abbrev X3:=@Array.size_extract
abbrev X4:=@Bool.or_eq_true
abbrev X5:=@Nat.lt_succ_iff
abbrev X6:=List (Int×Int)
abbrev X7:=List X6
set_option maxHeartbeats 4000000
abbrev Ya:=PySem.Value->PySem.Shared->Prop
abbrev Yb:=List (PySem.Addr×PySem.Obj)
abbrev Yc:=List (Nat×Nat×Nat)
abbrev Yd:=Nat->Nat->Bool
abbrev Ye:=PySem.Str->Option PySem.Value
abbrev Yf:=List PySem.Value
abbrev Yg:=Option PySem.Value
abbrev Yh:=List Int
abbrev Yi:=Array Nat
abbrev Yj:=List Nat
abbrev Yk:=List PySem.Str
abbrev Yl:=List PySem.Addr
abbrev Ym:=List PySem.Expr
abbrev Yn:=Array PySem.Value
abbrev Yo:=@PyProof.Rows.wpS_bind
abbrev Yp:=@PyProof.Rows.wpS_pure
abbrev Yq:=@PyProof.Rows.wpS_mono
abbrev Yr:=@PyProof.Rows.wpS_forRange
abbrev Ys:=@beq_iff_eq
abbrev Yt:=@Unit.unit
abbrev Yu:=@Nat.one_pos
abbrev Yv:=@PySem.F.plainAttrs_list
abbrev Yw:=@PySem.F.slot_list_append
abbrev Yx:=@PySem.F.type_list_append
abbrev Yy:=PyProof.Rows.SortSt->Prop
abbrev Yz:=PySem.Shared->Prop
abbrev YA:=PySem.SetTable
section
local macro_rules | `(tactic| trivial) => `(tactic| first|exact .inl rfl|exact .inr rfl|assumption)
local macro_rules | `(()) => `(by omega)
local macro_rules | `(tactic| omega) => `(tactic| first|(with_reducible first|assumption|exact Nat.le_trans ‹_› ‹_›|exact Nat.lt_of_lt_of_le ‹_› ‹_›|exact Nat.lt_of_le_of_lt ‹_› ‹_›|exact Nat.le_of_lt ‹_›|exact Nat.le_succ_of_le ‹_›|exact Nat.sub_one_lt_of_lt ‹_›|exact Nat.le_of_not_lt ‹_›|exact Nat.lt_trans ‹_› ‹_›)|lia)
namespace L2
abbrev Key:=Sum Int Str
noncomputable def ny:Key->Value->Bool
 | .inl k,v=>Value.isInt k v
 | .inr x,v=>Value.isStrOf x v
noncomputable def keyH (w:World):Key->Int
 | .inl k=>hashInt k
 | .inr x=>hashStr w x
def zS:∀{k:Key} {v:Value},ny k v=true->(∃i t,k=Sum.inl i/\v=Value.int i t)\/(∃x t,k=Sum.inr x/\v=Value.str x t)
 | .inl i,v,h=>by
  obtain⟨t,e⟩:=Value.isInt_shape (k:=i) (v:=v) h;exact .inl ⟨i,t,rfl,e⟩
 | .inr x,v,h=>by
  obtain⟨t,e⟩:=Value.isStrOf_shape (x:=x) (v:=v) h;exact .inr ⟨x,t,rfl,e⟩
def pS (i:Int)(t:Tok):ny (.inl i) (.int i t)=true:=by simp[ny,Value.isInt]
def keyIs_str (x:Str)(t:Tok):ny (.inr x) (.str x t)=true:=by simp[ny,Value.isStrOf]
def key_ll (a b:Int):decide ((Sum.inl a:Key)=Sum.inl b)=(a == b):=by
 by_cases e:a=b
 .subst e;simp -iota
 .have h:¬(Sum.inl a:Key)=Sum.inl b:=λq=>e (Sum.inl.inj q);rw[Zo h];exact(beq_eq_false_iff_ne.mpr e).symm
def key_rr (a b:Str):decide ((Sum.inr a:Key)=Sum.inr b)=decide (a=b):=by
 by_cases e:a=b
 .subst e;simp -iota
 .have h:¬(Sum.inr a:Key)=Sum.inr b:=λq=>e (Sum.inr.inj q);rw[Zo h,Zo e]
def key_lr (a:Int)(b:Str):decide ((Sum.inl a:Key)=Sum.inr b)=false:=Zo (λq=>nomatch q)
def key_rl (a:Str)(b:Int):decide ((Sum.inr a:Key)=Sum.inl b)=false:=Zo (λq=>nomatch q)
def zZ (prog:Program)(w:World):PySem.KeyKind prog w Key where
 is:=ny
 hash:=keyH w
 inj:=λv a b ha hb=>by
  rcases zS ha with ⟨i,t,rfl,rfl⟩|⟨x,t,rfl,rfl⟩
  .rcases zS hb with ⟨j,u,rfl,e⟩|⟨y,u,rfl,e⟩
   .injection e with e1 _;rw[e1]
   .exact nomatch e
  .rcases zS hb with ⟨j,u,rfl,e⟩|⟨y,u,rfl,e⟩
   .exact nomatch e
   .injection e with e1 _;rw[e1]
 byValue:=λk v h=>by
  rcases zS h with ⟨i,t,rfl,rfl⟩|⟨x,t,rfl,rfl⟩<;>rfl
 pyHash:=λhv h=>by
  rcases zS hv with ⟨i,t,rfl,rfl⟩|⟨x,t,rfl,rfl⟩
  .exact wpAny_pyHash_int h
  .exact wpAny_pyHash_str h
 eqBool:=λhu hv h=>by
  rcases zS hu with ⟨i,t,rfl,rfl⟩|⟨x,t,rfl,rfl⟩
  .rcases zS hv with ⟨j,u,rfl,rfl⟩|⟨y,u,rfl,rfl⟩
   .rw[key_ll] at h;exact wpAny_eqBool_int h
   .rw[key_lr] at h;exact SeqAt.EqAt.int_str i t y u _ _ _ _ h
  .rcases zS hv with ⟨j,u,rfl,rfl⟩|⟨y,u,rfl,rfl⟩
   .rw[key_rl] at h;exact SeqAt.EqAt.str_int x t j u _ _ _ _ h
   .rw[key_rr] at h;exact wpAny_eqBool_str h
 «strs»:=λk x t v h=>by
  rcases zS h with ⟨i,u,rfl,e⟩|⟨y,u,rfl,e⟩
  .exact nomatch e
  .injection e with e1 _
   subst e1;cases v<;>rfl
def mixKind_int (prog:Program)(w:World)(i:Int)(t:Tok):(zZ prog w).is (.inl i) (.int i t)=true:=pS i t
def mixKind_str (prog:Program)(w:World)(x:Str)(t:Tok):(zZ prog w).is (.inr x) (.str x t)=true:=keyIs_str x t
inductive V where
 |non|bl (b:Bool)|int (i:Int)|str (x:Str)|byt (b:Array UInt8)|flt (b:UInt64)|ref (a:Addr)|ty (n:String)
 deriving DecidableEq
abbrev _root_.YB:=List V
abbrev _root_.YC:=Option V
noncomputable def y8:V->Value->Prop
 | .non,u=>u=Value.none
 | .bl b,u=>u=Value.bool b
 | .int i,u=>∃t,u=Value.int i t
 | .str x,u=>∃t,u=Value.str x t
 | .byt b,u=>∃t,u=Value.bytes b t
 | .flt b,u=>∃t,u=Value.float b t
 | .ref a,u=>u=Value.ref a
 | .ty n,u=>u=Value.type n
abbrev yt:YB->List Value->Prop:=Paired y8
theorem yt.length {xs:YB}{us:Yf}(r:yt xs us):xs.length=us.length:=Paired.length r
theorem yt.get:∀{xs:YB} {us:Yf} {i:Nat} {x:V},yt xs us->xs[i]? = some x->∃u,us[i]? = some u/\y8 x u
 |_,_,_,_,.nil,e=>by simp -iota at e
 |_,_,0,_,.cons r _,e=>by simp -iota at e;subst e;exact⟨_,rfl,r⟩
 |_,_,i+1,x,.cons _ t,e=>by
  refine zc1b (yt.get (i:=i) (x:=x) t (by simpa -iota using e)) λu h1 h2=>?_;exact⟨u,by simpa -iota using h1,h2⟩
theorem yt.set {x:V}{u:Value}(r:y8 x u):∀{xs:YB} {us:Yf} (i:Nat),yt xs us->yt (xs.set i x) (us.set i u)
 |_,_,_,.nil=>.nil
 |_,_,0,.cons _ t=>.cons r t
 |_,_,i+1,.cons q t=>.cons q (yt.set r i t)
def yt.append:∀{xs ys:YB} {us ws:Yf},yt xs us->yt ys ws->yt (xs++ys) (us++ws):=λh s=>by
 induction h with
 |nil=>exact s
 |cons r _ ih=>exact .cons r ih
def yt.none_of:∀{xs:YB} {us:Yf} {i:Nat},yt xs us->xs[i]? = none->us[i]? = none:=λ{xs us i} r e=>by
 have h1:=r.length;have h2:xs.length<=i:=XQ.mp e;exact XQ.mpr ()
def kF:YC->Option Value->Prop
 |some v,some u=>y8 v u
 |none,none=>True
 |_,_=>False
def KV {κ: Type}:List (κ × V)->List (κ × Value)->Prop:=Paired λ(p:κ × V) (q:κ × Value)=>p.1=q.1/\y8 p.2 q.2
noncomputable def kV:Key->V
 | .inl i=>.int i
 | .inr x=>.str x
set_option genInjectivity false in
inductive HO where
 |lst (xs:YB)
 |tup (xs:YB)
 |dK (kvs:List (Key×V))|dT (kvs:List (List Key×V))
 |set (S:Int->Bool) (n:Nat)
 |ins (C dx:Addr) (fs:List (Str×V))
 |own (x:Addr)
 |xd (fs:List (Str×V))
 |met (f x:Addr)
 |rng (lo hi:Int)
 |frz (o:Obj) (u:HO)
 |tbl (ps:Yn)
 |ext (φ: Heap->Prop)
abbrev Hp:=Addr->Option HO
noncomputable def upd (H:Hp)(a:Addr)(o:HO):Hp:=λb=>if b=a then some o else H b
def zu {H:Hp}{a:Addr}{o:HO}:upd H a o a=some o:=by unfold upd;rw[Zd rfl]
def zD {H:Hp}{a b:Addr}{o:HO}(h:b≠a):upd H a o b=H b:=by unfold upd;rw[Ze h]
def ne_of {H:Hp}{a b:Addr}{o u:HO}(h:H a=some o)(h':H b=some u)(d:o≠u):a≠b:=by
 intro e;subst e;rw[h] at h';exact d (Zqi h')
def yW {H:Hp}{a b:Addr}{o:HO}(h:H a=some o)(h':H b=none):a≠b:=by
 intro e;subst e;rw[h] at h';cases h'
section
variable (P:Program)(w:World)
def yE (H:Hp)(h:Heap)(a:Addr):HO->Prop
 | .lst xs=>xs.length<=sizeLine/\∃(its:Yf) (n:Nat),yt xs its/\h.get? a=some { cls:=.type "list",data:=.seq its.toArray n }
 | .tup xs=>(xs.length<=sizeLine/\∃o,h.get? a=some o/\o.dict=none)/\∃its:Yf,yt xs its/\IsTup h a its.toArray
 | .dK kvs=>kvs.length<=sizeLine/\(a == sysModules)=false/\∃vs,KV kvs vs/\h.DictOf (zZ P w) a vs
 | .dT kvs=>kvs.length<=sizeLine/\(a == sysModules)=false/\∃xs:List (List Key×Addr×Value),
  Paired (λ(p:List Key×V) (q:List Key×Addr×Value)=>p.1=q.1/\H q.2.1=some (.tup (p.1.map kV))/\y8 p.2 q.2.2) kvs xs /\
  ∃o es ep,h.get? a=some o/\o.ExactDict/\o.data=.dict es ep/\es.toList=xs.map (entryOfKey (tupleKind (zZ P w)))/\(xs.map (·.1)).Nodup
 | .set S n=>h.SetOf (intKind P w) a S n
 | .ins C dx fs=>H dx=some (.own a)/\fs.length<=1000/\dx≠a/\h.get? a=some (W.instObj C dx) /\
  ∃mA,h.Ns1 dx mA/\(∀f,kF (fs.lookup f) (mA f))/\PySem.Within mA (fs.map (·.1))
 | .own _=>∃o,h.get? a=some o
 | .xd fs=>∃mA,h.Ns1 a mA/\∀f,kF (fs.lookup f) (mA f)
 | .rng lo hi=>∃t u v,h.get? a=some { cls:=.type "range",data:=.fields #[.int lo t,.int hi u,.int 1 v] }
 | .frz o u=>h.get? a=some o/\yE H h a u
 | .tbl ps=>h.get? a=some { cls:=.none,data:=.fields ps }
 | .met f x=>h.get? a=some (W.methodObj (.ref f) (.ref x))
 | .ext φ => φ h/\(∃o,h.get? a=some o)/\∀h1 h2:Heap,φ h1->(∀o,h1.get? a=some o->h2.get? a=some o) -> φ h2
def HOk (H:Hp)(h:Heap):Prop:=∀a o,H a=some o->yE P w H h a o
end
section
variable {P:Program}{w:World}{H H':Hp}{h h':Heap}{a:Addr}{o:HO}
theorem yE.lt (x:yE P w H h a o):a<h.objs.size:=by
 cases o with
 |lst xs=>obtain⟨_,_,_,_,e⟩:=x;exact Zk e
 |tup xs=>obtain⟨_,_,_,p⟩:=x;exact p.lt
 |dK kvs=>obtain⟨_,_,_,_,o,_,_,e,_⟩:=x;exact Zk e
 |dT kvs=>obtain⟨_,_,_,_,o,_,_,e,_⟩:=x;exact Zk e
 |set S n=>obtain⟨o,_,_,_,e,_⟩:=x;exact Zk e
 |ins C dx fs=>obtain⟨_,_,_,e,_⟩:=x;exact Zk e
 |own y=>obtain⟨_,e⟩:=x;exact Zk e
 |xd fs=>obtain⟨_,⟨_,_,_,e,_⟩,_⟩:=x;exact Zk e
 |rng lo hi=>obtain⟨_,_,_,e⟩:=x;exact Zk e
 |frz ob u=>obtain⟨e,_⟩:=x;exact Zk e
 |tbl ps=>exact Zk (show h.get? a=some _ from x)
 |met f y=>exact Zk (show h.get? a=some _ from x)
 |ext φ => obtain⟨_,⟨_,e⟩,_⟩:=x;exact Zk e
def Paired.mapP {α β: Type}{F G:α -> β -> Prop}:∀{l₁:List α} {l₂:List β},Paired F l₁ l₂->(∀a b,F a b->G a b)->Paired G l₁ l₂:=λh f=>by
 induction h with
 |nil=>exact .nil
 |cons r _ ih=>exact .cons (f _ _ r) ih
def yE.stay (x:yE P w H h a o)(k:∀b u,(b=a\/H b=some (.own a))->h.get? b=some u->h'.get? b=some u)
 (ho:∀b,H b=some (.own a)->H' b=some (.own a)) (ht:∀b xs,H b=some (.tup xs)->H' b=some (.tup xs)):yE P w H' h' a o:=by
 induction o with
 |lst xs=>obtain⟨z,its,n,r,e⟩:=x;exact⟨z,its,n,r,k _ _ (.inl rfl) e⟩
 |tup xs=>obtain⟨⟨z,od,ed,dd⟩,its,r,ob,e,c⟩:=x;exact⟨⟨z,od,k _ _ (.inl rfl) ed,dd⟩,its,r,ob,k _ _ (.inl rfl) e,c⟩
 |dK kvs=>obtain⟨z,y,vs,r,ob,es,ep,e,c⟩:=x;exact⟨z,y,vs,r,ob,es,ep,k _ _ (.inl rfl) e,c⟩
 |dT kvs =>
  refine x8 x λz y zz=>zc1b zz λxs r zz=>zc3b zz λob es ep e c=>?_;exact⟨z,y,xs,Paired.mapP r λp q z=>⟨z.1,ht _ _ z.2.1,z.2.2⟩,ob,es,ep,k _ _ (.inl rfl) e,c⟩
 |set S n=>obtain⟨ob,es,ep,t,e,c⟩:=x;exact⟨ob,es,ep,t,k _ _ (.inl rfl) e,c⟩
 |ins C dx fs =>
  refine xf x λd z ne e zz=>zc1b zz λmA zr5 r=>?_;obtain⟨od,es,ep,e2,c⟩:=zr5;exact⟨ho _ d,z,ne,k _ _ (.inl rfl) e,mA,⟨od,es,ep,k _ _ (.inr d) e2,c⟩,r⟩
 |own y=>obtain⟨ob,e⟩:=x;exact⟨ob,k _ _ (.inl rfl) e⟩
 |xd fs=>obtain⟨mA,⟨od,es,ep,e,c⟩,r⟩:=x;exact⟨mA,⟨od,es,ep,k _ _ (.inl rfl) e,c⟩,r⟩
 |rng lo hi=>obtain⟨t,u,v,e⟩:=x;exact⟨t,u,v,k _ _ (.inl rfl) e⟩
 |frz ob u ih=>obtain⟨e,q⟩:=x;exact⟨k _ _ (.inl rfl) e,ih q⟩
 |tbl ps =>
  have e:h.get? a=some { cls:=.none,data:=.fields ps }:=x;show h'.get? a=some { cls:=.none,data:=.fields ps };exact k a _ (.inl rfl) e
 |met f y =>
  have e:h.get? a=some (W.methodObj (.ref f) (.ref y)):=x;show h'.get? a=some (W.methodObj (.ref f) (.ref y));exact k a _ (.inl rfl) e
 |ext φ => obtain⟨p,⟨o,e⟩,st⟩:=x;exact⟨st _ _ p λo q=>k _ _ (.inl rfl) q,⟨o,k _ _ (.inl rfl) e⟩,st⟩
theorem HOk.lt (x:HOk P w H h)(e:H a=some o):a<h.objs.size:=(x a o e).lt
def HOk.fresh (x:HOk P w H h)(e:h.objs.size<=a):H a=none:=by
 cases q:H a with
 |none=>rfl
 |some u=>exact Zn (Zg (x.lt q) e) (Zx _)
def HOk.kept (x:HOk P w H h)(k:∀b u,h.get? b=some u->h'.get? b=some u):HOk P w H h':=λa o e =>
 (x a o e).stay (λb u _ q=>k b u q) (λ_ q=>q) λ_ _ q=>q
def HOk.laid (x:HOk P w H h)(k:∀b u,h.get? b=some u->h'.get? b=some u)(hp:h.objs.size<=a)(new:yE P w (upd H a o) h' a o):HOk P w (upd H a o) h':=λb u e=>by
 have hn:=x.fresh hp;by_cases hb:b=a
 .subst hb;rw[zu] at e;cases e;exact new
 .rw[zD hb] at e;exact(x b u e).stay (λc v _ q=>k c v q) (λc q=>by rw[zD (yW q hn)];exact q) λc xs q=>by rw[zD (yW q hn)];exact q
end
noncomputable def Rd (H:Hp)(a:Addr)(u:HO):Prop:=H a=some u\/∃o,H a=some (.frz o u)
def Rd.ok {P:Program}{w:World}{H:Hp}{h:Heap}{a:Addr}{u:HO}(r:Rd H a u)(x:HOk P w H h):yE P w H h a u:=by
 rcases r with r|⟨o,r⟩
 .exact x a u r
 .obtain⟨_,q⟩:=x a _ r;exact q
noncomputable def Mut:Option HO->Prop
 |some (.lst _)=>True
 |some (.dK _)=>True
 |some (.dT _)=>True
 |some (.set _ _)=>True
 |some (.ins _ _ _)=>True
 |some (.ext _)=>True
 |_=>False
section
variable {P:Program}{w:World}{H:Hp}{h h':Heap}{x e:Addr}{o':HO}
def HOk.write (ok:HOk P w H h)(mu:Mut (H x))(he:e=x\/H e=some (.own x))(k:∀b u,b≠e->h.get? b=some u->h'.get? b=some u)(heo:∃u,h'.get? e=some u)
 (new:yE P w (upd H x o') h' x o'):HOk P w (upd H x o') h':=λb u q=>by
 have nown:∀c y,H c=some (.own y)->c≠x:=λc y r z=>by subst z;rw[r] at mu;exact mu
 have ntup:∀c xs,H c=some (.tup xs)->c≠x:=λc xs r z=>by subst z;rw[r] at mu;exact mu
 by_cases hb:b=x
 .subst hb;rw[zu] at q;cases q;exact new
 .rw[zD hb] at q;by_cases hbe:b=e
  .have q':H b=some (.own x):=by
    rcases he with z|z
    .exact Zn (hbe.trans z) hb
    .rw[hbe];exact z
   rw[q] at q';cases q';obtain⟨v,hv⟩:=heo;exact⟨v,by rw[hbe];exact hv⟩
  .refine(ok b u q).stay (λc v hc r=>k c v ?_ r) (λc r=>by rw[zD (nown c b r)];exact r) λc xs r=>by rw[zD (ntup c xs r)];exact r
   rcases hc with rfl|hc
   .exact hbe
   .rintro rfl;rcases he with z|z
    .exact nown c b hc z
    .rw[hc] at z;cases z;exact hb rfl
end
structure Un (fs ex:Yl)(H H':Hp)(h h':Heap):Prop where
 keep:∀b o,h.get? b=some o->H b=none->b∉fs->b∉ex->h'.get? b=some o
 slot:∀b o,h.get? b=some o->H b=none->b∈fs->b∉ex->∃sl,h'.get? b=some { o with slots:=sl }
 free:∀b o,h.get? b=some o->H b=none->b∉ex->H' b=none
 there:∀b o,h.get? b=some o->b∉ex->∃o',h'.get? b=some o'
 tups:∀b xs,H b=some (.tup xs)->H' b=some (.tup xs)
 frzs:∀b o u,H b=some (.frz o u)->H' b=some (.frz o u)
 tbls:∀b ps,H b=some (.tbl ps)->∃more,H' b=some (.tbl (ps++more))
section
variable {fs fs' ex ex':Yl}{H H1 H2:Hp}{h h1 h2 h':Heap}{a x e:Addr}{o:HO}
def Un.any (u:Un fs ex H H1 h h1){b:Addr}{ob:Obj}(q:h.get? b=some ob)(n:H b=none)(hx:b∉ex):∃sl,h1.get? b=some { ob with slots:=sl }:=by
 by_cases hb:b∈fs
 .exact u.slot b ob q n hb hx
 .exact⟨ob.slots,u.keep b ob q n hb hx⟩
def Un.kept (k:∀b u,h.get? b=some u->h'.get? b=some u):Un fs ex H H h h':=
 ⟨λb ob q _ _ _=>k b ob q,λb ob q _ _ _=>⟨ob.slots,k b ob q⟩,λ_ _ _ n _=>n,λb ob q _=>⟨ob,k b ob q⟩,λ_ _ q=>q,λ_ _ _ q=>q,λ_ ps q=>⟨#[],by rw[q];simp -iota⟩⟩
def Un.refl:Un fs ex H H h h:=Un.kept λ_ _ q=>q
def Un.laid (k:∀b u,h.get? b=some u->h'.get? b=some u)(hp:h.objs.size<=a)(hn:H a=none):Un fs ex H (upd H a o) h h' where
 keep:=λb u q _ _ _=>k b u q
 slot:=λb u q _ _ _=>⟨u.slots,k b u q⟩
 free:=λb u q n _=>by rw[zD (Zi (Zg (Zk q) hp))];exact n
 there:=λb u q _=>⟨u,k b u q⟩
 tups:=λb xs q=>by rw[zD (yW q hn)];exact q
 frzs:=λb u xs q=>by rw[zD (yW q hn)];exact q
 tbls:=λb ps q=>⟨#[],by rw[zD (yW q hn),q];simp -iota⟩
def Un.write (mu:Mut (H x))(he:e=x\/H e=some (.own x))(k:∀b u,b≠e->h.get? b=some u->h'.get? b=some u)(heo:∃u,h'.get? e=some u):Un fs ex H (upd H x o) h h':=by
 have hx:∀b,H b=none->b≠x:=λb n z=>by subst z;rw[n] at mu;exact mu
 have hb:∀b,H b=none->b≠e:=λb n z=>by
  subst z;rcases he with r|r
  .exact hx b n r
  .rw[n] at r;cases r
 have hm:∀b u,H b=some u->¬Mut (some u)->b≠x:=λb u q nm z=>by subst z;rw[q] at mu;exact nm mu
 refine⟨λb u q n _ _=>k b u (hb b n) q,λb u q n _ _=>⟨u.slots,k b u (hb b n) q⟩,λb u q n _=>by rw[zD (hx b n)];exact n,λb u q _=>?_,
  λb xs q=>by rw[zD (hm b _ q λz=>z)];exact q,λb u xs q=>by rw[zD (hm b _ q λz=>z)];exact q,λb ps q=>⟨#[],by rw[zD (hm b _ q λz=>z),q];simp -iota⟩⟩
 by_cases hbe:b=e
 .subst hbe;exact heo
 .exact⟨u,k b u hbe q⟩
end
noncomputable def trk (h:Heap)(H:Hp):Yl:=(List.range h.objs.size).filter λa=>(H a).isSome
def g0 (h:Heap)(H:Hp):Heap:=W.hideAll h (trk h H)
def hidT_size (h:Heap)(H:Hp):(g0 h H).objs.size=h.objs.size:=W.hideAll_size _ _
def hidT_get {h:Heap}{H:Hp}{b:Addr}{o:Obj}(e:h.get? b=some o)(n:H b=none):(g0 h H).get? b=some o:=
 W.hideAll_get _ e λhm=>by
  have q:(H b).isSome=true:=(ZK.mp hm).2;rw[n] at q;simp -iota at q
def of_hidT {h:Heap}{H:Hp}{b:Addr}{o:Obj}(e:(g0 h H).get? b=some o):h.get? b=some o/\H b=none:=by
 have e':h.get? b=some o:=W.of_hideAll (trk h H) e;refine⟨e',?_⟩;cases q:H b with
 |none=>rfl
 |some x =>
  have hm:b∈trk h H:=ZK.mpr ⟨Z7.mpr (Zk e'),by simp -iota [q]⟩;have z:(g0 h H).get? b=none:=W.hideAll_none (trk h H) hm;rw[z] at e;cases e
structure Mod (K:W.Frag)(mg:Ye)(base:Heap):Prop where
 kin:K.In base
 glob:base.Ns mainGlobals mg
 blt:∃mb,base.Ns builtinsNs mb/\∀x:Str,x ≠ "__name__" -> mb x=bootBuiltins x
 nolimit:base.NoLimit
set_option genInjectivity false in
structure Cx where
 prog:Program
 w:World
 K:W.Frag
 mg:Ye
 base:Heap
 A:Around
 N:Yk
 s₀:Shared
 H₀:Hp
 env:Env
 outer:List Env
 stack:List Env
 ex:Yl
 fn:Str->Bool
 calm:Bool
 pn:Yb
 xe:Ya
abbrev _root_.YF(X:Cx){α:Type}(m:Sem α):=wpAny (model X.prog X.w) X.A m
abbrev _root_.YG(P:Program)(w:World)(A:Around){α:Type}(m:Sem α):=wpAny (model P w) A m
abbrev _root_.YH(P:Program)(w:World)(A:Around)(E:Value->Shared->Prop)(s:Shared){α:Type}(m:StateT PyProof.Rows.SortSt Sem α):=PyProof.Rows.wpS (model P w) A E s m
noncomputable def frs (l:List Env):Yl:=l.filterMap (·.frame)
abbrev Cx.fs (X:Cx):Yl:=frs X.outer
noncomputable def Vis (sc:Scope)(x:Str):Prop:=sc.names.lookup x=some .local\/sc.names.lookup x=some .cell\/sc.names.lookup x=some .free
noncomputable def Loc (sc:Scope)(x:Str):Prop:=sc.names.lookup x=some .local\/sc.names.lookup x=some .cell
noncomputable def Look (env:Env)(h:Heap)(m:Ye)(x:Str)(u:Value):Prop:=
 (env.kindOf x=some .local/\m x=some u)\/((env.kindOf x=some .cell\/env.kindOf x=some .free)/\∃c,env.cells.lookup x=some c/\h.IsCell c (some u))
structure Cx.Ok (X:Cx):Prop where
 mod:Mod X.K X.mg X.base
 kind:X.env.scope.kind=.function
 glob:X.env.globals=mainGlobals
 blt:X.env.builtins=builtinsNs
 above:X.s₀.heap.objs.size<=X.env.locals
 inj:∀x y c,X.env.cells.lookup x=some c->X.env.cells.lookup y=some c->x=y
 has:∀x,(X.env.kindOf x=some .cell\/X.env.kindOf x=some .free)->∃c,X.env.cells.lookup x=some c
 cab:∀x c,X.fn x=true->X.env.cells.lookup x=some c->X.s₀.heap.objs.size<=c
 hd:X.calm=true->X.A.handled=none
 frames:X.A.frames=some X.stack
 stk:X.stack=X.outer\/(X.stack=X.env::X.outer/\X.env.frame=some X.env.locals)
 exf:∀b∈X.ex,b≠X.env.locals/\∀x c,X.env.cells.lookup x=some c->c≠b
 bs:∀b o,X.base.get? b=some o->X.s₀.heap.get? b=some o/\X.H₀ b=none
 bsz:X.base.objs.size<=X.s₀.heap.objs.size
 noex:∀b o,X.base.get? b=some o->b∉X.ex
 exfs:∀b∈X.ex,b∉X.fs
 funs:X.s₀.heap.FunFrames X.base X.outer
 frf:∀b∈X.fs,X.H₀ b=none
structure Inv (X:Cx)(Y:Yb)(Z:List YC)(H:Hp)(s:Shared):Prop where
 ok:X.Ok
 os:s.os=X.s₀.os
 bare:AllBare s.gens
 base:Un X.fs X.ex X.H₀ H X.s₀.heap s.heap
 loc:∃m,s.heap.Ns X.env.locals m/\∀(i:Nat) (x:Str) (v:V),X.N[i]? = some x -> Z[i]? = some (some v)->Vis X.env.scope x->∃u,y8 v u/\Look X.env s.heap m x u
 cell:∀x c,X.env.cells.lookup x=some c->∃v,s.heap.IsCell c v
 free:H X.env.locals=none
 freeC:∀x c,X.env.cells.lookup x=some c->H c=none
 pin:∀p∈X.pn++Y,s.heap.get? p.1=some p.2/\H p.1=none/\p.1≠X.env.locals/\p.1∉X.fs/\∀v,p.2.data ≠ .cell v
 hok:HOk X.prog X.w H s.heap
 len:Z.length=X.N.length
section
variable {X:Cx}{Y:Yb}{Z:List YC}{H H':Hp}{s:Shared}{h':Heap}
def Cx.Ok.nofr (ok:X.Ok){b:Addr}{o:Obj}(e:X.base.get? b=some o):b∉X.fs:=λhb=>by
 have:=(ok.funs.mem hb).1;rw[e] at this;cases this
theorem Inv.bs (I:Inv X Y Z H s):∀b o,X.base.get? b=some o->s.heap.get? b=some o/\H b=none:=λb o e =>
 ⟨I.base.keep b o (I.ok.bs b o e).1 (I.ok.bs b o e).2 (I.ok.nofr e) (I.ok.noex b o e),I.base.free b o (I.ok.bs b o e).1 (I.ok.bs b o e).2 (I.ok.noex b o e)⟩
def Inv.bk (I:Inv X Y Z H s):∀b o,X.base.get? b=some o->s.heap.get? b=some o:=λb o e=>(I.bs b o e).1
theorem Inv.mod (I:Inv X Y Z H s):Mod X.K X.mg X.base:=I.ok.mod
def Inv.kIn (I:Inv X Y Z H s):X.K.In s.heap:=I.ok.mod.kin.keeps I.bk
theorem Inv.lt (I:Inv X Y Z H s):X.env.locals<s.heap.objs.size:=let ⟨_,hn,_⟩:=I.loc;hn.lt
def Inv.sz (I:Inv X Y Z H s):X.s₀.heap.objs.size<=s.heap.objs.size:=Zh I.ok.above (Zy I.lt)
def Inv.nofs (I:Inv X Y Z H s){a:Addr}(h:s.heap.objs.size<=a):a∉X.fs:=λhb=>by
 refine wx (I.ok.funs.mem hb) λ_ zz=>zc1b zz λo ho _=>?_;exact Zn (Zg (Zk ho) (Zh I.sz h)) (Zx _)
def Inv.cne (I:Inv X Y Z H s):∀x c,X.env.cells.lookup x=some c->c≠X.env.locals:=λx c e z=>by
 refine zc2b (I.cell x c e) λv o ho hd=>?_;refine zc1b I.loc λm zr1 _=>?_;obtain⟨o',es,ep,ho',hd',_⟩:=zr1;rw[z,ho'] at ho;cases ho;rw[hd'] at hd;cases hd
theorem Inv.funs (I:Inv X Y Z H s):s.heap.FunFrames X.base X.outer:=by
 have all:∀(l:List Env),(∀b∈frs l,b∈X.fs)->X.s₀.heap.FunFrames X.base l->s.heap.FunFrames X.base l:=by
  intro l
  induction l with
  |nil=>intro _ _;trivial
  |cons env r ih =>
   intro hs hl;refine x8 hl λhk zr1 hr=>?_;obtain⟨L,o,hf,hn,ho,hd⟩:=zr1;have hL:L∈X.fs:=hs L (by unfold frs;rw[Xc,hf];exact Zqs);obtain⟨sl,e⟩:=I.base.slot L o ho (I.ok.frf L hL) hL λz=>I.ok.exfs L z hL;exact⟨hk,⟨L,_,hf,hn,e,hd⟩,ih (λb hb=>hs b (by unfold frs;rw[Xc,hf];exact Zqm _ hb)) hr⟩
 exact all X.outer (λ_ hb=>hb) I.ok.funs
theorem Inv.stack (I:Inv X Y Z H s):s.heap.FunFrames X.base X.stack:=by
 rcases I.ok.stk with e|⟨e,hf⟩
 .rw[e];exact I.funs
 .rw[e];refine zc1b I.loc λm hn _=>?_;refine .cons (by rw[I.ok.kind];decide) hf hn ?_ I.funs;exact Heap.get?_none_of_le (Zh I.ok.bsz I.ok.above)
def Inv.stkSub (I:Inv X Y Z H s):∀b∈frs X.stack,b∈X.env.locals::X.fs:=λb hb=>by
 rcases I.ok.stk with e|⟨e,hf⟩
 .rw[e] at hb;exact Zqm _ hb
 .rw[e] at hb;unfold frs at hb;rw[Xc,hf] at hb;exact hb
def Inv.stkFree (I:Inv X Y Z H s):∀b∈frs X.stack,H b=none:=λb hb=>by
 rcases ZF.mp (I.stkSub b hb) with e|hb
 .rw[e];exact I.free
 .refine wx (I.ok.funs.mem hb) λ_ zz=>zc1b zz λo ho _=>?_;exact I.base.free b o ho (I.ok.frf b hb) λz=>I.ok.exfs b z hb
def Inv.step {g':Array GenState}{t':Nat}{d':Drawn}{ch:Yl}(I:Inv X Y Z H s)
 (hch:∀b∈ch,(b∈X.ex\/X.s₀.heap.objs.size<=b)/\b≠X.env.locals/\(∀x c,X.env.cells.lookup x=some c->c≠b)/\∀p∈X.pn++Y,p.1≠b)
 (keep:∀b o,b≠X.env.locals->b∉X.fs->b∉ch->s.heap.get? b=some o->H b=none->h'.get? b=some o)
 (slot:∀b o,b≠X.env.locals->b∈X.fs->b∉ch->s.heap.get? b=some o->H b=none->∃sl,h'.get? b=some { o with slots:=sl }) (free:∀b o,b∉ch->s.heap.get? b=some o->H b=none->H' b=none)
 (there:∀b o,b∉ch->s.heap.get? b=some o->∃o',h'.get? b=some o')
 (tups:∀b xs,H b=some (.tup xs)->H' b=some (.tup xs)) (frzs:∀b o u,H b=some (.frz o u)->H' b=some (.frz o u)) (tbls:∀b ps,H b=some (.tbl ps)->∃more,H' b=some (.tbl (ps++more)))
 (ns:∀m,s.heap.Ns X.env.locals m->h'.Ns X.env.locals m) (hok:HOk X.prog X.w H' h') (hg:AllBare g'):
 Inv X Y Z H' { s with heap:=h',gens:=g',drawn:=d',toks:=t' }:=by
 have neL:∀b o,X.s₀.heap.get? b=some o->b≠X.env.locals:=λb o e=>Zi (Zg (Zk e) I.ok.above);have neC:∀b o,X.s₀.heap.get? b=some o->b∉X.ex->b∉ch:=λb o e hx hb=>by
  rcases(hch b hb).1 with z|z
  .exact hx z
  .exact Zn (Zg (Zk e) z) (Zx _)
 have cellK:∀x c,X.env.cells.lookup x=some c->∀v,s.heap.IsCell c v->h'.IsCell c v:=λx c e v zh=>by
  refine zc1b zh λo ho hd=>?_;have nch:c∉ch:=λz=>(hch c z).2.2.1 x c e rfl;by_cases hc:c∈X.fs
  .obtain⟨sl,q⟩:=slot c o (I.cne x c e) hc nch ho (I.freeC x c e);exact⟨_,q,hd⟩
  .exact⟨o,keep c o (I.cne x c e) hc nch ho (I.freeC x c e),hd⟩
 refine⟨I.ok,I.os,hg,⟨λb o e n hb hx=>?_,λb o e n hb hx=>?_,λb o e n hx=>?_,λb o e hx=>?_,λb xs e=>tups b xs (I.base.tups b xs e),λb o xs e=>frzs b o xs (I.base.frzs b o xs e),λb ps e=>?_⟩,?_,λx c e=>?_,?_,λx c e=>?_,λp hp=>?_,hok,I.len⟩
 .exact keep b o (neL b o e) hb (neC b o e hx) (I.base.keep b o e n hb hx) (I.base.free b o e n hx)
 .obtain⟨sl,e1⟩:=I.base.slot b o e n hb hx;obtain⟨sl',e2⟩:=slot b _ (neL b o e) hb (neC b o e hx) e1 (I.base.free b o e n hx);exact⟨sl',e2⟩
 .obtain⟨o',e1⟩:=I.base.there b o e hx;exact free b o' (neC b o e hx) e1 (I.base.free b o e n hx)
 .obtain⟨o',e1⟩:=I.base.there b o e hx;exact there b o' (neC b o e hx) e1
 .obtain⟨m1,e1⟩:=I.base.tbls b ps e;obtain⟨m2,e2⟩:=tbls b _ e1;exact⟨m1++m2,by rw[e2,Array.append_assoc]⟩
 .refine zc1b I.loc λm hn hl=>?_;refine⟨m,ns m hn,λi x v e1 e2 e3=>?_⟩;refine zc1b (hl i x v e1 e2 e3) λu r l=>?_;refine⟨u,r,?_⟩;rcases l with l|⟨k,c,e,z⟩
  .exact .inl l
  .exact .inr ⟨k,c,e,cellK x c e _ z⟩
 .obtain⟨v,z⟩:=I.cell x c e;exact⟨v,cellK x c e v z⟩
 .refine zc1b I.loc λm zr1 _=>?_;obtain⟨o,_,_,ho,_⟩:=zr1;exact free _ o (λz=>(hch _ z).2.1 rfl) ho I.free
 .refine zc2b (I.cell x c e) λv o ho hd=>?_;exact free c o (λz=>(hch c z).2.2.1 x c e rfl) ho (I.freeC x c e)
 .refine xf (I.pin p hp) λe n ne nf d=>?_;have nch:p.1∉ch:=λz=>(hch p.1 z).2.2.2 p hp rfl;exact⟨keep p.1 p.2 ne nf nch e n,free p.1 p.2 nch e n,ne,nf,d⟩
def Inv.un {t':Nat}(I:Inv X Y Z H s)(u:Un X.fs [] H H' s.heap h')(hok:HOk X.prog X.w H' h'):Inv X Y Z H' { s with heap:=h',toks:=t' }:=by
 refine zc1b (id I.loc) λm zr1 _=>?_;obtain⟨o,es,ep,ho,r⟩:=zr1;obtain⟨sl,hL⟩:=u.any ho I.free (by simp -iota);exact I.step (g':=s.gens) (d':=s.drawn) (ch:=[]) (λ_ z=>nomatch z) (λb o _ hb _ e n=>u.keep b o e n hb (by simp -iota)) (λb o _ hb _ e n=>u.slot b o e n hb (by simp -iota)) (λb o _ e n=>u.free b o e n (by simp -iota)) (λb o _ e=>u.there b o e (by simp -iota)) u.tups u.frzs u.tbls (λm' hm=>by
  refine zc3b hm λo' es' ep' ho' r'=>?_;rw[ho] at ho';cases ho';exact⟨_,es',ep',hL,r'⟩) hok I.bare
def Inv.call {g':Array GenState}{t':Nat}{d':Drawn}{ch:Yl}(I:Inv X Y Z H s)(u:Un (frs X.stack) ch H H' s.heap h')(hok:HOk X.prog X.w H' h')(hg:AllBare g')
 (hch:∀b∈ch,(b∈X.ex\/X.s₀.heap.objs.size<=b)/\b≠X.env.locals/\(∀x c,X.env.cells.lookup x=some c->c≠b)/\∀p∈X.pn++Y,p.1≠b):
 Inv X Y Z H' { s with heap:=h',gens:=g',drawn:=d',toks:=t' }:=by
 refine zc1b (id I.loc) λm zr1 _=>?_;obtain⟨o,es,ep,ho,r⟩:=zr1;obtain⟨sl,hL⟩:=u.any ho I.free λz=>(hch _ z).2.1 rfl;exact I.step (ch:=ch) hch (λb o hL hb hc e n=>u.keep b o e n (λz=>(ZF.mp (I.stkSub b z)).elim hL hb) hc) (λb o _ _ hc e n=>u.any e n hc) (λb o hc e n=>u.free b o e n hc) (λb o hc e=>u.there b o e hc) u.tups u.frzs u.tbls (λm' hm=>by
  refine zc3b hm λo' es' ep' ho' r'=>?_;rw[ho] at ho';cases ho';exact⟨_,es',ep',hL,r'⟩) hok hg
def Inv.turned {t':Nat}{it:Addr}(I:Inv X Y Z H s)(k:∀b o,b≠it->s.heap.get? b=some o->h'.get? b=some o)(hn:H it=none)(hL:it≠X.env.locals)
 (h1:it∈X.ex\/X.s₀.heap.objs.size<=it) (h2:∀x c,X.env.cells.lookup x=some c->c≠it) (h3:∀p∈X.pn++Y,p.1≠it):Inv X Y Z H { s with heap:=h',toks:=t' }:=by
 have nit:∀b u,H b=some u->b≠it:=λb u e z=>by rw[z,hn] at e;cases e
 refine I.step (g':=s.gens) (d':=s.drawn) (ch:=[it]) (λb hb=>?_) (λb o _ _ hc e _=>k b o (λz=>hc (by simp -iota [z])) e) (λb o _ _ hc e _=>⟨o.slots,k b o (λz=>hc (by simp -iota [z])) e⟩) (λ_ _ _ _ n=>n)
  (λb o hc e=>⟨o,k b o (λz=>hc (by simp -iota [z])) e⟩) (λ_ _ e=>e) (λ_ _ _ e=>e) (λb ps e=>⟨#[],by rw[e];simp -iota⟩) (λm hm=>?_) (λb u e=>?_) I.bare
 .have e:b=it:=by simpa -iota using hb
  subst e;exact⟨h1,hL,h2,h3⟩
 .refine zc3b hm λo es ep ho r=>?_;exact⟨o,es,ep,k _ o (Ne.symm hL) ho,r⟩
 .refine(I.hok b u e).stay (λc v hc q=>k c v ?_ q) (λ_ q=>q) λ_ _ q=>q;rcases hc with z|z
  .rw[z];exact nit b u e
  .exact nit c _ z
def Inv.tok (I:Inv X Y Z H s)(t:Nat):Inv X Y Z H { s with toks:=t }:=I.un (h':=s.heap) (t':=t) Un.refl I.hok
theorem Inv.kept {t':Nat}(I:Inv X Y Z H s)(k:∀b u,s.heap.get? b=some u->h'.get? b=some u):Inv X Y Z H { s with heap:=h',toks:=t' }:=I.un (Un.kept k) (I.hok.kept k)
theorem Inv.laid {a:Addr}{o:HO}{t':Nat}(I:Inv X Y Z H s)(k:∀b u,s.heap.get? b=some u->h'.get? b=some u)(hp:s.heap.objs.size<=a)(new:yE X.prog X.w (upd H a o) h' a o):
 Inv X Y Z (upd H a o) { s with heap:=h',toks:=t' }:=I.un (Un.laid k hp (I.hok.fresh hp)) (I.hok.laid k hp new)
theorem Inv.write {x e:Addr}{o:HO}{t':Nat}(I:Inv X Y Z H s)(mu:Mut (H x))(he:e=x\/H e=some (.own x))(k:∀b u,b≠e->s.heap.get? b=some u->h'.get? b=some u)(heo:∃u,h'.get? e=some u)
 (new:yE X.prog X.w (upd H x o) h' x o):Inv X Y Z (upd H x o) { s with heap:=h',toks:=t' }:=I.un (Un.write mu he k heo) (I.hok.write mu he k heo new)
def Inv.pins_of {Y':Yb}(I:Inv X Y Z H s)(h:∀p∈Y',s.heap.get? p.1=some p.2/\H p.1=none/\p.1≠X.env.locals/\p.1∉X.fs/\∀v,p.2.data ≠ .cell v):Inv X Y' Z H s:=
 ⟨I.ok,I.os,I.bare,I.base,I.loc,I.cell,I.free,I.freeC,λp hp=>(ZM.mp hp).elim (λz=>I.pin p (Z8 _ z)) (h p),I.hok,I.len⟩
def mS {N:Yk}(hN:N.Nodup){i j:Nat}{x:Str}(a:N[i]? = some x)(b:N[j]? = some x):i=j:=by
 obtain⟨h1,e1⟩:=ZI.mp a;obtain⟨h2,e2⟩:=ZI.mp b;exact(List.getElem_inj hN).mp (e1.trans e2.symm)
def store_ok2 {M:Model}{A:Around}{E:Ya}{i:Nat}{x:Str}{v:V}{u:Value}{Q:Unit->Yz}(I:Inv X Y Z H s)(hN:X.N.Nodup)(hi:X.N[i]? = some x)(hx:Loc X.env.scope x)(r:y8 v u)
 (h:∀s',Inv X Y (Z.set i (some v)) H s'->(∃a,Heap.SameBut a s.heap s'.heap/\(a=X.env.locals\/X.env.cells.lookup x=some a))->Q Yt s') (hf:X.fn x=true\/X.env.scope.names.lookup x=some .local:=by trivial):wpAny M A (storeName X.env x u) Q E s:=by
 refine zc1b (id I.loc) λm hn hl=>?_;have hcls:(X.env.scope.kind == .class||(X.env.scope.kind == .module&&X.env.locals != X.env.globals))=false:=by rw[I.ok.kind];rfl
 have hiσ:i < Z.length:=by rw[I.len];exact(ZI.mp hi).1
 have cne:=I.cne;have tracked:∀{a:Addr} {h':Heap},(∃o,s.heap.get? a=some o/\H a=none)->Heap.SameBut a s.heap h'->HOk X.prog X.w H h':=λ{a h'} ha hs b ob e=>by
  refine zc1b ha λ_ _ hfree=>?_;refine(I.hok b ob e).stay (λc w' hc q=>(hs.2 c ?_).trans q) (λ_ q=>q) λ_ _ q=>q;rintro rfl;rcases hc with rfl|hc
  .rw[hfree] at e;cases e
  .rw[hfree] at hc;cases hc
 rcases hx with hk|hk
 .refine wpAny_storeName_local hk hn (λh' hn' hs=>?_) hcls;refine zc3b (id hn) λoL _ _ hoL _=>?_;refine h _ ⟨I.ok,I.os,I.bare,⟨λb o e n hb hx=>?_,λb o e n hb hx=>?_,I.base.free,λb o e hx=>?_,I.base.tups,I.base.frzs,I.base.tbls⟩,⟨_,hn',λj y v' e1 e2 e3=>?_⟩,λy c e=>?_,I.free,I.freeC,λp hp=>?_,tracked ⟨oL,hoL,I.free⟩ hs,by simpa -iota using I.len⟩ ⟨_,hs,.inl rfl⟩
  .exact(hs.2 b (Zi (Zg (Zk e) I.ok.above))).trans (I.base.keep b o e n hb hx)
  .obtain⟨sl,e1⟩:=I.base.slot b o e n hb hx;exact⟨sl,(hs.2 b (Zi (Zg (Zk e) I.ok.above))).trans e1⟩
  .obtain⟨o',e1⟩:=I.base.there b o e hx;exact⟨o',(hs.2 b (Zi (Zg (Zk e) I.ok.above))).trans e1⟩
  .by_cases hj:j=i
   .subst hj;rw[hi] at e1;cases e1;rw[Xo hiσ] at e2;cases e2;exact⟨u,r,.inl ⟨hk,by simp -iota⟩⟩
   .rw[List.getElem?_set_ne (Ne.symm hj)] at e2;refine zc1b (hl j y v' e1 e2 e3) λu' r' q=>?_;refine⟨u',r',?_⟩;rcases q with ⟨k,e⟩|⟨k,c,e,z⟩
    .refine .inl ⟨k,?_⟩;have:y≠x:=λe=>hj (mS hN e1 (e ▸ hi));simp -iota [this,e]
    .exact .inr ⟨k,c,e,z.sameBut hs (cne y c e)⟩
  .obtain⟨w',z⟩:=I.cell y c e;exact⟨w',z.sameBut hs (cne y c e)⟩
  .refine xf (I.pin p hp) λe n ne nf d=>?_;exact⟨(hs.2 p.1 ne).trans e,n,ne,nf,d⟩
 .have hfn:X.fn x=true:=by
   rcases hf with z|z
   .exact z
   .rw[z] at hk;cases hk
  obtain⟨c,hc⟩:=I.ok.has x (.inl hk);obtain⟨w',z⟩:=I.cell x c hc;refine wpAny_storeName_cell I.ok.kind hk hc z (λh' hc' hs=>?_);refine zc1b (id z) λoc hoc hocd=>?_;refine h { s with heap:=h' } ⟨I.ok,I.os,I.bare,⟨λb o e n hb hx=>?_,λb o e n hb hx=>?_,I.base.free,λb o e hx=>?_,I.base.tups,I.base.frzs,I.base.tbls⟩,⟨m,hn.sameBut hs (Ne.symm (cne x c hc)),λj y v' e1 e2 e3=>?_⟩,λy c' e=>?_,I.free,I.freeC,λp hp=>?_,tracked ⟨oc,hoc,I.freeC x c hc⟩ hs,by simpa -iota using I.len⟩ ⟨c,hs,.inr hc⟩
  .exact(hs.2 b (Zi (Zg (Zk e) (I.ok.cab x c hfn hc)))).trans (I.base.keep b o e n hb hx)
  .obtain⟨sl,e1⟩:=I.base.slot b o e n hb hx;exact⟨sl,(hs.2 b (Zi (Zg (Zk e) (I.ok.cab x c hfn hc)))).trans e1⟩
  .obtain⟨o',e1⟩:=I.base.there b o e hx;exact⟨o',(hs.2 b (Zi (Zg (Zk e) (I.ok.cab x c hfn hc)))).trans e1⟩
  .by_cases hj:j=i
   .subst hj;rw[hi] at e1;cases e1;rw[Xo hiσ] at e2;cases e2;exact⟨u,r,.inr ⟨.inl hk,c,hc,hc'⟩⟩
   .rw[List.getElem?_set_ne (Ne.symm hj)] at e2;refine zc1b (hl j y v' e1 e2 e3) λu' r' q=>?_;refine⟨u',r',?_⟩;rcases q with q|⟨k,c',e,z'⟩
    .exact .inl q
    .refine .inr ⟨k,c',e,z'.sameBut hs ?_⟩;rintro rfl;exact hj (mS hN e1 (I.ok.inj _ _ _ e hc ▸ hi))
  .by_cases hcc:c'=c
   .subst hcc;exact⟨_,hc'⟩
   .obtain⟨w2,z2⟩:=I.cell y c' e;exact⟨w2,z2.sameBut hs hcc⟩
  .refine xf (I.pin p hp) λe n ne nf d=>?_;refine⟨(hs.2 p.1 ?_).trans e,n,ne,nf,d⟩;intro q;rw[q,hoc] at e;have q':oc=p.2:=Zqi e;exact d w' (by rw[<- q'];exact hocd)
def tu {M:Model}{A:Around}{E:Ya}{i:Nat}{x:Str}{v:V}{u:Value}{Q:Unit->Yz}(I:Inv X Y Z H s)(hN:X.N.Nodup)(hi:X.N[i]? = some x)(hx:Loc X.env.scope x)(r:y8 v u)
 (h:∀s',Inv X Y (Z.set i (some v)) H s'->Q Yt s') (hf:X.fn x=true\/X.env.scope.names.lookup x=some .local:=by trivial):wpAny M A (storeName X.env x u) Q E s:=
 store_ok2 I hN hi hx r (λs' I' _=>h s' I') hf
def Inv.call' {s':Shared}{ch:Yl}(I:Inv X Y Z H s)(ho:s'.os=s.os)(u:Un (frs X.stack) ch H H' s.heap s'.heap)(hok:HOk X.prog X.w H' s'.heap)(hg:AllBare s'.gens)
 (hch:∀b∈ch,(b∈X.ex\/X.s₀.heap.objs.size<=b)/\b≠X.env.locals/\(∀x c,X.env.cells.lookup x=some c->c≠b)/\∀p∈X.pn++Y,p.1≠b):Inv X Y Z H' s':=by
 obtain⟨h',g',d',t',o'⟩:=s';have e:o'=s.os:=ho;subst e;exact I.call (g':=g') (t':=t') (d':=d') u hok hg hch
end
abbrev XK:=Value->Option Addr->Hp->Prop
abbrev St:=List YC
abbrev VK:=V->Hp->Prop
abbrev TE:=St->Hp->VK->Prop
abbrev TT:=St->Hp->(Bool->Hp->Prop)->Prop
abbrev TA:=St->Hp->(YB->Hp->Prop)->Prop
set_option genInjectivity false in
structure Ends where
 nx:St->Hp->Prop
 rt:VK
 bk:St->Hp->Prop:=λ_ _=>False
 ct:St->Hp->Prop:=λ_ _=>False
abbrev TS:=Ends->St->Hp->Prop
def EP (X:Cx)(Y:Yb)(Z:St)(Q:VK)(u:Value)(s':Shared):Prop:=∃v H',Inv X Y Z H' s'/\y8 v u/\Q v H'
noncomputable def TP (X:Cx)(Y:Yb)(Z:St)(Q:Bool->Hp->Prop)(b:Bool)(s':Shared):Prop:=∃H',Inv X Y Z H' s'/\Q b H'
noncomputable def AP (X:Cx)(Y:Yb)(Z:St)(Q:YB->Hp->Prop)(us:Yf)(s':Shared):Prop:=∃vs H',Inv X Y Z H' s'/\yt vs us/\Q vs H'
def SP (X:Cx)(Y:Yb)(D:Ends)(f:Flow)(s':Shared):Prop:=
 match f with
 | .next=>∃Z' H',Inv X Y Z' H' s'/\D.nx Z' H'
 | .brk=>∃Z' H',Inv X Y Z' H' s'/\D.bk Z' H'
 | .cont=>∃Z' H',Inv X Y Z' H' s'/\D.ct Z' H'
 | .ret u=>∃v Z' H',Inv X Y Z' H' s'/\y8 v u/\D.rt v H'
noncomputable def PE (X:Cx)(e:Expr)(t:TE):Prop:=
 ∀(Y:Yb) (s:Shared) (Z:St) (H:Hp) (Q:VK),Inv X Y Z H s->t Z H Q->YF X (eval e X.env) (EP X Y Z Q) X.xe s
noncomputable def PT (X:Cx)(e:Expr)(t:TT):Prop:=
 ∀(Y:Yb) (s:Shared) (Z:St) (H:Hp) (Q:Bool->Hp->Prop),Inv X Y Z H s->t Z H Q->YF X (isTrue e X.env (eval e X.env)) (TP X Y Z Q) X.xe s
noncomputable def PW (X:Cx)(e:Expr)(t:TT):Prop:=
 ∀(whole:Sem Value) (Y:Yb) (s:Shared) (Z:St) (H:Hp) (Q:Bool->Hp->Prop),Inv X Y Z H s->t Z H Q->YF X (isTrue e X.env whole) (TP X Y Z Q) X.xe s
def PW.pt {X:Cx}{e:Expr}{t:TT}(h:PW X e t):PT X e t:=h _
noncomputable def PA (X:Cx)(es:Ym)(t:TA):Prop:=
 ∀(pos:Pos) (Y:Yb) (s:Shared) (Z:St) (H:Hp) (Q:YB->Hp->Prop),Inv X Y Z H s->t Z H Q->YF X (spliced (backTo pos (starEach es X.env))) (AP X Y Z Q) X.xe s
noncomputable def PS (X:Cx)(st:Stmt)(t:TS):Prop:=
 ∀(Y:Yb) (s:Shared) (Z:St) (H:Hp) (D:Ends),Inv X Y Z H s->t D Z H->YF X (exec st X.env) (SP X Y D) X.xe s
noncomputable def PSs (X:Cx)(st:List Stmt)(t:TS):Prop:=
 ∀(Y:Yb) (s:Shared) (Z:St) (H:Hp) (D:Ends),Inv X Y Z H s->t D Z H->YF X (execs st X.env) (SP X Y D) X.xe s
def thn {α:Type}{t:Sem α}{Q Q': α -> Yz}{M:Model}{A:Around}{E:Ya}{s:Shared}(h:wpAny M A t Q E s)(hQ:∀a s,Q a s->Q' a s):wpAny M A t Q' E s:=Zc h hQ λ_ _ x=>x
section
variable {X:Cx}
noncomputable def hW (i:Nat):TE:=λZ H Q=>∃v,Z[i]? = some (some v)/\Q v H
noncomputable def tC (v:V):TE:=λ_ H Q=>Q v H
def pe_var {i:Nat}{x:Str}{pos:Pos}(hN:X.N[i]? = some x)(hv:Vis X.env.scope x)(hd:autoParam ((x == ("__debug__" : Str))=false) zav._auto_1)(hcd:autoParam ((x == ("__classdict__" : Str))=false) zav._auto_1):PE X (.Name x pos) (hW i):=by
 intro Y s Z H Q I h;refine zc1b h λv e h=>?_;refine zc1b I.loc λm hn hl=>?_;refine zc1b (hl i x v hN e hv) λu r l=>?_;have fin:EP X Y Z Q u s:=⟨v,H,I,r,h⟩;rcases l with ⟨hk,hm⟩|⟨hk,c,hc,hcell⟩
 .exact wpAny_Name (wpAny_loadName_local I.ok.kind hk hn hm fin) hd
 .rcases hk with hk|hk
  .exact wpAny_Name (wpAny_loadName_cell I.ok.kind hk hc hcell fin) hd
  .exact wpAny_Name (wpAny_loadName_free I.ok.kind hk hc hcell fin hcd) hd
def pe_int {i j pos}:PE X (.Constant (.int i) j pos) (tC (.int i)):=λ_ _ _ H _ I h=>wpAny_Constant_int ⟨.int i,H,I.tok _,⟨_,rfl⟩,h⟩
def pe_bl {b j pos}:PE X (.Constant (.bool b) j pos) (tC (.bl b)):=λ_ _ _ H _ I h=>Constant_bool ⟨.bl b,H,I,rfl,h⟩
def pe_non {j pos}:PE X (.Constant .none j pos) (tC .non):=λ_ _ _ H _ I h=>Constant_none ⟨.non,H,I,rfl,h⟩
def pe_str {x j pos}:PE X (.Constant (.str x) j pos) (tC (.str x)):=λ_ _ _ H _ I h=>Calls.Constant_str ⟨.str x,H,I.tok _,⟨_,rfl⟩,h⟩
noncomputable def Gl (X:Cx)(x:Str):Prop:=X.env.kindOf x=some .globalImplicit
def qV {E:Ya}{Y:Yb}{s:Shared}{Z:St}{H:Hp}{x:Str}{u:Value}{pos:Pos}{Q:Ya}(I:Inv X Y Z H s)(hg:Gl X x)(hm:X.mg x=some u)(h:Q u s)
 (hd:autoParam ((x == ("__debug__" : Str))=false) zav._auto_1):YF X (eval (.Name x pos) X.env) Q E s:=
 Calls.Name_function_global I.ok.kind hg (Calls.loadGlobal_global (by rw[I.ok.glob];exact I.mod.glob.keeps I.bk) hm h) hd
def oB {E:Ya}{Y:Yb}{s:Shared}{Z:St}{H:Hp}{x:Str}{u:Value}{pos:Pos}{Q:Ya}(I:Inv X Y Z H s)(hg:Gl X x)(hm:X.mg x=none)(hv:bootBuiltins x=some u)(h:Q u s)
 (hn:autoParam (x ≠ "__name__") zav._auto_1) (hd:autoParam ((x == ("__debug__" : Str))=false) zav._auto_1):YF X (eval (.Name x pos) X.env) Q E s:=by
 refine zc1b I.mod.blt λmb h1 h2=>?_;exact Calls.Name_function_global I.ok.kind hg (Calls.loadGlobal_builtin (by rw[I.ok.glob];exact I.mod.glob.keeps I.bk) hm (by rw[I.ok.blt];exact h1.keeps I.bk) ((h2 x hn).trans hv) h) hd
variable {a b:Expr}{ta tb:TE}{pos:Pos}
noncomputable def PC (X:Cx)(op:CmpOp)(a b:Expr)(t:TE):Prop:=
 ∀(Y:Yb) (s:Shared) (Z:St) (H:Hp) (Q:VK),Inv X Y Z H s->t Z H Q ->
  YF X (eval a X.env) (λv s₁=>YF X (eval b X.env) (λu s₂=>YF X (compareOp op v u) (EP X Y Z Q) X.xe s₂) X.xe s₁) X.xe s
def mL (b:Expr){op:CmpOp}(h:op ≠ .In)(h2:op ≠ .NotIn):behindInMarks op b=false:=by
 have e1:(op == CmpOp.In)=false:=by cases op<;>first|rfl|exact Zn rfl h
 have e2:(op == CmpOp.NotIn)=false:=by cases op<;>first|rfl|exact Zn rfl h2
 cases b<;>first|rfl|(show(_&&(_||_)&&_)=false;rw[e1,e2,Bool.or_self,Bool.and_false,Bool.false_and])
noncomputable def bO (ta:TE):TE:=λZ H Q=>ta Z H λx H1=>Q (.bl (decide (x=.non))) H1
noncomputable def cu (ta:TE):TE:=λZ H Q=>ta Z H λx H1=>Q (.bl (!decide (x=.non))) H1
def y8.none_iff {x:V}{v:Value}(r:y8 x v):(v == Value.none)=decide (x=.non):=by
 cases x with
 |non=>cases r;rfl
 |bl _=>cases r;rfl
 |int _=>obtain⟨t,rfl⟩:=r;rfl
 |str _=>obtain⟨t,rfl⟩:=r;rfl
 |byt _=>obtain⟨t,rfl⟩:=r;rfl
 |flt _=>obtain⟨t,rfl⟩:=r;rfl
 |ref _=>cases r;rfl
 |ty _=>cases r;rfl
def gG {j pos'}(ha:PE X a ta):PC X .Is a (.Constant .none j pos') (bO ta):=by
 intro Y s Z H Q I h;refine thn (ha Y s Z H _ I h) λv s1 zh=>?_;refine zc2c zh λx H1 I1 r1 q1=>?_;exact Constant_none (is_none_gen ⟨.bl _,H1,I1,by rw[r1.none_iff];rfl,q1⟩)
def pc_notN {j pos'}(ha:PE X a ta):PC X .IsNot a (.Constant .none j pos') (cu ta):=by
 intro Y s Z H Q I h;refine thn (ha Y s Z H _ I h) λv s1 zh=>?_;obtain⟨x,H1,I1,r1,q1⟩:=zh;exact Constant_none (isnot_none_gen ⟨.bl _,H1,I1,by rw[r1.none_iff];rfl,q1⟩)
noncomputable def tB (t:TE):TT:=λZ H Q=>t Z H λx H1=>∃c,x=.bl c/\Q c H1
def iG {op:CmpOp}{t:TE}(h:PC X op a b t)(h1:behindInMarks op b=false:=by first|exact mL _ (by decide) (by decide)|rfl):PE X (.Compare a [op] [b] pos) t:=λY s Z H Q I hw=>wpAny_Compare1 (h Y s Z H Q I hw) h1
def mO {op:CmpOp}{t:TE}(h:PC X op a b t)(h1:behindInMarks op b=false:=by first|exact mL _ (by decide) (by decide)|rfl):PT X (.Compare a [op] [b] pos) (tB t):=by
 intro Y s Z H Q I hw;refine wpAny_isTrue_Compare1 (thn (h Y s Z H _ I hw) λv s1 h1=>thn h1 λu s2 h2=>thn h2 λc s3 ⟨x,H1,I1,r1,q1⟩=>?_) h1;refine zc1b q1 λd zr1 q=>?_;subst zr1;cases r1;exact wpAny_truthy_bool ⟨H1,I1,q⟩
def pt_val {e:Expr}{t:TE}(h:PE X e t)(he:autoParam (∀whole,isTrue e X.env whole=(do let v <- whole;standAt e.pos;holding [v] (truthy v))) zaw._auto_1):PT X e (tB t):=by
 intro Y s Z H Q I hw;refine isTrue_plain (thn (h Y s Z H _ I hw) λv s1 ⟨x,H1,I1,r1,q1⟩=>?_) (he _);refine zc1b q1 λd zr1 q=>?_;subst zr1;cases r1;exact wpAny_truthy_bool ⟨H1,I1,q⟩
variable {tA tB':TT}{rest:Ym}
noncomputable def tAnd (t u:TT):TT:=λZ H Q=>t Z H λc H1=>if c=true then u Z H1 Q else Q false H1
noncomputable def tOr (t u:TT):TT:=λZ H Q=>t Z H λc H1=>if c=true then Q true H1 else u Z H1 Q
noncomputable def tNot (t:TT):TT:=λZ H Q=>t Z H λc H1=>Q (!c) H1
def pw_and1 (ha:PT X a tA):PW X (.BoolOp .And [a] pos) tA:=by
 intro wh Y s Z H Q I h;refine isTrue_and (thn (ha Y s Z H Q I h) λc s1 e=>?_);cases c with
 |true=>exact isTrue_and_nil e
 |false=>exact e
def pw_or1 (ha:PT X a tA):PW X (.BoolOp .Or [a] pos) tA:=by
 intro wh Y s Z H Q I h;refine isTrue_or (thn (ha Y s Z H Q I h) λc s1 e=>?_);cases c with
 |false=>exact isTrue_or_nil e
 |true=>exact e
def pw_and (ha:PT X a tA)(hb:PW X (.BoolOp .And (b::rest) pos) tB'):PW X (.BoolOp .And (a::b::rest) pos) (tAnd tA tB'):=by
 intro wh Y s Z H Q I h;refine isTrue_and (thn (ha Y s Z H _ I h) λc s1 zh=>?_);refine zc1b zh λH1 I1 q1=>?_;cases c with
 |true=>exact hb wh Y s1 Z H1 Q I1 q1
 |false=>exact⟨H1,I1,q1⟩
def pw_or (ha:PT X a tA)(hb:PW X (.BoolOp .Or (b::rest) pos) tB'):PW X (.BoolOp .Or (a::b::rest) pos) (tOr tA tB'):=by
 intro wh Y s Z H Q I h;refine isTrue_or (thn (ha Y s Z H _ I h) λc s1 zh=>?_);refine zc1b zh λH1 I1 q1=>?_;cases c with
 |true=>exact⟨H1,I1,q1⟩
 |false=>exact hb wh Y s1 Z H1 Q I1 q1
def pt_not (ha:PT X a tA):PT X (.UnaryOp .Not a pos) (tNot tA):=by
 intro Y s Z H Q I h;exact isTrue_not (ha Y s Z H (λc H1=>Q (!c) H1) I h)
noncomputable def tAndV (ta tb:TE):TE:=λZ H Q=>ta Z H λx H1=>∃c,x=.bl c/\if c=true then tb Z H1 Q else Q (.bl false) H1
def pe_one {op}{t:TE}(h:PE X a t):PE X (.BoolOp op [a] pos) t:=λY s Z H Q I hw=>BoolOp_one (h Y s Z H Q I hw)
def pe_and (ha:PE X a ta)(hb:PE X (.BoolOp .And (b::rest) pos) tb):PE X (.BoolOp .And (a::b::rest) pos) (tAndV ta tb):=by
 intro Y s Z H Q I h;refine BoolOp_and (thn (ha Y s Z H _ I h) λv s1 zh=>?_);obtain⟨x,H1,I1,r1,q1⟩:=zh;obtain⟨c,rfl,q1⟩:=q1;cases r1;refine wpAny_truthy_bool ?_;cases c with
 |true=>exact hb Y s1 Z H1 Q I1 q1
 |false=>exact⟨.bl false,H1,I1,rfl,q1⟩
end
noncomputable def SqL (K:W.Frag)(H:Hp)(a:Addr)(xs:YB):Prop:=
 Rd H a (.lst xs) \/
  ∃(o:Obj) (its:Yn) (n:Nat),K.lookup a=some o/\o.cls=.type "list" /\ o.dict=none/\o.data=.seq its n/\its.size<=sizeLine/\yt xs its.toList
noncomputable def SqT (K:W.Frag)(H:Hp)(a:Addr)(xs:YB):Prop:=
 Rd H a (.tup xs) \/
  ∃(o:Obj) (its:Yn) (n:Nat),K.lookup a=some o/\o.cls=.type "tuple" /\ o.data=.seq its n/\its.size<=sizeLine/\yt xs its.toList
noncomputable def absV:Value->YC
 | .none=>some .non
 | .bool b=>some (.bl b)
 | .int i _=>some (.int i)
 | .str x _=>some (.str x)
 | .bytes b _=>some (.byt b)
 | .float b _=>some (.flt b)
 | .ref a=>some (.ref a)
 | .type n=>some (.ty n)
 |_=>none
def y8.abs {x:V}{u:Value}(r:y8 x u):absV u=some x:=by
 cases x with
 |non=>cases r;rfl
 |bl _=>cases r;rfl
 |int _=>obtain⟨t,rfl⟩:=r;rfl
 |str _=>obtain⟨t,rfl⟩:=r;rfl
 |byt _=>obtain⟨t,rfl⟩:=r;rfl
 |flt _=>obtain⟨t,rfl⟩:=r;rfl
 |ref _=>cases r;rfl
 |ty _=>cases r;rfl
def y8.inj {x y:V}{u:Value}(r:y8 x u)(q:y8 y u):x=y:=Zqi (r.abs.symm.trans q.abs)
theorem yt.inj:∀{xs ys:YB} {us:Yf},yt xs us->yt ys us->xs=ys:=λ{xs ys us} g h=>by
 induction g generalizing ys with
 |nil=>cases h;rfl
 |cons r _ ih =>
  cases h with
  |cons r' t'=>rw[r.inj r',ih t']
section
variable {X:Cx}{Y:Yb}{Z:St}{H:Hp}{s:Shared}{a:Addr}{xs ys:YB}
def SqL.of {K:W.Frag}(h:H a=some (.lst xs)):SqL K H a xs:=.inl (.inl h)
def SqT.of {K:W.Frag}(h:H a=some (.tup xs)):SqT K H a xs:=.inl (.inl h)
def Inv.list (I:Inv X Y Z H s)(h:SqL X.K H a xs):∃its:Yf,yt xs its/\PlainL s.heap a its.toArray/\xs.length<=sizeLine:=by
 rcases h with h|⟨o,its,n,hk,hc,hd,hs,hz,r⟩
 .refine wx (h.ok I.hok) λz zz=>zc2b zz λits n r e=>?_;exact⟨its,r,⟨_,n,e,rfl,rfl,rfl⟩,z⟩
 .refine⟨its.toList,r,⟨o,n,I.kIn a o hk,hc,hd,by simpa -iota using hs⟩,?_⟩;have e:=r.length;simp -iota only[ZN] at e;omega
def Inv.tuple (I:Inv X Y Z H s)(h:SqT X.K H a xs):∃its:Yf,yt xs its/\IsTup s.heap a its.toArray/\xs.length<=sizeLine:=by
 rcases h with h|⟨o,its,n,hk,hc,hs,hz,r⟩
 .obtain⟨z,its,r,p⟩:=h.ok I.hok;exact⟨its,r,p,z.1⟩
 .refine⟨its.toList,r,⟨o,I.kIn a o hk,hc,n,by simpa -iota using hs⟩,?_⟩;have e:=r.length;simp -iota only[ZN] at e;omega
def Inv.list_inj (I:Inv X Y Z H s)(h:SqL X.K H a xs)(h':SqL X.K H a ys):xs=ys:=by
 refine zc1c (I.list h) λits r zr2 _=>?_;obtain⟨o,n,e,_,_,d⟩:=zr2;refine zc1c (I.list h') λits' r' zr2 _=>?_;obtain⟨o',n',e',_,_,d'⟩:=zr2;rw[e] at e';cases e';rw[d] at d';injection d' with d1 _
 have:its=its':=by simpa -iota using Zt Array.toList d1
 subst this;exact r.inj r'
def Inv.tuple_inj (I:Inv X Y Z H s)(h:SqT X.K H a xs)(h':SqT X.K H a ys):xs=ys:=by
 refine zc1c (I.tuple h) λits r zr2 _=>?_;obtain⟨o,e,_,n,d⟩:=zr2;refine zc1c (I.tuple h') λits' r' zr2 _=>?_;obtain⟨o',e',_,n',d'⟩:=zr2;rw[e] at e';cases e';rw[d] at d';injection d' with d1 _
 have:its=its':=by simpa -iota using Zt Array.toList d1
 subst this;exact r.inj r'
end
abbrev Cx.wish (X:Cx)(E:Ya):Cx:={ X with xe:=E }
abbrev Cx.nox (X:Cx):Cx:=X.wish λ_ _=>False
theorem Cx.Ok.wish {X:Cx}(ok:X.Ok)(E:Ya):(X.wish E).Ok:=
 ⟨ok.mod,ok.kind,ok.glob,ok.blt,ok.above,ok.inj,ok.has,ok.cab,ok.hd,ok.frames,ok.stk,ok.exf,ok.bs,ok.bsz,ok.noex,ok.exfs,ok.funs,ok.frf⟩
def Cx.Ok.unwish {X:Cx}{E:Ya}(ok:(X.wish E).Ok):X.Ok:=
 ⟨ok.mod,ok.kind,ok.glob,ok.blt,ok.above,ok.inj,ok.has,ok.cab,ok.hd,ok.frames,ok.stk,ok.exf,ok.bs,ok.bsz,ok.noex,ok.exfs,ok.funs,ok.frf⟩
section
variable {X:Cx}{Y:Yb}{Z:St}{H:Hp}{s:Shared}{E:Ya}
theorem Inv.wish (I:Inv X Y Z H s)(E:Ya):Inv (X.wish E) Y Z H s:=⟨I.ok.wish E,I.os,I.bare,I.base,I.loc,I.cell,I.free,I.freeC,I.pin,I.hok,I.len⟩
theorem Inv.unwish (I:Inv (X.wish E) Y Z H s):Inv X Y Z H s:=⟨I.ok.unwish,I.os,I.bare,I.base,I.loc,I.cell,I.free,I.freeC,I.pin,I.hok,I.len⟩
theorem SP.unwish {D:Ends}{f:Flow}{s':Shared}(h:SP (X.wish E) Y D f s'):SP X Y D f s':=by
 cases f with
 |next=>obtain⟨Z',H',I,q⟩:=h;exact⟨Z',H',I.unwish,q⟩
 |brk=>obtain⟨Z',H',I,q⟩:=h;exact⟨Z',H',I.unwish,q⟩
 |cont=>obtain⟨Z',H',I,q⟩:=h;exact⟨Z',H',I.unwish,q⟩
 |ret u=>obtain⟨v,Z',H',I,r,q⟩:=h;exact⟨v,Z',H',I.unwish,r,q⟩
theorem PSs.nox {st:List Stmt}{t:TS}(h:PSs X.nox st t):PSs X st t:=λY s Z H D I hw =>
 Zc (h Y s Z H D (I.wish _) hw) (λ_ _ q=>q.unwish) λ_ _ z=>False.elim z
end
section
variable {X:Cx}{st:Stmt}{rest:List Stmt}{t u:TS}{e:Expr}{te:TE}{pos:Pos}
noncomputable def tNext:TS:=λD Z H=>D.nx Z H
noncomputable def tSeq (t u:TS):TS:=λD Z H=>t { D with nx:=u D } Z H
def pss_nil:PSs X [] tNext:=λ_ _ Z H _ I h=>wpAny_execs_nil ⟨Z,H,I,h⟩
def pss_cons (h1:PS X st t)(h2:PSs X rest u):PSs X (st::rest) (tSeq t u):=by
 intro Y s Z H D I h;refine wpAny_execs_cons (thn (h1 Y s Z H { D with nx:=u D } I h) λf s1 q=>?_);cases f with
 |next =>
  refine zc2b q λZ' H' I' q=>?_;exact h2 Y s1 Z' H' D I' q
 |ret v=>exact q
 |brk=>exact q
 |cont=>exact q
def pss_one (h1:PS X st t):PSs X [st] t:=by
 intro Y s Z H D I h;refine wpAny_execs_cons (thn (h1 Y s Z H D I h) λf s1 q=>?_);cases f with
 |next=>exact wpAny_execs_nil q
 |ret v=>exact q
 |brk=>exact q
 |cont=>exact q
noncomputable def tBreak:TS:=λD Z H=>D.bk Z H
def ps_break:PS X (.Break pos) tBreak:=λ_ _ Z H _ I h=>wpAny_Break ⟨Z,H,I,h⟩
def Inv.quiet {Y:Yb}{Z:St}{H:Hp}{s:Shared}(I:Inv X Y Z H s):interactive X.env=false:=by simp -iota [interactive,I.ok.kind]
noncomputable def tDrop (te:TE):TS:=λD Z H=>te Z H λ_ H1=>D.nx Z H1
def ir (he:PE X e te)(hs:autoParam (swapsWith e none pos.line X.env=pure false) zau._auto_1):PS X (.Expr e pos) (tDrop te):=by
 intro Y s Z H D I h;exact wpAny_Expr_any (thn (he Y s Z H _ I h) (by rintro v s1 ⟨x,H1,I1,r1,q1⟩;exact⟨Z,H1,I1,q1⟩)) I.quiet hs
noncomputable def tRet (te:TE):TS:=λD Z H=>te Z H D.rt
def jo (he:PE X e te):PS X (.Return (some e) pos) (tRet te):=by
 intro Y s Z H D I h;exact wpAny_Return_some (thn (he Y s Z H _ I h) (by rintro v s1 ⟨x,H1,I1,r1,q1⟩;exact⟨x,Z,H1,I1,r1,q1⟩))
noncomputable def tIfS (c:TT)(t u:TS):TS:=λD Z H=>c Z H λb H1=>if b=true then t D Z H1 else u D Z H1
def ps_if {c:Expr}{a b:List Stmt}{tc:TT}(hc:PT X c tc)(ha:PSs X a t)(hb:PSs X b u):PS X (.If c a b pos) (tIfS tc t u):=by
 intro Y s Z H D I h;refine wpAny_If (thn (hc Y s Z H _ I h) λd s1 zh=>?_);refine zc1b zh λH1 I1 q1=>?_;cases d with
 |true=>exact ha Y s1 Z H1 D I1 q1
 |false=>exact hb Y s1 Z H1 D I1 q1
end
abbrev TG:=V->St->Hp->(St->Hp->Prop)->Prop
abbrev TGs:=YB->St->Hp->(St->Hp->Prop)->Prop
def PG (X:Cx)(target:Expr)(t:TG):Prop:=
 ∀(Y:Yb) (s:Shared) (Z:St) (H:Hp) (v:V) (u:Value) (Q:St->Hp->Prop),Inv X Y Z H s->y8 v u->t v Z H Q ->
  YF X (assign target X.env u) (λ_ s'=>∃Z' H',Inv X Y Z' H' s'/\Q Z' H') X.xe s
noncomputable def PGs (X:Cx)(ts:Ym)(t:TGs):Prop:=
 ∀(Y:Yb) (s:Shared) (Z:St) (H:Hp) (vs:YB) (us:Yf) (Q:St->Hp->Prop),Inv X Y Z H s->yt vs us->t vs Z H Q ->
  YF X (assignInOrder ((assignEach ts X.env).map (·.2)) us) (λ_ s'=>∃Z' H',Inv X Y Z' H' s'/\Q Z' H') X.xe s
abbrev cL:=V->V->V->Hp->(Hp->Prop)->Prop
def bP (X:Cx)(t:cL):Prop:=
 ∀(Y:Yb) (s:Shared) (Z:St) (H:Hp) (o i v:V) (ov iv u:Value) (Q:Hp->Prop),Inv X Y Z H s->y8 o ov->y8 i iv->y8 v u->t o i v H Q ->
  YF X (setItem ov iv u) (λ_ s'=>∃H',Inv X Y Z H' s'/\Q H') X.xe s
section
variable {X:Cx}{pos:Pos}
noncomputable def qB (i:Nat):TG:=λv Z H Q=>Q (Z.set i (some v)) H
def zK {i:Nat}{x:Str}(hN:X.N.Nodup)(hi:X.N[i]? = some x)(hx:Loc X.env.scope x)(hf:X.fn x=true\/X.env.scope.names.lookup x=some .local:=by trivial):PG X (.Name x pos) (qB i):=by
 intro Y s Z H v u Q I r h;exact wpAny_assign_Name (tu I hN hi hx r (λs' I'=>⟨_,H,I',h⟩) hf)
noncomputable def b9:TGs:=λvs Z H Q=>vs=[]/\Q Z H
noncomputable def cy (t:TG)(u:TGs):TGs:=λvs Z H Q=>∃v r,vs=v::r/\t v Z H λZ' H'=>u r Z' H' Q
def v0:PGs X [] b9:=by
 intro Y s Z H vs us Q I r h;obtain⟨e,h⟩:=h;subst e;cases r;exact assignInOrder_nil ⟨Z,H,I,h⟩
def ym {e:Expr}{es:Ym}{t:TG}{u:TGs}(h1:PG X e t)(h2:PGs X es u)
 (hs:autoParam ((assignEach (e::es) X.env).map (·.2)=assign e X.env::(assignEach es X.env).map (·.2)) zau._auto_1):PGs X (e::es) (cy t u):=by
 intro Y s Z H vs us Q I r h;obtain⟨v,vr,e1,h⟩:=h;subst e1;cases r with
 |cons r rr =>
  rw[hs];refine assignInOrder_cons (thn (h1 Y s Z H _ _ _ I r h) λ_ s1 zh=>?_);obtain⟨Z1,H1,I1,q1⟩:=zh;exact h2 Y s1 Z1 H1 _ _ Q I1 rr q1
def bL (K:W.Frag)(n:Nat)(t:TGs):TG:=λv Z H Q=>∃a xs,v=.ref a/\SqT K H a xs/\xs.length=n/\t xs Z H Q
def tF {es:Ym}{k:Nat}{t:TGs}{n:Nat}(hc:X.calm=true)(h:PGs X es t)
 (hn:autoParam ((assignEach es X.env).length=n) zau._auto_1) (hst:autoParam ((assignEach es X.env).findIdx? (·.1)=none) zau._auto_1):PG X (.Tuple es k pos) (bL X.K n t):=by
 intro Y s Z H v u Q I r hw;obtain⟨a,xs,e1,hq,hl,hw⟩:=hw;subst e1;cases r;obtain⟨its,rv,ht,hz⟩:=I.tuple hq;refine assign_Tuple_tuple (I.ok.hd hc) ht (by simp -iota [hn,<- hl,rv.length]) hst λh' hx=>?_;have I1:Inv X Y Z H { s with heap:=h' }:=I.kept (t':=s.toks) λb o e=>hx b o (Zi (Zk e)) e;exact h Y _ Z H xs _ Q I1 (by simpa -iota using rv) hw
noncomputable def ki (to ti:TE)(t:cL):TG:=λv Z H Q=>to Z H λo H1=>ti Z H1 λi H2=>t o i v H2 λH3=>Q Z H3
def pg_sub {o i:Expr}{to ti:TE}{t:cL}(ho:PE X o to)(hi:PE X i ti)(hs:bP X t)
 (ha:∀v,assign (.Subscript o i pos) X.env v=(do
  let ov <- holding [v] (eval o X.env)
  let iv <- holding [v,ov] (eval i X.env)
  standAt pos
  holding [v,ov,iv] (setItem ov iv v)
  release [v,ov,iv] []):=by intro _;rfl):PG X (.Subscript o i pos) (ki to ti t):=by
 intro Y s Z H v u Q I r h;rw[ha];refine Za (wpAny_holding (thn (ho Y s Z H _ I h) λov s1 zh=>?_));refine zc2c zh λx H1 I1 r1 q1=>?_;refine Za (wpAny_holding (thn (hi Y s1 Z H1 _ I1 q1) λiv s2 zh=>?_));refine zc2c zh λy H2 I2 r2 q2=>?_;refine Za (wpAny_standAt (Za (wpAny_holding (thn (hs Y s2 Z H2 x y v ov iv u _ I2 r1 r2 r q2) λ_ s3 zh=>?_))));refine zc1b zh λH3 I3 q3=>?_;exact wpAny_release ⟨Z,H3,I3,q3⟩
noncomputable def dL (te:TE)(g:TG):TS:=λD Z H=>te Z H λx H1=>g x Z H1 D.nx
def ps_asg {tg e:Expr}{te:TE}{g:TG}(he:PE X e te)(hg:PG X tg g)(hs:autoParam (swapsWithSole [tg] e pos.line X.env=pure false) zau._auto_1)(hw:autoParam (swappedStores [tg] e X.env=pure none) zau._auto_1)
 (h1:autoParam ((assignEach [tg] X.env).map (·.2)=[assign tg X.env]) zau._auto_1):PS X (.Assign [tg] e pos) (dL te g):=by
 intro Y s Z H D I h;refine wpAny_Assign_stores (thn (he Y s Z H _ I h) λv s1 ⟨x,H1,I1,r1,q1⟩=>?_) hs hw;rw[h1];exact thn (hg Y s1 Z H1 x v _ I1 r1 q1) λ_ s2 q=>q
def fy {i:Nat}{x:Str}{e:Expr}{te:TE}{pos':Pos}(hN:X.N.Nodup)(hi:X.N[i]? = some x)(hx:Loc X.env.scope x)(he:PE X e te)(hs:autoParam (swapsWith e (some (.Name x pos')) pos.line X.env=pure false) zau._auto_1)(hf:X.fn x=true\/X.env.scope.names.lookup x=some .local:=by trivial):
 PS X (.Assign [.Name x pos'] e pos) (dL te (qB i)):=by
 intro Y s Z H D I h;refine wpAny_Assign_Name (thn (he Y s Z H _ I h) λv s1 ⟨y,H1,I1,r1,q1⟩=>?_) hs;exact tu I1 hN hi hx r1 (λs2 I2=>⟨_,H1,I2,q1⟩) hf
end
set_option genInjectivity false in
structure It where
 go:Nat->Hp->Prop
 yld:Nat->Hp->V->Hp->Prop
 stop:Nat->Hp->Prop
noncomputable def iK (X:Cx)(Y:Yb)(H:Hp)(b:Addr):Prop:=
 H b=none/\b≠X.env.locals/\b∉X.fs/\(b∈X.ex\/X.s₀.heap.objs.size<=b)/\(∀x c,X.env.cells.lookup x=some c->c≠b)/\∀p∈X.pn++Y,p.1≠b
def Inv.fpOk {X:Cx}{Y:Yb}{Z:St}{H H':Hp}{s:Shared}{b:Addr}(I:Inv X Y Z H s)(hb:s.heap.objs.size<=b)(hn:H' b=none):iK X Y H' b:=by
 refine⟨hn,Nat.ne_of_gt (Zg I.lt hb),I.nofs hb,.inr (Zh I.sz hb),λx c e z=>?_,λp hp z=>?_⟩
 .obtain⟨v,q⟩:=I.cell x c e;exact Zn (Zg q.lt (by rw[z];exact hb)) (Zx _)
 .exact Zn (Zg (Zk (I.pin p hp).1) (by rw[z];exact hb)) (Zx _)
structure Turn (P:Program)(w:World)(K:W.Frag)(tg:Expr)(J:It)(fp:Yl)(it:Addr)(tn:Nat->Heap->Prop):Prop where
 mem:it∈fp
 obj:∀i h,tn i h->∀b∈fp,∃o,h.get? b=some o/\∀v,o.data ≠ .cell v
 keep:∀i h h',tn i h->(∀b∈fp,∀o,h.get? b=some o->h'.get? b=some o)->tn i h'
 item:∀(X:Cx),X.prog=P->X.w=w->X.K=K->X.calm=true->∀(i:Nat) (Y:Yb) (s:Shared) (Z:St) (H:Hp) (E:Ya),Inv X Y Z H s->(∀b∈fp,iK X Y H b)->tn i s.heap->J.go i H ->
  wpAny (model P w) X.A (pyNext (.ref it)) (λr s1=>∃u,r=some u /\
   wpAny (model P w) X.A (letOwnedTupleGo tg (.ref it) u) (λ_ s2=>∃x H',Inv X Y Z H' s2/\y8 x u/\J.yld i H x H'/\tn (i+1) s2.heap/\∀b∈fp,H' b=none) E s1) E s
 done:∀(X:Cx),X.prog=P->X.w=w->X.K=K->X.calm=true->∀(i:Nat) (Y:Yb) (s:Shared) (Z:St) (H:Hp) (E:Ya),Inv X Y Z H s->(∀b∈fp,iK X Y H b)->tn i s.heap->J.stop i H ->
  wpAny (model P w) X.A (pyNext (.ref it)) (λr s1=>r=none/\Inv X Y Z H s1) E s
 self:∀(A:Around) (i:Nat) (s:Shared) (Q:Ya) (E:Ya),tn i s.heap->Q (.ref it) s->wpAny (model P w) A (pyIter (.ref it)) Q E s
abbrev TI:=St->Hp->(It->Hp->Prop)->Prop
def PIE (X:Cx)(Y:Yb)(Z:St)(tg:Expr)(R:It->Hp->Prop)(itv:Value)(s2:Shared):Prop:=
 ∃(it:Addr) (fp:Yl) (tn:Nat->Heap->Prop) (J:It) (H':Hp),itv=.ref it/\Inv X Y Z H' s2/\Turn X.prog X.w X.K tg J fp it tn/\tn 0 s2.heap/\(∀b∈fp,iK X Y H' b)/\R J H'
def PI (X:Cx)(tg iter:Expr)(wi:TI):Prop:=
 ∀(Y:Yb) (s:Shared) (Z:St) (H:Hp) (R:It->Hp->Prop),Inv X Y Z H s->wi Z H R ->
  YF X (eval iter X.env) (λv s1=>YF X (pyIter v) (PIE X Y Z tg R) X.xe s1) X.xe s
def eN {M:Model}{A:Around}{E:Ya}{s:Shared}{tg:Expr}{it:Addr}{u:Value}{o:Obj}{n:String}{vs:Yn}{Q:Unit->Yz}(ho:s.heap.get? it=some o)(hc:o.cls=.type n)(hd:o.data=.fields vs)
 (hn: ["enumerate", "zip", "dict_itemiterator", "dict_reverseitemiterator", "odict_iterator", "itertools.zip_longest", "itertools.pairwise"].contains n=false) (hQ:Q Yt s):wpAny M A (letOwnedTupleGo tg (.ref it) u) Q E s:=by
 unfold letOwnedTupleGo;cases tg<;>first
  |exact Zb hQ
  | (cases u<;>first
   |exact Zb hQ
   | (
    refine Za (wpAny_load ho ?_);rw[hc,hd];show wpAny M A (if(["enumerate", "zip", "dict_itemiterator", "dict_reverseitemiterator", "odict_iterator", "itertools.zip_longest", "itertools.pairwise"].contains n&&vs[0]? == some (rawInt _))=true then _ else _) Q E s;rw[Ze (by intro h;rw[hn,Bool.false_and] at h;cases h)];exact Zb hQ))
def Itl (K:W.Frag)(a:Addr):It:=
 ⟨λi H=>∃xs x,SqL K H a xs/\xs[i]? = some x,λi H x H'=>H'=H/\∀xs,SqL K H a xs->xs[i]? = some x,λi H=>∃xs,SqL K H a xs/\xs.length<=i⟩
def Itt (K:W.Frag)(a:Addr):It:=
 ⟨λi H=>∃xs x,SqT K H a xs/\xs[i]? = some x,λi H x H'=>H'=H/\∀xs,SqT K H a xs->xs[i]? = some x,λi H=>∃xs,SqT K H a xs/\xs.length<=i⟩
noncomputable def Itr (lo:Int)(n:Nat):It:=⟨λi _=>i<n,λi H x H'=>H'=H/\x=.int (lo+i),λi _=>n<=i⟩
def turn_list {P:Program}{w:World}{K:W.Frag}{tg:Expr}(a it:Addr):Turn P w K tg (Itl K a) [it] it (λi h=>h.IsListIter it a i) where
 mem:=by simp -iota
 obj:=λi h st b hb=>by
  have e:b=it:=by simpa -iota using hb
  subst e;refine zc1c st λo e c d=>?_;exact⟨o,e,λv z=>by rw[d] at z;cases z⟩
 keep:=λi h h' st k=>st.at λo e=>k it (by simp -iota) o e
 item:=by
  intro X hP hw hK hc i Y s Z H E I hf st hg;subst hP hw hK;refine zc2b hg λxs x hq hx=>?_;refine zc1c (I.list hq) λits rv p hz=>?_;refine zc1b (rv.get hx) λu hu ru=>?_;refine xf (hf it (by simp -iota)) λf0 f1 f2 f3 zz=>wx zz λf4 f5=>?_;refine wpAny_pyNext_list_item st p.isList (x:=u) (by simpa -iota using hu) λh' st' sb=>?_;have I1:Inv X Y Z H { s with heap:=h' }:=I.turned (t':=s.toks) (λb o hb e=>(sb.2 b hb).trans e) f0 f1 f3 f4 f5;refine zc1c (id st') λo e c d=>?_;exact⟨u,rfl,eN (s:={ s with heap:=h' }) e c d (by decide) ⟨x,H,I1,ru,⟨rfl,λys hy=>by rw[I.list_inj hy hq];exact hx⟩,st',λb hb=>(hf b hb).1⟩⟩
 done:=by
  intro X hP hw hK hc i Y s Z H E I hf st hg;subst hP hw hK;refine zc1b hg λxs hq hx=>?_;refine zc1c (I.list hq) λits rv p hz=>?_;refine xf (hf it (by simp -iota)) λf0 f1 f2 f3 zz=>wx zz λf4 f5=>?_;have hl:=rv.length;exact wpAny_pyNext_list_end (I.ok.hd hc) st p.isList (by simp -iota;omega) λh' eb=>⟨rfl,I.turned (t':=s.toks) (λb o hb e=>eb b o hb e) f0 f1 f3 f4 f5⟩
 self:=λ_ _ _ _ _ st h=>wpAny_pyIter_listiter st h
def turn_tuple {P:Program}{w:World}{K:W.Frag}{tg:Expr}(a it:Addr):Turn P w K tg (Itt K a) [it] it (λi h=>h.IsTupleIter it a i) where
 mem:=by simp -iota
 obj:=λi h st b hb=>by
  have e:b=it:=by simpa -iota using hb
  subst e;refine zc1c st λo e c d=>?_;exact⟨o,e,λv z=>by rw[d] at z;cases z⟩
 keep:=λi h h' st k=>st.at λo e=>k it (by simp -iota) o e
 item:=by
  intro X hP hw hK hc i Y s Z H E I hf st hg;subst hP hw hK;refine zc2b hg λxs x hq hx=>?_;refine zc1c (I.tuple hq) λits rv p hz=>?_;refine zc1b (rv.get hx) λu hu ru=>?_;refine xf (hf it (by simp -iota)) λf0 f1 f2 f3 zz=>wx zz λf4 f5=>?_;refine wpAny_pyNext_tuple_item st (show s.heap.IsTuple a its.toArray from p) (x:=u) (by simpa -iota using hu) λh' st' sb=>?_;have I1:Inv X Y Z H { s with heap:=h' }:=I.turned (t':=s.toks) (λb o hb e=>(sb.2 b hb).trans e) f0 f1 f3 f4 f5;refine zc1c (id st') λo e c d=>?_;exact⟨u,rfl,eN (s:={ s with heap:=h' }) e c d (by decide) ⟨x,H,I1,ru,⟨rfl,λys hy=>by rw[I.tuple_inj hy hq];exact hx⟩,st',λb hb=>(hf b hb).1⟩⟩
 done:=by
  intro X hP hw hK hc i Y s Z H E I hf st hg;subst hP hw hK;refine zc1b hg λxs hq hx=>?_;refine zc1c (I.tuple hq) λits rv p hz=>?_;refine xf (hf it (by simp -iota)) λf0 f1 f2 f3 zz=>wx zz λf4 f5=>?_;have hl:=rv.length;exact wpAny_pyNext_tuple_end (I.ok.hd hc) st (show s.heap.IsTuple a its.toArray from p) (by simp -iota;omega) λh' eb=>⟨rfl,I.turned (t':=s.toks) (λb o hb e=>eb b o hb e) f0 f1 f3 f4 f5⟩
 self:=λ_ _ _ _ _ st h=>wpAny_pyIter_tupleiter st h
def turn_range {P:Program}{w:World}{K:PySem.W.Frag}{tg:Expr}(it:Addr)(lo:Int)(n:Nat):Turn P w K tg (Itr lo n) [it] it (λi h=>IsRangeIter h it (lo+(i:Nat)*1) ((n:Int)-(i:Nat)) 1) where
 mem:=by simp -iota
 obj:=λi h st b hb=>by
  have e:b=it:=by simpa -iota using hb
  subst e;exact⟨_,st,λv z=>by
   have z':Data.fields _=Data.cell v:=z;cases z'⟩
 keep:=λi h h' st k=>k it (by simp -iota) _ st
 item:=by
  intro X hP hw hK hc i Y s Z H E I hf st hg;subst hP hw hK;refine xf (hf it (by simp -iota)) λf0 f1 f2 f3 zz=>wx zz λf4 f5=>?_;have W:=Walks.range (prog:=X.prog) (w:=X.w) (I.ok.hd hc) it lo 1 n;refine W.item i s _ _ hg st λv h' tk hv st' kk=>?_;obtain⟨t,rfl⟩:=hv;have I1:Inv X Y Z H { s with heap:=h',toks:=tk }:=I.turned (λb o hb e=>kk b o (by simpa -iota using hb) e) f0 f1 f3 f4 f5;refine⟨_,rfl,eN (s:={ s with heap:=h',toks:=tk }) (n:= "range_iterator") st' rfl rfl (by decide) ⟨.int (lo+i),H,I1,⟨t,?_⟩,⟨rfl,rfl⟩,st',λb hb=>(hf b hb).1⟩⟩;rw[Int.mul_one]
 done:=by
  intro X hP hw hK hc i Y s Z H E I hf st hg;subst hP hw hK;refine xf (hf it (by simp -iota)) λf0 f1 f2 f3 zz=>wx zz λf4 f5=>?_;exact wpAny_pyNext_range_end (I.ok.hd hc) st (by have:n<=i:=hg;omega) λh' eb=>⟨rfl,I.turned (t':=s.toks) (λb o hb e=>eb b o hb e) f0 f1 f3 f4 f5⟩
 self:=λ_ _ _ _ _ st h=>wpAny_pyIter_rangeiter st h
section
variable {X:Cx}{tg:Expr}
def iList (K:W.Frag)(tl:TE):TI:=λZ H R=>tl Z H λx H1=>∃a,x=.ref a/\(∃xs,SqL K H1 a xs)/\R (Itl K a) H1
def iTup (K:W.Frag)(tl:TE):TI:=λZ H R=>tl Z H λx H1=>∃a,x=.ref a/\(∃xs,SqT K H1 a xs)/\R (Itt K a) H1
def pi_list {l:Expr}{tl:TE}(hl:PE X l tl):PI X tg l (iList X.K tl):=by
 intro Y s Z H R I h;refine thn (hl Y s Z H _ I h) λv s1 zh=>?_;refine zc2c zh λx H1 I1 r1 q1=>?_;refine zc1c q1 λa e zr2 q=>?_;obtain⟨xs,hq⟩:=zr2;subst e;cases r1;refine zc1c (I1.list hq) λits rv p hz=>?_;refine wpAny_pyIter_list p.isList ?_;refine⟨s1.heap.objs.size,[s1.heap.objs.size],_,_,H1,rfl,I1.kept (t':=s1.toks) λb o e=>Zq _ e,turn_list a _,⟨_,Zr _ rfl,rfl,rfl⟩,λb hb=>?_,q⟩;have e:b=s1.heap.objs.size:=by simpa -iota using hb
 subst e;exact I1.fpOk (Zf _) (I1.hok.fresh (Zf _))
def pi_tup {l:Expr}{tl:TE}(hl:PE X l tl):PI X tg l (iTup X.K tl):=by
 intro Y s Z H R I h;refine thn (hl Y s Z H _ I h) λv s1 zh=>?_;refine zc2c zh λx H1 I1 r1 q1=>?_;refine zc1c q1 λa e zr2 q=>?_;obtain⟨xs,hq⟩:=zr2;subst e;cases r1;refine zc1c (I1.tuple hq) λits rv p hz=>?_;refine wpAny_pyIter_tuple (show s1.heap.IsTuple a its.toArray from p) ?_;refine⟨s1.heap.objs.size,[s1.heap.objs.size],_,_,H1,rfl,I1.kept (t':=s1.toks) λb o e=>Zq _ e,turn_tuple a _,⟨_,Zr _ rfl,rfl,rfl⟩,λb hb=>?_,q⟩;have e:b=s1.heap.objs.size:=by simpa -iota using hb
 subst e;exact I1.fpOk (Zf _) (I1.hok.fresh (Zf _))
def range_it {Y:Yb}{Z:St}{H:Hp}{s:Shared}{R:It->Hp->Prop}{E:Ya}{lo hi:Int}{t u v:Tok}{tk:Nat}(I:Inv X Y Z H s)(h1: -(2 ^ 62)<=lo)(h2:lo<2 ^ 62)(h3: -(2 ^ 62)<=hi)(h4:hi<2 ^ 62)
 (q:R (Itr lo (hi-lo).toNat) H):YF X (pyIter (.ref s.heap.objs.size)) (PIE X Y Z tg R) E { s with heap:=s.heap.push { cls:=.type "range",data:=.fields #[.int lo t,.int hi u,.int 1 v] },toks:=tk }:=by
 refine wpAny_pyIter_range (IsRange.new ..) (small_one h1 h2 h3 h4) ?_;have I1:Inv X Y Z H { s with heap:=s.heap.push { cls:=.type "range",data:=.fields #[.int lo t,.int hi u,.int 1 v] },toks:=tk }:=I.kept λb o e=>Zq _ e;refine⟨(s.heap.push { cls:=.type "range",data:=.fields #[.int lo t,.int hi u,.int 1 v] }).objs.size,[(s.heap.push { cls:=.type "range",data:=.fields #[.int lo t,.int hi u,.int 1 v] }).objs.size],_,_,H,rfl,
  I1.kept (t':=tk) λb o e=>Zq _ e,turn_range _ lo (hi-lo).toNat,?_,λb hb=>?_,q⟩
 .have e1:lo+((0:Nat):Int)*1=lo:=by simp -iota
  have e2:(((hi-lo).toNat:Nat):Int)-((0:Nat):Int)=Builtin.Range.rangeSize lo hi 1:=by rw[rangeSize_one];split<;>omega
  show IsRangeIter _ _ (lo+((0:Nat):Int)*1) ((((hi-lo).toNat:Nat):Int)-((0:Nat):Int)) 1;rw[e1,e2];exact Zr _ rfl
 .have e:b=(s.heap.push { cls:=.type "range",data:=.fields #[.int lo t,.int hi u,.int 1 v] }).objs.size:=by simpa -iota using hb
  subst e;exact I1.fpOk (Zf _) (I1.hok.fresh (Zf _))
def iRng1 (ta:TA):TI:=λZ H R=>ta Z H λvs H1=>∃j:Int,vs=[.int j] /\ -(2 ^ 62)<=j/\j<2 ^ 62/\R (Itr 0 j.toNat) H1
def pi_range1 {a:Expr}{ta:TA}{p pos:Pos}(hg:Gl X "range")(hm:X.mg "range" = none)(ha:PA X [a] ta)(hs:autoParam (starEach [a] X.env=[(false,eval a X.env)]) zau._auto_1):PI X tg (.Call (.Name "range" p) [a] [] pos) (iRng1 ta):=by
 intro Y s Z H R I h;refine Call_ (oB I hg hm boot_range (PyProof.Rows.callWith_type1 (thn (ha pos Y s Z H _ I h) λus s1 ⟨vs,H1,I1,r1,q1⟩=>?_) hs rfl));obtain⟨j,e,q1,q2,q⟩:=q1;subst e;cases r1 with
 |cons r rr =>
  cases rr;obtain⟨t,rfl⟩:=r;exact call_range_1 (range_it I1 () () q1 q2 (by simpa -iota using q))
noncomputable def tFor (wi:TI)(g:TG)(tb:TS):TS:=λD Z H=>wi Z H λJ H1=>∃W:Nat->Nat->St->Hp->Prop,(∃m,W 0 m Z H1)/\∀i m Z H,W i m Z H ->
 (J.stop i H/\D.nx Z H)\/(J.go i H/\∃N:St->Hp->Prop,(∀Z' H',N Z' H'->∃m',m'<m/\W (i+1) m' Z' H')/\∀x H',J.yld i H x H'->g x Z H' λZ2 H2=>tb { D with nx:=N,ct:=N,bk:=D.nx } Z2 H2)
noncomputable def pz (fp:Yl)(h:Heap):Yb:=fp.filterMap λb=>(h.get? b).map λo=>(b,o)
def wU {fp:Yl}{h:Heap}{b:Addr}{o:Obj}(hb:b∈fp)(e:h.get? b=some o):(b,o)∈pz fp h:=X2.mpr ⟨b,hb,by rw[e];rfl⟩
def of_pinsAt {fp:Yl}{h:Heap}{p:Addr×Obj}(hp:p∈pz fp h):p.1∈fp/\h.get? p.1=some p.2:=by
 refine zc1b (X2.mp hp) λb hb e=>?_;cases q:h.get? b with
 |none=>rw[q] at e;cases e
 |some o =>
  rw[q] at e;have e':(b,o)=p:=Zqi e;subst e';exact⟨hb,q⟩
def Inv.pinned {Y:Yb}{Z:St}{H:Hp}{s:Shared}{fp:Yl}(I:Inv X Y Z H s)(hf:∀b∈fp,iK X Y H b)(ho:∀b∈fp,∃o,s.heap.get? b=some o/\∀v,o.data ≠ .cell v):Inv X (Y++pz fp s.heap) Z H s:=
 I.pins_of λp hp=>(ZM.mp hp).elim (λz=>I.pin p (ZL _ z)) λz=>by
  obtain⟨hb,e⟩:=of_pinsAt z;refine ng (hf p.1 hb) λf0 f1 f2 _=>?_;refine zc1b (ho p.1 hb) λo e' d=>?_;rw[e] at e';cases e';exact⟨e,f0,f1,f2,d⟩
def Inv.unpinned {Y pl:Yb}{Z:St}{H:Hp}{s:Shared}(I:Inv X (Y++pl) Z H s):Inv X Y Z H s:=I.pins_of λp hp=>I.pin p (ZL _ (Z8 _ hp))
def ps_for {iter:Expr}{body:List Stmt}{wi:TI}{g:TG}{tb:TS}{pos:Pos}(hp:PassesOwn (model X.prog X.w) X.A X.env X.xe)(hc:X.calm=true)(hi:PI X tg iter wi)(hg:PG X tg g)(hb:PSs X body tb)
 (hs:autoParam (∀x,foldedSetIterable iter X.env x=pure x) zaw._auto_1):PS X (.For tg iter body [] pos) (tFor wi g tb):=by
 intro Y s Z H D I h;refine wpAny_For (thn (hi Y s Z H _ I h) λv s1 h1=>thn h1 λitv s2 h2=>?_) hs;refine zc4a h2 λit fp tn J zz=>zc1a zz λH2 zz=>xf zz λe I2 T st2 zz=>wx zz λf2 zz=>zc1b zz λW zr11 turn=>?_;obtain⟨m0,w0⟩:=zr11;subst e;have stat:∀{H':Hp},(∀b∈fp,H' b=none)->∀b∈fp,iK X Y H' b:=λhn b hb=>⟨hn b hb,(f2 b hb).2⟩;refine codeAny_forLoop_any (λn s'=>∃i Z' H',Inv X Y Z' H' s'/\tn i s'.heap/\(∀b∈fp,H' b=none)/\W i n Z' H') ?_ m0 ⟨0,Z,H2,I2,st2,λb hb=>(f2 b hb).1,w0⟩;rintro n s3 ⟨i,Z3,H3,I3,st3,fr3,w3⟩;rcases turn i n Z3 H3 w3 with ⟨stop,qn⟩|⟨go,N,hN,step⟩
 .refine wpAny_passesOwn hp (thn (T.done X rfl rfl rfl hc i Y s3 Z3 H3 X.xe I3 (stat fr3) st3 stop) λr s4 zh=>?_);obtain⟨hr,I4⟩:=zh;subst hr;exact wpAny_execs_nil ⟨Z3,H3,I4,qn⟩
 .refine wpAny_passesOwn hp (thn (T.item X rfl rfl rfl hc i Y s3 Z3 H3 X.xe I3 (stat fr3) st3 go) λr s4 zh=>?_);refine zc1b zh λu hr h4=>?_;subst hr;refine wpAny_passesOwn hp (thn h4 λ_ s5 zh=>?_);refine zc2a zh λx H5 zz=>xf zz λI5 r5 y5 st5 fr5=>?_;have I5':=I5.pinned (stat fr5) (T.obj _ _ st5);refine wpAny_passesOwn hp (thn (hg _ s5 Z3 H5 x u _ I5' r5 (step x H5 y5)) λ_ s6 zh=>?_);refine zc2b zh λZ6 H6 I6 q6=>?_;refine wpAny_passesOwn hp (thn (hb _ s6 Z6 H6 _ I6 q6) λf s7 q7=>?_);have again:∀{Z7:St} {H7:Hp},Inv X (Y++pz fp s5.heap) Z7 H7 s7->N Z7 H7->∃m,m<n/\∃i Z' H',Inv X Y Z' H' s7/\tn i s7.heap/\(∀b∈fp,H' b=none)/\W i m Z' H':=λ{Z7 H7} I7 n7=>by
   refine zc1b (hN Z7 H7 n7) λm' hm w7=>?_;refine⟨m',hm,i+1,Z7,H7,I7.unpinned,T.keep _ _ _ st5 λb hb o e=>(I7.pin (b,o) (ZL _ (ZL _ (wU hb e)))).1,λb hb=>?_,w7⟩;refine zc1b (T.obj _ _ st5 b hb) λo e d=>?_;exact(I7.pin (b,o) (ZL _ (ZL _ (wU hb e)))).2.1
  cases f with
  |next=>obtain⟨Z7,H7,I7,n7⟩:=q7;exact again I7 n7
  |cont=>obtain⟨Z7,H7,I7,n7⟩:=q7;exact again I7 n7
  |brk=>obtain⟨Z7,H7,I7,q7⟩:=q7;exact⟨Z7,H7,I7.unpinned,q7⟩
  |ret v=>obtain⟨x7,Z7,H7,I7,r7,q7⟩:=q7;exact⟨x7,Z7,H7,I7.unpinned,r7,q7⟩
end
abbrev R2:=V->V->Hp->VK->Prop
def OpR (X:Cx)(f:Value->Value->Sem Value)(r:R2):Prop:=
 ∀(Y:Yb) (s:Shared) (Z:St) (H:Hp) (x y:V) (v u:Value) (Q:VK),Inv X Y Z H s->y8 x v->y8 y u->r x y H Q ->
  YF X (f v u) (EP X Y Z Q) X.xe s
def UnR (X:Cx)(f:Value->Sem Value)(r:V->Hp->VK->Prop):Prop:=
 ∀(Y:Yb) (s:Shared) (Z:St) (H:Hp) (x:V) (v:Value) (Q:VK),Inv X Y Z H s->y8 x v->r x H Q ->
  YF X (f v) (EP X Y Z Q) X.xe s
noncomputable def zB (X:Cx)(f:Value)(r:YB->Hp->VK->Prop):Prop:=
 ∀(Y:Yb) (s:Shared) (Z:St) (H:Hp) (xs:YB) (us:Yf) (Q:VK),Inv X Y Z H s->yt xs us->r xs H Q ->
  YF X (call f us) (EP X Y Z Q) X.xe s
noncomputable def tOp (r:R2)(ta tb:TE):TE:=λZ H Q=>ta Z H λx H1=>tb Z H1 λy H2=>r x y H2 Q
noncomputable def tUn (r:V->Hp->VK->Prop)(ta:TE):TE:=λZ H Q=>ta Z H λx H1=>r x H1 Q
noncomputable def rI (C:Int->Int->Prop)(g:Int->Int->V):R2:=λx y H Q=>∃i j,x=.int i/\y=.int j/\C i j/\Q (g i j) H
noncomputable def rI0 (g:Int->Int->V):R2:=λx y H Q=>∃i j,x=.int i/\y=.int j/\Q (g i j) H
noncomputable def rU (g:Int->V):V->Hp->VK->Prop:=λx H Q=>∃i,x=.int i/\Q (g i) H
section
variable {X:Cx}{a b c:Expr}{ta tb tc:TE}{pos:Pos}
def cU (ha:PE X a ta)(hb:PE X b tb){Y:Yb}{s:Shared}{Z:St}{H:Hp}{R:V->V->Hp->Prop}(I:Inv X Y Z H s)
 (h:ta Z H λx H1=>tb Z H1 λy H2=>R x y H2) {Q:Ya} {f:Value->Value->Sem Value}
 (hf:∀v u s2 x y H2,Inv X Y Z H2 s2->y8 x v->y8 y u->R x y H2->YF X (f v u) Q X.xe s2):
 YF X (eval a X.env) (λv s₁=>YF X (eval b X.env) (λu s₂=>YF X (f v u) Q X.xe s₂) X.xe s₁) X.xe s:=by
 refine thn (ha Y s Z H _ I h) λv s1 zh=>?_;refine zc2c zh λx H1 I1 r1 q1=>?_;refine thn (hb Y s1 Z H1 _ I1 q1) λu s2 zh=>?_;refine zc2c zh λy H2 I2 r2 q2=>?_;exact hf v u s2 x y H2 I2 r1 r2 q2
def dR {op:Operator}{r:R2}(ho:OpR X (binaryOp op) r)(ha:PE X a ta)(hb:PE X b tb):PE X (.BinOp a op b pos) (tOp r ta tb):=by
 intro Y s Z H Q I h;exact wpAny_BinOp (cU ha hb I h λv u s2 x y H2 I2 rx ry q=>ho Y s2 Z H2 x y v u Q I2 rx ry q)
def pe_un {op:UnaryOp}{r:V->Hp->VK->Prop}(ho:UnR X (unaryOp op) r)(ha:PE X a ta):PE X (.UnaryOp op a pos) (tUn r ta):=by
 intro Y s Z H Q I h;exact UnaryOp_ (thn (ha Y s Z H _ I h) (by rintro v s1 ⟨x,H1,I1,r1,q1⟩;exact ho Y s1 Z H1 x v Q I1 r1 q1))
def opI {f:Value->Value->Sem Value}{C:Int->Int->Prop}{g:Int->Int->Int}
 (rule:∀(i j:Int) (t u:Tok) (s:Shared) (Q:Ya) (E:Ya),C i j->Q (.int (g i j) s.toks) { s with toks:=s.toks+1 }->YF X (f (.int i t) (.int j u)) Q E s):
 OpR X f (rI C λi j=>.int (g i j)):=by
 intro Y s Z H x y v u Q I rx ry h;refine zc2d h λi j zr2 zr3 hc q=>?_;subst zr2;subst zr3;obtain⟨t,rfl⟩:=rx;obtain⟨t',rfl⟩:=ry;exact rule i j t t' s _ _ hc ⟨.int (g i j),H,I.tok _,⟨_,rfl⟩,q⟩
def bG {f:Value->Value->Sem Value}{g:Int->Int->Int}
 (rule:∀(i j:Int) (t u:Tok) (s:Shared) (Q:Ya) (E:Ya),Q (.int (g i j) s.toks) { s with toks:=s.toks+1 }->YF X (f (.int i t) (.int j u)) Q E s):
 OpR X f (rI0 λi j=>.int (g i j)):=by
 intro Y s Z H x y v u Q I rx ry h;refine zc2c h λi j zr2 zr3 q=>?_;subst zr2;subst zr3;obtain⟨t,rfl⟩:=rx;obtain⟨t',rfl⟩:=ry;exact rule i j t t' s _ _ ⟨.int (g i j),H,I.tok _,⟨_,rfl⟩,q⟩
def bA {f:Value->Value->Sem Value}{g:Int->Int->Bool}
 (rule:∀(i j:Int) (t u:Tok) (s:Shared) (Q:Ya) (E:Ya),Q (.bool (g i j)) s->YF X (f (.int i t) (.int j u)) Q E s):
 OpR X f (rI0 λi j=>.bl (g i j)):=by
 intro Y s Z H x y v u Q I rx ry h;refine zc2c h λi j zr2 zr3 q=>?_;subst zr2;subst zr3;obtain⟨t,rfl⟩:=rx;obtain⟨t',rfl⟩:=ry;exact rule i j t t' s _ _ ⟨.bl (g i j),H,I,rfl,q⟩
noncomputable def bw (i j:Int):Prop:=0<j/\j<1073741824
noncomputable def bH (i j:Int):Prop:=0<=j/\j<=1000000/\i.natAbs<2 ^ 64
def op_add:OpR X (binaryOp .Add) (rI0 λi j=>.int (i+j)):=bG λ_ _ _ _ _ _ _ q=>add_int q
def op_sub:OpR X (binaryOp .Sub) (rI0 λi j=>.int (i-j)):=bG λ_ _ _ _ _ _ _ q=>sub_int q
def op_fdiv:OpR X (binaryOp .FloorDiv) (rI bw λi j=>.int (i / j)):=opI λi j _ _ _ _ _ hc q=>by
 have h1:(0:Int)<j:=hc.1;have h2:j<1073741824:=hc.2;exact floordiv_int () (by rw[Int.fdiv_eq_ediv_of_nonneg i ()];exact q) (.inl (PyProof.noPylong_small ()))
def op_mod:OpR X (binaryOp .Mod) (rI (λ_ j=>0<j) λi j=>.int (i % j)):=opI λi j _ _ _ _ _ hc q=>by
 have h1:(0:Int)<j:=hc;exact mod_int' () (by rw[Int.fmod_eq_emod_of_nonneg i ()];exact q)
def op_pow:OpR X (binaryOp .Pow) (rI bH λi j=>.int (i ^ j.toNat)):=opI λ_ _ _ _ _ _ _ hc q=>pow_int_small hc.1 hc.2.1 hc.2.2 q
def unI {f:Value->Sem Value}{g:Int->Int}
 (rule:∀(i:Int) (t:Tok) (s:Shared) (Q:Ya) (E:Ya),Q (.int (g i) s.toks) { s with toks:=s.toks+1 }->YF X (f (.int i t)) Q E s):
 UnR X f (rU λi=>.int (g i)):=by
 intro Y s Z H x v Q I rx h;refine zc1b h λi zr1 q=>?_;subst zr1;obtain⟨t,rfl⟩:=rx;exact rule i t s _ _ ⟨.int (g i),H,I.tok _,⟨_,rfl⟩,q⟩
def un_neg:UnR X (unaryOp .USub) (rU λi=>.int (-i)):=unI λ_ _ _ _ _ q=>neg_int q
end
noncomputable def scal:V->V->Bool
 | .non,.non=>true | .non,.int _=>true | .int _,.non=>true | .non,.bl _=>true | .bl _,.non=>true | .non,.str _=>true | .str _,.non=>true
 | .int _,.int _=>true | .bl _,.bl _=>true | .str _,.str _=>true | .byt _,.byt _=>true
 | .int _,.str _=>true | .str _,.int _=>true | .bl _,.str _=>true | .str _,.bl _=>true
 |_,_=>false
def rEq:R2:=λx y H Q=>scal x y=true/\Q (.bl (decide (x=y))) H
def rNe:R2:=λx y H Q=>scal x y=true/\Q (.bl (!decide (x=y))) H
def j0 {i j:Int}:decide (V.int i=V.int j)=(i == j):=by
 rw[Xl];simp -iota
def f8 {i j:Bool}:decide (V.bl i=V.bl j)=(i == j):=by
 rw[Xl];simp -iota
def jr {i j:Str}:decide (V.str i=V.str j)=(i == j):=by
 rw[Xl];simp -iota
def ip {i j:Array UInt8}:decide (V.byt i=V.byt j)=(i.toList == j.toList):=by
 rw[Xl];cases i;cases j;simp -iota
section
variable {X:Cx}{a b c:Expr}{ta tb tc:TE}{pos:Pos}
def zN {Y:Yb}{Z:St}{H:Hp}{s:Shared}{Q:VK}{k k':Bool}(I:Inv X Y Z H s)(q:Q (.bl k) H)(e:k=k'):EP X Y Z Q (.bool k') s:=by
 subst e;exact⟨.bl k,H,I,rfl,q⟩
def op_eq:OpR X (compareOp .Eq) rEq:=by
 intro Y s Z H x y v u Q I rx ry h;obtain⟨hs,q⟩:=h;cases x with
 |non =>
  cases rx;cases y with
  |non=>cases ry;exact PySem.EqNone.eq_none_none (zN I q (by simp -iota))
  |bl j=>cases ry;exact PySem.EqNone.eq_none_bool (zN I q (by simp -iota))
  |int j=>obtain⟨t',rfl⟩:=ry;exact PySem.EqNone.eq_none_int (zN I q (by simp -iota))
  |str j=>obtain⟨t',rfl⟩:=ry;exact PySem.EqNone.eq_none_str (zN I q (by simp -iota))
  |_=>exact Zn (show false=true from hs) Zj
 |bl i =>
  cases rx;cases y with
  |non=>cases ry;exact PySem.EqNone.eq_bool_none (zN I q (by simp -iota))
  |bl j=>cases ry;exact eq_bool (zN I q f8)
  |str j=>obtain⟨t',rfl⟩:=ry;exact PySem.EqMixed.eq_bool_str (zN I q (by simp -iota))
  |_=>exact Zn (show false=true from hs) Zj
 |int i =>
  obtain⟨t,rfl⟩:=rx;cases y with
  |non=>cases ry;exact PySem.EqNone.eq_int_none (zN I q (by simp -iota))
  |int j=>obtain⟨t',rfl⟩:=ry;exact eq_int (zN I q j0)
  |str j=>obtain⟨t',rfl⟩:=ry;exact PySem.EqMixed.eq_int_str (zN I q (by simp -iota))
  |_=>exact Zn (show false=true from hs) Zj
 |str i =>
  obtain⟨t,rfl⟩:=rx;cases y with
  |non=>cases ry;exact PySem.EqNone.eq_str_none (zN I q (by simp -iota))
  |bl j=>cases ry;exact PySem.EqMixed.eq_str_bool (zN I q (by simp -iota))
  |int j=>obtain⟨t',rfl⟩:=ry;exact PySem.EqMixed.eq_str_int (zN I q (by simp -iota))
  |str j=>obtain⟨t',rfl⟩:=ry;exact eq_str (zN I q jr)
  |_=>exact Zn (show false=true from hs) Zj
 |byt i =>
  obtain⟨t,rfl⟩:=rx;cases y with
  |byt j=>obtain⟨t',rfl⟩:=ry;exact W.eq_bytes (zN I q ip)
  |_=>exact Zn (show false=true from hs) Zj
 |_=>cases y<;>exact Zn (show false=true from hs) Zj
def op_ne:OpR X (compareOp .NotEq) rNe:=by
 intro Y s Z H x y v u Q I rx ry h;obtain⟨hs,q⟩:=h;cases x with
 |non =>
  cases rx;cases y with
  |non=>cases ry;exact PySem.EqNone.ne_none_none (zN I q (by simp -iota))
  |bl j=>cases ry;exact PySem.EqNone.ne_none_bool (zN I q (by simp -iota))
  |int j=>obtain⟨t',rfl⟩:=ry;exact PySem.EqNone.ne_none_int (zN I q (by simp -iota))
  |str j=>obtain⟨t',rfl⟩:=ry;exact PySem.EqNone.ne_none_str (zN I q (by simp -iota))
  |_=>exact Zn (show false=true from hs) Zj
 |bl i =>
  cases rx;cases y with
  |non=>cases ry;exact PySem.EqNone.ne_bool_none (zN I q (by simp -iota))
  |bl j=>cases ry;exact ne_bool (zN I q (Zt not f8))
  |str j=>obtain⟨t',rfl⟩:=ry;exact PySem.EqMixed.ne_bool_str (zN I q (by simp -iota))
  |_=>exact Zn (show false=true from hs) Zj
 |int i =>
  obtain⟨t,rfl⟩:=rx;cases y with
  |non=>cases ry;exact PySem.EqNone.ne_int_none (zN I q (by simp -iota))
  |int j=>obtain⟨t',rfl⟩:=ry;exact ne_int (zN I q (Zt not j0))
  |str j=>obtain⟨t',rfl⟩:=ry;exact PySem.EqMixed.ne_int_str (zN I q (by simp -iota))
  |_=>exact Zn (show false=true from hs) Zj
 |str i =>
  obtain⟨t,rfl⟩:=rx;cases y with
  |non=>cases ry;exact PySem.EqNone.ne_str_none (zN I q (by simp -iota))
  |bl j=>cases ry;exact PySem.EqMixed.ne_str_bool (zN I q (by simp -iota))
  |int j=>obtain⟨t',rfl⟩:=ry;exact PySem.EqMixed.ne_str_int (zN I q (by simp -iota))
  |str j=>obtain⟨t',rfl⟩:=ry;exact ne_str (zN I q (Zt not jr))
  |_=>exact Zn (show false=true from hs) Zj
 |byt i =>
  obtain⟨t,rfl⟩:=rx;cases y with
  |byt j=>obtain⟨t',rfl⟩:=ry;exact W.ne_bytes (zN I q (Zt not ip))
  |_=>exact Zn (show false=true from hs) Zj
 |_=>cases y<;>exact Zn (show false=true from hs) Zj
def op_lt:OpR X (compareOp .Lt) (rI0 λi j=>.bl (decide (i<j))):=bA λ_ _ _ _ _ _ _ q=>lt_int q
def op_gt:OpR X (compareOp .Gt) (rI0 λi j=>.bl (decide (j<i))):=bA λ_ _ _ _ _ _ _ q=>gt_int q
def zM (b:Expr){op:CmpOp}(h:autoParam (op ≠ .In) zav._auto_1)(h2:autoParam (op ≠ .NotIn) zav._auto_1):behindInMarks op b=false:=by
 have e1:(op == CmpOp.In)=false:=by cases op<;>first|rfl|exact Zn rfl h
 have e2:(op == CmpOp.NotIn)=false:=by cases op<;>first|rfl|exact Zn rfl h2
 cases b<;>first|rfl|(show(_&&(_||_)&&_)=false;rw[e1,e2,Bool.or_self,Bool.and_false,Bool.false_and])
def nX {op:CmpOp}{r:R2}(ho:OpR X (compareOp op) r)(ha:PE X a ta)(hb:PE X b tb)(hm:behindInMarks op b=false):PE X (.Compare a [op] [b] pos) (tOp r ta tb):=by
 intro Y s Z H Q I h;exact wpAny_Compare1 (cU ha hb I h λv u s2 x y H2 I2 rx ry q=>ho Y s2 Z H2 x y v u Q I2 rx ry q) hm
noncomputable def tTest (t:TE):TT:=λZ H Q=>t Z H λx H'=>∃k,x=.bl k/\Q k H'
def nQ {op:CmpOp}{r:R2}(ho:OpR X (compareOp op) r)(ha:PE X a ta)(hb:PE X b tb)(hm:behindInMarks op b=false):PT X (.Compare a [op] [b] pos) (tTest (tOp r ta tb)):=by
 intro Y s Z H Q I h;refine wpAny_isTrue_Compare1 (thn (ha Y s Z H _ I h) λv s1 ⟨x,H1,I1,r1,q1⟩=>thn (hb Y s1 Z H1 _ I1 q1) λu s2 ⟨y,H2,I2,r2,q2⟩ =>
  thn (ho Y s2 Z H2 x y v u _ I2 r1 r2 q2) λc s3 ⟨z,H3,I3,r3,k,e,q3⟩=>?_) hm
 subst e;cases r3;exact wpAny_truthy_bool ⟨H3,I3,q3⟩
def qo:(sizeLine:Nat)<2 ^ 63:=by rw[sizeLine_eq];decide
def op_add_str:OpR X (binaryOp .Add) (λx y H Q=>∃i j,x=.str i/\y=.str j/\i.length+j.length<=sizeLine/\Q (.str (i++j)) H):=by
 intro Y s Z H x y v u Q I rx ry h;refine zc2d h λi j zr2 zr3 hz q=>?_;subst zr2;subst zr3;obtain⟨t,rfl⟩:=rx;obtain⟨t',rfl⟩:=ry;exact add_str (λt' tk=>⟨.str (i++j),H,I.tok _,⟨_,rfl⟩,q⟩) hz
def wp {x:V}{us:Yf}(r:yt [x] us):∃u,us=[u]/\y8 x u:=by
 cases r with
 |cons r1 r2=>cases r2;exact⟨_,rfl,r1⟩
def iW {x y:V}{us:Yf}(r:yt [x,y] us):∃u w',us=[u,w']/\y8 x u/\y8 y w':=by
 cases r with
 |cons r1 r2 =>
  cases r2 with
  |cons r3 r4=>cases r4;exact⟨_,_,rfl,r1,r3⟩
def call_max2 (hc:X.calm=true):zB X (.builtin "max") (λxs H Q=>∃i j,xs=[.int i,.int j]/\Q (.int (if j > i then j else i)) H):=by
 intro Y s Z H xs us Q I r h;refine zc2b h λi j zr2 q=>?_;subst zr2;refine zc2c (iW r) λu w' zr2 zr3 zr4=>?_;subst zr2;obtain⟨t,rfl⟩:=zr3;obtain⟨t',rfl⟩:=zr4;refine max_two_ints (I.ok.hd hc) λh' tk k=>⟨_,H,I.kept k,?_,q⟩;by_cases hj:j > i
 .rw[Zd hj,Zd hj];exact⟨_,rfl⟩
 .rw[Ze hj,Ze hj];exact⟨_,rfl⟩
def call_min2 (hc:X.calm=true):zB X (.builtin "min") (λxs H Q=>∃i j,xs=[.int i,.int j]/\Q (.int (if j<i then j else i)) H):=by
 intro Y s Z H xs us Q I r h;refine zc2b h λi j zr2 q=>?_;subst zr2;refine zc2c (iW r) λu w' zr2 zr3 zr4=>?_;subst zr2;obtain⟨t,rfl⟩:=zr3;obtain⟨t',rfl⟩:=zr4;refine min_two_ints (I.ok.hd hc) λh' tk k=>⟨_,H,I.kept k,?_,q⟩;by_cases hj:j<i
 .rw[Zd hj,Zd hj];exact⟨_,rfl⟩
 .rw[Ze hj,Ze hj];exact⟨_,rfl⟩
def call_int1:zB X (.type "int") (λxs H Q=>(∃i,xs=[.int i]/\Q (.int i) H)\/∃k,xs=[.bl k]/\Q (.int (if k then 1 else 0)) H):=by
 intro Y s Z H xs us Q I r h;rcases h with ⟨i,rfl,q⟩|⟨k,rfl,q⟩
 .refine zc1b (wp r) λu zr1 zz=>zc1a zz λt zr3=>?_;subst zr1;subst zr3;exact call_int_int ⟨.int i,H,I,⟨_,rfl⟩,q⟩
 .refine zc1b (wp r) λu zr1 r1=>?_;subst zr1;cases r1;exact call_int_bool ⟨.int (if k then 1 else 0),H,I.tok _,⟨_,rfl⟩,q⟩
end
def kF.some_of {v:V}{o:Yg}(r:kF (some v) o):∃u,o=some u/\y8 v u:=by
 cases o with
 |none=>exact(show False from r).elim
 |some u=>exact⟨u,rfl,r⟩
structure Room (k:Nat)(A:Around):Prop where
 hd:A.handled=none
 dp:A.depth+3*k+5<recursionLimit
 un:A.units+16*k+200<cLine
def Room.mono {j k:Nat}{A:Around}(r:Room k A)(h:j<=k):Room j A:=⟨r.hd,by have:=r.dp;omega,by have:=r.un;omega⟩
theorem Room.deeper {k:Nat}{A:Around}(r:Room (k+1) A)(env:Env):Room k (A.deeper env):=
 ⟨r.hd,by have:=r.dp;show A.depth+1+3*k+5<_;omega,by have:=r.un;show A.units+3+16*k+200<_;omega⟩
theorem Room.depth {k:Nat}{A:Around}(r:Room k A):A.depth<recursionLimit:=by have:=r.dp;omega
theorem Room.units {k:Nat}{A:Around}(r:Room k A):A.units+64<cLine:=by have:=r.un;omega
noncomputable def c9:TA:=λ_ H Q=>Q [] H
noncomputable def gC (ta:TE)(tr:TA):TA:=λZ H Q=>ta Z H λx H1=>tr Z H1 λxs H2=>Q (x::xs) H2
section
variable {X:Cx}{e:Expr}{es:Ym}{te:TE}{t:TA}{pos:Pos}
def o8:PA X [] c9:=λ_ _ _ _ H Q I h=>Calls.spliced_nil ⟨[],H,I,.nil,h⟩
def sK (ha:PE X e te)(hr:PA X es t)(hs:autoParam (starEach (e::es) X.env=(false,eval e X.env)::starEach es X.env) zau._auto_1):PA X (e::es) (gC te t):=by
 intro pos Y s Z H Q I h;rw[hs];show wpAny _ _ (spliced ((false,eval e X.env)::backTo pos (starEach es X.env))) _ _ s;refine Calls.spliced_cons (thn (ha Y s Z H _ I h) λu s1 zh=>?_);refine zc2c zh λx H1 I1 r1 q1=>?_;exact thn (hr pos Y s1 Z H1 _ I1 q1) (by rintro us s2 ⟨xs,H2,I2,r2,q2⟩;exact⟨x::xs,H2,I2,.cons r1 r2,q2⟩)
def tTup (t:TA):TE:=λZ H Q=>t Z H λxs H1=>xs.length<=sizeLine/\∀p,H1 p=none->Q (.ref p) (upd H1 p (.tup xs))
def tLst (t:TA):TE:=λZ H Q=>t Z H λxs H1=>xs.length<=sizeLine/\∀p,H1 p=none->Q (.ref p) (upd H1 p (.lst xs))
def pe_tup {x1}(h:PA X es t):PE X (.Tuple es x1 pos) (tTup t):=by
 intro Y s Z H Q I hq;refine wpAny_Tuple_spliced (thn (h pos Y s Z H _ I hq) λus s1 ⟨xs,H1,I1,r,z,q⟩=>⟨by rw[<- r.length];exact z,?_⟩);have hf:H1 s1.heap.objs.size=none:=I1.hok.fresh (Zf _);refine⟨.ref s1.heap.objs.size,upd H1 s1.heap.objs.size (.tup xs),I1.laid (t':=s1.toks) (λb u e=>Zq _ e) (Zf _) ?_,rfl,q _ hf⟩;exact⟨⟨z,⟨_,Zr _ rfl,rfl⟩⟩,us,r,⟨_,Zr _ rfl,rfl,_,rfl⟩⟩
def pe_lst (h:PA X es t):PE X (.List es pos) (tLst t):=by
 intro Y s Z H Q I hq;refine wpAny_List_spliced (thn (h pos Y s Z H _ I hq) λus s1 ⟨xs,H1,I1,r,z,q⟩=>⟨by rw[<- r.length];exact z,?_⟩);have hf:H1 s1.heap.objs.size=none:=I1.hok.fresh (Zf _);refine⟨.ref s1.heap.objs.size,upd H1 s1.heap.objs.size (.lst xs),I1.laid (t':=s1.toks) (λb u e=>Zq _ e) (Zf _) ?_,rfl,q _ hf⟩;exact⟨z,us,0,r,Zr _ rfl⟩
end
abbrev Sp:=YB->Hp->VK->XK->Prop
abbrev CXT:=List Env->Hp->Shared->XK->Ya
structure Env0 (P:Program)(w:World)(K:W.Frag)(mg:Ye)(base:Heap)(A:Around)(outer:List Env)(s:Shared)(H:Hp):Prop where
 frames:A.frames=some outer
 mod:Mod K mg base
 bs:∀b o,base.get? b=some o->s.heap.get? b=some o/\H b=none
 bsz:base.objs.size<=s.heap.objs.size
 funs:s.heap.FunFrames base outer
 frf:∀b∈frs outer,H b=none
 hok:HOk P w H s.heap
 bare:AllBare s.gens
def CE (outer:List Env)(P:Program)(w:World)(H:Hp)(s:Shared)(Q:VK)(u:Value)(s':Shared):Prop:=
 ∃v H',s'.os=s.os/\AllBare s'.gens/\Un (frs outer) [] H H' s.heap s'.heap/\HOk P w H' s'.heap/\y8 v u/\Q v H'
noncomputable def CR (CX:CXT)(outer:List Env)(P:Program)(w:World)(H:Hp)(s:Shared)(Q:VK)(E:XK)(r:Result)(s':Shared):Prop:=
 match r with
 | .ok (.ret u)=>CE outer P w H s Q u s'
 | .ok _=>False
 | .error e=>CX outer H s E e s'
structure FnOk (P:Program)(w:World)(K:W.Frag)(mg:Ye)(base:Heap)(CX:CXT)(k:Nat)(f:Addr)(fd:FuncData)(ps:Yk)(sp:Sp):Prop where
 len:∀vs H Q E,sp vs H Q E->vs.length=ps.length
 run:∀(A:Around) (outer:List Env) (s:Shared) (H:Hp) (args:Args) (us:Yf) (vs:YB) (Q:VK) (E:XK),Room k A->Env0 P w K mg base A outer s H->BindsTo s fd args (ps.zip us)->yt vs us->sp vs H Q E ->
  codeAny (model P w) A (.call (.ref f) args) (CR CX outer P w H s Q E) s
theorem FnOk.mono {P:Program}{w:World}{K:W.Frag}{mg:Ye}{base:Heap}{CX:CXT}{j k:Nat}{f:Addr}{fd:FuncData}{ps:Yk}{sp:Sp}(F:FnOk P w K mg base CX j f fd ps sp)(h:j<=k):
 FnOk P w K mg base CX k f fd ps sp:=⟨F.len,λA outer s H args us vs Q E hr=>F.run A outer s H args us vs Q E (hr.mono h)⟩
def FnOk.imp {P:Program}{w:World}{K:W.Frag}{mg:Ye}{base:Heap}{CX:CXT}{k:Nat}{f:Addr}{fd:FuncData}{ps:Yk}{sp sp':Sp}(F:FnOk P w K mg base CX k f fd ps sp)
 (h:∀vs H Q E,sp' vs H Q E->sp vs H Q E):FnOk P w K mg base CX k f fd ps sp':=
 ⟨λvs H Q E q=>F.len vs H Q E (h _ _ _ _ q),λA outer s H args us vs Q E hr he hb hv hs=>F.run A outer s H args us vs Q E hr he hb hv (h _ _ _ _ hs)⟩
section
variable {X:Cx}{Y:Yb}{Z:St}{H:Hp}{s s':Shared}
def Inv.env0 (I:Inv X Y Z H s):Env0 X.prog X.w X.K X.mg X.base X.A X.stack s H:=
 ⟨I.ok.frames,I.ok.mod,I.bs,Zh I.ok.bsz I.sz,I.stack,I.stkFree,I.hok,I.bare⟩
def Inv.after {Q:VK}{u:Value}(I:Inv X Y Z H s)(h:CE X.stack X.prog X.w H s Q u s'):EP X Y Z Q u s':=by
 refine zc2a h λv H' zz=>xf zz λos bare un hok zz=>wx zz λr q=>?_;obtain⟨hh,g,d,t,os'⟩:=s';obtain rfl:os'=s.os:=os;exact⟨v,H',I.call (h':=hh) (g':=g) (d':=d) (t':=t) (ch:=[]) un hok bare (λb z=>Zn z (by simp -iota)),r,q⟩
end
noncomputable def eV (sp:Sp)(dvs:YB)(E:XK)(t:TA):TE:=λZ H Q=>t Z H λvs H1=>sp (vs++dvs) H1 Q E
noncomputable def pX (K:W.Frag)(fd:FuncData)(ps:Yk)(ds:Yf):Prop:=
 ∀(s:Shared) (us:Yf),K.In s.heap->(us++ds).length=ps.length->BindsTo s fd ⟨us,[]⟩ (ps.zip (us++ds))
def pX.all {K:W.Frag}{fd:FuncData}{ps:Yk}(h:∀us:Yf,us.length=ps.length->bindArgs fd ⟨us,[]⟩=pure (ps.zip us)):pX K fd ps []:=λs us _ hl=>by
 rw[Zz] at hl ⊢;exact .of_eq (h us hl)
noncomputable def m9 (CX:CXT)(X:Cx)(E:XK):Prop:=∀(Y:Yb) (Z:St) (H:Hp) (s:Shared) (e:Value) (s':Shared),Inv X Y Z H s->CX X.stack H s E e s'->X.xe e s'
section
variable {X:Cx}{CX:CXT}{k:Nat}{f C:Addr}{fd:FuncData}{ps:Yk}{sp:Sp}{dvs:YB}{ds:Yf}{E:XK}{x m:Str}{p pos apos:Pos}{e o:Expr}{es:Ym}{ta:TE}{t:TA}
def run_fn {Y:Yb}{Z:St}{H:Hp}{s:Shared}{Q:VK}{us:Yf}{vs:YB}(F:FnOk X.prog X.w X.K X.mg X.base CX k f fd ps sp)(hr:Room k X.A)(hb:pX X.K fd ps ds)(hd:yt dvs ds)(hx:m9 CX X E)
 (I:Inv X Y Z H s) (r:yt vs us) (h:sp (vs++dvs) H Q E):YF X (call (.ref f) us) (EP X Y Z Q) X.xe s:=by
 have r2:yt (vs++dvs) (us++ds):=r.append hd;have hl:(us++ds).length=ps.length:=by rw[<- r2.length];exact F.len _ _ _ _ h
 refine wpAny_call (codeAny_mono (F.run X.A X.stack s H ⟨us,[]⟩ (us++ds) (vs++dvs) Q E hr I.env0 (hb s us I.kIn hl) r2 h) λr s' hq=>?_);cases r with
 |error e=>exact hx Y Z H s e s' I hq
 |ok fl =>
  cases fl with
  |ret u=>exact I.after hq
  |next=>exact False.elim hq
  |brk=>exact False.elim hq
  |cont=>exact False.elim hq
def j6 (F:FnOk X.prog X.w X.K X.mg X.base CX k f fd ps sp)(hr:Room k X.A)(hg:Gl X x)(hm:X.mg x=some (.ref f))(hk:W.keepIn X.K (.ref f)=true)(hb:pX X.K fd ps ds)(hd:yt dvs ds)(hx:m9 CX X E)
 (ha:PA X (e::es) t) (hdb:autoParam ((x == ("__debug__" : Str))=false) zav._auto_1) (he:starEach (e::es) X.env=(false,eval e X.env)::starEach es X.env:=by rfl) (hpl:(backTo pos (starEach es X.env)).any (·.1)=false:=by rfl):
 PE X (.Call (.Name x p) (e::es) [] pos) (eV sp dvs E t):=by
 intro Y s Z H Q I h;refine wpAny_Call_Name_kw (qV I hg hm ?_ hdb);refine W.callWith_K (h₀:=X.base) I.ok.mod.kin hk (thn (ha pos Y s Z H _ I h) λus s1 ⟨vs,H1,I1,r,q⟩=>⟨I1.kIn,?_⟩) he hpl;exact run_fn F hr hb hd hx I1 r q
end
structure FnScope (N P:Yk)(sc:Scope):Prop where
 kind:sc.kind=.function
 co:sc.isCoroutine=false
 gen:sc.isGenerator=false
 nd:N.Nodup
 pre:N.take P.length=P
 par:∀x∈P,sc.names.lookup x=some .local\/sc.names.lookup x=some .cell
 nofree:∀y∈sc.names,y.2 ≠ .free
theorem oI {kindOf:Str->Option NameKind}{x:Str}:∀{binds:List (Str×Value)} {m:Ye},(∀v,(x,v)∉binds)->bindL kindOf binds m x=m x
 | [],_,_=>rfl
 | (n,v)::r,m,h=>by
  unfold bindL;rw[oI λw hw=>h w (Zqm _ hw)]
  split
  .have:x≠n:=by rintro rfl;exact h v Zqs
   simp -iota [this]
  .rfl
theorem pO {kindOf:Str->Option NameKind}{x:Str}:∀{binds:List (Str×Value)} {m:Ye},(∀v,(x,v)∉binds)->bindC kindOf binds m x=m x
 | [],_,_=>rfl
 | (n,v)::r,m,h=>by
  unfold bindC;rw[pO λw hw=>h w (Zqm _ hw)]
  split
  .rfl
  .have:x≠n:=by rintro rfl;exact h v Zqs
   simp -iota [this]
theorem pF {kindOf:Str->Option NameKind}{x:Str}{v:Value}:∀{P:Yk} {vs:Yf} {i:Nat} {m:Ye},P.Nodup->P[i]? = some x->vs[i]? = some v->kindOf x=some .local ->
 bindL kindOf (P.zip vs) m x=some v
 | [],_,_,_,_,h,_,_=>by simp -iota at h
 |_::_,[],_,_,_,_,h,_=>by simp -iota at h
 |p::P,w::vs,0,m,nd,h1,h2,hk=>by
  simp -iota at h1 h2;subst h1;subst h2;show bindL kindOf ((p,w)::P.zip vs) m p=_;unfold bindL;rw[oI λv hv=>(List.nodup_cons.mp nd).1 (List.of_mem_zip hv).1,Zd hk];simp -iota
 |p::P,w::vs,i+1,m,nd,h1,h2,hk=>by
  show bindL kindOf ((p,w)::P.zip vs) m x=_;unfold bindL;exact pF (i:=i) (List.nodup_cons.mp nd).2 (by simpa -iota using h1) (by simpa -iota using h2) hk
theorem pP {kindOf:Str->Option NameKind}{x:Str}{v:Value}:∀{P:Yk} {vs:Yf} {i:Nat} {m:Ye},P.Nodup->P[i]? = some x->vs[i]? = some v->kindOf x≠some .local ->
 bindC kindOf (P.zip vs) m x=some v
 | [],_,_,_,_,h,_,_=>by simp -iota at h
 |_::_,[],_,_,_,_,h,_=>by simp -iota at h
 |p::P,w::vs,0,m,nd,h1,h2,hk=>by
  simp -iota at h1 h2;subst h1;subst h2;show bindC kindOf ((p,w)::P.zip vs) m p=_;unfold bindC;rw[pO λv hv=>(List.nodup_cons.mp nd).1 (List.of_mem_zip hv).1,Ze hk];simp -iota
 |p::P,w::vs,i+1,m,nd,h1,h2,hk=>by
  show bindC kindOf ((p,w)::P.zip vs) m x=_;unfold bindC;exact pP (i:=i) (List.nodup_cons.mp nd).2 (by simpa -iota using h1) (by simpa -iota using h2) hk
noncomputable def start (N:Yk)(vs:YB):St:=vs.map some++List.replicate (N.length-vs.length) none
noncomputable def rl (CX:CXT)(P:Program)(w:World)(K:W.Frag)(mg:Ye)(base:Heap)(N:Yk)(qual:Str)(scope:Scope)(f:Addr)(cd:Value)(A:Around)(outer:List Env)(s:Shared)(H:Hp)(E:XK):Cx where
 prog:=P
 w:=w
 K:=K
 mg:=mg
 base:=base
 A:=A.deeper (envOfC qual scope s.heap.objs.size f cd)
 N:=N
 s₀:=s
 H₀:=H
 env:=envOfC qual scope s.heap.objs.size f cd
 outer:=outer
 stack:=envOfC qual scope s.heap.objs.size f cd::outer
 ex:=[]
 calm:=true
 fn:=λ_=>true
 pn:=[]
 xe:=λe s'=>wpAny (model P w) (A.deeper (envOfC qual scope s.heap.objs.size f cd)) (leaving (envOfC qual scope s.heap.objs.size f cd) e) (λ_ s''=>CX outer H s E e s'') (λe' s''=>CX outer H s E e' s'') s'
def l8 {sc:Scope}{n:Nat}{x:Str}(h:sc.names.lookup x=some .cell):∃c,(cellsFrom n sc.names []).lookup x=some c:=by
 have q:=W.cellsFrom_some sc.names n [] (.inl h);exact Option.isSome_iff_exists.mp q
def inv_start {CX:CXT}{P:Program}{w:World}{K:W.Frag}{mg:Ye}{base:Heap}{N ps:Yk}{qual:Str}{scope:Scope}{f:Addr}{cd:Value}{A:Around}{outer:List Env}{s s1:Shared}{H:Hp}{E:XK}{us:Yf}{vs:YB}
 (S:FnScope N ps scope) (hd:A.handled=none) (e0:Env0 P w K mg base A outer s H) (hl:vs.length=ps.length) (r:yt vs us)
 (x:InCallC s s.heap.objs.size (bindL (envOfC qual scope s.heap.objs.size f cd).kindOf (ps.zip us) λ_=>none) (cellsFrom (s.heap.objs.size+1) scope.names []) (bindC (envOfC qual scope s.heap.objs.size f cd).kindOf (ps.zip us) λ_=>none) s1):
 Inv (rl CX P w K mg base N qual scope f cd A outer s H E) [] (start N vs) H s1:=by
 have hpl:ps.length<=N.length:=by have:=Zt List.length S.pre;rw[Z2] at this;omega
 refine zc2b x.done λh1 tk zr2 hk=>?_;subst zr2;have noA:∀b:Addr,b∉(rl CX P w K mg base N qual scope f cd A outer s H E).ex:=λb z=>Zn (show b∈([]:Yl) from z) (by simp -iota);refine⟨⟨e0.mod,S.kind,rfl,rfl,Zf _,λy z c h1 h2=>?_,λy hy=>?_,λy c _ h=>?_,λ_=>hd,Around.frames_deeper e0.frames,.inr ⟨rfl,rfl⟩,λb z=>Zn z (noA b),e0.bs,e0.bsz,λb _ _=>noA b,λb z=>Zn z (noA b),e0.funs,e0.frf⟩,
  rfl,e0.bare,Un.kept hk,⟨_,x.toInCall.ns,λi y v h1 h2 h3=>?_⟩,λy c h=>⟨_,x.cell y c h⟩,e0.hok.fresh (Zf _),λy c h=>?_,λp hp=>Zn (show p∈([]:Yb) from hp) (by simp -iota),e0.hok.kept hk,?_⟩
 .exact name_of_addr x.apart (PySem.mem_of_lookup h1) (PySem.mem_of_lookup h2)
 .have hy:scope.names.lookup y=some .cell\/scope.names.lookup y=some .free:=hy;rcases hy with hy|hy
  .exact l8 hy
  .exact Zn rfl (S.nofree _ (PySem.mem_of_lookup hy))
 .exact Zy (x.above y c (PySem.mem_of_lookup h))
 .have hi:i<vs.length:=by
   unfold start at h2;by_cases hi:i<vs.length
   .exact hi
   .rw[Xq (by simpa -iota using hi)] at h2;rw[List.getElem?_replicate] at h2
    split at h2<;>cases h2
  have ha:vs[i]? = some v:=by
   unfold start at h2;rw[Xv (by simpa -iota using hi),Zv] at h2;cases e:vs[i]? with
   |none=>rw[e] at h2;cases h2
   |some a=>rw[e] at h2;cases h2;rfl
  refine zc1b (r.get ha) λu hu rv=>?_;have hp:ps[i]? = some y:=by
   rw[<- S.pre,List.getElem?_take_of_lt ()];exact h1
  have ndP:ps.Nodup:=by rw[<- S.pre];exact S.nd.sublist (List.take_sublist _ _)
  refine⟨u,rv,?_⟩;rcases S.par y (ZS hp) with k|k
  .exact .inl ⟨k,pF ndP hp hu k⟩
  .obtain⟨c,e⟩:=l8 (n:=s.heap.objs.size+1) k;refine .inr ⟨.inl k,c,e,?_⟩;have q:=x.cell y c e;rw[pP ndP hp hu (by show scope.names.lookup y≠_;rw[k];decide)] at q;exact q
 .exact e0.hok.fresh (Zy (x.above y c (PySem.mem_of_lookup h)))
 .unfold start;show _=N.length;rw[ZG,Zql,List.length_replicate];omega
def dX {CX:CXT}{P:Program}{w:World}{K:W.Frag}{mg:Ye}{base:Heap}{k:Nat}{f:Addr}{name qual:Str}{params:Arguments}{body:List Stmt}{scope:Scope}{dV kV doc pm cdv ct oc:Value}{an od:Option Addr}
 {osl:Array Yg} {N ps:Yk} {sp:Sp} (lk:K.lookup f=some ⟨oc,od,.func (W.fnOf name qual params body scope dV kV doc pm an cdv ct),osl⟩) (hcd:W.codeIn K cdv qual=true) (S:FnScope N ps scope)
 (len:∀vs H Q E,sp vs H Q E->vs.length=ps.length)
 (hbody:∀(A:Around) (outer:List Env) (s:Shared) (H:Hp) (vs:YB) (Q:VK) (E:XK),Room k (A.deeper (envOfC qual scope s.heap.objs.size f cdv))->sp vs H Q E ->
  ∃t,PSs (rl CX P w K mg base N qual scope f cdv A outer s H E) body t/\t { nx:=λ_ H'=>Q .non H',rt:=Q } (start N vs) H):
 FnOk P w K mg base CX (k+1) f (W.fnOf name qual params body scope dV kV doc pm an cdv ct) ps sp:=by
 refine⟨len,λA outer s H args us vs Q E hr e0 hb r hsp=>?_⟩;have hl:=len _ _ _ _ hsp;have KX:K.In s.heap:=e0.mod.kin.keeps λb o e=>(e0.bs b o e).1;have lim:s.heap.NoLimit:=e0.mod.nolimit.keeps λb o e=>(e0.bs b o e).1;have hkind:∀y∈ps.zip us,scope.names.lookup y.1=some .local\/(scope.names.lookup y.1=some .cell/\((cellsFrom (s.heap.objs.size+1) scope.names []).lookup y.1).isSome=true):=λ⟨n,v⟩ hy=>by
  rcases S.par n (List.of_mem_zip hy).1 with q|q
  .exact .inl q
  .exact .inr ⟨q,W.cellsFrom_some _ _ _ (.inl q)⟩
 refine codeAny_call_function hr.depth (KX _ _ lk) rfl S.co S.gen rfl (W.codeRec_of KX hcd) (hb _ _ _ _ ?_);refine wpAny_newFunctionEnv_cells S.kind hkind λenv he s1 x=>?_;subst he;refine⟨lim.keeps x.toInCall.keep,codeAny_func ?_⟩;refine zc1b (hbody A outer s H vs Q E (hr.deeper _) hsp) λt ht hq=>?_;have I:Inv (rl CX P w K mg base N qual scope f cdv A outer s H E) [] (start N vs) H s1:=inv_start S hr.hd e0 hl r x;refine Zc (ht [] s1 (start N vs) H _ I hq) (λfl s' hs=>?_) λe s' hs=>hs;have fin:∀{Z':St} {H':Hp} {v:V} {u:Value},Inv (rl CX P w K mg base N qual scope f cdv A outer s H E) [] Z' H' s'->y8 v u->Q v H'->CE outer P w H s Q u s':=
  λ{Z' H' v u} J rv q=>⟨v,H',J.os,J.bare,J.base,J.hok,rv,q⟩
 cases fl with
 |ret u =>
  refine zc3c hs λv Z' H' J rv q=>?_;exact fin J rv q
 |next =>
  refine zc2b hs λZ' H' J q=>?_;exact fin (v:=V.non) (u:=Value.none) J rfl q
 |brk =>
  refine zc2b hs λ_ _ _ q=>?_;exact False.elim q
 |cont =>
  refine zc2b hs λ_ _ _ q=>?_;exact False.elim q
section
variable {X:Cx}{x:Str}{p pos:Pos}{e:Expr}{es:Ym}{t:TA}{id T:String}{r:YB->Hp->VK->Prop}
noncomputable def tCB (r:YB->Hp->VK->Prop)(t:TA):TE:=λZ H Q=>t Z H λvs H1=>r vs H1 Q
def t7 (hc:zB X (.builtin id) r)(hg:Gl X x)(hm:X.mg x=none)(hv:bootBuiltins x=some (.builtin id))(ha:PA X (e::es) t)(hn:autoParam (x ≠ "__name__") zav._auto_1)(hdb:autoParam ((x == ("__debug__" : Str))=false) zav._auto_1)
 (he:autoParam (starEach (e::es) X.env=(false,eval e X.env)::starEach es X.env) zau._auto_1) (hpl:autoParam ((backTo pos (starEach es X.env)).any (·.1)=false) zau._auto_1):PE X (.Call (.Name x p) (e::es) [] pos) (tCB r t):=by
 intro Y s Z H Q I h;refine wpAny_Call_Name_kw (oB I hg hm hv ?_ hn hdb);exact PyProof.Rows.callWith_builtin1 (thn (ha pos Y s Z H _ I h) (by rintro us s1 ⟨vs,H1,I1,r1,q1⟩;exact hc Y s1 Z H1 vs us Q I1 r1 q1)) he hpl
def wE (hc:zB X (.type T) r)(hg:Gl X x)(hm:X.mg x=none)(hv:bootBuiltins x=some (.type T))(ha:PA X (e::es) t)(hn:autoParam (x ≠ "__name__") zav._auto_1)(hdb:autoParam ((x == ("__debug__" : Str))=false) zav._auto_1)
 (he:autoParam (starEach (e::es) X.env=(false,eval e X.env)::starEach es X.env) zau._auto_1) (hpl:autoParam ((backTo pos (starEach es X.env)).any (·.1)=false) zau._auto_1):PE X (.Call (.Name x p) (e::es) [] pos) (tCB r t):=by
 intro Y s Z H Q I h;refine wpAny_Call_Name_kw (oB I hg hm hv ?_ hn hdb);exact PyProof.Rows.callWith_type1 (thn (ha pos Y s Z H _ I h) (by rintro us s1 ⟨vs,H1,I1,r1,q1⟩;exact hc Y s1 Z H1 vs us Q I1 r1 q1)) he hpl
end
end L2
namespace HT
open PySem PyProof.Rows
noncomputable def lexLt:Yh->List Int->Bool
 | [],[]=>false
 | [],_::_=>true
 |_::_,[]=>false
 |x::xs,y::ys=>if x=y then lexLt xs ys else decide (x<y)
def lexLt_cons (x y:Int)(xs ys:Yh):lexLt (x::xs) (y::ys)=if x=y then lexLt xs ys else decide (x<y):=rfl
def lexLt_nil_nil:lexLt [] []=false:=rfl
def lexLt_nil_cons (y:Int)(ys:Yh):lexLt [] (y::ys)=true:=rfl
def lexLt_cons_nil (x:Int)(xs:Yh):lexLt (x::xs) []=false:=rfl
def eqAt_int (A:Around)(s:Shared)(a:Int)(t:Tok)(c:Int)(u:Tok):∃e,SeqAt.EqAt A s (.int a t) (.int c u) e/\(e=true↔a=c):=
 ⟨(a == c),SeqAt.EqAt.int_int a t c u,by simp -iota⟩
def rcLt_int (A:Around)(s:Shared)(a:Int)(t:Tok)(c:Int)(u:Tok)(prog:Program)(w:World)(E:Ya)(Q:Ya)(h:Q (.bool (decide (a<c))) s):
 YG prog w A (richCompare .Lt (.int a t) (.int c u)) Q E s:=
 (PyProof.Rows.lt_int h:YG prog w A (compareOp .Lt (.int a t) (.int c u)) Q E s)
section
open PySem.SeqAt
open PySem.AutoSeq1 (wpAny_loadPart')
open PySem.MeetsSeq PySem.MeetsSeq2 PySem.MeetsSeq3
def tuple_lt_ints (l b:Addr)(items items2:Yn)(n n2:Nat)(dd dd2:Option Addr)(sl sl2:Array Yg)(ns ms:Yh)(hi:IntsAre items.toList ns)(hj:IntsAre items2.toList ms):
 Meets (Builtin.«tuple.__lt__» ⟨[.ref l,.ref b],[]⟩)
  (λ_ R s=>s.heap.get? l=some { cls:=.type "tuple",dict:=dd,data:=.seq items n,slots:=sl }/\s.heap.get? b=some { cls:=.type "tuple",dict:=dd2,data:=.seq items2 n2,slots:=sl2 } /\
   R (.ok (.ret (.bool (lexLt ns ms)))) s):=
 .of_wp λprog w A R s h=>by
  obtain⟨hp,g,d,tk,os⟩:=s;obtain⟨hl,hb,h⟩:=h;have f2:=AutoSeq1.sub_tuple_tuple;have z1:items.size=ns.length:=by rw[<- hi.length];simp -iota
  have z2:items2.size=ms.length:=by rw[<- hj.length];simp -iota
  wp_walk using wpAny_loadPart' hl,wpAny_loadPart' hb,wpAny_forIn_list _ (λrest b s'=>b.1=none/\s'=⟨hp,g,d,tk,os⟩/\∃(vs ws:Yf) (ns' ms':Yh),rest=vs.zip ws /\
   IntsAre vs ns'/\IntsAre ws ms'/\ns'.length+items2.size=ms'.length+items.size/\R (.ok (.ret (.bool (lexLt ns' ms')))) ⟨hp,g,d,tk,os⟩) _
  case turn =>
   rintro⟨y,x⟩ rest b s' ⟨hb',rfl,vs,ws,ns',ms',hz,hvi,hwi,hlen,hR⟩;cases hvi with
   |nil=>rw[List.zip_nil_left] at hz;cases hz
   |cons a t hvi' =>
    cases hwi with
    |nil=>rw[List.zip_nil_right] at hz;cases hz
    |cons c u hwi' =>
     rw[XH] at hz;injection hz with hyx hrest
     injection hyx with hy hx
     subst hy hx;rw[lexLt_cons] at hR;simp -iota only[Zu] at hlen;refine zc1b (eqAt_int A.in1 ⟨hp,g,d,tk,os⟩ a t c u) λe he hiff=>?_;refine Za (he prog w _ _ ?_);cases e with
     |true =>
      rw[Zd (hiff.mp rfl)] at hR
      wp_walk
      exact⟨rfl,rfl,_,_,_,_,hrest,hvi',hwi',(),hR⟩
     |false =>
      rw[Ze (λq=>Zn (hiff.mpr q) Zj)] at hR;have hri:=rcLt_int A.in1 ⟨hp,g,d,tk,os⟩ a t c u prog w
      wp_walk using hri
      exact⟨_,rfl,by simpa -iota using hR⟩
  case fin =>
   rintro⟨b1,b2⟩ s' ⟨hb',rfl,vs,ws,ns',ms',hz,hvi,hwi,hlen,hR⟩;simp -iota only at hb';subst hb';have hv:lexLt ns' ms'=decide (items.size<items2.size):=by
    cases hvi with
    |nil =>
     cases hwi with
     |nil =>
      simp -iota only[ZB] at hlen;rw[lexLt_nil_nil];exact(Zo ()).symm
     |cons c u hw =>
      simp -iota only[ZB,Zu] at hlen;rw[lexLt_nil_cons];exact(Zp ()).symm
    |cons a t hv =>
     cases hwi with
     |nil =>
      simp -iota only[ZB,Zu] at hlen;rw[lexLt_cons_nil];exact(Zo ()).symm
     |cons c u hw =>
      rw[XH] at hz;cases hz
   rw[hv] at hR
   wp_walk
   exact⟨_,rfl,by simpa -iota [Builtin.Tuple.tupleCompareSizes] using hR⟩
  case h =>
   exact⟨rfl,rfl,items.toList,items2.toList,ns,ms,rfl,hi,hj,(),h⟩
end
section
variable {prog:Program}{w:World}{A:Around}{E:Ya}{s:Shared}
def lt_tupInts {l b:Addr}{items items2:Yn}{ns ms:Yh}{Q:Ya}(hl:IsTup s.heap l items)(hb:IsTup s.heap b items2)(hi:IntsAre items.toList ns)(hj:IntsAre items2.toList ms)
 (hu:A.units<cLine) (h:Q (.bool (lexLt ns ms)) s):YG prog w A (compareOp .Lt (.ref l) (.ref b)) Q E s:=by
 refine zc1c (id hl) λzr0 ho hc zz=>zc1a zz λn hd=>?_;obtain⟨cls,dd,data,sl⟩:=zr0;refine zc1c (id hb) λzr0 ho2 hc2 zz=>zc1a zz λn2 hd2=>?_;obtain⟨cls2,dd2,data2,sl2⟩:=zr0;simp -iota only at hc hd hc2 hd2;subst hc hd hc2 hd2;exact richCompare_meets_room (op:=.Lt) ⟨_,ho,rfl⟩ ⟨_,ho2,rfl⟩ PySem.F.slot_tuple_lt PySem.F.entry_tuple_lt (PySem.F.args_tuple_lt_2 _ _) (tuple_lt_ints l b items items2 n n2 dd dd2 sl sl2 ns ms hi hj)
  ⟨ho,ho2,show Value.bool (lexLt ns ms)≠Value.notImplemented/\Q (.bool (lexLt ns ms)) s from ⟨(λx=>nomatch x),h⟩⟩ hu
def cat_tup {t b:Addr}{vs ws:Yf}{Q:Ya}(ht:IsTup s.heap t vs.toArray)(hb:IsTup s.heap b ws.toArray)(hv:vs ≠ [])
 (h1:ws=[]->Q (.ref t) s) (h2:ws ≠ []->Q (.ref s.heap.objs.size) { s with heap:=s.heap.push { cls:=.type "tuple",data:=.seq (vs++ws).toArray } })
 (hsz:vs.length+ws.length<=sizeLine):YG prog w A (binaryOp .Add (.ref t) (.ref b)) Q E s:=by
 refine zc1c (id ht) λzr0 ho hc zz=>zc1a zz λn hd=>?_;obtain⟨cls,dd,data,sl⟩:=zr0;refine zc1c (id hb) λzr0 ho2 hc2 zz=>zc1a zz λn2 hd2=>?_;obtain⟨cls2,dd2,data2,sl2⟩:=zr0;simp -iota only at hc hd hc2 hd2;subst hc hd hc2 hd2;have e:vs.toArray++ws.toArray=(vs++ws).toArray:=by simp -iota
 by_cases hw:ws=[]
 .exact concat_meets ⟨_,ho,rfl⟩ ⟨_,ho2,rfl⟩ noFill_tuple_add seq_tuple_add PySem.F.slot_tuple_add PySem.F.entry_tuple_add (PySem.F.args_tuple_add_2 _ _)
   (tuple_addW1 t b vs.toArray ws.toArray n n2 dd dd2 sl sl2 (by simpa -iota using hv) (by simp -iota [hw])) ⟨ho,ho2,h1 hw⟩
 .refine concat_meets ⟨_,ho,rfl⟩ ⟨_,ho2,rfl⟩ noFill_tuple_add seq_tuple_add PySem.F.slot_tuple_add PySem.F.entry_tuple_add (PySem.F.args_tuple_add_2 _ _)
   (tuple_addW2 t b vs.toArray ws.toArray n n2 dd dd2 sl sl2 (by simpa -iota using hv) (by simpa -iota using hw) (by rw[Zm,Zm];exact hsz)) ⟨ho,ho2,?_⟩
  rw[e];exact h2 hw
end
end HT
namespace L2
abbrev TO:=St->Hp->(Option Int->Hp->Prop)->Prop
noncomputable def PO (X:Cx)(e:Option Expr)(t:TO):Prop:=
 ∀(Y:Yb) (s:Shared) (Z:St) (H:Hp) (Q:Option Int->Hp->Prop),Inv X Y Z H s->t Z H Q ->
  YF X (evalPart e X.env) (λu s'=>∃o H',Inv X Y Z H' s'/\IsPart u o/\Q o H') X.xe s
noncomputable def tNoPart:TO:=λ_ H Q=>Q none H
noncomputable def tPart (t:TE):TO:=λZ H Q=>t Z H λx H1=>∃i,x=.int i/\Q (some i) H1
def uk {ns:Yh}:∀{us:Yf},yt (ns.map V.int) us->IntsAre us ns:=by
 induction ns with
 |nil=>intro us r;rw[Xt] at r;cases r;exact .nil
 |cons n ns ih =>
  intro us r;rw[Zl] at r;cases r with
  |cons r1 r2 =>
   obtain⟨t,e⟩:=r1;subst e;exact .cons n t (ih r2)
section
variable {X:Cx}{e:Expr}{te:TE}{lo hi:Option Expr}{tl th:TO}{pos p2:Pos}
def po_none:PO X none tNoPart:=by
 intro Y s Z H Q I h;rw[evalPart_none];exact Zb ⟨none,H,I,.none,h⟩
def po_some (h:PE X e te):PO X (some e) (tPart te):=by
 intro Y s Z H Q I hw;rw[evalPart_some];refine thn (h Y s Z H _ I hw) λu s1 zh=>?_;refine zc2c zh λx H1 I1 r1 q1=>?_;refine zc1b q1 λi zr1 q=>?_;subst zr1;obtain⟨t,rfl⟩:=r1;exact⟨some i,H1,I1,.int i t,q⟩
def rCatT (K:W.Frag):R2:=λx y H Q=>∃a b xs ys,x=.ref a/\y=.ref b/\SqT K H a xs/\SqT K H b ys/\xs ≠ []/\xs.length+ys.length<=sizeLine /\
 (ys=[]->Q (.ref a) H)/\(ys ≠ []->∀p,H p=none->Q (.ref p) (upd H p (.tup (xs++ys))))
def yt.nil_iff {xs:YB}{us:Yf}(r:yt xs us):us=[]↔xs=[]:=by
 cases r with
 |nil=>simp -iota
 |cons _ _=>simp -iota
def op_catT:OpR X (binaryOp .Add) (rCatT X.K):=by
 intro Y s Z H x y v u Q I rx ry h;refine zc4a h λa b xs ys zz=>xf zz λzr4 zr5 ha hb zz=>ng zz λhx hz q1 q2=>?_;subst zr4;subst zr5;cases rx;cases ry;refine zc1c (I.tuple ha) λits r1 p1 _=>?_;refine zc1c (I.tuple hb) λits2 r2 p2 _=>?_;refine HT.cat_tup p1 p2 (λz=>hx (r1.nil_iff.mp z)) (λz=>⟨.ref a,H,I,rfl,q1 (r2.nil_iff.mp z)⟩) (λz=>?_) (by rw[<- r1.length,<- r2.length];exact hz);refine⟨.ref s.heap.objs.size,_,I.laid (t':=s.toks) (o:=.tup (xs++ys)) (λb ob q=>Zq _ q) (Zf _) ?_,rfl,q2 (λw=>z (r2.nil_iff.mpr w)) _ (I.hok.fresh (Zf _))⟩;exact⟨⟨by rw[ZG];exact hz,⟨_,Zr _ rfl,rfl⟩⟩,_,r1.append r2,IsTup.new _ _⟩
end
noncomputable def ixN (n:Nat)(i:Int):Option Nat:=if 0<=i then(if i<n then some i.toNat else none) else if -(n:Int)<=i then some (i+n).toNat else none
def atI {α:Type}(xs:List α)(i:Int):Option α:= (ixN xs.length i).bind λj=>xs[j]?
def jM {n:Nat}{i:Int}{j:Nat}(h:ixN n i=some j):seqIndex? i n=some j/\j<n /\ -(n:Int)<=i/\i<n:=by
 unfold ixN at h;by_cases h0:0<=i
 .rw[Zd h0] at h;by_cases h1:i<n
  .rw[Zd h1] at h;have e:i.toNat=j:=Zqi h;exact⟨by rw[seqIndex_of h0 h1,e],(),(),h1⟩
  .rw[Ze h1] at h;cases h
 .rw[Ze h0] at h;by_cases h1: -(n:Int)<=i
  .rw[Zd h1] at h;have e:(i+n).toNat=j:=Zqi h;exact⟨by rw[seqIndex_neg () h1,e],(),h1,()⟩
  .rw[Ze h1] at h;cases h
def nM {α:Type}{xs:List α}{i:Int}{v:α}(h:atI xs i=some v):∃j,seqIndex? i xs.length=some j/\xs[j]? = some v/\j<xs.length /\ -(xs.length:Int)<=i/\i<xs.length:=by
 unfold atI at h;cases e:ixN xs.length i with
 |none=>rw[e] at h;cases h
 |some j =>
  rw[e] at h;refine ng (jM e) λh1 h2 h3 h4=>?_;exact⟨j,h1,h,h2,h3,h4⟩
noncomputable def mi (b:Expr):Prop:=∀o i,subscripted b false o i=operate [o,i] (getItem o i)
def IxR (X:Cx)(r:R2):Prop:=
 ∀(value slice:Expr) (Y:Yb) (s:Shared) (Z:St) (H:Hp) (x y:V) (v u:Value) (Q:VK),Inv X Y Z H s->y8 x v->y8 y u->r x y H Q ->
  subscripted slice false v u=operate [v,u] (getItem v u)->YF X (subscriptTail value slice v u) (EP X Y Z Q) X.xe s
def MtR (X:Cx)(id:String)(r:V->YB->Hp->VK->Prop):Prop:=
 ∀(Y:Yb) (s:Shared) (Z:St) (H:Hp) (x:V) (xs:YB) (v:Value) (us:Yf) (Q:VK),Inv X Y Z H s->y8 x v->yt xs us->r x xs H Q ->
  YF X (call (.builtin id) (v::us)) (EP X Y Z Q) X.xe s
section
variable {X:Cx}{a b:Expr}{ta tb:TE}{pos:Pos}
def IxR.or {r r':R2}(h:IxR X r)(h':IxR X r'):IxR X (λx y H Q=>r x y H Q\/r' x y H Q):=by
 intro value slice Y s Z H x y v u Q I rx ry q hs;rcases q with q|q
 .exact h value slice Y s Z H x y v u Q I rx ry q hs
 .exact h' value slice Y s Z H x y v u Q I rx ry q hs
def dG {r:R2}(hr:IxR X r)(ha:PE X a ta)(hb:PE X b tb)(hs:mi b):PE X (.Subscript a b pos) (tOp r ta tb):=by
 intro Y s Z H Q I h;exact Subscript_ (cU ha hb I h λv u s2 x y H2 I2 rx ry q=>hr a b Y s2 Z H2 x y v u Q I2 rx ry q (hs _ _))
def bo (K:W.Frag):R2:=λx y H Q=>∃p xs i v,x=.ref p/\y=.int i/\SqL K H p xs/\atI xs i=some v/\Q v H
def bE (K:W.Frag):R2:=λx y H Q=>∃p xs i v,x=.ref p/\y=.int i/\SqT K H p xs/\atI xs i=some v/\Q v H
def bK:R2:=λx y H Q=>∃z i c,x=.str z/\y=.int i/\z.length<=sizeLine/\atI z.cps.toList i=some c/\Q (.str ⟨#[c]⟩) H
def jg:IxR X (bo X.K):=by
 intro value slice Y s Z H x y v u Q I rx ry h hs;refine zc4a h λp xs i z zz=>xf zz λzr4 zr5 hq he q=>?_;subst zr4;subst zr5;cases rx;obtain⟨t,rfl⟩:=ry;refine zc1c (I.list hq) λits r pl hz=>?_;refine zc1e (nM he) λj h1 h2 h3 h4 h5=>?_;refine zc1b (r.get h2) λw ew rw'=>?_;have hl:=r.length;have hn:=qo;have fin:EP X Y Z Q w s:=⟨z,H,I,rw',q⟩;by_cases h0:0<=i
 .have hj:i.toNat=j:=by
   rw[seqIndex_of h0 h5] at h1;exact Zqi h1
  exact item_listR pl.isList h0 () (by rw[hj];simpa -iota using ew) fin hs
 .have hj:(i+(its.toArray.size:Int)).toNat=j:=by
   rw[seqIndex_neg () h4] at h1;rw[Zm,<- hl];exact Zqi h1
  exact subscriptTail_builtinR (x:=w) pl.isList.typeIs slot_list_getitem.lookup
   (wpAny_getItem_list_neg (Q:=λr s'=>r=w/\EP X Y Z Q r s') pl.isList () (by rw[Zm]<;>omega) () (by rw[hj];simpa -iota using ew) ⟨rfl,fin⟩) hs
def ix_tup:IxR X (bE X.K):=by
 intro value slice Y s Z H x y v u Q I rx ry h hs;refine zc4a h λp xs i z zz=>xf zz λzr4 zr5 hq he q=>?_;subst zr4;subst zr5;cases rx;obtain⟨t,rfl⟩:=ry;refine zc1c (I.tuple hq) λits r pl hz=>?_;refine zc1e (nM he) λj h1 h2 h3 h4 h5=>?_;refine zc1b (r.get h2) λw ew rw'=>?_;have hl:=r.length;have hn:=qo;have fin:EP X Y Z Q w s:=⟨z,H,I,rw',q⟩;exact subscriptTail_builtinR (x:=w) pl.typeIs slot_tuple_getitem.lookup
  (getItem_tuple (j:=j) (Q:=λr s'=>r=w/\EP X Y Z Q r s') pl () () (by rw[Zm,<- hl];exact h1) (by simpa -iota using ew) ⟨rfl,fin⟩) hs
def ix_str:IxR X bK:=by
 intro value slice Y s Z H x y v u Q I rx ry h hs;refine zc3a h λz i c zz=>xf zz λzr3 zr4 hz he q=>?_;subst zr3;subst zr4;obtain⟨t,rfl⟩:=rx;obtain⟨t',rfl⟩:=ry;refine zc1e (nM he) λj h1 h2 h3 h4 h5=>?_;have hl:z.cps.toList.length=z.length:=by simp -iota [Str.length]
 rw[hl] at h1 h4 h5;have hn:=qo;exact tail_any (typeIs_str s z t) slot_str_getitem.lookup (getItem_str (c:=c) (by
  have e1:decide (i < -(2 ^ 63:Int))=false:=Zo ();have e2:decide (i ≥ 2 ^ 63)=false:=Zo ();rw[e1,e2,Bool.or_false]) (by rw[h1];simpa -iota using h2) ⟨.str ⟨#[c]⟩,H,I.tok _,⟨_,rfl⟩,q⟩) hs
def rIx (K:W.Frag):R2:=λx y H Q=>bo K x y H Q\/bE K x y H Q\/bK x y H Q
def ix_seq:IxR X (rIx X.K):=jg.or (ix_tup.or ix_str)
def mapSeq_set (its:Yf)(n j:Nat)(u:Value):Obj.mapSeq (·.setIfInBounds j u) { cls:=.type "list",data:=.seq its.toArray n }={ cls:=.type "list",data:=.seq (its.set j u).toArray n }:=by
 simp[Obj.mapSeq]
theorem Inv.lst {Y:Yb}{Z:St}{H:Hp}{s:Shared}{p:Addr}{xs:YB}(I:Inv X Y Z H s)(h:H p=some (.lst xs)):
 ∃(its:Yf) (n:Nat),yt xs its/\s.heap.get? p=some { cls:=.type "list",data:=.seq its.toArray n }/\xs.length<=sizeLine:=by
 refine wx (I.hok p _ h) λz zz=>zc2b zz λits n r e=>?_;exact⟨its,n,r,e,z⟩
def Inv.lstUpd {Y:Yb}{Z:St}{H:Hp}{s:Shared}{p:Addr}{xs ys:YB}{its its':Yf}{n n':Nat}{f:Obj->Obj}(I:Inv X Y Z H s)(h:H p=some (.lst xs))
 (ho:s.heap.get? p=some { cls:=.type "list",data:=.seq its.toArray n }) (hf:f { cls:=.type "list",data:=.seq its.toArray n }={ cls:=.type "list",data:=.seq its'.toArray n' }) (r:yt ys its') (hz:ys.length<=sizeLine) (t:Nat):
 Inv X Y Z (upd H p (.lst ys)) { s with heap:=s.heap.update p f,toks:=t }:=by
 have e:(s.heap.update p f).get? p=some { cls:=.type "list",data:=.seq its'.toArray n' }:=by
  rw[Heap.get?_update_self f ho (by rw[hf]<;>rfl),hf]
 refine I.write (x:=p) (e:=p) (by rw[h];trivial) (.inl rfl) (λb u hb q=>(Heap.get?_update_other _ _ (Ne.symm hb)).trans q) ⟨_,e⟩ ?_;exact⟨hz,its',n',r,e⟩
def rSetL:V->V->V->Hp->(Hp->Prop)->Prop:=λo i v H Q=>∃p xs k j,o=.ref p/\i=.int k/\H p=some (.lst xs)/\ixN xs.length k=some j/\Q (upd H p (.lst (xs.set j v)))
def set_list:bP X rSetL:=by
 intro Y s Z H o i v ov iv u Q I ro ri rv h;refine zc4a h λp xs k j zz=>xf zz λzr4 zr5 hp hj q=>?_;subst zr4;subst zr5;cases ro;obtain⟨t,rfl⟩:=ri;refine zc2c (I.lst hp) λits n r ho hz=>?_;refine ng (jM hj) λh1 h2 h3 h4=>?_;have hl:=r.length;have hn:=qo;have I':Inv X Y Z (upd H p (.lst (xs.set j v))) { s with heap:=s.heap.update p (Obj.mapSeq (·.setIfInBounds j u)) } :=
  I.lstUpd hp ho (mapSeq_set its n j u) (r.set rv j) (by rw[XE];exact hz) s.toks
 by_cases h0:0<=k
 .have hk:k.toNat=j:=by
   rw[seqIndex_of h0 h4] at h1;exact Zqi h1
  exact W.ki_setAt ho h0 () (by rw[Zm,<- hl];exact h4) (by rw[hk];exact⟨_,I',q⟩)
 .have hk:(k+(its.toArray.size:Int)).toNat=j:=by
   rw[seqIndex_neg () h3] at h1;rw[Zm,<- hl];exact Zqi h1
  exact W.ki_setBack ho () (by rw[Zm,<- hl];exact h3) () (by rw[hk];exact⟨_,I',q⟩)
def call_len_seq:zB X (.builtin "len") (λxs H Q=>∃p ys,xs=[.ref p]/\(SqL X.K H p ys\/SqT X.K H p ys)/\Q (.int ys.length) H):=by
 intro Y s Z H xs us Q I r h;refine zc2c h λp ys zr2 hq q=>?_;subst zr2;refine zc1b (wp r) λu zr1 rx=>?_;subst zr1;cases rx;have hn:=qo;rcases hq with hq|hq
 .refine zc1c (I.list hq) λits r' pl hz=>?_;have hlen:=r'.length;exact Calls.call_len_list pl.isList (by simp -iota only[Zm]<;>omega) ⟨.int ys.length,H,I.tok _,⟨s.toks+1,by rw[Zm,hlen]⟩,q⟩
 .refine zc1c (I.tuple hq) λits r' pl hz=>?_;have hlen:=r'.length;exact len_tuple pl (by simp -iota only[Zm]<;>omega) ⟨.int ys.length,H,I.tok _,⟨s.toks+1,by rw[Zm,hlen]⟩,q⟩
def call_len_str:zB X (.builtin "len") (λxs H Q=>∃z,xs=[.str z]/\z.length<=sizeLine/\Q (.int z.length) H):=by
 intro Y s Z H xs us Q I r h;obtain⟨z,rfl,hz,q⟩:=h;obtain⟨u,rfl,t,rfl⟩:=wp r;have hn:=qo;exact len_str () ⟨.int z.length,H,I.tok _,⟨_,rfl⟩,q⟩
def zB.or {f:Value}{r r':YB->Hp->VK->Prop}(h:zB X f r)(h':zB X f r'):zB X f (λxs H Q=>r xs H Q\/r' xs H Q):=by
 intro Y s Z H xs us Q I rs q;rcases q with q|q
 .exact h Y s Z H xs us Q I rs q
 .exact h' Y s Z H xs us Q I rs q
def call_tuple_of:zB X (.type "tuple") (λxs H Q=>∃p ys,xs=[.ref p]/\((SqL X.K H p ys/\∀l,H l=none->Q (.ref l) (upd H l (.tup ys)))\/(SqT X.K H p ys/\Q (.ref p) H))):=by
 intro Y s Z H xs us Q I r h;obtain⟨p,ys,rfl,h⟩:=h;obtain⟨u,rfl,rx⟩:=wp r;cases rx;rcases h with ⟨hq,q⟩|⟨hq,q⟩
 .obtain⟨its,r',pl,hz⟩:=I.list hq;have hlen:=r'.length;refine call_tuple_list pl.isList (λh' kp=>?_) (by simp -iota only[Zm]<;>omega);have I1:Inv X Y Z H { s with heap:=h' }:=I.kept (t':=s.toks) kp;have I2:Inv X Y Z (upd H h'.objs.size (.tup ys)) { s with heap:=h'.push { cls:=.type "tuple",data:=.seq its.toArray } } :=
   I1.laid (t':=s.toks) (λb o e=>Zq _ e) (Zf _) (show yE X.prog X.w _ _ _ (.tup ys) from ⟨⟨hz,⟨_,Zr _ rfl,rfl⟩⟩,its,r',IsTup.new _ _⟩)
  exact⟨.ref h'.objs.size,_,I2,rfl,q _ (I1.hok.fresh (Zf _))⟩
 .obtain⟨its,r',pl,hz⟩:=I.tuple hq;exact call_tuple_same pl ⟨.ref p,H,I,rfl,q⟩
def tyV (K:W.Frag)(T:String)(x:V)(H:Hp):Prop:=match x with
 | .str _=>T = "str"
 | .int _=>T = "int"
 | .ref p=>(T = "list" /\ ∃xs,SqL K H p xs)\/(T = "tuple" /\ ∃o,K.lookup p=some o/\o.cls=.type "tuple" /\ o.dict=none) \/
  (T = "dict" /\ ((∃kvs,H p=some (.dK kvs))\/∃kvs,H p=some (.dT kvs)))\/(T = "set" /\ ∃S n,H p=some (.set S n))
 |_=>False
def fH {Y:Yb}{Z:St}{H:Hp}{s:Shared}{T:String}{x:V}{v:Value}(I:Inv X Y Z H s)(r:y8 x v)(ty:tyV X.K T x H):
 s.TypeIs v T/\∀a,v=.ref a->∃ob,s.heap.get? a=some ob/\ob.dict=none:=by
 cases x with
 |str z =>
  obtain⟨t,rfl⟩:=r;cases (show T = "str" from ty);exact⟨typeIs_str s z t,λ_ e=>nomatch e⟩
 |int i =>
  obtain⟨t,rfl⟩:=r;cases (show T = "int" from ty);exact⟨typeIs_int s i t,λ_ e=>nomatch e⟩
 |ref p =>
  cases r;rcases ty with ⟨rfl,xs,hq⟩|⟨rfl,o,hk,hc,hd⟩|⟨rfl,hk⟩|⟨rfl,S,n,hk⟩
  .refine zc1c (I.list hq) λits _ pl _=>?_;refine⟨pl.isList.typeIs,λa e=>?_⟩;cases e;refine zc2d pl λo n e c hd _=>?_;exact⟨o,e,hd⟩
  .refine⟨⟨o,I.kIn p o hk,hc⟩,λa e=>?_⟩;cases e;exact⟨o,I.kIn _ o hk,hd⟩
  .have z:∃o,s.heap.get? p=some o/\o.ExactDict:=by
    rcases hk with ⟨kvs,hk⟩|⟨kvs,hk⟩
    .refine x8 (I.hok p _ hk) λ_ _ zz=>zc1b zz λ_ _ zz=>zc3c zz λo _ _ e ex _=>?_;exact⟨o,e,ex⟩
    .refine x8 (I.hok p _ hk) λ_ _ zz=>zc1b zz λ_ _ zz=>zc3c zz λo _ _ e ex _=>?_;exact⟨o,e,ex⟩
   refine zc1b z λo e ex=>?_;refine⟨⟨o,e,ex.1⟩,λa e2=>?_⟩;cases e2;exact⟨o,e,ex.2.1⟩
  .refine zc4a (I.hok p _ hk) λo _ _ _ zz=>x8 zz λe ex _=>?_;refine⟨⟨o,e,ex.1⟩,λa e2=>?_⟩;cases e2;exact⟨o,e,ex.2.1⟩
 |_=>exact False.elim ty
def bu (K:W.Frag)(T:String)(r:V->YB->Hp->VK->Prop)(to:TE):TE:=λZ H Q=>to Z H λx H1=>tyV K T x H1/\r x [] H1 Q
def tBM (K:W.Frag)(T:String)(r:V->YB->Hp->VK->Prop)(to:TE)(t:TA):TE:=λZ H Q=>to Z H λx H1=>tyV K T x H1/\t Z H1 λxs H2=>r x xs H2 Q
variable {o e:Expr}{es:Ym}{to:TE}{t:TA}{name:Str}{apos cpos:Pos}{T id:String}{r:V->YB->Hp->VK->Prop}
def pe_bm0 (pa:PlainAttrs T)(slot:Slot T name id)(hty:typeOf (.builtin id)=pure (.type "method_descriptor"))(hm:MtR X id r)(ho:PE X o to)
 (hbase:autoParam (attributeBase o name X.env (eval o X.env)=eval o X.env) zau._auto_1) (hline:autoParam ((apos.endLine == cpos.line)=true) zau._auto_1):PE X (.Call (.Attribute o name apos) [] [] cpos) (bu X.K T r to):=by
 intro Y s Z H Q I h;refine wpAny_Call_method0_late hbase hline (thn (ho Y s Z H _ I h) λv s1 zh=>?_);refine zc2d zh λx H1 I1 r1 ty q1=>?_;obtain⟨h1,h2⟩:=fH I1 r1 ty;exact⟨T,id,pa,slot,hty,h1,h2,Calls.callWith_builtin rfl (PySem.evalArgs_none (hm Y s1 Z H1 x [] v [] Q I1 r1 .nil q1))⟩
def vW (pa:PlainAttrs T)(slot:Slot T name id)(hty:typeOf (.builtin id)=pure (.type "method_descriptor"))(hm:MtR X id r)(ho:PE X o to)(ha:PA X (e::es) t)
 (hbase:autoParam (attributeBase o name X.env (eval o X.env)=eval o X.env) zau._auto_1)
 (hfew:((backTo cpos (starEach (e::es) X.env)).all (λx => !x.1)&&(backToKw cpos (keywordEach [] X.env)).all (λx=>x.1.isSome)
  && decide ((e::es).length+([]:List Keyword).length+(if([]:List Keyword).isEmpty then 0 else 1)<30))=true:=by rfl)
 (hline:autoParam ((apos.endLine == cpos.line)=true) zau._auto_1) (hs:autoParam (starEach (e::es) X.env=(false,eval e X.env)::starEach es X.env) zau._auto_1) (hplain:autoParam ((backTo cpos (starEach es X.env)).any (·.1)=false) zau._auto_1):
 PE X (.Call (.Attribute o name apos) (e::es) [] cpos) (tBM X.K T r to t):=by
 intro Y s Z H Q I h;refine wpAny_Call_method_late hbase hfew hline rfl (thn (ho Y s Z H _ I h) λv s1 zh=>?_);refine zc2d zh λx H1 I1 r1 ty q1=>?_;obtain⟨h1,h2⟩:=fH I1 r1 ty;refine⟨T,id,pa,slot,hty,h1,h2,?_⟩;have hA:=ha cpos Y s1 Z H1 _ I1 q1;rw[hs] at hA ⊢;refine Calls.callWith_builtin (by show(false||(backTo cpos (starEach es X.env)).any (·.1))=false;rw[hplain]<;>rfl) (Calls.evalArgs_plain ?_);exact thn hA (by rintro us s2 ⟨vs,H2,I2,r2,q2⟩;exact hm Y s2 Z H2 x vs v us Q I2 r1 r2 q2)
end
def MtM (X:Cx)(id:String)(r:V->YB->Hp->VK->Prop):Prop:=
 ∀(Y:Yb) (s:Shared) (Z:St) (H:Hp) (x:V) (xs:YB) (v:Value) (us:Yf) (Q:VK),Inv X Y Z H s->y8 x v->yt xs us->r x xs H Q ->
  YF X (call (.builtin id) (v::us)) (EP X Y Z Q) X.xe s
def yt.one:∀{x:V} {us:Yf},yt [x] us->∃u,us=[u]/\y8 x u:=λh=>by
 cases h with
 |cons r t=>cases t;exact⟨_,rfl,r⟩
def yt.zero:∀{us:Yf},yt [] us->us=[]
 |_,.nil=>rfl
section
variable {X:Cx}{Y:Yb}{Z:St}{H:Hp}{s:Shared}{l b:Addr}{xs ys zs:YB}
def Inv.lset {its its':Yf}{n:Nat}{f:Yn->Array Value}{t':Nat}(I:Inv X Y Z H s)(hH:H l=some (.lst xs))
 (e:s.heap.get? l=some { cls:=.type "list",data:=.seq its.toArray n }) (hf:f its.toArray=its'.toArray) (hv:yt ys its') (hz:ys.length<=sizeLine):
 Inv X Y Z (upd H l (.lst ys)) { s with heap:=s.heap.update l (Obj.mapSeq f),toks:=t' }:=by
 have q:=PySem.IsL.update e f;rw[hf] at q;refine I.write (x:=l) (e:=l) (by rw[hH];exact trivial) (.inl rfl) (λb' u hb hu=>(Heap.get?_update_other s.heap (Obj.mapSeq f) (Ne.symm hb)).trans hu) ⟨_,q⟩ ?_;exact⟨hz,its',_,hv,q⟩
def Inv.lnew {its:Yf}{t':Nat}(I:Inv X Y Z H s)(hv:yt ys its)(hz:ys.length<=sizeLine):
 Inv X Y Z (upd H s.heap.objs.size (.lst ys)) { s with heap:=s.heap.push { cls:=.type "list",data:=.seq its.toArray },toks:=t' } :=
 I.laid (λ_ _ q=>Zq _ q) (Zf _) ⟨hz,its,0,hv,Zr _ rfl⟩
theorem Inv.fresh (I:Inv X Y Z H s):H s.heap.objs.size=none:=I.hok.fresh (Zf _)
def Inv.lstM (I:Inv X Y Z H s)(hH:H l=some (.lst xs)):xs.length<=sizeLine/\∃(its:Yf) (n:Nat),yt xs its/\xs.length=its.length/\s.heap.get? l=some { cls:=.type "list",data:=.seq its.toArray n }:=by
 refine wx (I.hok l _ hH) λz zz=>zc2b zz λits n r e=>?_;exact⟨z,its,n,r,r.length,e⟩
def notLongL {n:Nat}(h:n<=sizeLine):Builtin.List.listTooLong n=false:=by
 unfold Builtin.List.listTooLong;exact Zo ()
end
section
variable {X:Cx}
def kJ:V->YB->Hp->VK->Prop:=λx vs H Q=>∃l xs y,x=.ref l/\vs=[y]/\H l=some (.lst xs)/\xs.length<sizeLine/\Q .non (upd H l (.lst (xs++[y])))
def zY:MtM X "list.append" kJ:=by
 intro Y s Z H x vs v us Q I rx rv h;obtain⟨l,xs,y,rfl,rfl,hH,hz,q⟩:=h;cases rx;obtain⟨u,rfl,ru⟩:=rv.one;obtain⟨z,its,n,r,hl,e⟩:=I.lstM hH;refine call_meets F.slot_list_append ⟨_,e,rfl⟩ F.entry_list_append (F.args_list_append_2 _ _) (PySem.list_append l its.toArray n u (by rw[Zm];omega)) ⟨e,?_⟩;refine⟨.non,_,I.lset (its':=its++[u]) hH e (by simp -iota) (r.append (.cons ru .nil)) ?_,rfl,q⟩;rw[ZG,Z4];omega
def i7:V->YB->Hp->VK->Prop:=λx vs H Q=>∃l b xs zs,x=.ref l/\vs=[.ref b]/\H l=some (.lst xs)/\H b=some (.lst zs)/\xs.length+zs.length<=sizeLine/\Q .non (upd H l (.lst (xs++zs)))
def mt_extend:MtM X "list.extend" i7:=by
 intro Y s Z H x vs v us Q I rx rv h;refine zc4a h λl b xs zs zz=>xf zz λzr4 zr5 hH hB zz=>wx zz λhz q=>?_;subst zr4;subst zr5;cases rx;refine zc1b rv.one λu zr1 ru=>?_;subst zr1;cases ru;refine wx (I.lstM hH) λz zz=>zc2c zz λits n r hl e=>?_;refine wx (I.lstM hB) λz2 zz=>zc2c zz λits2 n2 r2 hl2 e2=>?_;have hsz:its.toArray.size+its2.toArray.size<=sizeLine:=by rw[Zm,Zm];omega
 have hlong:¬(!its.toArray.isEmpty&&Builtin.List.listTooLong (its.toArray.size+its2.toArray.size))=true:=by
  rw[notLongL hsz,Bool.and_false];exact Zj
 refine call_meets F.slot_list_extend ⟨_,e,rfl⟩ F.entry_list_extend (F.args_list_extend_2 _ _)
  (AutoSeq1.list_extend_list_list_0 l its.toArray n b its2.toArray n2 hlong (by rw[Zm];omega) ()) ⟨e,e2,?_⟩
 refine⟨.non,_,I.lset (its':=its++its2) hH e (by simp -iota) (r.append r2) ?_,rfl,q⟩;rw[ZG];omega
end
section
variable {prog:Program}{w:World}{A:Around}{E:Ya}{s:Shared}
set_option maxRecDepth 100000 in
end
section
variable {κ: Type}[DecidableEq κ]
noncomputable def r9 (kvs:List (κ × V))(k:κ):YC:=(kvs.find? λkv=>decide (kv.1=k)).map (·.2)
noncomputable def qh (kvs:List (κ × V))(k:κ)(v:V):List (κ × V):=
 if(kvs.any λkv=>decide (kv.1=k))=true then kvs.map (λkv=>if kv.1=k then(kv.1,v) else kv) else kvs++[(k,v)]
def qy {p:κ × V}{r:List (κ × V)}{k:κ}(e:p.1=k):r9 (p::r) k=some p.2:=by simp -iota [r9,List.find?_cons,e]
def qE {p:κ × V}{r:List (κ × V)}{k:κ}(e:¬p.1=k):r9 (p::r) k=r9 r k:=by simp -iota [r9,List.find?_cons,e]
theorem mM (k:κ):∀kvs:List (κ × V),(kvs.any λkv=>decide (kv.1=k))=(r9 kvs k).isSome
 | []=>rfl
 |p::r=>by
  rw[List.any_cons];by_cases e:p.1=k
  .simp -iota only[qy e,Zp e,Bool.true_or,Option.isSome_some]
  .rw[qE e,Zo e,Bool.false_or];exact mM k r
def vp (kvs:List (κ × V))(k:κ)(v:V):(qh kvs k v).length<=kvs.length+1:=by
 unfold qh
 split
 .rw[Zql];omega
 .rw[ZG,Zu,ZB];omega
def kF.isSome_eq {o:YC}{u:Yg}(r:kF o u):o.isSome=u.isSome:=by
 cases o with
 |none=>cases u with
  |none=>rfl
  |some _=>exact(show False from r).elim
 |some _=>cases u with
  |none=>exact(show False from r).elim
  |some _=>rfl
theorem kF.getD {o:YC}{u:Yg}{d:V}{d':Value}(r:kF o u)(rd:y8 d d'):y8 (o.getD d) (u.getD d'):=by
 cases o with
 |none=>cases u with
  |none=>exact rd
  |some _=>exact(show False from r).elim
 |some _=>cases u with
  |none=>exact(show False from r).elim
  |some _=>exact r
def KV.val {kvs:List (κ × V)}{vs:List (κ × Value)}(r:KV kvs vs)(k:κ):kF (r9 kvs k) (valueAt vs k):=by
 unfold KV at r
 induction r with
 |nil=>exact True.intro
 | @cons p q ps qs h t ih =>
  obtain⟨h1,h2⟩:=h;by_cases e:p.1=k
  .have e':q.1=k:=h1.symm.trans e;have b:valueAt (q::qs) k=some q.2:=by simp -iota [valueAt,List.find?_cons,e']
   rw[qy e,b];exact h2
  .have e':¬q.1=k:=λz=>e (h1.trans z);have b:valueAt (q::qs) k=valueAt qs k:=by simp -iota [valueAt,List.find?_cons,e']
   rw[qE e,b];exact ih
theorem KV.any {kvs:List (κ × V)}{vs:List (κ × Value)}(r:KV kvs vs)(k:κ):(kvs.any λkv=>decide (kv.1=k))=vs.any λkv=>decide (kv.1=k):=by
 unfold KV at r
 induction r with
 |nil=>rfl
 |cons h t ih=>rw[List.any_cons,List.any_cons,ih,h.1]
def KV.repl {kvs:List (κ × V)}{vs:List (κ × Value)}(r:KV kvs vs)(k:κ){y:V}{u:Value}(ry:y8 y u):
 KV (kvs.map λkv=>if kv.1=k then(kv.1,y) else kv) (vs.map λkv=>if kv.1=k then(kv.1,u) else kv):=by
 unfold KV at r ⊢
 induction r with
 |nil=>exact .nil
 | @cons p q ps qs h t ih =>
  rw[Zl,Zl];refine .cons ?_ ih;obtain⟨h1,h2⟩:=h;by_cases e:p.1=k
  .rw[Zd e,Zd (h1.symm.trans e)];exact⟨h1,ry⟩
  .rw[Ze e,Ze (λz=>e (h1.trans z))];exact⟨h1,h2⟩
def KV.put {kvs:List (κ × V)}{vs:List (κ × Value)}(r:KV kvs vs)(k:κ){y:V}{u:Value}(ry:y8 y u):KV (qh kvs k y) (stored vs k u):=by
 unfold qh stored;rw[r.any k];by_cases e:(vs.any λkv=>decide (kv.1=k))=true
 .rw[Zd e,Zd e];exact r.repl k ry
 .rw[Ze e,Ze e];exact Paired.snoc r ⟨rfl,ry⟩
theorem KV.length {kvs:List (κ × V)}{vs:List (κ × Value)}(r:KV kvs vs):kvs.length=vs.length:=Paired.length r
end
def k8 {P:Program}{w:World}{k:Key}{u:Value}(r:y8 (kV k) u):(zZ P w).is k u=true:=by
 cases k with
 |inl i=>obtain⟨t,e⟩:=(show ∃t,u=Value.int i t from r);subst e;exact mixKind_int P w i t
 |inr x=>obtain⟨t,e⟩:=(show ∃t,u=Value.str x t from r);subst e;exact mixKind_str P w x t
theorem o3 {P:Program}{w:World}:∀{ks:List Key} {us:Yf},yt (ks.map kV) us->ItemsAre (zZ P w) ks us
 | [],_,r=>by rw[Xt] at r;cases r;exact .nil
 |k::ks,_,r=>by
  rw[Zl] at r;cases r with
  |cons h t=>exact .cons (k8 h) (o3 t)
abbrev KT (H:Hp):List (List Key×V)->List (List Key×Addr×Value)->Prop:=Paired λp q=>p.1=q.1/\H q.2.1=some (.tup (p.1.map kV))/\y8 p.2 q.2.2
def KT.val {H:Hp}{kvs:List (List Key×V)}{xs:List (List Key×Addr×Value)}(r:KT H kvs xs)(k:List Key):kF (r9 kvs k) ((atKey xs k).map (·.2)):=by
 induction r with
 |nil=>exact True.intro
 | @cons p q ps qs h t ih =>
  refine x8 h λh1 _ h2=>?_;by_cases e:p.1=k
  .have e':q.1=k:=h1.symm.trans e;have b:atKey (q::qs) k=some q.2:=by simp -iota [atKey,List.find?_cons,e']
   rw[qy e,b];exact h2
  .have e':¬q.1=k:=λz=>e (h1.trans z);have b:atKey (q::qs) k=atKey qs k:=by simp -iota [atKey,List.find?_cons,e']
   rw[qE e,b];exact ih
def KT.repl {H:Hp}{kvs:List (List Key×V)}{xs:List (List Key×Addr×Value)}(r:KT H kvs xs)(k:List Key){y:V}{u:Value}(ry:y8 y u):
 KT H (kvs.map λkv=>if kv.1=k then(kv.1,y) else kv) (xs.map (putAt k u)):=by
 induction r with
 |nil=>exact .nil
 | @cons p q ps qs h t ih =>
  rw[Zl,Zl];refine .cons ?_ ih;refine x8 h λh1 h2 h3=>?_;unfold putAt;by_cases e:p.1=k
  .rw[Zd e,Zd (h1.symm.trans e)];exact⟨h1,h2,ry⟩
  .rw[Ze e,Ze (λz=>e (h1.trans z))];exact⟨h1,h2,h3⟩
def KT.put {H:Hp}{kvs:List (List Key×V)}{xs:List (List Key×Addr×Value)}(r:KT H kvs xs)(k:List Key){b:Addr}{y:V}{u:Value}(hb:H b=some (.tup (k.map kV)))(ry:y8 y u):
 KT H (qh kvs k y) (storedH xs k b u):=by
 have e:(kvs.any λkv=>decide (kv.1=k))=(atKey xs k).isSome:=by
  rw[mM,(r.val k).isSome_eq,Option.isSome_map]
 unfold qh storedH;rw[e];by_cases q:(atKey xs k).isSome=true
 .rw[Zd q,Zd q];exact r.repl k ry
 .rw[Ze q,Ze q];exact Paired.snoc r ⟨rfl,hb,ry⟩
def KT.keeps {H H':Hp}{kvs:List (List Key×V)}{xs:List (List Key×Addr×Value)}(r:KT H kvs xs)(ht:∀b ys,H b=some (.tup ys)->H' b=some (.tup ys)):KT H' kvs xs:=
 Paired.mapP r λ_ _ z=>⟨z.1,ht _ _ z.2.1,z.2.2⟩
section
variable {P:Program}{w:World}{H:Hp}{h:Heap}{a:Addr}
def dS {u:HO}(ok:HOk P w H h)(e:Rd H a u):yE P w H h a u:=e.ok ok
def pU {kvs:List (Key×V)}(ok:HOk P w H h)(e:Rd H a (.dK kvs)):kvs.length<=sizeLine/\(a == sysModules)=false/\∃vs,KV kvs vs/\h.DictOf (zZ P w) a vs:=
 show yE P w H h a (.dK kvs) from dS ok e
def db {kvs:List (Key×V)}(ok:HOk P w H h)(e:H a=some (.dK kvs)):kvs.length<=sizeLine/\(a == sysModules)=false/\∃vs,KV kvs vs/\h.DictOf (zZ P w) a vs:=pU ok (.inl e)
def rV {ks:List Key}(ok:HOk P w H h)(e:H a=some (.tup (ks.map kV))):(tupleKind (zZ P w)).is h ks a:=by
 refine wx ((show yE P w H h a (.tup (ks.map kV)) from ok a _ e)) λ_ zz=>zc1b zz λits r zz=>zc1c zz λo h1 h2 zz=>zc1a zz λn h3=>?_;exact⟨o,its.toArray,n,h1,h2,h3,by simpa -iota using o3 r⟩
def nY {kvs:List (List Key×V)}(ok:HOk P w H h)(e:Rd H a (.dT kvs)):kvs.length<=sizeLine/\(a == sysModules)=false /\
 ∃xs,KT H kvs xs/\h.DictOfH (tupleKind (zZ P w)) a xs:=by
 refine x8 ((show yE P w H h a (.dT kvs) from dS ok e)) λz y zz=>zc1b zz λxs r zz=>zc3a zz λo es ep zz=>xf zz λh1 h2 h3 h4 h5=>?_;refine⟨z,y,xs,r,o,es,ep,h1,h2,h3,h4,λx hx=>?_,h5⟩;have all:∀{l:List (List Key×V)} {m:List (List Key×Addr×Value)},KT H l m->∀x∈m,(tupleKind (zZ P w)).is h x.1 x.2.1:=by
  intro l m q
  induction q with
  |nil=>intro x hx;exact nomatch hx
  | @cons p q ps qs hq t ih =>
   intro x hx;rcases ZF.mp hx with e|hx
   .subst e;exact rV ok (by rw[<- hq.1];exact hq.2.1)
   .exact ih x hx
 exact all r x hx
def dt_of {kvs:List (List Key×V)}(ok:HOk P w H h)(e:H a=some (.dT kvs)):kvs.length<=sizeLine/\(a == sysModules)=false /\
 ∃xs,KT H kvs xs/\h.DictOfH (tupleKind (zZ P w)) a xs:=nY ok (.inl e)
end
def nG (H:Hp)(a:Addr)(y:V)(r:YC):Prop:=
 (∃kvs k,Rd H a (.dK kvs)/\y=kV k/\r=r9 kvs k)\/∃kvs k b,Rd H a (.dT kvs)/\y=.ref b/\H b=some (.tup (k.map kV))/\r=r9 kvs k
def dD (H:Hp)(a:Addr)(y v:V)(H':Hp):Prop:=
 (∃kvs k,H a=some (.dK kvs)/\y=kV k/\kvs.length<sizeLine/\H'=upd H a (.dK (qh kvs k v))) \/
 ∃kvs k b,H a=some (.dT kvs)/\y=.ref b/\H b=some (.tup (k.map kV))/\kvs.length<sizeLine/\H'=upd H a (.dT (qh kvs k v))
theorem nG.k {H:Hp}{a:Addr}{kvs:List (Key×V)}{k:Key}(e:H a=some (.dK kvs)):nG H a (kV k) (r9 kvs k):=.inl ⟨kvs,k,.inl e,rfl,rfl⟩
theorem dD.k {H:Hp}{a:Addr}{kvs:List (Key×V)}{k:Key}{v:V}(e:H a=some (.dK kvs))(hl:kvs.length<sizeLine):dD H a (kV k) v (upd H a (.dK (qh kvs k v))):=.inl ⟨kvs,k,e,rfl,hl,rfl⟩
section
variable {X:Cx}{Y:Yb}{Z:St}{H:Hp}{s:Shared}{a:Addr}{y v:V}{u r:Value}{o:YC}{A:Around}{E:Ya}
def Inv.big (I:Inv X Y Z H s):sysModules<s.heap.objs.size:=by
 have h:mainGlobals<s.heap.objs.size:=(I.mod.glob.keeps I.bk).lt;exact Xj (by decide) h
def d_getItem {Q:Ya}(hu:A.units+1<cLine)(I:Inv X Y Z H s)(g:nG H a y (some v))(ry:y8 y u)(h:∀w' s',Inv X Y Z H s'->y8 v w'->Q w' s'):
 wpAny (model X.prog X.w) A (getItem (.ref a) u) Q E s:=by
 rcases g with ⟨kvs,k,e,ey,l⟩|⟨kvs,k,b,e,ey,eb,l⟩
 .subst ey;refine x8 (pU I.hok e) λz hd zz=>zc1b zz λvs rel dd=>?_;refine zc1b (kF.some_of (v:=v) (o:=valueAt vs k) (by rw[l];exact rel.val k)) λw' hw rw'=>?_;exact wpAny_getItem_of (k8 ry) dd.mapOf hw (h w' _ (I.tok _) rw')
 .subst ey;cases (show u=Value.ref b from ry);refine x8 (nY I.hok e) λz hd zz=>zc1b zz λxs rel dd=>?_;refine zc1b (kF.some_of (v:=v) (o:=(atKey xs k).map (·.2)) (by rw[l];exact rel.val k)) λw' hw rw'=>?_;refine zc1b (Xf.mp hw) λp hp hp2=>?_;refine wpAny_getItem_heap (tupleKind_room_in1 hu) (rV I.hok eb) dd hp ?_;rw[hp2];exact h w' _ (I.tok _) rw'
def d_in {Q:Ya}(hu:A.units+1<cLine)(I:Inv X Y Z H s)(g:nG H a y o)(ry:y8 y u)(h:∀s',Inv X Y Z H s'->Q (.bool o.isSome) s'):
 wpAny (model X.prog X.w) A (compareOp .In u (.ref a)) Q E s:=by
 rcases g with ⟨kvs,k,e,ey,l⟩|⟨kvs,k,b,e,ey,eb,l⟩
 .subst ey;refine x8 (pU I.hok e) λz hd zz=>zc1b zz λvs rel dd=>?_;refine wpAny_in_of (k8 ry) hd dd.mapOf ?_;rw[<- (rel.val k).isSome_eq,<- l];exact h _ (I.tok _)
 .subst ey;cases (show u=Value.ref b from ry);refine x8 (nY I.hok e) λz hd zz=>zc1b zz λxs rel dd=>?_;refine wpAny_in_heap (tupleKind_room_in1 hu) (rV I.hok eb) hd dd ?_;have q:=(rel.val k).isSome_eq;rw[Option.isSome_map] at q;rw[<- q,<- l];exact h _ (I.tok _)
def d_notIn {Q:Ya}(hu:A.units+1<cLine)(I:Inv X Y Z H s)(g:nG H a y o)(ry:y8 y u)(h:∀s',Inv X Y Z H s'->Q (.bool (!o.isSome)) s'):
 wpAny (model X.prog X.w) A (compareOp .NotIn u (.ref a)) Q E s:=by
 rcases g with ⟨kvs,k,e,ey,l⟩|⟨kvs,k,b,e,ey,eb,l⟩
 .subst ey;refine x8 (pU I.hok e) λz hd zz=>zc1b zz λvs rel dd=>?_;refine wpAny_notIn_of (k8 ry) hd dd.mapOf ?_;rw[<- (rel.val k).isSome_eq,<- l];exact h _ (I.tok _)
 .subst ey;cases (show u=Value.ref b from ry);refine x8 (nY I.hok e) λz hd zz=>zc1b zz λxs rel dd=>?_;refine wpAny_notIn_heap (tupleKind_room_in1 hu) (rV I.hok eb) hd dd ?_;have q:=(rel.val k).isSome_eq;rw[Option.isSome_map] at q;rw[<- q,<- l];exact h _ (I.tok _)
def jX {h':Heap}{t':Nat}{ob:HO}(I:Inv X Y Z H s)(mu:Mut (H a))(hs:Heap.SameBut a s.heap h')(he:∃q,h'.get? a=some q)(new:yE X.prog X.w (upd H a ob) h' a ob):
 Inv X Y Z (upd H a ob) { s with heap:=h',toks:=t' } :=
 I.write (x:=a) (e:=a) mu (.inl rfl) (λb q hb z=>(hs.2 b hb).trans z) he new
def fL {P:Program}{w:World}{H':Hp}{h':Heap}{kvs:List (Key×V)}{vs:List (Key×Value)}(z:kvs.length<=sizeLine)(hd:(a == sysModules)=false)(rel:KV kvs vs)(dd:h'.DictOf (zZ P w) a vs):
 yE P w H' h' a (.dK kvs):=⟨z,hd,vs,rel,dd⟩
def d_setItem {H':Hp}{Q:Unit->Yz}(hu:A.units+1<cLine)(I:Inv X Y Z H s)(g:dD H a y v H')(ry:y8 y u)(rv:y8 v r)(h:∀s',Inv X Y Z H' s'->Q Yt s'):
 wpAny (model X.prog X.w) A (setItem (.ref a) u r) Q E s:=by
 rcases g with ⟨kvs,k,e,ey,l,eH⟩|⟨kvs,k,b,e,ey,eb,l,eH⟩
 .subst ey eH;refine x8 (db I.hok e) λz hd zz=>zc1b zz λvs rel dd=>?_;have hz:vs.length<=sizeLine:=by rw[<- rel.length];exact z
  have hl:(qh kvs k v).length<=sizeLine:=by have:=vp kvs k v;omega
  refine wpAny_setItem_pairs (hsz:=hz) (k8 ry) dd λh' dd' hs=>h _ ?_;have he:∃q,h'.get? a=some q:=let ⟨q,_,_,hq,_⟩:=dd';⟨q,hq⟩
  exact jX I (by rw[e];exact True.intro) hs he (fL hl hd (rel.put k rv) dd')
 .subst ey eH;cases (show u=Value.ref b from ry);refine x8 (dt_of I.hok e) λz hd zz=>zc1b zz λxs rel dd=>?_;have hz:xs.length<=sizeLine:=by rw[<- Paired.length rel];exact z
  have hl:(qh kvs k v).length<=sizeLine:=by have:=vp kvs k v;omega
  refine wpAny_setItem_heap (hsz:=hz) (tupleKind_room_in1 hu) (rV I.hok eb) dd λh' dd' hs=>h _ ?_;refine zc3a dd' λq es ep zz=>xf zz λhq h2 h3 h4 zz=>wx zz λ_ h5=>?_;refine jX I (by rw[e];exact True.intro) hs ⟨q,hq⟩ ⟨hl,hd,_,(rel.put k eb rv).keeps λc ys ec=>?_,q,es,ep,hq,h2,h3,h4,h5⟩;rw[zD (ne_of ec e (λz=>nomatch z))];exact ec
end
section
variable {X:Cx}{Y:Yb}{Z:St}{H:Hp}{s:Shared}{a:Addr}{kvs:List (Key×V)}{k:Key}{u:Value}{A:Around}{E:Ya}
def d_len {Q:Ya}(I:Inv X Y Z H s)(e:Rd H a (.dK kvs))(h:∀t s',Inv X Y Z H s'->Q (.int kvs.length t) s'):wpAny (model X.prog X.w) A (call (.builtin "len") [.ref a]) Q E s:=by
 obtain⟨z,hd,vs,rel,dd⟩:=pU I.hok e;refine call_len_dict hd dd (by rw[<- rel.length];rw[sizeLine_eq] at z;omega) ?_;rw[<- rel.length];exact h _ _ (I.tok _)
end
noncomputable def cI (i:Expr):Prop:=∀ov iv,subscripted i false ov iv=operate [ov,iv] (getItem ov iv)
def subD_of {prog:Program}{w:World}{A:Around}{E:Ya}{s:Shared}{env:Env}{value slice:Expr}{pos:Pos}{T id:String}{Q:Ya}
 (hl:typeLookup (.type T) "__getitem__" = pure (some (.builtin id))) (hs:cI slice)
 (h:YG prog w A (eval value env) (λo s₁=>YG prog w A (eval slice env) (λi s₂=>s₂.TypeIs o T/\YG prog w A (getItem o i) Q E s₂) E s₁) E s):
 YG prog w A (eval (.Subscript value slice pos) env) Q E s:=by
 refine Subscript_ (Zc h (λo s₁ h₁=>Zc h₁ (λi s₂ h₂=>?_) λ_ _ x=>x) λ_ _ x=>x);obtain⟨hT,h₂⟩:=h₂;unfold subscriptTail;refine Za ?_;rw[getitemInPython_of_ne hT.not_modules];refine Za (wpAny_specialOf hT hl ?_);have fin:YG prog w A (subscripted slice false o i) (λr s₃=>YG prog w A (letTemporaryGo value o r >>= λ_=>pure r) Q E s₃) E s₂:=by
  rw[hs o i];exact wpAny_operating (Zc h₂ (λr s₃ h₃=>Za (wpAny_letTemporaryGo (Zb h₃))) λ_ _ x=>x)
 first
  |exact Zb (Za fin)
  |exact Za (Zb (Za fin))
  |exact Za fin
def dict_typeIs {X:Cx}{Y:Yb}{Z:St}{H:Hp}{s:Shared}{a:Addr}{y:V}{o:YC}(I:Inv X Y Z H s)(g:nG H a y o):s.TypeIs (.ref a) "dict" := by
 rcases g with ⟨kvs,k,e,_,_⟩|⟨kvs,k,b,e,_,_,_⟩
 .refine x8 (pU I.hok e) λ_ _ zz=>zc1b zz λvs _ dd=>?_;exact dd.typeIs
 .refine x8 (nY I.hok e) λ_ _ zz=>zc1b zz λxs _ dd=>?_;exact dd.typeIs
def tDGet (td ty:TE):TE:=λZ H Q=>td Z H λx H1=>ty Z H1 λy H2=>∃a v,x=.ref a/\nG H2 a y (some v)/\Q v H2
def tDIn (ty td:TE):TE:=λZ H Q=>ty Z H λy H1=>td Z H1 λx H2=>∃a o,x=.ref a/\nG H2 a y o/\Q (.bl o.isSome) H2
def tDNotIn (ty td:TE):TE:=λZ H Q=>ty Z H λy H1=>td Z H1 λx H2=>∃a o,x=.ref a/\nG H2 a y o/\Q (.bl (!o.isSome)) H2
def sDPut (td ty tv:TE):TS:=λD Z H=>tv Z H λv H1=>td Z H1 λx H2=>ty Z H2 λy H3=>∃a H4,x=.ref a/\dD H3 a y v H4/\D.nx Z H4
section
variable {X:Cx}{o i e value:Expr}{pos pos' tpos:Pos}{td ty tv:TE}
def iC (hu:X.A.units+1<cLine)(ho:PE X o td)(hi:PE X i ty)(hs:cI i):PE X (.Subscript o i pos) (tDGet td ty):=by
 intro Y s Z H Q I h;refine subD_of PySem.F.slot_dict_getitem.lookup hs (thn (ho Y s Z H _ I h) λu s1 ⟨x,H1,I1,rx,q1⟩=>thn (hi Y s1 Z H1 _ I1 q1) λiv s2 zh=>?_);refine zc2c zh λy H2 I2 ry zz=>zc2c zz λa v ex g q2=>?_;subst ex;obtain rfl:u=Value.ref a:=rx;exact⟨dict_typeIs I2 g,d_getItem hu I2 g ry λw' s3 I3 rw'=>⟨v,H2,I3,rw',q2⟩⟩
def gR (hu:X.A.units+1<cLine)(hi:PE X i ty)(ho:PE X o td):PC X .In i o (tDIn ty td):=by
 intro Y s Z H Q I h;refine thn (hi Y s Z H _ I h) λiv s1 ⟨y,H1,I1,ry,q1⟩=>thn (ho Y s1 Z H1 _ I1 q1) λu s2 zh=>?_;refine zc2c zh λx H2 I2 rx zz=>zc2c zz λa ov ex g q2=>?_;subst ex;obtain rfl:u=Value.ref a:=rx;exact d_in hu I2 g ry λs3 I3=>⟨.bl ov.isSome,H2,I3,rfl,q2⟩
def oO (hu:X.A.units+1<cLine)(hi:PE X i ty)(ho:PE X o td):PC X .NotIn i o (tDNotIn ty td):=by
 intro Y s Z H Q I h;refine thn (hi Y s Z H _ I h) λiv s1 ⟨y,H1,I1,ry,q1⟩=>thn (ho Y s1 Z H1 _ I1 q1) λu s2 zh=>?_;refine zc2c zh λx H2 I2 rx zz=>zc2c zz λa ov ex g q2=>?_;subst ex;obtain rfl:u=Value.ref a:=rx;exact d_notIn hu I2 g ry λs3 I3=>⟨.bl (!ov.isSome),H2,I3,rfl,q2⟩
def ps_dput (hu:X.A.units+1<cLine)(ho:PE X o td)(hi:PE X i ty)(hv:PE X value tv)(hs:swapsWith value (some (.Subscript o i pos')) pos.line X.env=pure false):
 PS X (.Assign [.Subscript o i pos'] value pos) (sDPut td ty tv):=by
 intro Y s Z H D I h;refine wpAny_Assign_Subscript (thn (hv Y s Z H _ I h) λr s1 ⟨v,H1,I1,rv,q1⟩=>thn (ho Y s1 Z H1 _ I1 q1) λu s2 ⟨x,H2,I2,rx,q2⟩=>thn (hi Y s2 Z H2 _ I2 q2) λiv s3 ⟨y,H3,I3,ry,a,H4,ex,g,q3⟩=>?_) hs;subst ex;obtain rfl:u=Value.ref a:=rx;exact d_setItem hu I3 g ry rv λs4 I4=>⟨Z,H4,I4,q3⟩
end
def su (kvs more:List (Key×V)):List (Key×V):=more.foldl (λacc kv=>qh acc kv.1 kv.2) kvs
def KV.merge:∀{more:List (Key×V)} {rs:List (Key×Value)} {kvs:List (Key×V)} {vs:List (Key×Value)},KV more rs->KV kvs vs->KV (su kvs more) (merged vs rs):=by
 intro more rs kvs vs r;unfold KV at r
 induction r generalizing kvs vs with
 |nil=>intro q;exact q
 | @cons p q ps qs h t ih =>
  intro r0;have e:KV (qh kvs p.1 p.2) (stored vs q.1 q.2):=by
   have:=r0.put p.1 h.2;rw[<- h.1];exact this
  exact ih e
theorem vI:∀(more kvs:List (Key×V)),(su kvs more).length<=kvs.length+more.length
 | [],kvs=>by show kvs.length<=kvs.length+0;omega
 |p::r,kvs=>by
  have h1:=vI r (qh kvs p.1 p.2);have h2:=vp kvs p.1 p.2;show(su (qh kvs p.1 p.2) r).length<=_;rw[Zu];omega
structure M2 (X:Cx)(o:Expr)(m:Str)(apos:Pos)(e f:Expr)(cpos:Pos):Prop where
 base:attributeBase o m X.env (eval o X.env)=eval o X.env
 few:((backTo cpos (starEach [e,f] X.env)).all (λx => !x.1)&&(backToKw cpos (keywordEach [] X.env)).all (λx=>x.1.isSome)
  && decide (([e,f]:Ym).length+([]:List Keyword).length+(if([]:List Keyword).isEmpty then 0 else 1)<30))=true
 line:(apos.endLine == cpos.line)=true
 trees:backTo cpos (starEach [e,f] X.env)=[(false,eval e X.env),(false,eval f X.env)]
noncomputable def IsD (H:Hp)(a:Addr):Prop:=(∃kvs,Rd H a (.dK kvs))\/∃kvs,Rd H a (.dT kvs)
def isD_at {X:Cx}{Y:Yb}{Z:St}{H:Hp}{s:Shared}{a:Addr}(I:Inv X Y Z H s)(d:IsD H a):
 s.TypeIs (.ref a) "dict" /\ (∀b,Value.ref a=.ref b->∃ob,s.heap.get? b=some ob/\ob.dict=none)/\(a == sysModules)=false:=by
 rcases d with ⟨kvs,e⟩|⟨kvs,e⟩
 .refine x8 (pU I.hok e) λ_ hd zz=>zc1b zz λvs _ dd=>?_;refine⟨dd.typeIs,λb q=>?_,hd⟩;cases q;refine zc3c dd λob _ _ h1 h2 _=>?_;exact⟨ob,h1,h2.2.1⟩
 .refine x8 (nY I.hok e) λ_ hd zz=>zc1b zz λxs _ dd=>?_;refine⟨dd.typeIs,λb q=>?_,hd⟩;cases q;refine zc3c dd λob _ _ h1 h2 _=>?_;exact⟨ob,h1,h2.2.1⟩
section
variable {X:Cx}{Y:Yb}{Z:St}{H:Hp}{s:Shared}{a:Addr}{y d:V}{u r:Value}{o:YC}{A:Around}{E:Ya}
def d_get2 {Q:Ya}(hu:A.units+1<cLine)(I:Inv X Y Z H s)(g:nG H a y o)(ry:y8 y u)(rd:y8 d r)(h:∀w' s',Inv X Y Z H s'->y8 (o.getD d) w'->Q w' s'):
 wpAny (model X.prog X.w) A (call (.builtin "dict.get") [.ref a,u,r]) Q E s:=by
 rcases g with ⟨kvs,k,e,ey,l⟩|⟨kvs,k,b,e,ey,eb,l⟩
 .subst ey;refine x8 (pU I.hok e) λz hd zz=>zc1b zz λvs rel dd=>?_;refine call_meetsIn PySem.F.slot_dict_get dd.typeIs PySem.F.entry_dict_get (PySem.F.args_dict_get_3 _ _ _) (meets_dict_get_default (zZ X.prog X.w) a (k8 ry) hd r) ⟨_,dd.mapOf,h _ _ (I.tok _) ?_⟩;rw[l];exact(rel.val k).getD rd
 .subst ey;cases (show u=Value.ref b from ry);refine x8 (nY I.hok e) λz hd zz=>zc1b zz λxs rel dd=>?_;refine call_meetsIn PySem.F.slot_dict_get dd.typeIs PySem.F.entry_dict_get (PySem.F.args_dict_get_3 _ _ _) (meetsH_dict_get_default (tupleKind (zZ X.prog X.w)) a b hd r) ⟨tupleKind_room_in1 hu,k,xs,rV I.hok eb,dd,h _ _ (I.tok _) ?_⟩;rw[l];exact(rel.val k).getD rd
end
def tDGet2 (td ty tx:TE):TE:=λZ H Q=>td Z H λx H1=>∃a,x=.ref a/\IsD H1 a/\ty Z H1 λy H2=>tx Z H2 λz H3=>∃o,nG H3 a y o/\Q (o.getD z) H3
section
variable {X:Cx}{o e f:Expr}{apos cpos:Pos}{td ty tx:TE}
def pe_dget2 (hu:X.A.units+1<cLine)(ho:PE X o td)(he:PE X e ty)(hf:PE X f tx)(m:M2 X o "get" apos e f cpos):PE X (.Call (.Attribute o "get" apos) [e,f] [] cpos) (tDGet2 td ty tx):=by
 intro Y s Z H Q I h;refine wpAny_Call_method m.base m.few m.line PySem.F.plainAttrs_dict PySem.F.slot_dict_get PySem.F.type_dict_get (thn (ho Y s Z H _ I h) λu s1 zh=>?_);refine zc2c zh λx H1 I1 rx zz=>zc1c zz λa ex d q1=>?_;subst ex;obtain rfl:u=Value.ref a:=rx;refine x8 (isD_at I1 d) λt1 t2 _=>?_;refine⟨t1,t2,?_⟩;rw[m.trees];refine Calls.callWith_builtin rfl (Calls.evalArgs_plain (Calls.spliced_cons (thn (he Y s1 Z H1 _ I1 q1) λiv s2 ⟨y,H2,I2,ry,q2⟩ =>
  Calls.spliced_cons (thn (hf Y s2 Z H2 _ I2 q2) λfv s3 ⟨z,H3,I3,rz,ov,g,q3⟩=>Calls.spliced_nil ?_))))
 exact d_get2 hu I3 g ry rz λw' s4 I4 rw'=>⟨_,H3,I4,rw',q3⟩
end
end L2
namespace Att
open PySem PySem.W PySem.Calls PyProof.Rows
def ints_of_wellAll {P:Params}{h:Heap}:∀(ns:Yh) (vs:Yf),WellAll P h vs (ns.map WData.int)->IntsAre vs ns:=by
 intro ns
 induction ns with
 |nil =>
  intro vs w;rw[Xt] at w;cases w;exact .nil
 |cons n ns ih =>
  intro vs w;rw[Zl] at w;cases w with
  |cons a b =>
   cases a;exact .cons _ _ (ih _ b)
def script_of {l:OpenLaw}{n:Nat}(hn:l.most=some n){P:Params}{h:Heap}{args:List WData}{vals:Yf}
 (hpre:l.row.toRowW.claim.pre args=true) (hwl:WellAll P h vals args):
 ∃a vs ns,vals=[Value.ref a]/\args=[WData.list (ns.map WData.int)]/\h.get? a=some { cls:=.type "list",data:=.seq vs.toArray }/\IntsAre vs ns/\ns.length<=n:=by
 have hsh:WShape.hasAll [] args [.list .int]=true:=(pre_splitW hpre).1;have hc:l.pre.holds [] { args:=args }=true:=(pre_splitW hpre).2;refine zc2c (hasAllW_cons hsh) λd r zr2 h1 h2=>?_;subst zr2;obtain rfl:=hasAllW_nil h2;refine zc1b (hasW_list h1) λxs zr1 h3=>?_;subst zr1;obtain⟨ns,rfl⟩:=items_int h3;have hlen:ns.length<=n:=by
  unfold OpenLaw.pre at hc;have h4:(WTm.not (.lt (.lit (.int (n:Int))) (.len (.arg 0)))).holds [] { args:=[.list (ns.map .int)] }=true:=by
   have h4:=(holds_andW hc).1;rw[hn] at h4;exact h4
  have h5:=condW_of h4 (w_not (w_lt w_lit (w_len_list (w_arg rfl))));rw[Zql] at h5;refine Nat.le_of_not_lt λq=>?_;have q':(n:Int)<((ns.length:Nat):Int):=()
  first
   | (rw[Zp q'] at h5;exact Zn h5 (by decide))
   | (simp -iota at h5;omega)
 cases hwl with
 |cons w1 w2 =>
  cases w2;cases w1 with
  |list ho hall=>exact⟨_,_,ns,rfl,rfl,ho,ints_of_wellAll ns _ hall,hlen⟩
def post_true (l:OpenLaw)(args:List WData):l.row.toRowW.claim.post args (.bool true) args=true:=
 postW_of (r:=l.row.toRowW) (X:=(true == true))
  (show WShape.has [] (.bool true) .bool=true by first|rfl|decide|simp -iota [WShape.has,WShape.arms,WShape.armsAll])
  (show(WTm.eq .res (.lit (.bool true))).value [] { args:=args,res:=some (.bool true),after:=args }=some (.bool (true == true)) from w_eq_bool (w_res rfl) w_lit) rfl
def attach_call {l:OpenLaw}{n:Nat}{q:Program}{loose:Yk}{XP:(Ye)->Heap->Prop}{YP:World->Heap->Prop}{d:DefRec}
 (hn:l.most=some n) (hdf:d.params.defaults=[])
 (call:∀(w:World) (s₀ s₁:Shared) (mg mb:Ye) (fa:Addr) (o:Obj) (pm cd doc:Value) (a:Addr) (vs:Yf) (ns:Yh),
  Ground q loose [] XP w s₀ mg mb s₁.heap->YP w s₁.heap ->
  s₁.heap.get? fa=some o->o.data=.func (docDef d.name d.params d.body d.scope pm cd doc)->s₁.heap.CodeRec cd d.name->mg d.name=some (.ref fa) ->
  s₁.heap.get? a=some { cls:=.type "list",data:=.seq vs.toArray }->IntsAre vs ns->ns.length<=n->s₁.gens = #[] ->
  codeAny (model l.prog w) callerA (.call (.ref fa) ⟨[.ref a],[]⟩) (λr s'=>r=.ok (.ret (.bool true))/\OldK s₁.heap s'.heap/\s'.os=s₁.os/\AllBare s'.gens) s₁):
 WalkO q loose XP YP l.row.toRowW d [] (λf vs=>PySem.call f vs):=by
 intro w s₀ s₁ mg mb G Yy fa o pm cd doc dV kV ho hd hcd hD hmg hg args vals as hpre hlay hrd hwl hlo;obtain rfl:dV=.none:=Dflts.none hD hdf;obtain rfl:kV=.none:=Dflts.noKw hD;refine zc3a (script_of hn hpre hwl) λa vs ns zz=>xf zz λzr3 zr4 hobj hints hlen=>?_;subst zr3;subst zr4;refine enter_call (codeAny_mono (call w s₀ s₁ mg mb fa o pm cd doc a vs ns G Yy ho (fd_plain hd) hcd hmg hobj hints hlen hg) λr s' hq=>?_);refine ng hq λzr0 h2 h3 h4=>?_;subst zr0;exact⟨.inl ⟨.bool true,.bool true,[],rfl,λ_=>rfl,.bool true,post_true l _,λ_=>⟨List.Pairwise.nil,λ_ hm=>(nomatch hm)⟩⟩,h2,h3,h4⟩
end Att
namespace L2
def vals_ints:∀{vs:Yf} {ns:Yh},IntsAre vs ns->yt (ns.map V.int) vs:=λh=>by
 induction h with
 |nil=>exact .nil
 |cons n t _ ih=>exact .cons ⟨t,rfl⟩ ih
noncomputable def cP (H:Hp):Prop:=∀b,H b=none\/∃o xs,H b=some (.frz o (.lst xs))
def law_call {P:Program}{w:World}{K:W.Frag}{mg mb:Ye}{CX:CXT}{k:Nat}{fa a:Addr}{fd:FuncData}{x:Str}{sp:Sp}{s₁:Shared}{vs:Yf}{ns:Yh}
 (KX:K.In s₁.heap) (hns:s₁.heap.Ns mainGlobals mg) (hb:s₁.heap.Ns builtinsNs mb) (hbb:∀x:Str,x ≠ "__name__" -> mb x=bootBuiltins x) (hlim:s₁.heap.NoLimit) (hg:s₁.gens = #[])
 (ha:s₁.heap.get? a=some { cls:=.type "list",data:=.seq vs.toArray }) (hi:IntsAre vs ns) (hl:ns.length<=sizeLine) (hr:Room k callerA)
 (F:∀base:Heap,K.In base->base.Ns mainGlobals mg->FnOk P w K mg base CX k fa fd [x] sp) (hbind:∀(s:Shared) (u:Value),BindsTo s fd ⟨[u],[]⟩ [(x,u)])
 (hsp:∀H:Hp,cP H->SqL K H a (ns.map V.int)->sp [.ref a] H (λv _=>v=.bl true) λ_ _ _=>False)
 (hCX:∀H e s',CX [] H s₁ (λ_ _ _=>False) e s'->False):
 codeAny (model P w) callerA (.call (.ref fa) ⟨[.ref a],[]⟩) (λr s'=>r=.ok (.ret (.bool true))/\OldK s₁.heap s'.heap/\s'.os=s₁.os/\AllBare s'.gens) s₁:=by
 have rv:=vals_ints hi;have lenV:=hi.length;have core:∀H:Hp,cP H->SqL K H a (ns.map V.int)->HOk P w H s₁.heap->(∀b,H b≠none->b=a)->(H a≠none->K.lookup a=none) ->
  codeAny (model P w) callerA (.call (.ref fa) ⟨[.ref a],[]⟩) (λr s'=>r=.ok (.ret (.bool true))/\OldK s₁.heap s'.heap/\s'.os=s₁.os/\AllBare s'.gens) s₁:=by
  intro H hO hS hok hA hK;have base_of:∀{b:Addr} {o:Obj},s₁.heap.get? b=some o->H b=none->(g0 s₁.heap H).get? b=some o:=λe n=>hidT_get e n;have noA:∀{b:Addr} {o:Obj} {es:Array DictEntry} {ep:Nat},s₁.heap.get? b=some o->o.data=.dict es ep->H b=none:=λ{b o es ep} e d=>by
   cases q:H b with
   |none=>rfl
   |some u =>
    have e':b=a:=hA b (by rw[q];simp -iota);subst e';rw[ha] at e;cases e;have d':Data.seq vs.toArray _=Data.dict es ep:=d;cases d'
  have nsK:∀{b:Addr} {m:Ye},s₁.heap.Ns b m->(g0 s₁.heap H).Ns b m:=λ{b m} ⟨o,es,ep,e,d,r⟩=>⟨o,es,ep,base_of e (noA e d),d,r⟩;have hKb:K.In (g0 s₁.heap H):=λb o e=>base_of (KX b o e) (by
   cases q:H b with
   |none=>rfl
   |some u =>
    have e':b=a:=hA b (by rw[q];simp -iota);subst e';rw[hK (by rw[q];simp -iota)] at e;cases e)
  have hM:Mod K mg (g0 s₁.heap H):=⟨hKb,nsK hns,⟨mb,nsK hb,hbb⟩,let ⟨mc,h1,h2⟩:=hlim;⟨mc,nsK h1,h2⟩⟩;have e0:Env0 P w K mg (g0 s₁.heap H) callerA [] s₁ H:=⟨rfl,hM,λb o e=>of_hidT e,XB (hidT_size _ _),trivial,λb hb=>Zn (show b∈([]:Yl) from hb) (by simp -iota),hok,.of_eq hg⟩;refine codeAny_mono ((F _ hKb (nsK hns)).run callerA [] s₁ H ⟨[.ref a],[]⟩ [.ref a] [.ref a] _ _ hr e0 (hbind s₁ (.ref a)) (.cons rfl .nil) (hsp H hO hS)) λr s' h=>?_;cases r with
  |error e=>exact(hCX H e s' h).elim
  |ok fl =>
   cases fl with
   |next=>exact False.elim h
   |brk=>exact False.elim h
   |cont=>exact False.elim h
   |ret u =>
    refine zc2a h λv H' zz=>xf zz λos bare un hok' zz=>wx zz λr' q=>?_;have q':v=.bl true:=q;subst q';obtain rfl:u=Value.bool true:=r';refine⟨rfl,OldK.of_keep λb o e=>?_,os,bare⟩;cases q:H b with
    |none=>exact un.keep b o e q (by intro z;exact Zn (show b∈([]:Yl) from z) (by simp -iota)) (by simp -iota)
    |some u =>
     rcases hO b with z|⟨ob,xs,z⟩
     .rw[q] at z;cases z
     .have z2:=un.frzs b ob _ z;obtain⟨e1,_⟩:=hok b _ z;obtain⟨e2,_⟩:=hok' b _ z2;rw[e] at e1;cases e1;exact e2
 cases hk:K.lookup a with
 |some o =>
  have e:=KX a o hk;rw[ha] at e;cases e;refine core (λ_=>none) (λ_=>.inl rfl) (.inr ⟨_,vs.toArray,_,hk,rfl,rfl,rfl,by rw[Zm,lenV];exact hl,by simpa -iota using rv⟩) (λb u z=>by have z':(none:Option HO)=some u:=z;cases z') (λb z=>Zn rfl z) λz=>Zn rfl z
 |none =>
  refine core (λb=>if b=a then some (.frz { cls:=.type "list",data:=.seq vs.toArray } (.lst (ns.map V.int))) else none) (λb=>?_) (.inl (.inr ⟨{ cls:=.type "list",data:=.seq vs.toArray },Zd rfl⟩)) (λb u z=>?_) (λb z=>?_) λ_=>hk
  .by_cases hb:b=a
   .exact .inr ⟨_,_,Zd hb⟩
   .exact .inl (Ze hb)
  .by_cases hb:b=a
   .have z':=(Zd hb).symm.trans z;cases z';subst hb;exact⟨ha,by rw[Zql];exact hl,vs,_,rv,ha⟩
   .have z':=(Ze hb).symm.trans z;cases z'
  .by_cases hb:b=a
   .exact hb
   .exact Zn (Ze hb) z
def walk_of {l:W.OpenLaw}{n k:Nat}{q:Program}{loose:Yk}{XP:(Ye)->Heap->Prop}{YP:World->Heap->Prop}{d:DefRec}{K:Params->W.Frag}{CX:World->CXT}{sp:World->Sp}{x:Str}
 (hn:l.most=some n) (hn2:n<=sizeLine) (hdf:d.params.defaults=[]) (hr:Room k callerA)
 (hY:∀(w:World) (h:Heap),YP w h->(K w.params).In h)
 (F:∀(w:World) (mg:Ye) (fa:Addr) (h:Heap),(K w.params).In h->h.Ns mainGlobals mg->mg d.name=some (.ref fa) ->
  ∃fd:FuncData,(∀(s:Shared) (u:Value),BindsTo s fd ⟨[u],[]⟩ [(x,u)]) /\
   ∀base:Heap,(K w.params).In base->base.Ns mainGlobals mg->FnOk l.prog w (K w.params) mg base (CX w) k fa fd [x] (sp w))
 (hsp:∀(w:World) (H:Hp) (a:Addr) (ns:Yh),ns.length<=n->cP H->SqL (K w.params) H a (ns.map V.int)->sp w [.ref a] H (λv _=>v=.bl true) λ_ _ _=>False)
 (hCX:∀(w:World) (H:Hp) (s:Shared) (e:Value) (s':Shared),CX w [] H s (λ_ _ _=>False) e s'->False):
 W.WalkO q loose XP YP l.row.toRowW d [] (λf vs=>PySem.call f vs):=by
 refine Att.attach_call hn hdf λw s₀ s₁ mg mb fa o pm cd doc a vs ns G Yy ho hd hcd hmg hobj hints hlen hg=>?_;have KX:=hY w _ Yy;refine zc1b (F w mg fa _ KX G.T.g hmg) λfd hb hF=>?_;exact law_call KX G.T.g G.T.b G.T.builtins G.T.nolimit hg hobj hints (Zh hlen hn2) hr hF hb (λH hO hS=>hsp w H a ns hlen hO hS) λH e s'=>hCX w H s₁ e s'
noncomputable def ur (s:Stmt):Arguments:=match s with
 | .FunctionDef _ a _ _ _ _ _ _ _ _=>a
 |_=>{ posonlyargs:=[],args:=[],vararg:=none,kwonlyargs:=[],kw_defaults:=[],kwarg:=none,defaults:=[] }
noncomputable def xb (s:Stmt):List Stmt:=match s with
 | .FunctionDef _ _ b _ _ _ _ _ _ _=>b
 |_=>[]
noncomputable def zi (s:Stmt):Scope:=match s with
 | .FunctionDef _ _ _ _ _ _ sc _ _ _=>sc
 |_=>{ kind:=.function,names:=[],isGenerator:=false,isCoroutine:=false }
abbrev CX0:CXT:=λ_ _ _ _ _ _=>False
abbrev E0:XK:=λ_ _ _=>False
def pass0 {X:Cx}:m9 CX0 X E0:=λ_ _ _ _ _ _ _ h=>h.elim
structure Fun (K:W.Frag)(x qual:Str)(st:Stmt)(f:Addr)(fd:FuncData):Prop where
 ex:∃(oc:Value) (od:Option Addr) (kV doc pm:Value) (an:Option Addr) (cdv ct:Value) (osl:Array Yg),
  fd=W.fnOf x qual (ur st) (xb st) (zi st) .none kV doc pm an cdv ct/\K.lookup f=some ⟨oc,od,.func fd,osl⟩/\W.codeIn K cdv qual=true
 kp:W.keepIn K (.ref f)=true
section
variable {P:Program}{w:World}{K:W.Frag}{mg:Ye}{base:Heap}
def Fun.ok {x qual:Str}{st:Stmt}{f:Addr}{fd:FuncData}{N ps:Yk}{k:Nat}{sp:Sp}(F:Fun K x qual st f fd)(S:FnScope N ps (zi st))(len:∀vs H Q E,sp vs H Q E->vs.length=ps.length)
 (hbody:∀(cdv:Value) (A:Around) (outer:List Env) (s:Shared) (H:Hp) (vs:YB) (Q:VK) (E:XK),Room k (A.deeper (envOfC qual (zi st) s.heap.objs.size f cdv))->sp vs H Q E ->
  ∃t,PSs (rl CX0 P w K mg base N qual (zi st) f cdv A outer s H E).nox (xb st) t/\t { nx:=λ_ H'=>Q .non H',rt:=Q } (start N vs) H):FnOk P w K mg base CX0 (k+1) f fd ps sp:=by
 refine zc4a F.ex λoc od kV doc zz=>zc4a zz λpm an cdv ct zz=>zc1c zz λosl zr9 lk hcd=>?_;subst zr9;refine dX lk hcd S len λA outer s H vs Q E hr hsp=>?_;refine zc1b (hbody cdv A outer s H vs Q E hr hsp) λt h q=>?_;exact⟨t,h.nox,q⟩
def Fun.binds {x qual:Str}{st:Stmt}{f:Addr}{fd:FuncData}{ps:Yk}(F:Fun K x qual st f fd)
 (h:∀(kV doc pm:Value) (an:Option Addr) (cdv ct:Value) (us:Yf),us.length=ps.length->bindArgs (W.fnOf x qual (ur st) (xb st) (zi st) .none kV doc pm an cdv ct) ⟨us,[]⟩=pure (ps.zip us)):pX K fd ps []:=by
 refine zc4a F.ex λoc od kV doc zz=>zc4a zz λpm an cdv ct zz=>zc1c zz λosl zr9 lk hcd=>?_;subst zr9;exact .all (h kV doc pm an cdv ct)
def fun_mk {x qual:Str}{st:Stmt}{f:Addr}{oc:Value}{od an:Option Addr}{osl:Array Yg}{kV doc pm cdv ct:Value}(l:K.lookup f=some ⟨oc,od,.func (W.fnOf x qual (ur st) (xb st) (zi st) .none kV doc pm an cdv ct),osl⟩)
 (c:W.codeIn K cdv qual=true) (k:W.keepIn K (.ref f)=true):Fun K x qual st f (W.fnOf x qual (ur st) (xb st) (zi st) .none kV doc pm an cdv ct):=⟨⟨oc,od,kV,doc,pm,an,cdv,ct,osl,rfl,l,c⟩,k⟩
end
def yB {A:Around}{k:Nat}(hr:Room k A):A.units+1<cLine:=Xr (Nat.add_le_add_left (by decide:1<=64) _) hr.units
def oR {n:Nat}(h:n<=1000):n<sizeLine:=Xr h (by decide)
section
variable {X:Cx}
def pv (i:Nat){x:Str}{pos:Pos}(hN:autoParam (X.N[i]? = some x) zau._auto_1)(hv:Vis X.env.scope x:=by first|exact Or.inl rfl|exact Or.inr (Or.inl rfl)|exact Or.inr (Or.inr rfl))(hd:(x == ("__debug__" : Str))=false:=by decide)
 (hcd:autoParam ((x == ("__classdict__" : Str))=false) zav._auto_1):PE X (.Name x pos) (hW i):=pe_var hN hv hd hcd
end
noncomputable def yC (H H':Hp):Prop:=∀b o,H b=some o->H' b=some o
def yC.refl (H:Hp):yC H H:=λ_ _ h=>h
def yC.trans {H H1 H2:Hp}(a:yC H H1)(b:yC H1 H2):yC H H2:=λc o h=>b c o (a c o h)
def yC.free {H H':Hp}(e:yC H H'){l:Addr}(h:H' l=Option.none):H l=Option.none:=by
 cases q:H l with
 |none=>rfl
 |some o =>
  rw[e l o q] at h;cases h
def yC.seq {K:W.Frag}{H H':Hp}{a:Addr}{xs:YB}(e:yC H H')(h:SqL K H a xs):SqL K H' a xs:=by
 rcases h with (h|⟨o,h⟩)|h
 .exact .inl (.inl (e _ _ h))
 .exact .inl (.inr ⟨o,e _ _ h⟩)
 .exact .inr h
section
variable {X:Cx}
def call_lenD:zB X (.builtin "len") (λxs H Q=>∃a kvs,xs=[V.ref a]/\H a=some (.dK kvs)/\Q (.int kvs.length) H):=by
 intro Y s Z H xs us Q I r h;refine zc2c h λa kvs zr2 ha q=>?_;subst zr2;refine zc1b (wp r) λu zr1 ru=>?_;subst zr1;cases ru;exact d_len I (.inl ha) λt s' I'=>⟨.int kvs.length,H,I',⟨t,rfl⟩,q⟩
end
end L2
def zqn {P:Prop}{α:Type}{z:α}(h:none=some z):P:=by cases  h
def zqb {P:Prop}(h:false=true):P:=by cases  h
namespace L2
theorem tH (env:Env):∀(names:List (Str×NameKind)) (acc:List (Str×Addr)),(∀y∈names,y.2=.free->∃c,env.cells.lookup y.1=some c) ->
 ∃cl,(forIn names acc λ(x:Str×NameKind) (r:List (Str×Addr))=>(match x with
  | (name,kind)=>if(kind == NameKind.free)=true then do let a <- cellOf env name;pure (ForInStep.yield ((name,a)::r)) else pure (ForInStep.yield r):Sem (ForInStep (List (Str×Addr)))))=(pure cl:Sem (List (Str×Addr))) /\
  (∀x c,cl.lookup x=some c->env.cells.lookup x=some c\/acc.lookup x=some c)/\(∀x c,acc.lookup x=some c->∃c',cl.lookup x=some c')/\∀y∈names,y.2=.free->∃c,cl.lookup y.1=some c
 | [],acc,_=>⟨acc,rfl,λ_ _ h=>.inr h,λx c h=>⟨c,h⟩,λ_ h=>nomatch h⟩
 | (n,k)::r,acc,h=>by
  rw[List.forIn_cons];cases hk:(k == NameKind.free) with
  |true =>
   have hk':k=.free:=by cases k<;>first|rfl|(exact Zn hk (by decide))
   obtain⟨c,hc⟩:=h (n,k) Zqs hk';refine zc1d (tH env r ((n,c)::acc) λy hy=>h y (Zqm _ hy)) λcl e h1 h2 h3=>?_;refine⟨cl,?_,λx c' hx=>?_,λx c' hx=>?_,λy hy hf=>?_⟩
   .simp only[hk,if_true,cellOf,hc];exact e
   .rcases h1 x c' hx with q|q
    .exact .inl q
    .rw[List.lookup_cons] at q;cases hb:x == n with
     |true =>
      rw[hb] at q;cases q;have:x=n:=by simpa using hb
      subst this;exact .inl hc
     |false=>rw[hb] at q;exact .inr q
   .cases hb:x == n with
    |true=>exact h2 x c (by rw[List.lookup_cons,hb])
    |false=>exact h2 x c' (by rw[List.lookup_cons,hb];exact hx)
   .rcases ZF.mp hy with rfl|hy
    .exact h2 n c (by rw[List.lookup_cons,beq_self_eq_true])
    .exact h3 y hy hf
  |false =>
   refine zc1d (tH env r acc λy hy=>h y (Zqm _ hy)) λcl e h1 h2 h3=>?_;refine⟨cl,?_,h1,h2,λy hy hf=>?_⟩
   .simp only[hk,ZO,if_false];exact e
   .rcases ZF.mp hy with rfl|hy
    .rw[show k=.free from hf] at hk;exact Zn hk (by decide)
    .exact h3 y hy hf
def clos_of (env:Env)(scope:Scope)(h:∀y∈scope.names,y.2=.free->∃c,env.cells.lookup y.1=some c):
 ∃cl,closureFor scope env=pure cl/\(∀x c,cl.lookup x=some c->env.cells.lookup x=some c)/\∀y∈scope.names,y.2=.free->∃c,cl.lookup y.1=some c:=by
 refine zc1d (tH env scope.names [] h) λcl e h1 _ h3=>?_;refine⟨cl,?_,λx c hx=>(h1 x c hx).elim id (λq=>by simp at q),h3⟩;simp only[closureFor]
 first
 | (rw[e];rfl)
 |exact(Zt (· >>= λcs=>pure cs) e)
theorem x3 {env:Env}{x:Str}:∀{names:List (Str×NameKind)},
 (names.lookup x=some .free->(names.map λ(n,k)=>if(k == NameKind.free&&env.scope.kind == .function&&env.kindOf n == some .cell) then(n,NameKind.cell) else(n,k)).lookup x=some .cell\/(names.map λ(n,k)=>if(k == NameKind.free&&env.scope.kind == .function&&env.kindOf n == some .cell) then(n,NameKind.cell) else(n,k)).lookup x=some .free) /\
 (∀k',(names.map λ(n,k)=>if(k == NameKind.free&&env.scope.kind == .function&&env.kindOf n == some .cell) then(n,NameKind.cell) else(n,k)).lookup x=some k'->(k'=.cell\/k'=.free)->names.lookup x=some .free\/names.lookup x=some .cell)
 | []=>⟨λh=>by simp at h,λ_ h=>by simp at h⟩
 | (n,k)::r=>by
  obtain⟨ih1,ih2⟩:=@x3 env x r;simp only[Zl];cases hx:x == n with
  |true =>
   refine⟨λh=>?_,λk' h hk'=>?_⟩
   .simp only[List.lookup_cons,hx] at h;obtain rfl:=Zqi h;by_cases hc:(NameKind.free == NameKind.free&&env.scope.kind == .function&&env.kindOf n == some .cell)=true
    .rw[Zd hc];simp[List.lookup_cons,hx]
    .rw[Ze hc];simp[List.lookup_cons,hx]
   .rw[List.lookup_cons,hx];by_cases hq:(k == NameKind.free&&env.scope.kind == .function&&env.kindOf n == some .cell)=true
    .have:k=.free:=by
      cases k<;>first|rfl|(simp at hq)
     rw[this];exact .inl rfl
    .rw[Ze hq] at h;simp only[List.lookup_cons,hx] at h;have h:k=k':=by simpa using h
     subst h;rcases hk' with z|z
     .rw[z];exact .inr rfl
     .rw[z];exact .inl rfl
  |false =>
   refine⟨λh=>?_,λk' h hk'=>?_⟩
   .simp only[List.lookup_cons,hx] at h
    split<;>simp only[List.lookup_cons,hx]<;>exact ih1 h
   .rw[List.lookup_cons,hx];refine ih2 k' ?_ hk'
    split at h<;>simp only[List.lookup_cons,hx] at h<;>exact h
theorem yO:∀(names:List (Str×NameKind)) (n:Nat) (acc:List (Str×Addr)),cellsFrom n names acc=cellsFrom n names []++acc
 | [],_,_=>rfl
 | (name,kind)::r,n,acc=>by
  unfold cellsFrom
  split
  .rw[yO r (n+1) ((name,n)::acc),yO r (n+1) [(name,n)],ZJ];rfl
  .exact yO r n acc
theorem xU:∀(names:List (Str×NameKind)) (n:Nat) (acc:List (Str×Addr)),(x,c)∈cellsFrom n names acc->(x,c)∈acc\/(x,NameKind.cell)∈names
 | [],_,_,h=>.inl h
 | (name,kind)::r,n,acc,h=>by
  unfold cellsFrom at h
  split at h
  .rename_i hk;rcases xU r (n+1) ((name,n)::acc) h with z|z
   .rcases ZF.mp z with z|z
    .cases z;have:kind=.cell:=by cases kind<;>first|rfl|(exact Zn hk (by decide))
     subst this;exact .inr Zqs
    .exact .inl z
   .exact .inr (Zqm _ z)
  .rcases xU r n acc h with z|z
   .exact .inl z
   .exact .inr (Zqm _ z)
noncomputable def js:Option NameKind->Bool
 |some .cell=>true
 |_=>false
def isCellK_inv (h:js o=true):o=some .cell:=by
 cases o with
 |none=>exact zqb h
 |some k=>cases k<;>first|rfl|exact zqb h
structure CellsAt (scope:Scope)(env:Env)(cl:List (Str×Addr))(C:Addr)(h1:Heap):Prop where
 from_:∀x c,cl.lookup x=some c->(env.cells.lookup x=some c/\scope.names.lookup x≠some .cell)\/(C<c/\h1.IsCell c none)
 free:∀x,scope.names.lookup x=some .free->∃c,cl.lookup x=some c/\env.cells.lookup x=some c
 own:∀x,scope.names.lookup x=some .cell->∃c,cl.lookup x=some c
 inj:∀x y c,cl.lookup x=some c->cl.lookup y=some c->x=y
def cellsAt_of (he:∀x c,cl.lookup x=some c->env.cells.lookup x=some c)(hf:∀y∈scope.names,y.2=.free->∃c,cl.lookup y.1=some c)
 (inj:∀x y c,env.cells.lookup x=some c->env.cells.lookup y=some c->x=y) (low:∀x c,env.cells.lookup x=some c->c<=C) (hC:h0.objs.size=C+1) (hc:∀y∈scope.names,y.2=.cell->scope.names.lookup y.1=some .cell):
 CellsAt scope env (cellsFrom (C+1) scope.names cl) C (pushCells h0 scope.names):=by
 have ok:=cellsFrom_ok scope.names h0 (C+1) [] ⟨λ_ _ hm=>(nomatch hm),List.Pairwise.nil⟩ (XB hC.symm);rw[hC] at ok;have look:∀x c,(cellsFrom (C+1) scope.names cl).lookup x=some c->((x,c)∈cellsFrom (C+1) scope.names [])\/(cl.lookup x=some c/\scope.names.lookup x≠some .cell):=λx c e=>by
  rw[yO,List.lookup_append] at e;cases q:(cellsFrom (C+1) scope.names []).lookup x with
  |some d =>
   rw[q] at e;have e:some d=some c:=e;obtain rfl:=Zqi e;exact .inl (PySem.mem_of_lookup q)
  |none =>
   rw[q] at e;refine .inr ⟨e,λz=>?_⟩;have:=W.cellsFrom_some scope.names (C+1) [] (.inl z);rw[q] at this;exact zqb this
 refine⟨λx c e=>?_,λx e=>?_,λx e=>?_,λx y c e1 e2=>?_⟩
 .rcases look x c e with z|⟨z1,z2⟩
  .exact .inr ⟨(ok.empty x c z).2,(ok.empty x c z).1⟩
  .exact .inl ⟨he x c z1,z2⟩
 .obtain⟨c,hc'⟩:=hf (x,.free) (PySem.mem_of_lookup e) rfl;refine⟨c,?_,he x c hc'⟩;rw[yO,List.lookup_append];cases q:(cellsFrom (C+1) scope.names []).lookup x with
  |some d =>
   rcases xU _ _ _ (PySem.mem_of_lookup q) with z|z
   .cases z
   .have:=hc (x,.cell) z rfl;rw[e] at this;cases this
  |none=>exact hc'
 .exact Option.isSome_iff_exists.mp (W.cellsFrom_some scope.names (C+1) cl (.inl e))
 .rcases look x c e1 with z|⟨z1,_⟩<;>rcases look y c e2 with w|⟨w1,_⟩
  .exact PySem.name_of_addr ok.apart z w
  .exact Zn (low y c (he y c w1)) (Nat.not_le_of_lt (ok.empty x c z).2)
  .exact Zn (low x c (he x c z1)) (Nat.not_le_of_lt (ok.empty y c w).2)
  .exact inj x y c (he x c z1) (he y c w1)
def wpAny_newCompEnv
 (hQ:Q (newEnv scope s.heap.objs.size globals (cellsFrom (s.heap.objs.size+1) scope.names cl) qual none .none (some env) builtinsNs) { s with heap:=pushCells (s.heap.push { cls:=.type "dict",data:=.dict #[] }) scope.names }):
 wpAny M A (newFunctionEnv scope globals cl [] qual none .none (some env)) Q E s:=by
 simp only[newFunctionEnv,Option.isSome_some,if_true];refine Za (wpAny_alloc ?_);refine Za (wpAny_layCells _ (λname kind cells=>by cases hkc:kind == NameKind.cell<;>simp[hkc]) _ _ _ _ ?_);rw[show({ s with heap:=s.heap.push { cls:=.type "dict",data:=.dict #[] } }:Shared).heap.objs.size=s.heap.objs.size+1 from Heap.size_push ..];rw[List.forIn_nil];exact Za (Zb (Zb hQ))
noncomputable def nL (X:Cx)(C:Addr):Ya:=λx s'=>∃m,s'.heap.Ns C m/\∀h',Heap.SameBut C s'.heap h'->∀cenv:Env,cenv.locals=C->YF X (passOn "comprehension.variables-let-go" x cenv:Sem Value) (λ_ _=>False) X.xe { s' with heap:=h' }
def z5 (X:Cx)(scope:Scope)(N:Yk)(cl:List (Str×Addr))(C:Addr)(s:Shared)(H:Hp)(ex:Yl):Cx where
 prog:=X.prog
 w:=X.w
 K:=X.K
 mg:=X.mg
 base:=X.base
 A:=X.A
 N:=N
 s₀:=s
 H₀:=H
 env:=compEnvC scope cl C X.env
 outer:=X.stack
 stack:=X.stack
 ex:=ex
 fn:=λx=>js (scope.names.lookup x)
 calm:=X.calm
 pn:=[]
 xe:=notedBy (model X.prog X.w) X.A (compEnvC scope cl C X.env) (nL X C)
def pA (X:Cx)(C:Addr)(s:Shared)(H:Hp)(ex:Yl):Prop:=∃Y Z,Inv X Y Z H s/\(∀b∈ex,iK X Y H b)/\s.heap.objs.size<=C
noncomputable def nE (cap:List (Option Nat))(Z:St):St:=cap.map λo=>o.bind λj=>(Z[j]?).join
structure CompOk (X:Cx)(scope:Scope)(N:Yk)(cap:List (Option Nat)):Prop where
 kind:scope.kind=.function
 loc:∀y∈scope.names,y.2=.local->scope.names.lookup y.1=some .local
 cell:∀y∈scope.names,y.2=.cell->scope.names.lookup y.1=some .cell
 free:∀y∈scope.names,y.2=.free->X.env.kindOf y.1=some .cell\/X.env.kindOf y.1=some .free
 len:cap.length=N.length
 cap:∀(i j:Nat) (x:Str),cap[i]? = some (some j)->N[i]? = some x->X.N[j]? = some x/\scope.names.lookup x=some .free
noncomputable def yN (scope:Scope)(env:Env)(N' N:Yk)(cap:List (Option Nat)):Bool:=
 decide (scope.kind=.function)&&scope.names.all (λy => !decide (y.2=.local)||decide (scope.names.lookup y.1=some .local))&&scope.names.all (λy => !decide (y.2=.cell)||decide (scope.names.lookup y.1=some .cell)) &&
 scope.names.all (λy => !decide (y.2=.free)||(decide (env.kindOf y.1=some .cell)||decide (env.kindOf y.1=some .free)))&&decide (cap.length=N'.length) &&
 (N'.zip cap).all (λp=>match p.2 with|none=>true|some j=>decide (N[j]? = some p.1)&&decide (scope.names.lookup p.1=some .free))
def CompOk.of {X:Cx}{scope:Scope}{N:Yk}{cap:List (Option Nat)}(h:yN scope X.env N X.N cap=true):CompOk X scope N cap:=by
 unfold yN at h;simp only[ZR,Xe,decide_eq_true_eq,X4,Bool.not_eq_true',decide_eq_false_iff_not] at h;obtain⟨⟨⟨⟨⟨h1,h2⟩,h3⟩,h4⟩,h5⟩,h6⟩:=h;refine⟨h1,λy hy hl=>?_,λy hy hl=>?_,λy hy hf=>?_,h5,λi j x e1 e2=>?_⟩
 .rcases h2 y hy with z|z
  .exact Zn hl z
  .exact z
 .rcases h3 y hy with z|z
  .exact Zn hl z
  .exact z
 .rcases h4 y hy with z|z
  .exact Zn hf z
  .exact z
 .have hm:(x,some j)∈N.zip cap:=by
   refine ZS (i:=i) ?_;rw[List.getElem?_zip_eq_some];exact⟨e2,e1⟩
  have q:=h6 (x,some j) hm;simpa using q
section
variable {X:Cx}{scope:Scope}{N:Yk}{cap:List (Option Nat)}{Y:Yb}{Z:St}{H:Hp}{s:Shared}{cl:List (Str×Addr)}{C D:Addr}{fp:Yl}
def comp_inv (ok:CompOk X scope N cap)(I:Inv X Y Z H s)(hf:∀b∈fp,iK X Y H b)(hlt:∀b∈fp,b<s.heap.objs.size)
 (hcl:CellsAt scope X.env cl C h1)
 (hC:s.heap.objs.size<=C) (old:∀b o,s.heap.get? b=some o->h1.get? b=some o) (hns:h1.Ns C m):
 Inv (z5 X scope N cl C s H fp) [] (nE cap Z) H { s with heap:=h1,toks:=tk }:=by
 have kf:∀x,(z5 X scope N cl C s H fp).env.kindOf x=some .cell\/(z5 X scope N cl C s H fp).env.kindOf x=some .free->scope.names.lookup x=some .free\/scope.names.lookup x=some .cell:=λx h=>by
  rcases h with h|h
  .exact(x3 (env:=X.env) (x:=x) (names:=scope.names)).2 _ h (.inl rfl)
  .exact(x3 (env:=X.env) (x:=x) (names:=scope.names)).2 _ h (.inr rfl)
 refine⟨⟨I.ok.mod,ok.kind,I.ok.glob,I.ok.blt,hC,hcl.inj,λx h=>?_,λx c z e=>?_,I.ok.hd,I.ok.frames,.inl rfl,λb hb=>⟨?_,λx c e=>?_⟩,I.bs,Zh I.ok.bsz I.sz,
  λb o e hb=>?_,λb hb z=>?_,I.stack,I.stkFree⟩,rfl,I.bare,Un.kept old,⟨m,hns,λi x v e1 e2 e3=>?_⟩,λx c e=>?_,I.hok.fresh hC,λx c e=>?_,λp hp=>Zn hp (by show ¬p∈([]:Yb)++[];simp),I.hok.kept old,?_⟩
 .rcases kf x h with q|q
  .refine zc1b (hcl.free x q) λc e _=>?_;exact⟨c,e⟩
  .exact hcl.own x q
 .rcases hcl.from_ x c e with ⟨_,q⟩|⟨q,_⟩
  .exact Zn (isCellK_inv z) q
  .exact Zh hC (Zy q)
 .exact Zi (Zg (hlt b hb) hC)
 .rcases hcl.from_ x c e with ⟨q,_⟩|⟨q,_⟩
  .exact(hf b hb).2.2.2.2.1 x c q
  .exact Nat.ne_of_gt (Xj (Zg (hlt b hb) hC) q)
 .rcases(hf b hb).2.2.2.1 with z|z
  .exact I.ok.noex b o e z
  .exact Zn (Zg (Zk e) (Zh I.ok.bsz z)) (Zx _)
 .rcases ZF.mp (I.stkSub b z) with q|q
  .exact(hf b hb).2.1 q
  .exact(hf b hb).2.2.1 q
 .have e1:N[i]? = some x:=e1;have hc:∃j,cap[i]? = some (some j) /\ Z[j]? = some (some v):=by
   have e2:(cap.map λo=>o.bind λj=>(Z[j]?).join)[i]? = some (some v):=e2;rw[Zv] at e2;cases q:cap[i]? with
   |none=>rw[q] at e2;exact zqn e2
   |some o =>
    rw[q] at e2;cases o with
    |none=>cases e2
    |some j =>
     have e2:some ((Z[j]?).join)=some (some v):=e2;cases q2:Z[j]? with
     |none=>rw[q2] at e2;cases e2
     |some w=>rw[q2] at e2;exact⟨j,rfl,by cases e2;exact q2⟩
  obtain⟨j,c1,c2⟩:=hc;obtain⟨n1,n2⟩:=ok.cap i j x c1 e1;refine zc1b I.loc λm0 _ hl=>?_;have fr:=ok.free (x,.free) (PySem.mem_of_lookup n2) rfl;obtain⟨u,r,l⟩:=hl j x v n1 c2 (fr.elim (λz=>.inr (.inl z)) λz=>.inr (.inr z));refine⟨u,r,.inr ⟨(x3 (env:=X.env) (x:=x) (names:=scope.names)).1 n2,?_⟩⟩;rcases l with ⟨k,_⟩|⟨_,c,ec,z⟩
  .have k:X.env.kindOf x=some .local:=k;rcases fr with f|f<;>· rw[k] at f;cases f
  .obtain⟨c',e',e''⟩:=hcl.free x n2;rw[ec] at e'';obtain rfl:=Zqi e'';exact⟨c,e',z.keeps old⟩
 .rcases hcl.from_ x c e with ⟨q,_⟩|⟨_,q⟩
  .obtain⟨v,z⟩:=I.cell x c q;exact⟨v,z.keeps old⟩
  .exact⟨none,q⟩
 .rcases hcl.from_ x c e with ⟨q,_⟩|⟨q,_⟩
  .exact I.freeC x c q
  .exact I.hok.fresh (Zh hC (Zy q))
 .show(cap.map _).length=N.length;rw[Zql];exact ok.len
def comp_end (I:Inv X Y Z H s)(hf:∀b∈fp,iK X Y H b)(hC:s.heap.objs.size<=C)(hD:s.heap.objs.size<=D)(hDC:D≠C)
 (J:Inv (z5 X scope N cl C s H fp) [] Z' H' s') (hd:s'.heap.get? D=some { cls:=.type "list",data:=.seq its.toArray k }) (hn:H' D=none) (rv:yt ys its) (hz:ys.length<=sizeLine) (hs:Heap.SameBut C s'.heap h')
 (q:Q (.ref D) (upd H' D (.lst ys))):EP X Y Z Q (.ref D) { s' with heap:=h' }:=by
 have nC:∀b o,s.heap.get? b=some o->b≠C:=λb o e=>Zi (Zg (Zk e) hC);have nD:∀b o,s.heap.get? b=some o->b≠D:=λb o e=>Zi (Zg (Zk e) hD);have tD:∀b u,H' b=some u->b≠D:=λb u e z=>by rw[z,hn] at e;exact zqn e
 have tC:∀b u,H' b=some u->b≠C:=λb u e z=>by
  have:=J.free;rw[z] at e;rw[show H' C=none from this] at e;exact zqn e
 have B:Un (frs X.stack) fp H H' s.heap s'.heap:=J.base;refine⟨.ref D,upd H' D (.lst ys),I.call' (s':={ s' with heap:=h' }) (ch:=fp) J.os ?_ ?_ J.bare (λb hb=>⟨(hf b hb).2.2.2.1,(hf b hb).2.1,(hf b hb).2.2.2.2.1,(hf b hb).2.2.2.2.2⟩),rfl,q⟩
 .refine⟨λb o e n hb hx=>(hs.2 b (nC b o e)).trans (B.keep b o e n hb hx),λb o e n hb hx=>?_,λb o e n hx=>?_,λb o e hx=>?_,λb xs e=>?_,λb o u e=>?_,λb ps e=>?_⟩
  .obtain⟨sl,z⟩:=B.slot b o e n hb hx;exact⟨sl,(hs.2 b (nC b o e)).trans z⟩
  .rw[zD (nD b o e)];exact B.free b o e n hx
  .obtain⟨o',z⟩:=B.there b o e hx;exact⟨o',(hs.2 b (nC b o e)).trans z⟩
  .have z:=B.tups b xs e;rw[zD (tD b _ z)];exact z
  .have z:=B.frzs b o u e;rw[zD (tD b _ z)];exact z
  .obtain⟨more,z⟩:=B.tbls b ps e;exact⟨more,by rw[zD (tD b _ z)];exact z⟩
 .intro b u e;by_cases hb:b=D
  .subst hb;rw[zu] at e;obtain rfl:=Zqi e;exact⟨hz,its,k,rv,(hs.2 b hDC).trans hd⟩
  .rw[zD hb] at e;refine(J.hok b u e).stay (λc v hc z=>(hs.2 c ?_).trans z) (λc z=>by rw[zD (tD c _ z)];exact z) (λc xs z=>by rw[zD (tD c _ z)];exact z);rcases hc with hc|hc
   .rw[hc];exact tC b u e
   .exact tC c _ hc
end
def compR (cap:List (Option Nat))(g:TG)(te:TE)(Z:St)(Q:VK):It->Hp->Prop:=λJ H1=>∃W:Nat->Nat->YB->St->Hp->Prop,(∃m,W 0 m [] (nE cap Z) H1)/\∀i m ys Z' H',W i m ys Z' H'->ys.length<sizeLine /\
 (
  (J.stop i H'/\∀D,H' D=none->Q (.ref D) (upd H' D (.lst ys))) \/
  (J.go i H'/\∀x H2,J.yld i H' x H2->g x Z' H2 λZ2 H3=>te Z2 H3 λy H4=>∃m',m'<m/\W (i+1) m' (ys++[y]) Z2 H4))
def jV (cap:List (Option Nat))(wi:TI)(g:TG)(te:TE):TE:=λZ H Q=>wi Z H (compR cap g te Z Q)
def compIfR (cap:List (Option Nat))(g:TG)(tt:TT)(te:TE)(Z:St)(Q:VK):It->Hp->Prop:=λJ H1=>∃W:Nat->Nat->YB->St->Hp->Prop,(∃m,W 0 m [] (nE cap Z) H1)/\∀i m ys Z' H',W i m ys Z' H'->ys.length<sizeLine /\
 (
  (J.stop i H'/\∀D,H' D=none->Q (.ref D) (upd H' D (.lst ys))) \/
  (J.go i H'/\∀x H2,J.yld i H' x H2->g x Z' H2 λZ2 H3=>tt Z2 H3 λb H4=>if b=true then te Z2 H4 (λy H5=>∃m',m'<m/\W (i+1) m' (ys++[y]) Z2 H5) else ∃m',m'<m/\W (i+1) m' ys Z2 H4))
def si (cap:List (Option Nat))(wi:TI)(g:TG)(tt:TT)(te:TE):TE:=λZ H Q=>wi Z H (compIfR cap g tt te Z Q)
section
variable {X:Cx}{tg iter elt c:Expr}{scope:Scope}{pos:Pos}{wi:TI}{g:TG}{te:TE}{tt:TT}
noncomputable def sE (X:Cx)(Y:Yb)(Z:St)(Q:VK)(use:Option (Value->Sem Unit))(R:Ya):Prop:=
 ∀(C D:Addr) (m:Ye) (s5:Shared) (r:Flow),s5.heap.Ns C m->¬C=X.env.locals->C∉X.fs->X.s₀.heap.objs.size<=C->(∀x c,X.env.cells.lookup x=some c->c≠C)->(∀p∈X.pn++Y,p.1≠C) ->
  (∀h',Heap.SameBut C s5.heap h'->EP X Y Z (λv H'=>H' C=none/\Q v H') (.ref D) { s5 with heap:=h' })->compPost (model X.prog X.w) X.A X.xe use R (.ref D) C (.ok r) s5
def lM:sE X Y Z Q none (EP X Y Z Q):=λC D m s5 r hm _ _ _ _ _ k=>⟨m,hm,λh' hs'=>by
 refine zc2d (k h' hs') λv H' I' rv _ q=>?_;exact⟨v,H',I',rv,q⟩⟩
noncomputable def TurnI (X:Cx)(tg elt:Expr)(it acc:Value)(env:Env)(R:Result->Yz)(I:Nat->Yz)(test:(Bool->Yz)->Yz)(n:Nat)(s:Shared):Prop:=
 let E:Ya:=notedBy (model X.prog X.w) X.A env λe s'=>R (.error e) s'
 YF X (pyNext it) (λr s1=>match r with
  |none=>R (.ok .next) s1
  |some v=>YF X (letOwnedTupleGo tg it v) (λ_ s2=>YF X (assign tg env v) (λ_ s3=>test (λok s4=>if ok=true then YF X (eval elt env) (λx s5=>YF X (call (.builtin "list.append") [acc,x]) (λ_ s6=>∃m,m<n/\I m s6) E s5) E s4 else ∃m,m<n/\I m s4) s3) E s2) E s1) E s
def mq {ifs:Ym}(N:Yk){test:Env->(Result->Yz)->(Bool->Yz)->Yz}
 (lp:∀{it acc:Value} {env:Env} {R:Result->Yz} {s:Shared} (I:Nat->Yz),(∀n s,I n s->TurnI X tg elt it acc env R I (test env R) n s)->∀n,I n s->codeAny (model X.prog X.w) X.A (.compLoop (.ListComp elt [⟨tg,iter,ifs,0⟩] scope pos) 0 it acc env) R s)
 (ht:∀cl C s H ex {Y:Yb} {s7:Shared} {Z7:St} {H7:Hp} {R:Result->Yz} {q:Bool->Hp->Prop} {Q:Bool->Yz},pA X C s H ex->(∀e s',nL X C e s'->R (.error e) s')->Inv (z5 X scope N cl C s H ex) Y Z7 H7 s7->tt Z7 H7 q->(∀b s8 H8,Inv (z5 X scope N cl C s H ex) Y Z7 H8 s8->q b H8->Q b s8)->test (compEnvC scope cl C X.env) R Q s7)
 (cap:List (Option Nat)) (hc:X.calm=true) (okB:yN scope X.env N X.N cap=true) (hi:PI X tg iter wi) (hg:∀cl C s H ex,PG (z5 X scope N cl C s H ex) tg g) (he:∀cl C s H ex,pA X C s H ex->PE (z5 X scope N cl C s H ex) elt te)
 (hs:∀x,foldedSetIterable iter X.env x=pure x) {use:Option (Value->Sem Unit)} {R:Ya} {fpos:Pos} {Y:Yb} {s:Shared} {Z:St} {H:Hp} {Q:VK} (I:Inv X Y Z H s) (h:si cap wi g tt te Z H Q) (fin:sE X Y Z Q use R):
 YF X (comprehension (.ListComp elt [⟨tg,iter,ifs,0⟩] scope pos) scope X.env fpos (newList []) false (eval iter X.env) use) R X.xe s:=by
 have ok:=CompOk.of okB;obtain⟨cl0,hcl,hcl1,hcl2⟩:=clos_of X.env scope λy hy hf=>I.ok.has y.1 (ok.free y hy hf);refine wpAny_comprehension_free (use:=use) rfl hs hcl ok.kind ok.loc (thn (hi Y s Z H _ I h) λxv s1 h1=>thn h1 λitv s2 h2=>?_);obtain⟨it,fp,tn,J,H2,e,I2,T,st2,f2,W,⟨m0,w0⟩,turn⟩:=h2;subst e;have hlt:∀b∈fp,b<s2.heap.objs.size:=λb hb=>let ⟨_,e,_⟩:=T.obj _ _ st2 b hb;Zk e
 refine wpAny_newObj_type (wpAny_newCompEnv ?_);dsimp only;generalize hP:s2.heap.push { cls:=.type "list",dict:=none,data:=.seq ([]:Yf).toArray }=P2;have hC:P2.objs.size=s2.heap.objs.size+1:=by rw[<- hP,Heap.size_push]
 have hDC:s2.heap.objs.size≠P2.objs.size:=by rw[hC];exact Zi (Xm _)
 have hCle:s2.heap.objs.size<=P2.objs.size:=by rw[hC];exact Nat.le_succ _
 have below:∀b,b<s2.heap.objs.size->b≠P2.objs.size/\b≠s2.heap.objs.size:=λb hb=>⟨by rw[hC];exact Zi (Xa hb),Zi hb⟩;have hcc:CellsAt scope X.env (cellsFrom (P2.objs.size+1) scope.names cl0) P2.objs.size (pushCells (P2.push { cls:=.type "dict",data:=.dict #[] }) scope.names):=
  cellsAt_of hcl1 hcl2 I2.ok.inj (λx c e=>Zh (Zy (let ⟨_,_,ho,_⟩:=I2.cell x c e;Zk ho)) hCle) (Heap.size_push ..) ok.cell
 have hns1:(pushCells (P2.push { cls:=.type "dict",data:=.dict #[] }) scope.names).Ns P2.objs.size (λ_=>none):=(Heap.Ns.new P2 (.type "dict")).keeps (pushCells_keeps _ _);generalize cellsFrom (P2.objs.size+1) scope.names cl0=cl at hcc ⊢;have old:∀b o,s2.heap.get? b=some o->(pushCells (P2.push { cls:=.type "dict",data:=.dict #[] }) scope.names).get? b=some o:=λb o e=>pushCells_keeps _ _ b o (Zq _ (hP ▸ Zq _ e));have hacc:(pushCells (P2.push { cls:=.type "dict",data:=.dict #[] }) scope.names).get? s2.heap.objs.size=some { cls:=.type "list",data:=.seq ([]:Yf).toArray 0 }:=pushCells_keeps _ _ _ _ (Zq _ (hP ▸ Zr _ rfl));generalize pushCells (P2.push { cls:=.type "dict",data:=.dict #[] }) scope.names=g1 at hcc hns1 old hacc ⊢;have stat:∀{H':Hp} {pl:Yb},(∀b∈fp,H' b=none)->(∀p∈pl,p.1∉fp)->∀b∈fp,iK (z5 X scope N cl P2.objs.size s2 H2 fp) pl H' b:=λ{H' pl} hn hp b hb=>by
  refine⟨hn b hb,(below b (hlt b hb)).1,λz=>?_,.inl hb,λx c e=>?_,λp hq z=>?_⟩
  .rcases ZF.mp (I2.stkSub b z) with q|q
   .exact(f2 b hb).2.1 q
   .exact(f2 b hb).2.2.1 q
  .rcases hcc.from_ x c e with ⟨q,_⟩|⟨q,_⟩
   .exact(f2 b hb).2.2.2.2.1 x c q
   .exact Nat.ne_of_gt (Xj (Zg (hlt b hb) hCle) q)
  .have hq:p∈([]:Yb)++pl:=hq;rw[List.nil_append] at hq;exact hp p hq (by rw[z];exact hb)
 have nD:s2.heap.objs.size∉fp:=λz=>Zn (hlt _ z) (Zx _);have loop:∀s3:Shared,s3={ s2 with heap:=g1 } ->
  codeAny (model X.prog X.w) X.A (.compLoop (.ListComp elt [⟨tg,iter,ifs,0⟩] scope pos) 0 (.ref it) (.ref s2.heap.objs.size) (compEnvC scope cl P2.objs.size X.env))
   (compPost (model X.prog X.w) X.A X.xe use R (.ref s2.heap.objs.size) P2.objs.size) s3:=by
  rintro s3 rfl;have I0:=comp_inv (tk:=s2.toks) ok I2 f2 hlt hcc hCle old hns1;refine lp (λn s'=>∃i ys its k Z' H',Inv (z5 X scope N cl P2.objs.size s2 H2 fp) [] Z' H' s'/\tn i s'.heap/\(∀b∈fp,H' b=none)/\s'.heap.get? s2.heap.objs.size=some { cls:=.type "list",data:=.seq (List.toArray its) k } /\
   H' s2.heap.objs.size=none/\yt ys its/\W i n ys Z' H') ?_ m0
   ⟨0,[],[],0,nE cap Z,H2,I0,T.keep _ _ _ st2 (λb _ o e=>old b o e),λb hb=>(f2 b hb).1,hacc,I2.hok.fresh (Zf _),.nil,w0⟩
  have cat:pA X P2.objs.size s2 H2 fp:=⟨_,_,I2,f2,hCle⟩;have ce:∀e s',nL X P2.objs.size e s'->compPost (model X.prog X.w) X.A X.xe use R (.ref s2.heap.objs.size) P2.objs.size (.error e) s':=λe s' h=>by cases use<;>exact h
  have xe:∀e s',(z5 X scope N cl P2.objs.size s2 H2 fp).xe e s'->notedBy (model X.prog X.w) X.A (compEnvC scope cl P2.objs.size X.env) (λe s'=>compPost (model X.prog X.w) X.A X.xe use R (.ref s2.heap.objs.size) P2.objs.size (.error e) s') e s':=λe s' h=>Zc h (λ_ s2 q=>ce e s2 q) λe s2 q=>ce e s2 q;rintro n s4 ⟨i,ys,its,k,Z4,H4,I4,st4,fr4,hd4,hn4,rv4,w4⟩;obtain⟨hz,tn4⟩:=turn i n ys Z4 H4 w4;have J4:Inv (z5 X scope N cl P2.objs.size s2 H2 fp) [(s2.heap.objs.size,{ cls:=.type "list",data:=.seq its.toArray k })] Z4 H4 s4:=I4.pins_of λp hp=>by
   have e:=ZC.mp hp;subst e;refine⟨hd4,hn4,hDC,?_,λv z=>by cases z⟩;exact λz=>Zn (Zg (by
    rcases ZF.mp (I2.stkSub _ z) with q|q
    .exact Xr (XB q) I2.lt
    .obtain⟨_,o,ho,_⟩:=I2.ok.funs.mem q;exact Zg (Zk ho) I2.sz) (Zf s2.heap.objs.size)) (Zx _)
  have np:∀p ∈ [(s2.heap.objs.size,({ cls:=.type "list",data:=.seq its.toArray k }:Obj))],p.1∉fp:=λp hp=>by
   have e:=ZC.mp hp;subst e;exact nD
  rcases tn4 with ⟨stop,qn⟩|⟨go,step⟩
  .refine Zc (T.done (z5 X scope N cl P2.objs.size s2 H2 fp) rfl rfl rfl hc i _ s4 Z4 H4 (λ_ _=>False) J4 (stat fr4 np) st4 stop) (λr s5 h5=>?_) λ_ _ f=>f.elim;obtain⟨rfl,I5⟩:=h5;obtain⟨m,hm,_⟩:=id I5.loc;have p5:=I5.pin (s2.heap.objs.size,_) (ZL _ Zqs);refine fin _ _ m _ _ hm (Nat.ne_of_gt (Zg I2.lt hCle)) (I2.nofs hCle) (Zh I2.sz hCle) (λx c e z=>?_) (λp hp z=>?_) λh' hs'=>comp_end I2 f2 hCle (Zf _) hDC (I5.pins_of λp hp=>nomatch hp) p5.1 p5.2.1 rv4 (Zy hz) hs' ⟨by rw[zD (Ne.symm hDC)];exact I5.free,qn _ p5.2.1⟩
   .obtain⟨v,o,ho,hd⟩:=I2.cell x c e;have:=Zk ho;rw[z] at this;exact Zn (Zg this hCle) (Zx _)
   .have:=Zk (I2.pin p hp).1;rw[z] at this;exact Zn (Zg this hCle) (Zx _)
  .refine Zc (T.item (z5 X scope N cl P2.objs.size s2 H2 fp) rfl rfl rfl hc i _ s4 Z4 H4 (λ_ _=>False) J4 (stat fr4 np) st4 go) (λr s5 h5=>?_) λ_ _ f=>f.elim;obtain⟨u,rfl,h5⟩:=h5;refine Zc h5 (λ_ s6 h6=>?_) λ_ _ f=>f.elim;obtain⟨x,H6,I6,r6,y6,st6,fr6⟩:=h6;have I6':=I6.pinned (stat fr6 np) (T.obj _ _ st6);refine Zc (hg cl P2.objs.size s2 H2 fp _ s6 Z4 H6 x u _ I6' r6 (step x H6 y6)) (λ_ s7 h7=>?_) xe;obtain⟨Z7,H7,I7,q7⟩:=h7;refine ht cl P2.objs.size s2 H2 fp cat ce I7 q7 λbv s8 H8 I8 q8=>?_;have keepT:∀(H9:Hp) (s9:Shared) (Z9:St),Inv (z5 X scope N cl P2.objs.size s2 H2 fp) ([(s2.heap.objs.size,{ cls:=.type "list",data:=.seq its.toArray k })]++pz fp s6.heap) Z9 H9 s9->(∀b∈fp,∀o,s6.heap.get? b=some o->s9.heap.get? b=some o)/\∀b∈fp,H9 b=none:=λH9 s9 Z9 I9=>by
    refine⟨λb hb o e=>(I9.pin (b,o) (ZL _ (ZL _ (wU hb e)))).1,λb hb=>?_⟩;obtain⟨o,e,d⟩:=T.obj _ _ st6 b hb;exact(I9.pin (b,o) (ZL _ (ZL _ (wU hb e)))).2.1
   have p8:=I8.pin (s2.heap.objs.size,_) (ZL _ (Z8 _ Zqs));cases bv with
   |false =>
    rw[Ze (by simp)] at q8 ⊢;obtain⟨m',hm',w8⟩:=q8;obtain⟨z1,z2⟩:=keepT _ _ _ I8;exact⟨m',hm',i+1,ys,its,k,Z7,H8,I8.pins_of (λp hp=>nomatch hp),T.keep _ _ _ st6 z1,z2,p8.1,p8.2.1,rv4,w8⟩
   |true =>
    rw[Zd rfl] at q8 ⊢;refine Zc (he cl P2.objs.size s2 H2 fp cat _ s8 Z7 H8 _ I8 q8) (λyv s9 h9=>?_) xe;obtain⟨y,H9,I9,ry,m',hm',w9⟩:=h9;have p9:=I9.pin (s2.heap.objs.size,_) (ZL _ (Z8 _ Zqs));have hl:=rv4.length;refine append_at (hsz:=by show its.toArray.size<=sizeLine;rw[Zm,<- hl];exact Zy hz) p9.1 λh10 hs10 hd10=>?_;have I10:Inv (z5 X scope N cl P2.objs.size s2 H2 fp) [] Z7 H9 { s9 with heap:=h10 }:=(I9.pins_of (Y':=[]) λp hp=>nomatch hp).turned (t':=s9.toks) (it:=s2.heap.objs.size) (λb o hb e=>(hs10.2 b hb).trans e) p9.2.1 hDC (.inr (Zf _))
     (λx c e z=>by
      obtain⟨v,o,ho,hd⟩:=I9.cell x c e;rw[z,p9.1] at ho;cases ho;cases hd) (λp hp=>Zn hp (by show ¬p∈([]:Yb)++[];simp))
    obtain⟨z1,z2⟩:=keepT _ _ _ I9;refine⟨m',hm',i+1,ys++[y],its++[yv],k+1,Z7,H9,I10,T.keep _ _ _ st6 (λb hb o e=>?_),z2,?_,p9.2.1,yt.append rv4 (.cons ry .nil),w9⟩
    .have hb':b≠s2.heap.objs.size:=λz=>nD (by rw[<- z];exact hb);exact(hs10.2 b hb').trans (z1 b hb o e)
    .refine hd10.trans ?_;simp
 exact codeAny_compStart_list (loop _ rfl) (T.self _ 0 _ _ _ (T.keep _ _ _ st2 (λb _ o e=>old b o e)) (loop _ rfl))
def jB (N:Yk)(cap:List (Option Nat))(hc:X.calm=true)(okB:yN scope X.env N X.N cap=true)(hi:PI X tg iter wi)(hg:∀cl C s H ex,PG (z5 X scope N cl C s H ex) tg g)(he:∀cl C s H ex,pA X C s H ex->PE (z5 X scope N cl C s H ex) elt te)
 (hs:∀x,foldedSetIterable iter X.env x=pure x) {use:Option (Value->Sem Unit)} {R:Ya} {fpos:Pos} {Y:Yb} {s:Shared} {Z:St} {H:Hp} {Q:VK} (I:Inv X Y Z H s) (h:jV cap wi g te Z H Q) (fin:sE X Y Z Q use R):
 YF X (comprehension (.ListComp elt [⟨tg,iter,[],0⟩] scope pos) scope X.env fpos (newList []) false (eval iter X.env) use) R X.xe s:=
 mq (tt:=λ_ H q=>q true H) (test:=λ_ _ Q s=>Q true s) N (λI turn n h=>W.kcp_loop I turn n h) (λ_ _ _ _ _ _ _ _ _ _ _ _ _ _ I q k=>k true _ _ I q) cap hc okB hi hg he hs I h fin
def pe_compX (N:Yk)(cap:List (Option Nat))(hc:X.calm=true)(okB:yN scope X.env N X.N cap=true)(hi:PI X tg iter wi)(hg:∀cl C s H ex,PG (z5 X scope N cl C s H ex) tg g)(he:∀cl C s H ex,pA X C s H ex->PE (z5 X scope N cl C s H ex) elt te)
 (hs:autoParam (∀x,foldedSetIterable iter X.env x=pure x) zaw._auto_1):PE X (.ListComp elt [⟨tg,iter,[],0⟩] scope pos) (jV cap wi g te):=by
 intro Y s Z H Q I h;rw[eval_ListComp];exact jB N cap hc okB hi hg he hs I h lM
def pe_comp (N:Yk)(cap:List (Option Nat))(hc:X.calm=true)(okB:yN scope X.env N X.N cap=true)(hi:PI X tg iter wi)(hg:∀cl C s H ex,PG (z5 X scope N cl C s H ex) tg g)(he:∀cl C s H ex,PE (z5 X scope N cl C s H ex) elt te)
 (hs:autoParam (∀x,foldedSetIterable iter X.env x=pure x) zaw._auto_1):PE X (.ListComp elt [⟨tg,iter,[],0⟩] scope pos) (jV cap wi g te):=pe_compX N cap hc okB hi hg (λcl C s H ex _=>he cl C s H ex) hs
end
mutual
noncomputable def Is (H:Hp):PyData->V->Prop
 | .none,v=>v=.non
 | .bool b,v=>v=.bl b
 | .int i,v=>v=.int i
 | .str x,v=>v=.str x
 | .list ds,v=>∃a xs,v=.ref a/\H a=some (.lst xs)/\zw H ds xs
 | .tuple ds,v=>∃a xs,v=.ref a/\H a=some (.tup xs)/\zw H ds xs
 | .dict _,_=>False
noncomputable def zw (H:Hp):List PyData->YB->Prop
 | [],xs=>xs=[]
 |d::ds,xs=>∃x r,xs=x::r/\Is H d x/\zw H ds r
end
mutual
theorem Is.same (e:yC H H'):∀(d:PyData) (v:V),Is H d v->Is H' d v
 | .none,_,h=>by unfold Is at h ⊢;exact h
 | .bool _,_,h=>by unfold Is at h ⊢;exact h
 | .int _,_,h=>by unfold Is at h ⊢;exact h
 | .str _,_,h=>by unfold Is at h ⊢;exact h
 | .list ds,v,h=>by
  unfold Is at h ⊢;refine zc2c h λa xs h1 h2 h3=>?_;exact⟨a,xs,h1,e _ _ h2,zw.same e ds xs h3⟩
 | .tuple ds,v,h=>by
  unfold Is at h ⊢;refine zc2c h λa xs h1 h2 h3=>?_;exact⟨a,xs,h1,e _ _ h2,zw.same e ds xs h3⟩
 | .dict _,_,h=>by unfold Is at h;exact h.elim
theorem zw.same (e:yC H H'):∀(ds:List PyData) (xs:YB),zw H ds xs->zw H' ds xs
 | [],_,h=>by unfold zw at h ⊢;exact h
 |d::ds,xs,h=>by
  unfold zw at h ⊢;refine zc2c h λx r h1 h2 h3=>?_;exact⟨x,r,h1,Is.same e d x h2,zw.same e ds r h3⟩
end
theorem zw.length:∀{ds:List PyData} {xs:YB},zw H ds xs->xs.length=ds.length
 | [],_,h=>by unfold zw at h;subst h;rfl
 |d::ds,xs,h=>by
  unfold zw at h;refine zc2c h λx r zr2 _ h3=>?_;subst zr2;rw[Zu,Zu,zw.length h3]
theorem zw.get:∀{ds:List PyData} {xs:YB} {i:Nat} {d:PyData},zw H ds xs->ds[i]? = some d->∃x,xs[i]? = some x/\Is H d x
 | [],_,_,_,_,e=>by simp at e
 |d::ds,xs,0,d',h,e=>by
  unfold zw at h;refine zc2c h λx r zr2 h2 _=>?_;subst zr2;simp at e;subst e;exact⟨x,rfl,h2⟩
 |d::ds,xs,i+1,d',h,e=>by
  unfold zw at h;refine zc2c h λx r zr2 _ h3=>?_;subst zr2;refine zc1b (zw.get (i:=i) h3 (by simpa using e)) λy h4 h5=>?_;exact⟨y,by simpa using h4,h5⟩
theorem rA:∀(ns:Yh),zw H (ns.map PyData.int) (ns.map V.int)
 | []=>by show zw H [] [];unfold zw;rfl
 |n::ns=>by
  show zw H (PyData.int n::ns.map PyData.int) (V.int n::ns.map V.int);unfold zw;exact⟨_,_,rfl,by unfold Is;rfl,rA ns⟩
theorem vf:∀{ns:Yh} {xs:YB},zw H (ns.map PyData.int) xs->xs=ns.map V.int
 | [],_,h=>by
  have h:zw H [] _:=h;unfold zw at h;exact h
 |n::ns,xs,h=>by
  have h:zw H (PyData.int n::ns.map PyData.int) xs:=h;unfold zw at h;obtain⟨x,r,rfl,h2,h3⟩:=h;unfold Is at h2;rw[h2,vf h3];rfl
def Is.list_iff:Is H (.list ds) v↔∃a xs,v=.ref a/\H a=some (.lst xs)/\zw H ds xs:=by unfold Is;exact Iff.rfl
def Is.tuple_iff:Is H (.tuple ds) v↔∃a xs,v=.ref a/\H a=some (.tup xs)/\zw H ds xs:=by unfold Is;exact Iff.rfl
mutual
noncomputable def yc:PyData->Bool
 | .int _=>true
 | .list xs=>y7 xs
 | .tuple xs=>y7 xs
 | .none=>false
 | .bool _=>false
 | .str _=>false
 | .dict _=>false
noncomputable def y7:List PyData->Bool
 | []=>true
 |x::xs=>yc x&&y7 xs
end
mutual
theorem sj:∀d:PyData,yc d=true->d.canLay0=true
 | .int _,_=>by unfold PyData.canLay0;rfl
 | .list xs,h=>by unfold yc at h;unfold PyData.canLay0;exact wH xs h
 | .tuple xs,h=>by unfold yc at h;unfold PyData.canLay0;exact wH xs h
 | .none,h=>by unfold yc at h;exact zqb h
 | .bool _,h=>by unfold yc at h;exact zqb h
 | .str _,h=>by unfold yc at h;exact zqb h
 | .dict _,h=>by unfold yc at h;exact zqb h
theorem wH:∀xs:List PyData,y7 xs=true->PyData.canLayAll0 xs=true
 | [],_=>by unfold PyData.canLayAll0;rfl
 |x::xs,h=>by
  unfold y7 at h;obtain⟨h1,h2⟩:=XJ.mp h;unfold PyData.canLayAll0;rw[sj x h1,wH xs h2];rfl
end
mutual
theorem nK:∀d e:PyData,yc d=true->yc e=true->(PyData.eqv d e=true↔d=e)
 | .int i,.int j,_,_=>by unfold PyData.eqv;simp
 | .int i,.list ys,_,_=>by unfold PyData.eqv;simp
 | .int i,.tuple ys,_,_=>by unfold PyData.eqv;simp
 | .list xs,.int j,_,_=>by unfold PyData.eqv;simp
 | .list xs,.list ys,h1,h2=>by
  unfold yc at h1 h2;have q:=uD xs ys h1 h2;unfold PyData.eqv;rw[q];simp
 | .list xs,.tuple ys,_,_=>by unfold PyData.eqv;simp
 | .tuple xs,.int j,_,_=>by unfold PyData.eqv;simp
 | .tuple xs,.list ys,_,_=>by unfold PyData.eqv;simp
 | .tuple xs,.tuple ys,h1,h2=>by
  unfold yc at h1 h2;have q:=uD xs ys h1 h2;unfold PyData.eqv;rw[q];simp
 | .none,_,h,_=>by unfold yc at h;exact zqb h
 | .bool _,_,h,_=>by unfold yc at h;exact zqb h
 | .str _,_,h,_=>by unfold yc at h;exact zqb h
 | .dict _,_,h,_=>by unfold yc at h;exact zqb h
 |_,.none,_,h=>by unfold yc at h;exact zqb h
 |_,.bool _,_,h=>by unfold yc at h;exact zqb h
 |_,.str _,_,h=>by unfold yc at h;exact zqb h
 |_,.dict _,_,h=>by unfold yc at h;exact zqb h
theorem uD:∀xs ys:List PyData,y7 xs=true->y7 ys=true->(PyData.eqvAll xs ys=true↔xs=ys)
 | [],[],_,_=>by unfold PyData.eqvAll;simp
 | [],y::ys,_,_=>by unfold PyData.eqvAll;simp
 |x::xs,[],_,_=>by unfold PyData.eqvAll;simp
 |x::xs,y::ys,h1,h2=>by
  unfold y7 at h1 h2;obtain⟨a1,a2⟩:=XJ.mp h1;obtain⟨b1,b2⟩:=XJ.mp h2;unfold PyData.eqvAll;rw[XJ,nK x y a1 b1,uD xs ys a2 b2];simp
end
def eqv_ne (h1:yc d=true)(h2:yc e=true)(h:d≠e):PyData.eqv d e=false:=by
 cases q:PyData.eqv d e with
 |false=>rfl
 |true=>exact Zn ((nK d e h1 h2).mp q) h
def eqv_self (h1:yc d=true):PyData.eqv d d=true:=(nK d d h1 h1).mpr rfl
section
variable {X:Cx}
noncomputable def ue:Yh->Int
 | []=>0
 |x::r=>r.foldl max x
noncomputable def nN:Yh->Int
 | []=>0
 |x::r=>r.foldl min x
theorem uN:∀(r:Yh) (x:Int),x<=r.foldl max x/\(∀y∈r,y<=r.foldl max x)/\(r.foldl max x=x\/r.foldl max x∈r)
 | [],x=>⟨Int.le_refl _,(λ_ h=>nomatch h),.inl rfl⟩
 |y::r,x=>by
  refine x8 (uN r (max x y)) λh1 h2 h3=>?_;show x<=r.foldl max (max x y)/\(∀z∈y::r,z<=r.foldl max (max x y))/\(r.foldl max (max x y)=x\/r.foldl max (max x y)∈y::r);refine⟨(),λz hz=>?_,?_⟩
  .rcases ZF.mp hz with rfl|hz
   .omega
   .exact h2 z hz
  .rcases h3 with h3|h3
   .by_cases hxy:x<=y
    .right;rw[h3,Int.max_eq_right hxy];exact Zqs
    .left;rw[h3,Int.max_eq_left ()]
   .right;exact Zqm _ h3
def yK (h:l ≠ []):ue l∈l/\∀y∈l,y<=ue l:=by
 cases l with
 |nil=>exact Zn rfl h
 |cons x r =>
  refine x8 (uN r x) λh1 h2 h3=>?_;refine⟨?_,λy hy=>?_⟩
  .rcases h3 with h3|h3
   .show r.foldl max x∈x::r;rw[h3];exact Zqs
   .exact Zqm _ h3
  .rcases ZF.mp hy with rfl|hy
   .exact h1
   .exact h2 y hy
def nB (h1:M∈l)(h2:∀y∈l,y<=M):M=ue l:=by
 obtain⟨q1,q2⟩:=yK (l:=l) (by intro e;rw[e] at h1;cases h1);have a:=q2 M h1;have b:=h2 _ q1;omega
theorem uU:∀(r:Yh) (x:Int),r.foldl min x<=x/\(∀y∈r,r.foldl min x<=y)/\(r.foldl min x=x\/r.foldl min x∈r)
 | [],x=>⟨Int.le_refl _,(λ_ h=>nomatch h),.inl rfl⟩
 |y::r,x=>by
  refine x8 (uU r (min x y)) λh1 h2 h3=>?_;show r.foldl min (min x y)<=x/\(∀z∈y::r,r.foldl min (min x y)<=z)/\(r.foldl min (min x y)=x\/r.foldl min (min x y)∈y::r);refine⟨(),λz hz=>?_,?_⟩
  .rcases ZF.mp hz with rfl|hz
   .omega
   .exact h2 z hz
  .rcases h3 with h3|h3
   .by_cases hxy:x<=y
    .left;rw[h3,Int.min_eq_left hxy]
    .right;rw[h3,Int.min_eq_right ()];exact Zqs
   .right;exact Zqm _ h3
def vC (h:l ≠ []):nN l∈l/\∀y∈l,nN l<=y:=by
 cases l with
 |nil=>exact Zn rfl h
 |cons x r =>
  refine x8 (uU r x) λh1 h2 h3=>?_;refine⟨?_,λy hy=>?_⟩
  .rcases h3 with h3|h3
   .show r.foldl min x∈x::r;rw[h3];exact Zqs
   .exact Zqm _ h3
  .rcases ZF.mp hy with rfl|hy
   .exact h1
   .exact h2 y hy
def kK (h1:M∈l)(h2:∀y∈l,M<=y):M=nN l:=by
 obtain⟨q1,q2⟩:=vC (l:=l) (by intro e;rw[e] at h1;cases h1);have a:=q2 M h1;have b:=h2 _ q1;omega
def call_maxL (hc:X.calm=true):zB X (.builtin "max") (λxs H Q=>∃a ns,xs=[.ref a]/\SqL X.K H a (ns.map V.int)/\ns ≠ []/\Q (.int (ue ns)) H):=by
 intro Y s Z H xs us Q I r h;refine zc2d h λa ns zr2 hl hne q=>?_;subst zr2;refine zc1b (wp r) λu zr1 ru=>?_;subst zr1;obtain rfl:u=Value.ref a:=ru;refine zc1c (I.list hl) λits rv p hz=>?_;have hi:IntsAre its ns:=uk rv;obtain⟨ys,e⟩:=hi.allInts.items;have hns:ns=ys.toList.map (·.1):=by
  rw[<- hi.numsOf,<- nums_intItems,<- e]
 have hsz:0<ys.size:=by
  have h3:0<ns.length:=XD.mpr hne;rw[hns,Zql,ZN] at h3;exact h3
 have hl':=p.isList;rw[e] at hl';refine max_intList (I.ok.hd hc) hl' hsz λv h' tk hv hk=>?_;obtain⟨t,rfl⟩:=intItems_at hv;obtain⟨h1,h2⟩:=argBest_gt (numAt ys) (ys.size-1);refine⟨.int (ue ns),H,I.kept hk,⟨t,?_⟩,q⟩
 congr 1
 refine nB ?_ λb hb=>?_
 .rw[hns,numAt_eq];exact PySem.getD_mem (by rw[Zql,ZN];omega)
 .rw[hns] at hb;refine zc1b (PySem.mem_getD hb) λj hj zr2=>?_;subst zr2;rw[Zql,ZN] at hj;rw[<- numAt_eq];exact h2 j ()
def call_minL (hc:X.calm=true):zB X (.builtin "min") (λxs H Q=>∃a ns,xs=[.ref a]/\SqL X.K H a (ns.map V.int)/\ns ≠ []/\Q (.int (nN ns)) H):=by
 intro Y s Z H xs us Q I r h;refine zc2d h λa ns zr2 hl hne q=>?_;subst zr2;refine zc1b (wp r) λu zr1 ru=>?_;subst zr1;obtain rfl:u=Value.ref a:=ru;refine zc1c (I.list hl) λits rv p hz=>?_;have hi:IntsAre its ns:=uk rv;obtain⟨ys,e⟩:=hi.allInts.items;have hns:ns=ys.toList.map (·.1):=by
  rw[<- hi.numsOf,<- nums_intItems,<- e]
 have hsz:0<ys.size:=by
  have h3:0<ns.length:=XD.mpr hne;rw[hns,Zql,ZN] at h3;exact h3
 have hl':=p.isList;rw[e] at hl';refine min_intList (I.ok.hd hc) hl' hsz λv h' tk hv hk=>?_;obtain⟨t,rfl⟩:=intItems_at hv;obtain⟨h1,h2⟩:=argBest_lt (numAt ys) (ys.size-1);refine⟨.int (nN ns),H,I.kept hk,⟨t,?_⟩,q⟩
 congr 1
 refine kK ?_ λb hb=>?_
 .rw[hns,numAt_eq];exact PySem.getD_mem (by rw[Zql,ZN];omega)
 .rw[hns] at hb;refine zc1b (PySem.mem_getD hb) λj hj zr2=>?_;subst zr2;rw[Zql,ZN] at hj;rw[<- numAt_eq];exact h2 j ()
def zp (P:Program)(w:World)(K:W.Frag)(mg:Ye)(base:Heap)(name:Str)(k:Nat)(ps:Yk)(sp:Sp):Prop:=
 ∃f fd,FnOk P w K mg base CX0 k f fd ps sp/\pX K fd ps []/\W.keepIn K (.ref f)=true/\mg name=some (.ref f)
theorem zp.mono {P:Program}{w:World}{K:W.Frag}{mg:Ye}{base:Heap}{name:Str}{j k:Nat}{ps:Yk}{sp:Sp}(c:zp P w K mg base name j ps sp)(h:j<=k):zp P w K mg base name k ps sp:=by
 refine zc2b c λf fd F r=>?_;exact⟨f,fd,F.mono h,r⟩
def fY (c:zp X.prog X.w X.K X.mg X.base name k ps sp)(hr:Room k X.A)(hg:Gl X name)(ha:PA X (e::es) t)
 (hdb:autoParam ((name == ("__debug__" : Str))=false) zav._auto_1) (he:starEach (e::es) X.env=(false,eval e X.env)::starEach es X.env:=by rfl) (hpl:(backTo pos (starEach es X.env)).any (·.1)=false:=by rfl):
 PE X (.Call (.Name name p) (e::es) [] pos) (eV sp [] E0 t):=by
 refine zc2d c λf fd F b hk hm=>?_;exact j6 F hr hg hm hk b .nil pass0 ha hdb he hpl
end
def yQ (h:H p=none)(o:HO):yC H (upd H p o):=λb u q=>by rw[zD (yW q h)];exact q
def ua (h:n<=1000):n<=sizeLine:=Zy (oR h)
noncomputable def pD (p:Int×Int):PyData:=.tuple [.int p.1,.int p.2]
noncomputable def rD (r:X6):PyData:=.tuple (r.map pD)
def qA:Is H (pD p) v↔∃a,v=.ref a/\H a=some (.tup [.int p.1,.int p.2]):=by
 unfold pD;rw[Is.tuple_iff];constructor
 .rintro⟨a,xs,h1,h2,h3⟩;have e:xs=[.int p.1,.int p.2]:=vf (ns:=[p.1,p.2]) h3;subst e;exact⟨a,h1,h2⟩
 .rintro⟨a,h1,h2⟩;exact⟨a,_,h1,h2,rA [p.1,p.2]⟩
def mP (o:HO)(s:yC H H')(h:H l=none):yC H (upd H' l o):=λb u e=>by
 rw[zD (yW e h)];exact s b u e
theorem rS:∀ns:Yh,y7 (ns.map PyData.int)=true
 | []=>by show y7 []=true;unfold y7;rfl
 |n::ns=>by
  show y7 (PyData.int n::ns.map PyData.int)=true;unfold y7;rw[rS ns];unfold yc;rfl
def ub (p:Int×Int):yc (pD p)=true:=by unfold pD yc;exact rS [p.1,p.2]
theorem qg:∀ns:Yh,PyData.depthAll (ns.map PyData.int)=0
 | []=>by show PyData.depthAll []=0;unfold PyData.depthAll;rfl
 |n::ns=>by
  show PyData.depthAll (PyData.int n::ns.map PyData.int)=0;unfold PyData.depthAll;rw[qg ns];unfold PyData.depth;rfl
def uK:bootBuiltins "len" = some (.builtin "len"):=boot_len
def lK:bootBuiltins "max" = some (.builtin "max"):=boot_max
def oU:bootBuiltins "min" = some (.builtin "min"):=boot_min
def wG:bootBuiltins "sorted" = some (.builtin "sorted"):=boot_sorted
def bt_sum:bootBuiltins "sum" = some (.builtin "sum"):=boot_sum
def gU:bootBuiltins "int" = some (.type "int"):=boot_int
def bt_list:bootBuiltins "list" = some (.type "list"):=boot_list
def vM:bootBuiltins "tuple" = some (.type "tuple"):=boot_tuple
def um:bootBuiltins "dict" = some (.type "dict"):=boot_dict
def bt_set:bootBuiltins "set" = some (.type "set"):=boot_set
def sf:entryFor table "dict.update.loop" = some Builtin.«dict.update.loop»:=entryFor_of_tree (by kernel_rfl)
def xW:plainId "dict.update.loop" = true:=by decide +kernel
section
variable {prog:Program}{w:World}{K:Type}[DecidableEq K]{knd:KeyKind prog w K}
def dloop (knd:KeyKind prog w K)(it t d:Addr)(items:Yn)(ps:List (K×Value))(h0:Heap)(hlen:items.size=ps.length)
 (hit:∀(j:Nat) k v,ps[j]? = some (k,v)->∃ta key,items[j]? = some (.ref ta)/\h0.IsTuple ta #[key,v]/\knd.is k key=true/\ta≠it/\ta≠d)
 (ht0:h0.IsTuple t items) (n1:t≠it) (n2:t≠d) (n3:d≠it) (m:Nat):
 ∀i:Nat,ps.length-i=m->∀(A:Around) (R:Result->Yz) (s:Shared) (kvs:List (K×Value)),A.handled=none->s.heap.IsTupleIter it t i->(∀b o,b≠it->b≠d->h0.get? b=some o->s.heap.get? b=some o) ->
  s.heap.DictOf knd d kvs->kvs.length+(ps.length-i)<=sizeLine ->
  (∀h' tk,h'.DictOf knd d (merged kvs (ps.drop i))->(∀b o,b≠it->b≠d->h0.get? b=some o->h'.get? b=some o)->R (.ok (.ret .none)) { s with heap:=h',toks:=tk }) ->
  wpAny (model prog w) A.in1 (Builtin.«dict.update.loop» ⟨[.ref d,.ref it,rawInt i,.none],[]⟩) (λfin s'=>match fin with | .done f=>R (.ok f) s' | .again c'=>c'.quiet=true/\codeAny (model prog w) A c' R s') (λe s'=>R (.error e) s') s:=by
 induction m with
 |zero =>
  intro i hm A R s kvs hh st keep hD hz hR;have hx:items[i]? = none:=by rw[Array.getElem?_eq_none_iff];omega
  have ht:s.heap.IsTuple t items:=by
   refine zc1b ht0 λo ho r=>?_;exact⟨o,keep t o n1 n2 ho,r⟩
  unfold Builtin.«dict.update.loop»;refine Za (wpAny_pyNext_tuple_end hh st ht hx λh' eb=>?_);have hd0:ps.drop i=[]:=XC ();rw[hd0] at hR;have hD':h'.DictOf knd d kvs:=by
   refine zc3b hD λo es ep ho r=>?_;exact⟨o,es,ep,eb d o n3 ho,r⟩
  have fin:=hR h' s.toks hD' (λb o h1 h2 e=>eb b o h1 (keep b o h1 h2 e));unfold Builtin.Dict.addKeywords;exact Za (Zb (Zb fin))
 |succ m ih =>
  intro i hm A R s kvs hh st keep hD hz hR;have hlt:i<ps.length:=()
  obtain⟨kv,hkv⟩:∃kv,ps[i]? = some kv:=⟨_,Zqg hlt⟩;refine zc2a (hit i kv.1 kv.2 hkv) λta key zz=>xf zz λhx hta hkey a1 a2=>?_;have ht:s.heap.IsTuple t items:=by
   refine zc1b ht0 λo ho r=>?_;exact⟨o,keep t o n1 n2 ho,r⟩
  unfold Builtin.«dict.update.loop»;refine Za (wpAny_pyNext_tuple_item st ht hx λh1 st1 sb1=>?_);refine zc1c hta λot hot hoc zz=>zc1a zz λnn hod=>?_;have hot1:h1.get? ta=some ot:=(sb1.2 ta a1).trans (keep ta ot a1 a2 hot);have hD1:h1.DictOf knd d kvs:=by
   refine zc3b hD λo es ep ho r=>?_;exact⟨o,es,ep,(sb1.2 d n3).trans ho,r⟩
  dsimp only;refine Za (wpAny_holding (Za (wpAny_tryCatch ?_)));unfold Builtin.Dict.pairItems;refine Za (wpAny_typeOf (T:= "tuple") ⟨ot,hot1,hoc⟩ ?_);rw[Zd (by decide)];refine Za (wpAny_seqItems hot1 hod (Zb ?_));show wpAny _ _ (holding [key,kv.2] (dictSet d key kv.2)) _ _ _;refine wpAny_holding (wpAny_dictSet_pairs hkey hD1 (λh2 hD2 sb2=>?_) ());have hc:((i:Int)+1)=((i+1:Nat):Int):=by push_cast;rfl
  refine Zb ?_;rw[hc];have st2:h2.IsTupleIter it t (i+1):=by
   refine zc1b st1 λo ho r=>?_;exact⟨o,(sb2.2 it (Ne.symm n3)).trans ho,r⟩
  have k2:∀b o,b≠it->b≠d->h0.get? b=some o->h2.get? b=some o:=λb o b1 b2 e=>(sb2.2 b b2).trans ((sb1.2 b b1).trans (keep b o b1 b2 e));have z2:(stored kvs kv.1 kv.2).length+(ps.length-(i+1))<=sizeLine:=by
   have:(stored kvs kv.1 kv.2).length<=kvs.length+1:=by
    unfold stored
    split
    .rw[Zql];omega
    .rw[ZG,Z4];omega
   rw[hm] at hz;rw[Nat.sub_succ,hm];exact Zh (Nat.add_le_add_right this m) (Zh (XB (Nat.succ_add_eq_add_succ kvs.length m)) hz)
  have e:merged kvs (ps.drop i)=merged (stored kvs kv.1 kv.2) (ps.drop (i+1)):=by
   rw[ZU hlt];have:ps[i]=kv:=by
    have:=Zqg hlt;rw[this] at hkv;exact Zqi hkv
   rw[this];rfl
  exact⟨plainId_quiet xW _,codeAny_builtin sf (by
   rw[Around.under_plainId xW _];exact ih (i+1) (by rw[Nat.sub_succ,hm];rfl) A R { s with heap:=h2,toks:=s.toks+1 } (stored kvs kv.1 kv.2) hh st2 k2 hD2 z2 λh' tk hD' kk=>hR h' tk (by rw[e];exact hD') kk)⟩
end
def no_keys_lookup:typeLookup (.type "tuple") "keys" = pure none:=by rw[typeLookup_type,builtinLookup_eq_fast];kernel_rfl
theorem getAttrQ_miss_tuple
 (hx:s.heap.get? a=some o) (hc:o.cls=.type "tuple") (hdat:o.data=.seq xs k) (hd:o.dict=none) (hmiss:typeLookup (.type "tuple") name=pure none) (hname:(["__module__", "__name__", "__qualname__", "__doc__", "__annotations__"]:Yk).contains name=false) (hA:A.handled=none)
 (h:∀h' tk,(∀b o,s.heap.get? b=some o->h'.get? b=some o)->Q none { s with heap:=h',toks:=tk }) (hsz:name.length+100<=sizeLine:=by size_fits):
 YG prog w A (getAttr? (.ref a) name) Q E s:=by
 obtain⟨c,dct,dat,sl⟩:=o;simp only at hc hdat hd;subst hc hdat hd;obtain⟨hp,g,d,tk,os⟩:=s;have hT:∀tk',(⟨hp,g,d,tk',os⟩:Shared).TypeIs (.ref a) "tuple" := λ_=>⟨_,hx,rfl⟩;have f1:=sub_AttributeError;have f3:=F.slot_tuple_getattribute.lookup;have f4:=F.slot_tuple_getattribute.bind (.ref a);have f5:=am_tuple_getattr_none;unfold getAttr? getAttrBy? getAttrBy
 repeat (any_goals (first|assumption|exact hT _|((with_reducible show wpAny _ _ (call (Value.builtin "tuple.__getattribute__") _ _) _ _ _);refine call_meets F.slot_tuple_getattribute (hT _) am_entry_tuple_getattribute (F.args_tuple_getattribute_2 _ _) (meets_getattribute_miss_tuple a xs k sl name _ hmiss hname hsz) ⟨hx,hA,λh' tk' e hx'=>?_⟩)|wp_step))
 refine zc2a hx'.there λt' u' he=>?_;show wpAny _ _ (getattributeRaised _ _ _ _ _ _ _) _ _ _;unfold getattributeRaised
 repeat (any_goals (first|assumption|wp_step))
 exact h _ _ hx'.of.keeps
section
variable {prog:Program}{w:World}{K:Type}[DecidableEq K]{A:Around}{E:Ya}{s:Shared}
def dict_of_pairs (knd:KeyKind prog w K)(hA:A.handled=none)(ho:s.heap.get? t=some o)(hc:o.cls=.type "tuple")(hdat:o.data=.seq items n)(hd:o.dict=none)
 (hlen:items.size=ps.length) (hit:∀(j:Nat) k v,ps[j]? = some (k,v)->∃ta key,items[j]? = some (.ref ta)/\s.heap.IsTuple ta #[key,v]/\knd.is k key=true) (hz:ps.length<=sizeLine)
 (h:∀h' tk,h'.DictOf knd s.heap.objs.size (merged [] ps)->(∀b u,s.heap.get? b=some u->h'.get? b=some u)->Q (.ref s.heap.objs.size) { s with heap:=h',toks:=tk }):
 YG prog w A (call (.type "dict") [.ref t]) Q E s:=by
 refine callType_codes (Q₁:=λobj s₁=>obj=.ref s.heap.objs.size/\s₁={ s with heap:=s.heap.push { cls:=.type "dict",data:=.dict #[] } }) F.kt_called_dict (F.kt_typeCall_dict_1 _) F.entry_dict_init (kt_code_dict_new _ ⟨rfl,rfl⟩) ?_;rintro obj s₁ ⟨rfl,rfl⟩;have hnew:(s.heap.push { cls:=.type "dict",data:=.dict #[] }).DictOf knd s.heap.objs.size []:=Heap.DictOf.new s.heap;refine⟨hnew.typeIs,F.args_dict_init_2 _ _,?_⟩;have ho1:(s.heap.push { cls:=.type "dict",data:=.dict #[] }).get? t=some o:=Zq _ ho;unfold Builtin.«dict.__init__»;refine Za ?_;unfold Builtin.Dict.selfAndRest;refine Za (wpAny_notOrdered_dict hnew.typeIs ?_);show wpAny _ _ (pure (s.heap.objs.size,[Value.ref t])) _ _ _;refine Zb ?_;show wpAny _ _ (Builtin.Dict.updateFrom "dict.__init__" s.heap.objs.size (.ref t) [] .none) _ _ _;unfold Builtin.Dict.updateFrom;refine Za (wpAny_typeOf (T:= "tuple") ⟨o,ho1,hc⟩ ?_);rw[Zd (by decide)];refine Za (getAttrQ_miss_tuple ho1 hc hdat hd no_keys_lookup (by decide +kernel) hA (λh2 tk2 k2=>?_) (by decide));rw[Zd (by rfl)];have ht2:h2.IsTuple t items:=⟨o,k2 _ _ ho1,hc,n,hdat⟩;have lt:s.heap.objs.size<h2.objs.size:=by
  refine zc3b hnew λod _ _ e _=>?_;exact Zk (k2 _ _ e)
 have D2:h2.DictOf knd s.heap.objs.size []:=by
  refine zc3b hnew λod es ep e r=>?_;exact⟨od,es,ep,k2 _ _ e,r⟩
 refine Za (wpAny_rule ?_);refine Za (wpAny_pyIter_tuple ht2 ?_);have lt0:∀b u,s.heap.get? b=some u->b≠s.heap.objs.size/\b≠h2.objs.size:=λb u e=>by
  have z:=Zk e;exact⟨Zi z,Zi (Xj z lt)⟩
 have up:∀b u,s.heap.get? b=some u->h2.get? b=some u:=λb u e=>k2 b u (Zq _ e);have hit2:∀(j:Nat) k v,ps[j]? = some (k,v)->∃ta key,items[j]? = some (.ref ta)/\h2.IsTuple ta #[key,v]/\knd.is k key=true/\ta≠h2.objs.size/\ta≠s.heap.objs.size:=λj k v e=>by
  refine zc2c (hit j k v e) λta key a1 zr3 a4=>?_;obtain⟨oa,a2,a3⟩:=zr3;exact⟨ta,key,a1,⟨oa,up _ _ a2,a3⟩,a4,(lt0 ta oa a2).2,(lt0 ta oa a2).1⟩
 refine Zb ⟨plainId_quiet xW _,codeAny_builtin sf ?_⟩;rw[Around.under_plainId xW _];refine dloop knd h2.objs.size t s.heap.objs.size items ps h2 hlen hit2 ht2 (lt0 t o ho).2 (lt0 t o ho).1 (Zi lt) ps.length 0 (by simp) A.in1 _ _ [] hA ⟨_,Zr _ rfl,rfl,rfl⟩ (λb u _ _ e=>Zq _ e) ?_ (by simpa using hz) ?_
 .refine zc3b D2 λod es ep e r=>?_;exact⟨od,es,ep,Zq _ e,r⟩
 .intro h' tk hD' kk;exact⟨rfl,h h' tk hD' λb u e=>kk b u (lt0 b u e).2 (lt0 b u e).1 (up b u e)⟩
end
noncomputable def kvR (r:X6):List (Key×V):=r.map λp=>(Sum.inl p.1,V.int p.2)
def i8 (r:X6):List (Key×V):=su [] (kvR r)
theorem vi (ok:HOk P w H h):∀{r:X6} {xs:YB} {us:Yf},zw H (r.map pD) xs->yt xs us ->
 ∃ps:List (Key×Value),KV (kvR r) ps/\us.length=ps.length/\∀(j:Nat) k v,ps[j]? = some (k,v)->∃ta key,us[j]? = some (.ref ta)/\h.IsTuple ta #[key,v]/\(zZ P w).is k key=true
 | [],xs,us,ha,r=>by
  have ha:zw H [] xs:=ha;unfold zw at ha;subst ha;cases r;exact⟨[],.nil,rfl,λj k v e=>by simp at e⟩
 |p::r,xs,us,ha,rv=>by
  have ha:zw H (pD p::r.map pD) xs:=ha;unfold zw at ha;refine zc2c ha λx ys zr2 h1 h2=>?_;subst zr2;cases rv with
  | @cons _ u _ us' r1 r2 =>
   refine zc1c (vi ok h2 r2) λps k1 k2 k3=>?_;refine zc1b (qA.mp h1) λa zr1 ht=>?_;subst zr1;obtain rfl:u=Value.ref a:=r1;refine wx ((show yE P w H h a (.tup [.int p.1,.int p.2]) from ok a _ ht)) λ_ zz=>zc1b zz λits ri zz=>zc1c zz λo e1 e2 zz=>zc1a zz λn e3=>?_;refine zc2c (iW ri) λu1 u2 zr2 q1 q2=>?_;subst zr2;obtain⟨t1,rfl⟩:=(show ∃t,u1=Value.int p.1 t from q1);refine⟨(Sum.inl p.1,u2)::ps,.cons ⟨rfl,q2⟩ k1,by rw[Zu,Zu,k2],λj k v e=>?_⟩;cases j with
   |zero =>
    have e:some ((Sum.inl p.1:Key),u2)=some (k,v):=e;cases e;exact⟨a,.int p.1 t1,rfl,⟨o,e1,e2,n,e3⟩,pS p.1 t1⟩
   |succ j =>
    exact k3 j k v (by simpa using e)
section
variable {X:Cx}
def call_dictP (hc:X.calm=true):zB X (.type "dict") (λxs H Q=>∃a r,xs=[.ref a]/\Is H (rD r) (.ref a)/\r.length<=100/\∀p,H p=none->Q (.ref p) (upd H p (.dK (i8 r)))):=by
 intro Y s Z H xs us Q I rv h;refine zc2d h λa r zr2 hr hz q=>?_;subst zr2;refine zc1b (wp rv) λu zr1 ru=>?_;subst zr1;obtain rfl:u=Value.ref a:=ru;unfold rD at hr;rw[Is.tuple_iff] at hr;refine zc2c hr λa' xs ea ht hA=>?_;cases ea;refine wx ((show yE X.prog X.w H s.heap a (.tup xs) from I.hok a _ ht)) λzr0 zz=>zc1b zz λits ri zz=>zc1c zz λo e1 e2 zz=>zc1a zz λn e3=>?_;obtain⟨hl,od,e0,d0⟩:=zr0;rw[e0] at e1;obtain rfl:=Zqi e1;refine zc1c (vi I.hok hA ri) λps k1 k2 k3=>?_;have lk:=k1.length;have lr:(kvR r).length=r.length:=Zql _;refine dict_of_pairs (zZ X.prog X.w) (I.ok.hd hc) e0 e2 e3 d0 (by rw[Zm];exact k2) (λj k v e=>?_) (by rw[<- lk,lr];exact ua ()) λh' tk hD hk=>?_
 .refine zc2c (k3 j k v e) λta key b1 b2 b3=>?_;exact⟨ta,key,by simpa using b1,b2,b3⟩
 .refine⟨.ref s.heap.objs.size,upd H s.heap.objs.size (.dK (i8 r)),I.laid (a:=s.heap.objs.size) (o:=.dK (i8 r)) (t':=tk) hk (Zf _) ?_,rfl,q _ (I.hok.fresh (Zf _))⟩;refine fL ?_ (beq_eq_false_iff_ne.mpr (Ne.symm (Zi I.big))) (KV.merge k1 .nil) hD;have z:=vI (kvR r) [];rw[ZB,lr] at z;exact ua (by unfold i8;omega)
end
noncomputable def zj:X6->Int->Option Int
 | [],_=>none
 |p::r,t=>match zj r t with
  |some w=>some w
  |none=>if p.1=t then some p.2 else none
def lookR_append (r s:X6)(t:Int):zj (r++s) t=match zj s t with|some w=>some w|none=>zj r t:=by
 induction r with
 |nil=>simp[zj];cases zj s t<;>rfl
 |cons p r ih =>
  rw[List.cons_append,zj,ih];cases zj s t with
  |none=>rw[zj]
  |some w=>rfl
def zy (h:zj r t=some w):(t,w)∈r:=by
 induction r with
 |nil=>simp[zj] at h
 |cons p r ih =>
  rw[zj] at h;cases q:zj r t with
  |some v =>
   rw[q] at h;obtain rfl:=Zqi h;exact Zqm _ (ih q)
  |none =>
   rw[q] at h;by_cases e:p.1=t
   .rw[Zd e] at h;obtain rfl:=Zqi h;subst e;exact Zqs
   .rw[Ze e] at h;exact zqn h
def qj (h:zj r t=none):∀w,(t,w)∉r:=by
 induction r with
 |nil=>intro w hw;cases hw
 |cons p r ih =>
  intro w hw;rw[zj] at h;cases q:zj r t with
  |some v=>rw[q] at h;cases h
  |none =>
   rw[q] at h;rcases ZF.mp hw with e|e
   .rw[Zd (by rw[<- e])] at h;cases h
   .exact ih q w e
noncomputable def yH (r:X6):Prop:=(r.map (·.1)).Nodup
def yH.eq (h:yH r)(h1:(t,v)∈r)(h2:(t,w)∈r):v=w:=by
 induction r with
 |nil=>cases h1
 |cons p r ih =>
  obtain⟨n1,n2⟩:=List.nodup_cons.mp (show(p.1::r.map (·.1)).Nodup from h);rcases ZF.mp h1 with e1|e1<;>rcases ZF.mp h2 with e2|e2
  .rw[<- e1] at e2;cases e2;rfl
  .exact Zn (ZD.mpr ⟨(t,w),e2,by rw[<- e1]⟩) n1
  .exact Zn (ZD.mpr ⟨(t,v),e1,by rw[<- e2]⟩) n1
  .exact ih n2 e1 e2
def yH.look (h:yH r)(hm:(t,w)∈r):zj r t=some w:=by
 cases q:zj r t with
 |none=>exact Zn hm (qj q w)
 |some v=>rw[h.eq (zy q) hm]
def nk (o:X6)(p:Int×Int):Bool:=match zj o p.1 with
 |some w=>decide (p.2<=w)
 |none=>false
def zm (r o:X6):Bool:=r.all (nk o)
def pj (h:yH r)(hl:∀p∈r,p.1<t):yH (r++[(t,w)]):=by
 unfold yH at h ⊢;rw[ZV,List.nodup_append];refine⟨h,by simp,?_⟩;intro a ha b hb;refine zc1b (ZD.mp ha) λp hp zr2=>?_;subst zr2;have:=hl p hp;simp at hb;subst hb;omega
def wb {r o:X6}{i:Nat}{p:Int×Int}(hp:r[i]? = some p)(h:nk o p=false):zm r o=false:=by
 unfold zm;rw[List.all_eq_false];exact⟨p,ZS hp,by rw[h];simp⟩
def zL {α:Type}{r:List α}{p:α}(hp:r[i]? = some p):r.take (i+1)=r.take i++[p]:=by
 rw[List.take_succ,hp];rfl
def rK {r o:X6}{i:Nat}{p:Int×Int}(hp:r[i]? = some p)(h:zm (r.take i) o=true)(h1:nk o p=true):zm (r.take (i+1)) o=true:=by
 rw[zL hp];unfold zm at h ⊢;rw[List.all_append,h,XA,h1];rfl
open PySem PyProof.Rows
def gX {l r k x:Nat}(h:l<r)(gap:r-l<=k-x):∃m,(l+r) / 2=m/\l<=m/\m<r/\m-l<=k-(x+1)/\r-(m+1)<=k-(x+1):=by
 have a:l<=(l+r) / 2:=()
 have b:(l+r) / 2<r:=()
 generalize (l+r) / 2=m at a b ⊢;exact⟨m,rfl,a,b,Nat.le_pred_of_lt (Zg (Nat.sub_lt_sub_right a b) gap),Nat.pred_le_pred (Zh (Nat.sub_le_sub_left a r) gap)⟩
structure Wk (lt:Yd):Prop where
 asy:∀i j,lt i j=true->lt j i=false
 neg:∀i j k,lt i k=true->lt i j=true\/lt j k=true
noncomputable def Bef (lt:Yd)(i j:Nat):Prop:=lt i j=true\/(lt j i=false/\i<j)
section
variable {lt:Yd}(W:Wk lt)
include W
theorem Bef.no {i j:Nat}(h:Bef lt i j):lt j i=false:=by
 rcases h with h|h
 .exact W.asy _ _ h
 .exact h.1
theorem Bef.trans {i j k:Nat}(h1:Bef lt i j)(h2:Bef lt j k):Bef lt i k:=by
 have n1:=Bef.no W h1;have n2:=Bef.no W h2;have n3:lt k i=false:=by
  cases q:lt k i with
  |false=>rfl
  |true =>
   rcases W.neg k j i q with z|z
   .rw[n2] at z;exact zqb z
   .rw[n1] at z;exact zqb z
 rcases h1 with a|a
 .rcases W.neg i k j a with z|z
  .exact .inl z
  .rw[n2] at z;exact zqb z
 .rcases h2 with b|b
  .rcases W.neg j i k b with z|z
   .rw[a.1] at z;exact zqb z
   .exact .inl z
  .exact .inr ⟨n3,()⟩
end
noncomputable def gx (ix:Yi)(k:Nat):Nat:=(ix[k]?).getD 0
def jk {ix:Yi}{k:Nat}(h:k<ix.size):ix[k]? = some (gx ix k):=by
 unfold gx;rw[ZH h];rfl
def ow {ix:Yi}{src d:Nat}(hs:src<ix.size)(hd:d<=src)(k:Nat):gx (bubble ix src d) k=if k=src-d then gx ix src else if src-d<k/\k<=src then gx ix (k-1) else gx ix k:=by
 unfold gx;rw[getElem?_bubble hs d hd k]
 repeat' split
 all_goals rfl
def wy {ix:Yi}{i j:Nat}(hj:j<=ix.size)(k:Nat):gx (mirror ix i j ((j-i) / 2)) k=if i<=k/\k<j then gx ix (i+j-1-k) else gx ix k:=by
 unfold gx;rw[getElem?_mirror_all hj k]
 split
 all_goals rfl
def swap_map {α β: Type}(f:α -> β)(xs:Array α)(i j:Nat):(xs.map f).swapIfInBounds i j=(xs.swapIfInBounds i j).map f:=by
 apply Array.ext_getElem?;intro k;by_cases hi:i<xs.size
 .by_cases hj:j<xs.size
  .rw[getElem?_swapIB (by simpa -iota using hi) (by simpa -iota using hj),Xs,Xs,Xs,Xs,getElem?_swapIB hi hj]
   repeat' split
   all_goals rfl
  .rw[Array.swapIfInBounds_def,Array.swapIfInBounds_def,dif_pos (by simpa -iota using hi),dif_neg (by simpa -iota using hj),dif_pos hi,dif_neg hj]
 .rw[Array.swapIfInBounds_def,Array.swapIfInBounds_def,dif_neg (by simpa -iota using hi),dif_neg hi]
theorem tP {α β γ: Type}(f:α -> β)(p q:γ -> Nat):∀(l:List γ) (xs:Array α),l.foldl (λa k=>a.swapIfInBounds (p k) (q k)) (xs.map f)=(l.foldl (λa k=>a.swapIfInBounds (p k) (q k)) xs).map f
 | [],xs=>rfl
 |k::l,xs=>by
  rw[XF,XF,swap_map,tP f p q l]
def bubble_map {α β: Type}(f:α -> β)(xs:Array α)(src d:Nat):bubble (xs.map f) src d=(bubble xs src d).map f:=tP f _ _ _ xs
def mirror_map {α β: Type}(f:α -> β)(xs:Array α)(i j d:Nat):mirror (xs.map f) i j d=(mirror xs i j d).map f:=tP f _ _ _ xs
structure Pl (n:Nat)(ix:Yi)(k:Nat):Prop where
 size:ix.size=n
 perm:ix.Perm (Array.range n)
 pre:∀a,a<k->gx ix a<k
 suf:∀a,k<=a->a<n->gx ix a=a
def Pl.lt {n k a:Nat}{ix:Yi}(h:Pl n ix k)(hk:k<=n)(ha:a<n):gx ix a<n:=by
 by_cases c:a<k
 .exact Zg (h.pre a c) hk
 .rw[h.suf a () ha];exact ha
def Up (lt:Yd)(ix:Yi)(k:Nat):Prop:=∀a b,a<b->b<k->Bef lt (gx ix a) (gx ix b)
structure SB (it:Nat->Keyed)(kind:SortKind)(ix:Yi)(st:SortSt):Prop where
 arr:arrOf st=ix.map it
 kd:kindOf st=kind
 fl:failedOf st=none
 pd:pendingOf st = #[]
noncomputable def Orc (prog:Program)(w:World)(A:Around)(s:Shared)(kind:SortKind)(it:Nat->Keyed)(lt:Yd)(n:Nat):Prop:=
 ∀i j,i<n->j<n->∀(E:Ya) (Q:Bool->Yz),Q (lt i j) s->YG prog w A (keyLt' kind (it i).1 (it j).1) Q E s
end L2
section
variable {prog:Program}{w:World}{A:Around}{E:Ya}{s:Shared}{kind:SortKind}{it:Nat->Keyed}{lt:Yd}{N n lo ia ib na nb m g mg ac bc k t i j:Nat}{st st0:SortSt}{xs ys ix bs:Yi}{o:Yj}{v:Array Keyed}
namespace L2
noncomputable def w5:Bool->Keyed->Array Keyed->Nat->Nat->Nat->StateT SortSt Sem (Option Nat):=sortPriv% PySem.Builtin.gallop
noncomputable def qT:Array Keyed->Array Keyed->StateT SortSt Sem (Array Keyed):=sortPriv% PySem.Builtin.mergeLo
noncomputable def qH:Array Keyed->Array Keyed->StateT SortSt Sem (Array Keyed):=sortPriv% PySem.Builtin.mergeHi
abbrev KA:=Array Keyed
abbrev SM:=StateT SortSt Sem
abbrev C3:=Option (Option Nat)×Nat×Nat
noncomputable def be (lt:Yd)(left:Bool)(x k:Nat):Bool:=if left then lt x k else !lt k x
section
def pZ {i j:Nat}{Q:Option Bool->Yy}(O:Orc prog w A s kind it lt N)(kd:kindOf st=kind)(hi:i<N)(hj:j<N)(h:Q (some (lt i j)) st):YH prog w A E s (lt' (it i) (it j)) Q st:=by
 rw[lt'_eq];refine Yo (wpS_get ?_);rw[kd];exact Yo (wpS_lift (wpAny_attempt (O _ _ hi hj _ _ ⟨rfl,Yp h⟩)))
def xA {xs:Yi}{p:Nat}{Q:Keyed->Yy}(hp:p<xs.size)(h:Q (it (gx xs p)) st):YH prog w A E s (elem' (xs.map it) p) Q st:=by
 have e:(xs.map it)[p]? = some (it (gx xs p)):=by rw[Xs,jk hp];rfl
 rw[elem'_eq,e];exact Yp h
def wi {α:Type}{c:Prop}[Decidable c]{m n:SM α}{Q:α -> Yy}(h:c->YH prog w A E s m Q st)(k:¬c->YH prog w A E s n Q st):YH prog w A E s (if c then m else n) Q st:=by
 by_cases z:c
 .rw[Zd z];exact h z
 .rw[Ze z];exact k z
noncomputable def gaB (left:Bool)(key:Keyed)(arr:KA)(base i:Nat):SM (Option Bool):=elem' arr (base+i) >>= λx=>if left=true then lt' x key else lt' key x >>= λr=>pure (r.map λb => !b)
def ga_B {left:Bool}{k:Nat}{xs:Yi}{p base:Nat}{Q:Option Bool->Yy}(O:Orc prog w A s kind it lt N)(kd:kindOf st=kind)(kn:k<N)(hp:base+p<xs.size)(xn:gx xs (base+p)<N)(h:Q (some (be lt left (gx xs (base+p)) k)) st):
 YH prog w A E s (gaB left (it k) (xs.map it) base p) Q st:=by
 refine Yo (xA hp ?_);cases left with
 |true=>exact pZ O kd xn kn h
 |false=>exact Yo (pZ O kd kn xn (Yp h))
noncomputable def gaI (b:Nat->SM (Option Bool))(lo hi:Nat):SM (ForInStep C3):=if lo ≥ hi then pure (.done (none,lo,hi)) else b (lo+(hi-lo) / 2) >>= λr=>match r with
 |some t=>if t=true then pure (.yield (none,lo+(hi-lo) / 2+1,hi)) else pure (.yield (none,lo,lo+(hi-lo) / 2))
 |_=>pure (.done (some none,lo,hi))
def gaJ (b:Nat->SM (Option Bool))(n lo hi:Nat):SM (Option Nat):=(forIn [:n] ((none,lo,hi):C3) λ_ c=>gaI b c.2.1 c.2.2) >>= λc=>match c.1 with
 |some r=>pure r
 |none=>pure (some c.2.2)
noncomputable def gaF (b:Nat->SM (Option Bool))(hint mx l o:Nat):SM (ForInStep C3):=if o ≥ mx then pure (.done (none,l,o)) else b (hint+o) >>= λr=>match r with
 |some t=>if(!t)=true then pure (.done (none,l,o)) else pure (.yield (none,o,2*o+1))
 |_=>pure (.done (some none,l,o))
noncomputable def gaG (b:Nat->SM (Option Bool))(hint mx l o:Nat):SM (ForInStep C3):=if o ≥ mx then pure (.done (none,l,o)) else b (hint-o) >>= λr=>match r with
 |some t=>if t=true then pure (.done (none,l,o)) else pure (.yield (none,o,2*o+1))
 |_=>pure (.done (some none,l,o))
def gaR (b:Nat->SM (Option Bool))(n hint:Nat):SM (Option Nat):=(forIn [:n] ((none,0,1):C3) λ_ c=>gaF b hint (n-hint) c.2.1 c.2.2) >>= λc=>match c.1 with
 |some r=>pure r
 |none=>gaJ b n (hint+c.2.1+1) (hint+min c.2.2 (n-hint))
def gaL (b:Nat->SM (Option Bool))(n hint:Nat):SM (Option Nat):=(forIn [:n] ((none,0,1):C3) λ_ c=>gaG b hint (hint+1) c.2.1 c.2.2) >>= λc=>match c.1 with
 |some r=>pure r
 |none=>gaJ b n (hint+1-min c.2.2 (hint+1)) (hint-c.2.1)
set_option smartUnfolding false in
def ga_eq {left:Bool}{k:Keyed}{a:KA}{base n hint:Nat}:w5 left k a base n hint=(gaB left k a base hint >>= λr=>match r with
 |some t=>if t=true then gaR (gaB left k a base) n hint else gaL (gaB left k a base) n hint
 |_=>pure none):=rfl
section
variable {P:Nat->Bool}{b:Nat->SM (Option Bool)}{Q:Option Nat->Yy}(hb:∀{i:Nat} {Q:Option Bool->Yy},i<n->Q (some (P i)) st->YH prog w A E s (b i) Q st)
 (mono:∀i j,i<j->j<n->P j=true->P i=true) (h:∀m,m<=n->(∀i,i<m->P i=true)->(∀i,m<=i->i<n->P i=false)->Q (some m) st)
include hb mono h
theorem bq {lo hi:Nat}(h0:lo<=hi)(hn:hi<=n)(t:∀i,i<lo->P i=true)(u:∀i,hi<=i->i<n->P i=false):YH prog w A E s (gaJ b n lo hi) Q st:=by
 refine Yo (Yq (Yr (I:=λx c sx=>sx=st/\∃lo hi,c=(none,lo,hi)/\lo<=hi/\hi<=n/\(∀i,i<lo->P i=true)/\(∀i,hi<=i->i<n->P i=false)/\hi-lo<=n-x) (Q:=λc sx=>sx=st/\∃m,c=(none,m,m)/\m<=n/\(∀i,i<m->P i=true)/\∀i,m<=i->i<n->P i=false) ?_ ?_ ⟨rfl,lo,hi,rfl,h0,hn,t,u,()⟩) ?_)
 .rintro x c sx _ hx ⟨rfl,lo,hi,rfl,h0,hn,t,u,g⟩;refine wi (λc=>?_) λc=>?_
  .have e:lo=hi:=Nat.le_antisymm h0 c;subst e;exact Yp ⟨rfl,lo,rfl,hn,t,u⟩
  .have c:lo<hi:=XN c;obtain⟨m,em,m0,m1⟩:∃m,lo+(hi-lo) / 2=m/\lo<=m/\m<hi:=⟨_,rfl,ZY _ _,Nat.add_lt_of_lt_sub' (Nat.div_lt_self (Nat.sub_pos_of_lt c) (by decide))⟩;have g1:hi-(m+1)<=n-(x+1):=Nat.pred_le_pred (Zh (Nat.sub_le_sub_left m0 hi) g);have g2:m-lo<=n-(x+1):=Nat.le_pred_of_lt (Zg (Nat.sub_lt_sub_right m0 m1) g);show wpS _ _ _ _ (b (lo+(hi-lo) / 2) >>= _) _ _;rw[em];refine Yo (hb (Zg m1 hn) (wi (λq=>Yp ⟨rfl,_,_,rfl,m1,hn,λi hi'=>?_,u,g1⟩) λq=>Yp ⟨rfl,_,_,rfl,m0,Zh (Zy m1) hn,t,λi h1 h2=>?_,g2⟩))
   .by_cases z:i=m
    .rw[z];exact q
    .exact mono _ _ () (Zg m1 hn) q
   .cases y:P i with
    |false=>rfl
    |true =>
     by_cases z:i=m
     .rw[z] at y;exact Zn y q
     .exact Zn (mono _ _ () h2 y) q
 .rintro c sx ⟨rfl,lo,hi,rfl,h0,hn,t,u,g⟩;rw[Nat.zero_max,Nat.sub_self] at g;have e:lo=hi:=Nat.le_antisymm h0 (Nat.le_of_sub_eq_zero (Nat.le_zero.mp g));subst e;exact⟨rfl,lo,rfl,hn,t,u⟩
 .rintro c sx ⟨rfl,m,rfl,m1,m2,m3⟩;exact Yp (h m m1 m2 m3)
theorem ga_R {hint:Nat}(hh:hint<n)(e:P hint=true):YH prog w A E s (gaR b n hint) Q st:=by
 refine Yo (Yq (Yr (I:=λx c sx=>sx=st/\∃l o,c=(none,l,o)/\l<o/\x+1<=o/\hint+l<n/\P (hint+l)=true) (Q:=λc sx=>sx=st/\∃l o,c=(none,l,o)/\l<o/\hint+l<n/\P (hint+l)=true/\(n-hint<=o\/(o<n-hint/\P (hint+o)=false))) ?_ ?_ ⟨rfl,0,1,rfl,Yu,Zf _,hh,e⟩) ?_)
 .rintro x c sx _ _ ⟨rfl,l,o,rfl,h1,h2,h3,h4⟩;refine wi (λc=>Yp ⟨rfl,l,o,rfl,h1,h3,h4,.inl c⟩) λc=>?_;have c1:o<n-hint:=XN c;have c2:hint+o<n:=Nat.add_lt_of_lt_sub' c1;refine Yo (hb c2 (wi (λq=>Yp ⟨rfl,l,o,rfl,h1,h3,h4,.inr ⟨c1,by simpa using q⟩⟩) λq=>Yp ⟨rfl,o,2*o+1,rfl,(),(),c2,by simpa using q⟩))
 .rintro c sx ⟨rfl,l,o,rfl,h1,h2,h3,h4⟩;rw[Nat.zero_max] at h2;exact⟨rfl,l,o,rfl,h1,h3,h4,.inl (Zh (Nat.sub_le _ _) (Xb h2))⟩
 .rintro c sx ⟨rfl,l,o,rfl,h1,h3,h4,h5⟩;show wpS _ _ _ _ (gaJ b n (hint+l+1) (hint+min o (n-hint))) _ _;refine bq hb mono h (Nat.add_lt_add_left (Nat.lt_min.mpr ⟨h1,Nat.lt_sub_iff_add_lt'.mpr h3⟩) hint) (Zh (Nat.add_le_add_left (Nat.min_le_right _ _) _) (XB (Nat.add_sub_of_le (Zy hh)))) (λi hi=>?_) λi h6 h7=>?_
  .by_cases z:i=hint+l
   .rw[z];exact h4
   .exact mono _ _ () h3 h4
  .rcases h5 with h5|⟨h5,h8⟩
   .rw[Nat.min_eq_right h5,Nat.add_sub_of_le (Zy hh)] at h6;exact Zn h7 (Nat.not_lt_of_le h6)
   .rw[XL (Zy h5)] at h6;cases y:P i with
    |false=>rfl
    |true =>
     by_cases z:i=hint+o
     .rw[z,h8] at y;cases y
     .rw[mono _ _ (Xh h6 (Ne.symm z)) h7 y] at h8;cases h8
theorem ga_L {hint:Nat}(hh:hint<n)(e:P hint=false):YH prog w A E s (gaL b n hint) Q st:=by
 refine Yo (Yq (Yr (I:=λx c sx=>sx=st/\∃l o,c=(none,l,o)/\l<o/\x+1<=o/\l<=hint/\P (hint-l)=false) (Q:=λc sx=>sx=st/\∃l o,c=(none,l,o)/\l<o/\l<=hint/\P (hint-l)=false/\(hint+1<=o\/(o<hint+1/\P (hint-o)=true))) ?_ ?_ ⟨rfl,0,1,rfl,Yu,Zf _,Nat.zero_le _,e⟩) ?_)
 .rintro x c sx _ _ ⟨rfl,l,o,rfl,h1,h2,h3,h4⟩;refine wi (λc=>Yp ⟨rfl,l,o,rfl,h1,h3,h4,.inl c⟩) λc=>?_;have c1:o<hint+1:=XN c;refine Yo (hb (Xr (Nat.sub_le _ _) hh) (wi (λq=>Yp ⟨rfl,l,o,rfl,h1,h3,h4,.inr ⟨c1,q⟩⟩) λq=>Yp ⟨rfl,o,2*o+1,rfl,(),(),ZX c1,Xw.mpr q⟩))
 .rintro c sx ⟨rfl,l,o,rfl,h1,h2,h3,h4⟩;rw[Nat.zero_max] at h2;exact⟨rfl,l,o,rfl,h1,h3,h4,.inl (Zh hh (Xb h2))⟩
 .rintro c sx ⟨rfl,l,o,rfl,h1,h3,h4,h5⟩;show wpS _ _ _ _ (gaJ b n (hint+1-min o (hint+1)) (hint-l)) _ _;refine bq hb mono h (Zh (Nat.sub_le_sub_left (Nat.lt_min.mpr ⟨h1,Nat.lt_succ_of_le h3⟩) (hint+1)) (XB (Nat.add_sub_add_right hint 1 l))) (Zh (Nat.sub_le _ _) (Zy hh)) (λi hi=>?_) λi h6 h7=>?_
  .rcases h5 with h5|⟨h5,h8⟩
   .rw[Nat.min_eq_right h5,Nat.sub_self] at hi;exact Zn hi (Z5 _)
   .rw[XL (Zy h5),Nat.succ_sub (ZX h5)] at hi;have hn:hint-o<n:=Xr (Nat.sub_le _ _) hh;by_cases z:i=hint-o
    .rw[z];exact h8
    .exact mono _ _ (Xh (ZX hi) z) hn h8
  .cases y:P i with
   |false=>rfl
   |true =>
    by_cases z:i=hint-l
    .rw[z,h4] at y;cases y
    .rw[mono _ _ () h7 y] at h4;cases h4
end
def xI {left:Bool}{k:Nat}{xs:Yi}{base n hint:Nat}{Q:Option Nat->Yy}(O:Orc prog w A s kind it lt N)(kd:kindOf st=kind)(kn:k<N)(hz:base+n<=xs.size)(xn:∀i,i<n->gx xs (base+i)<N)(hh:hint<n)
 (mono:∀i j,i<j->j<n->be lt left (gx xs (base+j)) k=true->be lt left (gx xs (base+i)) k=true)
 (h:∀m,m<=n->(∀i,i<m->be lt left (gx xs (base+i)) k=true)->(∀i,m<=i->i<n->be lt left (gx xs (base+i)) k=false)->Q (some m) st):YH prog w A E s (w5 left (it k) (xs.map it) base n hint) Q st:=by
 have hb:∀{i:Nat} {Q:Option Bool->Yy},i<n->Q (some (be lt left (gx xs (base+i)) k)) st->YH prog w A E s (gaB left (it k) (xs.map it) base i) Q st:=λhi q=>ga_B O kd kn (Zg (Nat.add_lt_add_left hi _) hz) (xn _ hi) q;rw[ga_eq];exact Yo (hb hh (wi (λe=>ga_R (P:=λi=>be lt left (gx xs (base+i)) k) hb mono h hh e) λe=>ga_L (P:=λi=>be lt left (gx xs (base+i)) k) hb mono h hh (Xw.mpr e)))
end
structure MInv (lt:Yd)(xs ys:Yi)(ia ib:Nat)(o:Yj):Prop where
 a:(o++xs.toList.drop ia).Pairwise (Bef lt)
 b:(o++ys.toList.drop ib).Pairwise (Bef lt)
 pm:(o++xs.toList.drop ia++ys.toList.drop ib).Perm (xs.toList++ys.toList)
def Mrg (lt:Yd)(xs ys:Yi)(o:Yj):Prop:=o.Perm (xs.toList++ys.toList)/\o.Pairwise (Bef lt)
section
def uC {ix:Yi}{i:Nat}(h:i<ix.size):ix.toList.drop i=gx ix i::ix.toList.drop (i+1):=by
 rw[ZU (by simpa using h)]
 congr 1
 unfold gx;rw[ZH h];simp
def yM {ix:Yi}{i:Nat}(h:i<ix.size):gx ix i∈ix.toList:=by
 unfold gx;rw[ZH h];simp
def kO {ix:Yi}{i x:Nat}(h:x∈ix.toList.drop i):∃j,i<=j/\j<ix.size/\x=gx ix j:=by
 obtain⟨j,hj,e⟩:=List.mem_iff_getElem.mp h;rw[List.length_drop] at hj;have hz:i+j<ix.size:=by simpa using (show i+j<ix.toList.length from ())
 refine⟨i+j,(),hz,?_⟩;rw[<- e,List.getElem_drop];unfold gx;rw[ZH hz];simp
def MInv.addA {k:Nat}(M:MInv lt xs ys ia ib o)(hb:∀c∈(xs.toList.drop ia).take k,∀y∈ys.toList.drop ib,Bef lt c y):MInv lt xs ys (ia+k) ib (o++(xs.toList.drop ia).take k):=by
 have e:xs.toList.drop ia=(xs.toList.drop ia).take k++xs.toList.drop (ia+k):=by rw[<- List.drop_drop,Xi]
 have ma:=M.a;have mb:=M.b;have mp:=M.pm;generalize (xs.toList.drop ia).take k=c at e hb;rw[e] at ma mp;rw[<- ZJ] at ma mp;refine⟨ma,?_,mp⟩;rw[Xg] at ma mb ⊢;refine⟨ma.1,mb.2.1,λx hx y hy=>?_⟩;rcases ZM.mp hx with z|z
 .exact mb.2.2 x z y hy
 .exact hb x z y hy
def MInv.addB {k:Nat}(M:MInv lt xs ys ia ib o)(hb:∀c∈(ys.toList.drop ib).take k,∀x∈xs.toList.drop ia,Bef lt c x):MInv lt xs ys ia (ib+k) (o++(ys.toList.drop ib).take k):=by
 have e:ys.toList.drop ib=(ys.toList.drop ib).take k++ys.toList.drop (ib+k):=by rw[<- List.drop_drop,Xi]
 have ma:=M.a;have mb:=M.b;have mp:=M.pm;generalize (ys.toList.drop ib).take k=c at e hb;rw[e] at mb mp;rw[<- ZJ] at mb;refine⟨?_,mb,?_⟩
 .rw[Xg] at ma mb ⊢;refine⟨mb.1,ma.2.1,λx hx y hy=>?_⟩;rcases ZM.mp hx with z|z
  .exact ma.2.2 x z y hy
  .exact hb x z y hy
 .refine List.Perm.trans ?_ mp;rw[ZJ,ZJ,ZJ];refine List.Perm.append_left _ ?_;rw[<- ZJ,<- ZJ];exact List.Perm.append_right _ List.perm_append_comm
def MInv.doneA (M:MInv lt xs ys ia ib o)(h:ys.size<=ib):Mrg lt xs ys (o++xs.toList.drop ia++ys.toList.drop ib):=by
 have e:ys.toList.drop ib=[]:=XC (by simpa using h);refine⟨M.pm,?_⟩;rw[e,Zz];exact M.a
def MInv.doneB (M:MInv lt xs ys ia ib o)(h:xs.size<=ia):Mrg lt xs ys (o++xs.toList.drop ia++ys.toList.drop ib):=by
 have e:xs.toList.drop ia=[]:=XC (by simpa using h);refine⟨M.pm,?_⟩;rw[e,Zz];exact M.b
def MInv.last (M:MInv lt xs ys ia ib o)(h:ia+1=xs.size)(hl:∀y∈ys.toList,Bef lt y (gx xs ia)):Mrg lt xs ys (o++ys.toList.drop ib++xs.toList.drop ia):=by
 have e:xs.toList.drop ia=[gx xs ia]:=by
  rw[uC (),XC (by simpa using (show xs.size<=ia+1 from ()))]
 have ma:=M.a;have mb:=M.b;refine⟨List.Perm.trans ?_ M.pm,?_⟩
 .rw[ZJ,ZJ];exact List.Perm.append_left _ List.perm_append_comm
 .rw[e] at ma ⊢;rw[Xg] at ma ⊢;refine⟨mb,Xn _ _,λx hx y hy=>?_⟩;rw[ZC.mp hy];rcases ZM.mp hx with z|z
  .exact ma.2.2 x z _ (ZC.mpr rfl)
  .exact hl x (List.mem_of_mem_drop z)
def MInv.one (W:Wk lt)(M:MInv lt xs ys ia ib o)(hib:ib<ys.size)(hia:ia<xs.size)(q:lt (gx ys ib) (gx xs ia)=true):MInv lt xs ys ia (ib+1) (o++[gx ys ib]):=by
 have e:(ys.toList.drop ib).take 1=[gx ys ib]:=by rw[uC hib];rfl
 have:=M.addB (k:=1) λc hc x hx=>by
  rw[e] at hc;rw[ZC.mp hc];have hs:=(Xg.mp M.a).2.1;rw[uC hia] at hx hs;rcases ZF.mp hx with z|z
  .rw[z];exact .inl q
  .exact Bef.trans W (.inl q) ((Z6.mp hs).1 x z)
 rw[e] at this;exact this
def MInv.two (W:Wk lt)(hxy:∀x∈xs.toList,∀y∈ys.toList,x<y)(M:MInv lt xs ys ia ib o)(hib:ib<ys.size)(hia:ia<xs.size)(q:lt (gx ys ib) (gx xs ia)=false):MInv lt xs ys (ia+1) ib (o++[gx xs ia]):=by
 have e:(xs.toList.drop ia).take 1=[gx xs ia]:=by rw[uC hia];rfl
 have r:Bef lt (gx xs ia) (gx ys ib):=.inr ⟨q,hxy _ (yM hia) _ (yM hib)⟩;have:=M.addA (k:=1) λc hc y hy=>by
  rw[e] at hc;rw[ZC.mp hc];have hs:=(Xg.mp M.b).2.1;rw[uC hib] at hy hs;rcases ZF.mp hy with z|z
  .rw[z];exact r
  .exact Bef.trans W r ((Z6.mp hs).1 y z)
 rw[e] at this;exact this
end
noncomputable def ar (it:Nat->Keyed)(o:Yj):Array Keyed:=(o.map it).toArray
section
def jE {x:Nat}:(ar it o).push (it x)=ar it (o++[x]):=by simp[ar]
def r8:(xs.map it).extract i j=ar it ((xs.toList.take j).drop i):=by
 apply Array.ext';simp only[ar,Array.toList_extract,Array.toList_map,List.extract_eq_drop_take,List.map_drop,List.map_take,List.drop_take]
def ql {p:Yj}:ar it o++ar it p=ar it (o++p):=by simp[ar]
def gO:(ar it o).reverse=ar it o.reverse:=by simp[ar]
def mw {x:Nat} : #[it x]=ar it [x]:=by simp[ar]
def cut_k:(xs.toList.take (i+k)).drop i=(xs.toList.drop i).take k:=by rw[List.drop_take];congr 1;omega
def kR:(xs.toList.take xs.size).drop i=xs.toList.drop i:=by rw[Z3 (by simp)]
def bC:ar it o++(xs.map it).extract i xs.size++(ys.map it).extract j ys.size=ar it (o++xs.toList.drop i++ys.toList.drop j):=by
 rw[r8,r8,kR,kR,ql,ql]
def lY (h:xs.toList.Pairwise R)(ij:i<j)(hj:j<xs.size):R (gx xs i) (gx xs j):=by
 have:=ZZ.mp h i j (by simp;omega) (by simpa using hj) ij;unfold gx;rw[ZH (),ZH hj];simpa using this
def nR {x:Nat}(h:x∈(xs.toList.drop i).take k):∃j,j<k/\i+j<xs.size/\x=gx xs (i+j):=by
 obtain⟨j,hj,e⟩:=List.mem_iff_getElem.mp h;rw[Z2,List.length_drop] at hj;have hz:i+j<xs.size:=by simpa using (show i+j<xs.toList.length from Nat.add_lt_of_lt_sub' (Zg hj (Nat.min_le_right _ _)))
 refine⟨j,(),hz,?_⟩;rw[<- e,List.getElem_take,List.getElem_drop];unfold gx;rw[ZH hz];simp
end
structure SEq (s t:SortSt):Prop where
 arr:arrOf t=arrOf s
 kd:kindOf t=kindOf s
 fl:failedOf t=failedOf s
 pd:pendingOf t=pendingOf s
def SEq.refl (s:SortSt):SEq s s:=⟨rfl,rfl,rfl,rfl⟩
theorem SEq.trans {s t u:SortSt}(h:SEq s t)(k:SEq t u):SEq s u:=⟨k.arr.trans h.arr,k.kd.trans h.kd,k.fl.trans h.fl,k.pd.trans h.pd⟩
section
variable (W:Wk lt)
include W
theorem gW {k:Nat}(px:xs.toList.Pairwise (Bef lt)){n:Nat}(hn:ia+n<=xs.size):∀i j,i<j->j<n->be lt false (gx xs (ia+j)) k=true->be lt false (gx xs (ia+i)) k=true:=λi j ij jn h=>by
 have b:=Bef.no W (lY px (show ia+i<ia+j from ()) ());have h:(!lt k (gx xs (ia+j)))=true:=h;show(!lt k (gx xs (ia+i)))=true;cases q:lt k (gx xs (ia+i)) with
 |false=>rfl
 |true =>
  rcases W.neg _ (gx xs (ia+j)) _ q with z|z
  .rw[z] at h;cases h
  .rw[b] at z;cases z
theorem fO {k:Nat}(px:xs.toList.Pairwise (Bef lt)){n:Nat}(hn:ia+n<=xs.size):∀i j,i<j->j<n->be lt true (gx xs (ia+j)) k=true->be lt true (gx xs (ia+i)) k=true:=λi j ij jn h=>by
 have b:=Bef.no W (lY px (show ia+i<ia+j from ()) ());have h:lt (gx xs (ia+j)) k=true:=h;show lt (gx xs (ia+i)) k=true;rcases W.neg _ (gx xs (ia+i)) _ h with z|z
 .rw[b] at z;cases z
 .exact z
theorem MInv.galA (hxy:∀x∈xs.toList,∀y∈ys.toList,x<y)(py:ys.toList.Pairwise (Bef lt))(M:MInv lt xs ys ia ib o)(hb:ib<ys.size)(h:∀i,i<m->be lt false (gx xs (ia+i)) (gx ys ib)=true):MInv lt xs ys (ia+m) ib (o++(xs.toList.drop ia).take m):=by
 refine M.addA λc hc y hy=>?_;obtain⟨j,hj,hz,rfl⟩:=nR hc;obtain⟨l,l1,l2,rfl⟩:=kO hy;have q:(!lt (gx ys ib) (gx xs (ia+j)))=true:=h j hj;have q:lt (gx ys ib) (gx xs (ia+j))=false:=by simpa using q
 have r:Bef lt (gx xs (ia+j)) (gx ys ib):=.inr ⟨q,hxy _ (yM hz) _ (yM hb)⟩;by_cases z:ib=l
 .rw[<- z];exact r
 .exact Bef.trans W r (lY py () l2)
theorem MInv.galB (px:xs.toList.Pairwise (Bef lt))(M:MInv lt xs ys ia ib o)(ha:ia<xs.size)(h:∀i,i<m->be lt true (gx ys (ib+i)) (gx xs ia)=true):MInv lt xs ys ia (ib+m) (o++(ys.toList.drop ib).take m):=by
 refine M.addB λc hc y hy=>?_;obtain⟨j,hj,hz,rfl⟩:=nR hc;obtain⟨l,l1,l2,rfl⟩:=kO hy;have r:Bef lt (gx ys (ib+j)) (gx xs ia):=.inl (h j hj);by_cases z:ia=l
 .rw[<- z];exact r
 .exact Bef.trans W r (lY px () l2)
end
section
structure MH (lt:Yd)(N:Nat)(xs ys:Yi):Prop where
 W:Wk lt
 xn:∀x∈xs.toList,x<N
 yn:∀y∈ys.toList,y<N
 hxy:∀x∈xs.toList,∀y∈ys.toList,x<y
 px:xs.toList.Pairwise (Bef lt)
 py:ys.toList.Pairwise (Bef lt)
abbrev G7 (α β γ: Type):=Option KA × α × β × γ × Nat×Nat×Nat
abbrev G6 (α β γ: Type):=Option KA × α × β × γ × Nat×Nat
abbrev G5 (α β γ: Type):=Option KA × α × β × γ × Nat
noncomputable def gz:Nat->SM PUnit:=sortPriv% PySem.Builtin.setMinGallop
def nS {m:Nat}{st0:SortSt}{Q:PUnit->Yy}(se:SEq st0 st)(h:∀s',SEq st0 s'->Q ⟨⟩ s'):YH prog w A E s (gz m) Q st:=wpS_modify (h _ (se.trans ⟨rfl,rfl,rfl,rfl⟩))
section
variable {α β γ: Type}(n:Nat)(f:Nat -> α -> β -> γ -> Nat->Nat->SM (ForInStep (G6 α β γ)))(k:α -> β -> γ -> Nat->Nat->Nat->SM (ForInStep (G7 α β γ)))
def mC (c:G7 α β γ):SM (ForInStep (G5 α β γ)):=match c.1 with
 |some r=>pure (.done (some r,c.2.1,c.2.2.1,c.2.2.2.1,c.2.2.2.2.1))
 |none=>gz (c.2.2.2.2.1+1) >>= λ_=>pure (.yield (none,c.2.1,c.2.2.1,c.2.2.2.1,c.2.2.2.2.1+1))
noncomputable def m2 (x:α)(y:β)(z:γ)(mg ac bc:Nat):SM (ForInStep (G7 α β γ)):=if mg > 1 then k x y z ac bc (mg-1) else k x y z ac bc mg
noncomputable def mB (mg:Nat)(c:G6 α β γ):SM (ForInStep (G5 α β γ)):=match c.1 with
 |some r=>pure (.done (some r,c.2.1,c.2.2.1,c.2.2.2.1,mg))
 |none=>(liftM (rule "list.sort.gallop"):SM PUnit) >>= λ_=>(forIn [:n] ((none,c.2.1,c.2.2.1,c.2.2.2.1,mg+1,c.2.2.2.2.1,c.2.2.2.2.2):G7 α β γ) λ_ c=>m2 k c.2.1 c.2.2.1 c.2.2.2.1 c.2.2.2.2.1 c.2.2.2.2.2.1 c.2.2.2.2.2.2) >>= mC
noncomputable def mA (c:G5 α β γ):SM (ForInStep (G5 α β γ)):=
 (forIn [:n] ((none,c.2.1,c.2.2.1,c.2.2.2.1,0,0):G6 α β γ) λ_ d=>f c.2.2.2.2 d.2.1 d.2.2.1 d.2.2.2.1 d.2.2.2.2.1 d.2.2.2.2.2) >>= mB n k c.2.2.2.2
noncomputable def mT (x:α)(y:β)(z:γ):SM KA:=get >>= λs=>(forIn [:n] ((none,x,y,z,gallopOf s):G5 α β γ) λ_ c=>mA n f k c) >>= λc=>match c.1 with
 |some r=>pure r
 |none=>liftM (unsupported "internal:list.sort.merge-bound")
variable {n f k}{P:Nat -> α -> β -> γ -> Prop}{D:KA->Prop}
structure MR (P:α -> β -> γ -> Prop)(D:KA->Prop)(st0:SortSt)(R:ForInStep (G7 α β γ)->Yy):Prop where
 dn:∀{v t sy},SEq st0 sy->D v->R (.done (some v,t)) sy
 go:∀{x y z mg ac bc sy},SEq st0 sy->P x y z->R (.done (none,x,y,z,mg,ac,bc)) sy/\R (.yield (none,x,y,z,mg,ac,bc)) sy
def m_2 {x:α}{y:β}{z:γ}{mg ac bc:Nat}{R:ForInStep (G7 α β γ)->Yy}(h:∀mg,YH prog w A E s (k x y z ac bc mg) R st):YH prog w A E s (m2 k x y z mg ac bc) R st:=wi (λ_=>h _) λ_=>h _
def m_T {x:α}{y:β}{z:γ}{Q:KA->Yy}(kd:kindOf st=kind)(p0:P 1 x y z)(n1:∀{g x y z},P g x y z->1<=n/\g<=n)(le:∀{g g' x y z},P g x y z->g'<=g->P g' x y z)
 (h1:∀{g mg x y z ac bc st} {R:ForInStep (G6 α β γ)->Yy},kindOf st=kind->P g x y z->(∀{v t},D v->R (.done (some v,t)) st)->(∀{x y z ac bc},P (g+1) x y z->R (.done (none,x,y,z,ac,bc)) st/\R (.yield (none,x,y,z,ac,bc)) st)->YH prog w A E s (f mg x y z ac bc) R st)
 (h2:∀{g x y z ac bc mg st' R},MR (P g) D st R->SEq st st'->P g x y z->YH prog w A E s (k x y z ac bc mg) R st')
 (h:∀{v st'},SEq st st'->D v->Q v st'):YH prog w A E s (mT n f k x y z) Q st:=by
 refine Yo (wpS_get (Yo (Yq (Yr (I:=λg c sx=>SEq st sx/\c.1=none/\P (g+1) c.2.1 c.2.2.1 c.2.2.2.1) (Q:=λc sx=>SEq st sx/\∃v,D v/\c.1=some v) ?_ ?_ ⟨.refl _,rfl,p0⟩) ?_)))
 .rintro g c sx _ _ ⟨se,_,p⟩;refine Yo (Yq (Yr (I:=λy c sy=>sy=sx/\c.1=none/\P (g+1+y) c.2.1 c.2.2.1 c.2.2.2.1) (Q:=λc sy=>sy=sx/\((∃v,D v/\c.1=some v)\/c.1=none/\P (g+2) c.2.1 c.2.2.1 c.2.2.2.1)) ?_ ?_ ⟨rfl,rfl,p⟩) ?_)
  .rintro y c sy _ _ ⟨rfl,_,p⟩;exact h1 (se.kd.trans kd) p (λd=>⟨rfl,.inl ⟨_,d,rfl⟩⟩) λp=>⟨⟨rfl,.inr ⟨rfl,le p ()⟩⟩,rfl,rfl,p⟩
  .rintro c sy ⟨rfl,e,p⟩;exact⟨rfl,.inr ⟨e,le p (by have:=(n1 p).1;omega)⟩⟩
  .rintro c sy ⟨rfl,⟨v,d,e⟩|⟨e,p⟩⟩
   .unfold mB;rw[e];exact Yp ⟨se,v,d,rfl⟩
   .unfold mB;rw[e];refine Yo (wpS_lift (wpAny_rule ⟨rfl,?_⟩));refine Yo (Yq (Yr (I:=λ_ c sy=>SEq st sy/\c.1=none/\P (g+2) c.2.1 c.2.2.1 c.2.2.2.1) (Q:=λc sy=>SEq st sy/\((∃v,D v/\c.1=some v)\/c.1=none/\P (g+2) c.2.1 c.2.2.1 c.2.2.2.1)) ?_ (λc sy h=>⟨h.1,.inr h.2⟩) ⟨se,rfl,p⟩) ?_)
    .rintro y c sy _ _ ⟨se,_,p⟩;exact m_2 λ_=>h2 ⟨λse d=>⟨se,.inl ⟨_,d,rfl⟩⟩,λse p=>⟨⟨se,.inr ⟨rfl,p⟩⟩,se,rfl,p⟩⟩ se p
    .rintro c sy ⟨se,⟨v,d,e⟩|⟨e,p⟩⟩
     .unfold mC;rw[e];exact Yp ⟨se,v,d,rfl⟩
     .unfold mC;rw[e];exact Yo (nS se λsy se=>Yp ⟨se,rfl,p⟩)
 .rintro c sx ⟨_,_,p⟩;have:=(n1 p).2;omega
 .rintro c sx ⟨se,v,d,e⟩;rw[e];exact Yp (h se d)
end
def sz {xs:Yi}:(xs.map it).size=xs.size:=Z0
def bz {xs:Yi}{p:Nat}(h:(p == (xs.map it).size)=true):p=xs.size:=(Ys.mp h).trans sz
def nz {xs:Yi}{p:Nat}(h:¬(p == (xs.map it).size)=true):p≠xs.size:=λe=>h (Ys.mpr (e.trans sz.symm))
def psh {v:KA}{o:Yj}{x:Nat}(e:v=ar it o):v.push (it x)=ar it (o++[x]):=by rw[e,jE]
def dH {xs:Yi}{v:KA}{o:Yj}{i k:Nat}(e:v=ar it o):v++(xs.map it).extract i (i+k)=ar it (o++(xs.toList.drop i).take k):=by rw[e,r8,cut_k,ql]
def MD (lt:Yd)(it:Nat->Keyed)(xs ys:Yi)(v:KA):Prop:=∃o,Mrg lt xs ys o/\v=ar it o
abbrev L7:=G7 KA Nat Nat
noncomputable def loD (a b o:KA)(i j:Nat):KA:=o++a.extract i a.size++b.extract j b.size
noncomputable def loL (a b o:KA)(i j:Nat):KA:=o++b.extract j b.size++a.extract i a.size
def lo7 (a b:KA)(mg ac bc i:Nat)(o:KA)(j:Nat):SM (ForInStep L7):=
 elem' a i >>= λx=>if(i+1+1 == a.size)=true then pure (.done (some (loL a b (o.push x) (i+1) j),o.push x,i+1,j,mg,ac,bc))
  else if(decide (ac<7)&&decide (bc<7))=true then pure (.done (none,o.push x,i+1,j,mg,ac,bc)) else pure (.yield (none,o.push x,i+1,j,mg,ac,bc))
def lo6 (a b:KA)(mg ac i:Nat)(o:KA)(j k:Nat):SM (ForInStep L7):=
 if k > 0 then if(j+k == b.size)=true then pure (.done (some (loD a b (o++b.extract j (j+k)) i (j+k)),o++b.extract j (j+k),i,j+k,mg,ac,k))
  else lo7 a b mg ac k i (o++b.extract j (j+k)) (j+k) else lo7 a b mg ac k i o j
def lo5 (a b:KA)(mg ac bc j:Nat)(o:KA)(i:Nat):SM (ForInStep L7):=
 elem' b j >>= λx=>if(j+1 == b.size)=true then pure (.done (some (loD a b (o.push x) i (j+1)),o.push x,i,j+1,mg,ac,bc))
  else elem' a i >>= λy=>w5 true y b (j+1) (b.size-(j+1)) 0 >>= λr=>match r with
   |some k=>lo6 a b mg ac i (o.push x) (j+1) k
   |_=>pure (.done (some (loD a b (o.push x) i (j+1)),o.push x,i,j+1,mg,ac,bc))
def lo4 (a b:KA)(bc j:Nat)(o:KA)(i mg k:Nat):SM (ForInStep L7):=
 if k > 0 then if(i+k+1 == a.size)=true then pure (.done (some (loL a b (o++a.extract i (i+k)) (i+k) j),o++a.extract i (i+k),i+k,j,mg,k,bc))
  else if(i+k == a.size)=true then pure (.done (some (loD a b (o++a.extract i (i+k)) (i+k) j),o++a.extract i (i+k),i+k,j,mg,k,bc))
  else lo5 a b mg k bc j (o++a.extract i (i+k)) (i+k) else lo5 a b mg k bc j o i
def lo3 (a b o:KA)(i j ac bc mg:Nat):SM (ForInStep L7):=
 gz mg >>= λ_=>elem' b j >>= λx=>w5 false x a i (a.size-i) 0 >>= λr=>match r with
  |some k=>lo4 a b bc j o i mg k
  |_=>pure (.done (some (loD a b o i j),o,i,j,mg,ac,bc))
def lo1 (a b:KA)(mg:Nat)(o:KA)(i j ac bc:Nat):SM (ForInStep (G6 KA Nat Nat)):=
 elem' b j >>= λx=>elem' a i >>= λy=>lt' x y >>= λr=>match r with
  |some t=>if t=true then elem' b j >>= λx=>if(j+1 == b.size)=true then pure (.done (some (loD a b (o.push x) i (j+1)),o.push x,i,j+1,0,bc+1))
   else if bc+1 ≥ mg then pure (.done (none,o.push x,i,j+1,0,bc+1)) else pure (.yield (none,o.push x,i,j+1,0,bc+1))
   else elem' a i >>= λx=>if(i+1+1 == a.size)=true then pure (.done (some (loL a b (o.push x) (i+1) j),o.push x,i+1,j,ac+1,0))
    else if ac+1 ≥ mg then pure (.done (none,o.push x,i+1,j,ac+1,0)) else pure (.yield (none,o.push x,i+1,j,ac+1,0))
  |_=>pure (.done (some (loD a b o i j),o,i,j,ac,bc))
set_option smartUnfolding false in
def lo_eq {a b:KA}:qT a b=((liftM (rule "list.sort.merge-lo"):SM PUnit) >>= λ_=>elem' b 0 >>= λx=>if(1 == b.size)=true then pure (loD a b #[x] 0 1) else if(0+1 == a.size)=true then pure (loL a b #[x] 0 1)
 else mT (a.size+b.size) (lo1 a b) (lo3 a b) #[x] 0 1):=rfl
end
structure LI (lt:Yd)(xs ys:Yi)(g i j:Nat)(o:Yj):Prop where
 M:MInv lt xs ys i j o
 a:i+1<xs.size
 b:j<ys.size
 g:g<=i+j
noncomputable def LP (lt:Yd)(it:Nat->Keyed)(xs ys:Yi)(g:Nat)(v:KA)(i j:Nat):Prop:=∃o,LI lt xs ys g i j o/\v=ar it o
section
variable {R:ForInStep L7->Yy}
def oK (e:v=ar it o):loD (xs.map it) (ys.map it) v i j=ar it (o++xs.toList.drop i++ys.toList.drop j):=by
 unfold loD;rw[sz,sz,e,bC]
def mX (e:v=ar it o):loL (xs.map it) (ys.map it) v i j=ar it (o++ys.toList.drop j++xs.toList.drop i):=by
 unfold loL;rw[sz,sz,e,bC]
variable (lst:∀y∈ys.toList,Bef lt y (gx xs (xs.size-1)))
include lst
theorem lsA (M:MInv lt xs ys i j o)(z:i+1=xs.size):Mrg lt xs ys (o++ys.toList.drop j++xs.toList.drop i):=M.last z (by rw[show i=xs.size-1 by omega];exact lst)
variable (H:MH lt N xs ys)(L:LI lt xs ys g i j o)(e:v=ar it o)
include H L e
section
variable (C:MR (LP lt it xs ys g) (MD lt it xs ys) st0 R)(se:SEq st0 st)
include C se
theorem bt (q:lt (gx ys j) (gx xs i)=false):YH prog w A E s (lo7 (xs.map it) (ys.map it) mg ac bc i v j) R st:=by
 have a:=Xx L.a;refine Yo (xA a ?_);have M2:=L.M.two H.W H.hxy L.b a q;refine wi (λz=>Yp (C.dn se ⟨_,lsA lst M2 (bz z),mX (psh e)⟩)) λz=>?_;have L2:=C.go (mg:=mg) (ac:=ac) (bc:=bc) se ⟨_,⟨M2,Xh L.a (nz z),L.b,by have:=L.g;omega⟩,psh e⟩;exact wi (λ_=>Yp L2.1) λ_=>Yp L2.2
theorem lo_6 (k2:j+k<=ys.size)(k3:∀m,m<k->be lt true (gx ys (j+m)) (gx xs i)=true)(q:j+k<ys.size->lt (gx ys (j+k)) (gx xs i)=false):YH prog w A E s (lo6 (xs.map it) (ys.map it) mg ac i v j k) R st:=by
 refine wi (λk0=>?_) λk0=>?_
 .have M4:=L.M.galB H.W H.px (Xx L.a) k3;refine wi (λz=>Yp (C.dn se ⟨_,M4.doneA (XB (bz z).symm),oK (dH e)⟩)) λz=>?_;have b:j+k<ys.size:=Xh k2 (nz z);exact bt lst H ⟨M4,L.a,b,by have:=L.g;omega⟩ (dH e) C se (q b)
 .have e0:k=0:=Nat.eq_zero_of_not_pos k0;subst e0;exact bt lst H L e C se (q L.b)
variable (O:Orc prog w A s kind it lt N)(kd:kindOf st0=kind)
include O kd
theorem b5 (q:lt (gx ys j) (gx xs i)=true):YH prog w A E s (lo5 (xs.map it) (ys.map it) mg ac bc j v i) R st:=by
 have a:=Xx L.a;refine Yo (xA L.b ?_);have M3:=L.M.one H.W L.b a q;refine wi (λz=>Yp (C.dn se ⟨_,M3.doneA (XB (bz z).symm),oK (psh e)⟩)) λz=>?_;have b:j+1<ys.size:=Xh L.b (nz z);have z:(ys.map it).size=ys.size:=sz;refine Yo (xA a (Yo (xI O (se.kd.trans kd) (H.xn _ (yM a)) () (λi hi=>H.yn _ (yM ())) () (fO H.W H.py ()) λk k2 k3 k4=>?_)));exact lo_6 lst H ⟨M3,L.a,b,by have:=L.g;omega⟩ (psh e) C se () k3 λy=>k4 k (Zf _) ()
theorem lo_3:YH prog w A E s (lo3 (xs.map it) (ys.map it) v i j ac bc mg) R st:=by
 have a:=L.a;have z:(xs.map it).size=xs.size:=sz;refine Yo (nS se λst se=>Yo (xA L.b (Yo (xI O (se.kd.trans kd) (H.yn _ (yM L.b)) () (λi hi=>H.xn _ (yM ())) () (gW H.W H.px ()) λk k2 k3 k4=>?_))));have q:i+k<xs.size->lt (gx ys j) (gx xs (i+k))=true:=λhz=>by
  have:(!lt (gx ys j) (gx xs (i+k)))=false:=k4 k (Zf _) ();simpa using this
 refine wi (λk0=>?_) λk0=>?_
 .have M2:=L.M.galA H.W H.hxy H.py L.b k3;refine wi (λz=>Yp (C.dn se ⟨_,lsA lst M2 (bz z),mX (dH e)⟩)) λz1=>wi (λz=>Yp (C.dn se ⟨_,M2.doneB (XB (bz z).symm),oK (dH e)⟩)) λz2=>?_;have z1:=nz z1;have z2:=nz z2;exact b5 lst H ⟨M2,(),L.b,by have:=L.g;omega⟩ (dH e) C se O kd (q ())
 .have e0:k=0:=Nat.eq_zero_of_not_pos k0;subst e0;exact b5 lst H L e C se O kd (q (Xx a))
end
theorem lo_1 {R:ForInStep (G6 KA Nat Nat)->Yy}(O:Orc prog w A s kind it lt N)(kd:kindOf st=kind)(dn:∀{v t},MD lt it xs ys v->R (.done (some v,t)) st)(go:∀{v i j ac bc},LP lt it xs ys (g+1) v i j->R (.done (none,v,i,j,ac,bc)) st/\R (.yield (none,v,i,j,ac,bc)) st):
 YH prog w A E s (lo1 (xs.map it) (ys.map it) mg v i j ac bc) R st:=by
 have a:=Xx L.a;refine Yo (xA L.b (Yo (xA a (Yo (pZ O kd (H.yn _ (yM L.b)) (H.xn _ (yM a)) ?_)))));refine wi (λq=>Yo (xA L.b ?_)) λq=>Yo (xA a ?_)
 .have M2:=L.M.one H.W L.b a q;refine wi (λz=>Yp (dn ⟨_,M2.doneA (XB (bz z).symm),oK (psh e)⟩)) λz=>?_;have L2:=go (ac:=0) (bc:=bc+1) ⟨_,⟨M2,L.a,Xh L.b (nz z),Nat.succ_le_succ L.g⟩,psh e⟩;exact wi (λ_=>Yp L2.1) λ_=>Yp L2.2
 .have M2:=L.M.two H.W H.hxy L.b a (Xw.mpr q);refine wi (λz=>Yp (dn ⟨_,lsA lst M2 (bz z),mX (psh e)⟩)) λz=>?_;have L2:=go (ac:=ac+1) (bc:=0) ⟨_,⟨M2,Xh L.a (nz z),L.b,by have:=L.g;omega⟩,psh e⟩;exact wi (λ_=>Yp L2.1) λ_=>Yp L2.2
end
section
def sl_mergeLo {Q:Array Keyed->Yy}(H:MH lt N xs ys)(O:Orc prog w A s kind it lt N)(kd:kindOf st=kind)(x1:1<=xs.size)(y1:1<=ys.size)(fst:lt (gx ys 0) (gx xs 0)=true)(lst:∀y∈ys.toList,Bef lt y (gx xs (xs.size-1)))
 (h:∀o st',SEq st st'->Mrg lt xs ys o->Q (ar it o) st'):YH prog w A E s (qT (xs.map it) (ys.map it)) Q st:=by
 have M1:MInv lt xs ys 0 1 [gx ys 0]:=(MInv.one (o:=[]) (ia:=0) (ib:=0) H.W ⟨H.px,H.py,List.Perm.refl _⟩ y1 x1 fst);rw[lo_eq];refine Yo (wpS_lift (wpAny_rule ⟨rfl,Yo (xA y1 ?_)⟩));refine wi (λz=>?_) λz1=>wi (λz=>?_) λz2=>?_
 .rw[oK mw];exact Yp (h _ _ (.refl _) (M1.doneA (XB (bz z).symm)))
 .rw[mX mw];exact Yp (h _ _ (.refl _) (lsA lst M1 (bz z)))
 have z1:=nz z1;have z2:=nz z2;have L1:LI lt xs ys 1 0 1 [gx ys 0]:=⟨M1,(),(),()⟩;have e1:(xs.map it).size=xs.size:=sz;have e2:(ys.map it).size=ys.size:=sz;exact m_T (P:=LP lt it xs ys) (D:=MD lt it xs ys) kd ⟨_,L1,mw⟩ (λzh=>by
  obtain⟨_,L,_⟩:=zh;have:=L.a;have:=L.b;have:=L.g;omega) (λ⟨o,L,e⟩ h=>⟨o,⟨L.M,L.a,L.b,Zh h L.g⟩,e⟩) (λkd ⟨_,L,e⟩ dn go=>lo_1 lst H L e O kd dn go) (λC se ⟨_,L,e⟩=>lo_3 lst H L e C se O kd) λse ⟨o,m,e⟩=>by rw[e];exact h o _ se m
end
structure MInvH (lt:Yd)(xs ys:Yi)(na nb:Nat)(o:Yj):Prop where
 a:(xs.toList.take na++o).Pairwise (Bef lt)
 b:(ys.toList.take nb++o).Pairwise (Bef lt)
 pm:(xs.toList.take na++ys.toList.take nb++o).Perm (xs.toList++ys.toList)
section
def arH_push {x:Nat}:(ar it o.reverse).push (it x)=ar it (x::o).reverse:=by rw[jE,List.reverse_cons]
def arH_app {p:Yj}:ar it o.reverse++(ar it p).reverse=ar it (p++o).reverse:=by rw[gO,ql,List.reverse_append]
def finH:(xs.map it).extract 0 i++(ys.map it).extract 0 j++(ar it o.reverse).reverse=ar it (xs.toList.take i++ys.toList.take j++o):=by
 rw[r8,r8,gO,List.reverse_reverse,ql,ql];rfl
def kY (h:i<=j):xs.toList.take j=xs.toList.take i++(xs.toList.take j).drop i:=by
 conv=>lhs;rw[<- Xi i (xs.toList.take j)]
 rw[List.take_take,XL h]
def jA {x:Nat}(h:x∈(xs.toList.take j).drop i):∃l,i<=l/\l<j/\l<xs.size/\x=gx xs l:=by
 obtain⟨m,hm,e⟩:=List.mem_iff_getElem.mp h;rw[List.length_drop,Z2] at hm;have hz:i+m<xs.size:=by simpa using (show i+m<xs.toList.length from ())
 refine⟨i+m,(),(),hz,?_⟩;rw[<- e,List.getElem_drop,List.getElem_take];unfold gx;rw[ZH hz];simp
def ml (h:j<=xs.size)(h1:1<=j):(xs.toList.take j).drop (j-1)=[gx xs (j-1)]:=by
 have hz:j-1<xs.size:=()
 have e:j=j-1+1:=()
 rw[List.drop_take,uC hz,show j-(j-1)=1 by omega];rfl
def fB {x:Nat}(h:x∈xs.toList.take j):∃l,l<j/\l<xs.size/\x=gx xs l:=by
 obtain⟨l,_,l2,l3,l4⟩:=jA (i:=0) (j:=j) (xs:=xs) (x:=x) (by simpa using h);exact⟨l,l2,l3,l4⟩
end
section
def MInvH.addA (M:MInvH lt xs ys na nb o)(hm:m<=na)(hb:∀c∈(xs.toList.take na).drop m,∀y∈ys.toList.take nb,Bef lt y c):MInvH lt xs ys m nb ((xs.toList.take na).drop m++o):=by
 have e:=kY (xs:=xs) hm;have ma:=M.a;have mb:=M.b;have mp:=M.pm;generalize (xs.toList.take na).drop m=c at e hb;rw[e] at ma mp;rw[ZJ] at ma;refine⟨ma,?_,?_⟩
 .rw[Xg] at ma mb ⊢;refine⟨mb.1,ma.2.1,λy hy x hx=>?_⟩;rcases ZM.mp hx with z|z
  .exact hb x z y hy
  .exact mb.2.2 y hy x z
 .refine List.Perm.trans ?_ mp;rw[ZJ,ZJ,ZJ];refine List.Perm.append_left _ ?_;rw[<- ZJ,<- ZJ];exact List.Perm.append_right _ List.perm_append_comm
def MInvH.addB (M:MInvH lt xs ys na nb o)(hm:m<=nb)(hb:∀c∈(ys.toList.take nb).drop m,∀x∈xs.toList.take na,Bef lt x c):MInvH lt xs ys na m ((ys.toList.take nb).drop m++o):=by
 have e:=kY (xs:=ys) hm;have ma:=M.a;have mb:=M.b;have mp:=M.pm;generalize (ys.toList.take nb).drop m=c at e hb;rw[e] at mb mp;rw[ZJ] at mb;refine⟨?_,mb,?_⟩
 .rw[Xg] at ma mb ⊢;refine⟨ma.1,mb.2.1,λy hy x hx=>?_⟩;rcases ZM.mp hx with z|z
  .exact hb x z y hy
  .exact ma.2.2 y hy x z
 .refine List.Perm.trans ?_ mp;rw[ZJ,ZJ,ZJ]
def MInvH.doneA (M:MInvH lt xs ys na nb o)(h:na=0):Mrg lt xs ys (xs.toList.take na++ys.toList.take nb++o):=by
 refine⟨M.pm,?_⟩;rw[h,List.take_zero,List.nil_append];exact M.b
def MInvH.doneB (M:MInvH lt xs ys na nb o)(h:nb=0):Mrg lt xs ys (xs.toList.take na++ys.toList.take nb++o):=by
 refine⟨M.pm,?_⟩;rw[h,List.take_zero,Zz];exact M.a
def MInvH.first (M:MInvH lt xs ys na nb o)(h:nb=1)(y1:1<=ys.size)(hl:∀x∈xs.toList,Bef lt (gx ys 0) x):Mrg lt xs ys (ys.toList.take nb++xs.toList.take na++o):=by
 have ma:=M.a;have mb:=M.b;have e:ys.toList.take 1=[gx ys 0]:=by
  have:=ml (xs:=ys) (j:=1) y1 (Zf _);simpa using this
 refine⟨List.Perm.trans (List.Perm.append_right _ List.perm_append_comm) M.pm,?_⟩;rw[h,e] at mb ⊢;rw[ZJ,Xg];rw[Xg] at mb;refine⟨Xn _ _,ma,λy hy x hx=>?_⟩;rcases ZM.mp hx with z|z
 .rw[ZC.mp hy];exact hl x (List.mem_of_mem_take z)
 .exact mb.2.2 y hy x z
variable (W:Wk lt)
include W
theorem MInvH.galA (py:ys.toList.Pairwise (Bef lt))(M:MInvH lt xs ys na nb o)(hm:m<=na)(b1:1<=nb)(hb:nb<=ys.size)(h:∀i,m<=i->i<na->lt (gx ys (nb-1)) (gx xs i)=true):MInvH lt xs ys m nb ((xs.toList.take na).drop m++o):=by
 refine M.addA hm λc hc y hy=>?_;obtain⟨j,j1,j2,j3,rfl⟩:=jA hc;obtain⟨l,l1,l2,rfl⟩:=fB hy;have r:Bef lt (gx ys (nb-1)) (gx xs j):=.inl (h j j1 j2);by_cases z:l=nb-1
 .rw[z];exact r
 .exact Bef.trans W (lY py () ()) r
theorem MInvH.galB (hxy:∀x∈xs.toList,∀y∈ys.toList,x<y)(px:xs.toList.Pairwise (Bef lt))(M:MInvH lt xs ys na nb o)(hm:m<=nb)(a1:1<=na)(ha:na<=xs.size)(h:∀i,m<=i->i<nb->lt (gx ys i) (gx xs (na-1))=false):MInvH lt xs ys na m ((ys.toList.take nb).drop m++o):=by
 refine M.addB hm λc hc x hx=>?_;obtain⟨j,j1,j2,j3,rfl⟩:=jA hc;obtain⟨l,l1,l2,rfl⟩:=fB hx;have r:Bef lt (gx xs (na-1)) (gx ys j):=.inr ⟨h j j1 j2,hxy _ (yM ()) _ (yM j3)⟩;by_cases z:l=na-1
 .rw[z];exact r
 .exact Bef.trans W (lY px () ()) r
theorem MInvH.one (py:ys.toList.Pairwise (Bef lt))(M:MInvH lt xs ys na nb o)(a1:1<=na)(ha:na<=xs.size)(b1:1<=nb)(hb:nb<=ys.size)(q:lt (gx ys (nb-1)) (gx xs (na-1))=true):MInvH lt xs ys (na-1) nb (gx xs (na-1)::o):=by
 have:=M.galA (m:=na-1) W py () b1 hb λi h1 h2=>by rw[show i=na-1 by omega];exact q
 rw[ml ha a1] at this;exact this
theorem MInvH.two (hxy:∀x∈xs.toList,∀y∈ys.toList,x<y)(px:xs.toList.Pairwise (Bef lt))(M:MInvH lt xs ys na nb o)(a1:1<=na)(ha:na<=xs.size)(b1:1<=nb)(hb:nb<=ys.size)(q:lt (gx ys (nb-1)) (gx xs (na-1))=false):MInvH lt xs ys na (nb-1) (gx ys (nb-1)::o):=by
 have:=M.galB (m:=nb-1) W hxy px () a1 ha λi h1 h2=>by rw[show i=nb-1 by omega];exact q
 rw[ml hb b1] at this;exact this
end
abbrev H7:=G7 Nat Nat KA
noncomputable def hiD (a b:KA)(i j:Nat)(o:KA):KA:=a.extract 0 i++b.extract 0 j++o.reverse
def hi7 (a b:KA)(mg ac bc i j:Nat)(o:KA):SM (ForInStep H7):=
 elem' a (i-1) >>= λx=>if(i-1 == 0)=true then pure (.done (some (hiD a b (i-1) j (o.push x)),i-1,j,o.push x,mg,ac,bc))
  else if(decide (ac<7)&&decide (bc<7))=true then pure (.done (none,i-1,j,o.push x,mg,ac,bc)) else pure (.yield (none,i-1,j,o.push x,mg,ac,bc))
def hi6 (a b:KA)(mg ac i j:Nat)(o:KA)(t:Nat):SM (ForInStep H7):=
 if j-t > 0 then if(t == 1)=true then pure (.done (some (hiD b a t i (o++(b.extract t j).reverse)),i,t,o++(b.extract t j).reverse,mg,ac,j-t))
  else if(t == 0)=true then pure (.done (some (hiD a b i t (o++(b.extract t j).reverse)),i,t,o++(b.extract t j).reverse,mg,ac,j-t))
  else hi7 a b mg ac (j-t) i t (o++(b.extract t j).reverse) else hi7 a b mg ac (j-t) i j o
def hi5 (a b:KA)(mg ac bc j i:Nat)(o:KA):SM (ForInStep H7):=
 elem' b (j-1) >>= λx=>if(j-1 == 1)=true then pure (.done (some (hiD b a (j-1) i (o.push x)),i,j-1,o.push x,mg,ac,bc))
  else elem' a (i-1) >>= λy=>w5 true y b 0 (j-1) (j-1-1) >>= λr=>match r with
   |some t=>hi6 a b mg ac i (j-1) (o.push x) t
   |_=>pure (.done (some (hiD a b i (j-1) (o.push x)),i,j-1,o.push x,mg,ac,bc))
def hi4 (a b:KA)(bc j i:Nat)(o:KA)(mg t:Nat):SM (ForInStep H7):=
 if i-t > 0 then if(t == 0)=true then pure (.done (some (hiD a b t j (o++(a.extract t i).reverse)),t,j,o++(a.extract t i).reverse,mg,i-t,bc))
  else hi5 a b mg (i-t) bc j t (o++(a.extract t i).reverse) else hi5 a b mg (i-t) bc j i o
def hi3 (a b:KA)(i j:Nat)(o:KA)(ac bc mg:Nat):SM (ForInStep H7):=
 gz mg >>= λ_=>elem' b (j-1) >>= λx=>w5 false x a 0 i (i-1) >>= λr=>match r with
  |some t=>hi4 a b bc j i o mg t
  |_=>pure (.done (some (hiD a b i j o),i,j,o,mg,ac,bc))
def hi1 (a b:KA)(mg i j:Nat)(o:KA)(ac bc:Nat):SM (ForInStep (G6 Nat Nat KA)):=
 elem' b (j-1) >>= λx=>elem' a (i-1) >>= λy=>lt' x y >>= λr=>match r with
  |some t=>if t=true then elem' a (i-1) >>= λx=>if(i-1 == 0)=true then pure (.done (some (hiD a b (i-1) j (o.push x)),i-1,j,o.push x,ac+1,0))
   else if ac+1 ≥ mg then pure (.done (none,i-1,j,o.push x,ac+1,0)) else pure (.yield (none,i-1,j,o.push x,ac+1,0))
   else elem' b (j-1) >>= λx=>if(j-1 == 1)=true then pure (.done (some (hiD b a (j-1) i (o.push x)),i,j-1,o.push x,0,bc+1))
    else if bc+1 ≥ mg then pure (.done (none,i,j-1,o.push x,0,bc+1)) else pure (.yield (none,i,j-1,o.push x,0,bc+1))
  |_=>pure (.done (some (hiD a b i j o),i,j,o,ac,bc))
set_option smartUnfolding false in
def hi_eq {a b:KA}:qH a b=((liftM (rule "list.sort.merge-hi"):SM PUnit) >>= λ_=>elem' a (a.size-1) >>= λx=>if(a.size-1 == 0)=true then pure (hiD a b (a.size-1) b.size #[x]) else if(b.size == 1)=true then pure (hiD b a b.size (a.size-1) #[x])
 else mT (a.size+b.size) (hi1 a b) (hi3 a b) (a.size-1) b.size #[x]):=rfl
structure HI (lt:Yd)(xs ys:Yi)(g i j:Nat)(o:Yj):Prop where
 M:MInvH lt xs ys i j o
 a:1<=i
 b:2<=j
 ax:i<=xs.size
 bx:j<=ys.size
 g:g+i+j<=xs.size+ys.size
noncomputable def HL (lt:Yd)(it:Nat->Keyed)(xs ys:Yi)(g i j:Nat)(v:KA):Prop:=∃o,HI lt xs ys g i j o/\v=ar it o.reverse
section
variable {R:ForInStep H7->Yy}
def vU (e:v=ar it o.reverse):hiD (xs.map it) (ys.map it) i j v=ar it (xs.toList.take i++ys.toList.take j++o):=by
 unfold hiD;rw[e,finH]
def fM {x:Nat}(e:v=ar it o.reverse):v.push (it x)=ar it (x::o).reverse:=by rw[e,arH_push]
def dE (e:v=ar it o.reverse):v++((xs.map it).extract t i).reverse=ar it ((xs.toList.take i).drop t++o).reverse:=by rw[e,r8,arH_app]
variable (fst:∀x∈xs.toList,Bef lt (gx ys 0) x)(H:MH lt N xs ys)(L:HI lt xs ys g i j o)(e:v=ar it o.reverse)
include fst H L e
section
variable (C:MR (HL lt it xs ys g) (MD lt it xs ys) st0 R)(se:SEq st0 st)
include C se
theorem bM (q:lt (gx ys (j-1)) (gx xs (i-1))=true):YH prog w A E s (hi7 (xs.map it) (ys.map it) mg ac bc i j v) R st:=by
 have a:=L.a;have c:=L.ax;refine Yo (xA () ?_);have M2:=L.M.one H.W H.py a c (Xb L.b) L.bx q;refine wi (λz=>Yp (C.dn se ⟨_,M2.doneA (Ys.mp z),vU (fM e)⟩)) λz=>?_;have L2:=C.go (mg:=mg) (ac:=ac) (bc:=bc) se ⟨_,⟨M2,Nat.pos_of_ne_zero λy=>z (Ys.mpr y),L.b,(),L.bx,by have:=L.g;omega⟩,fM e⟩;exact wi (λ_=>Yp L2.1) λ_=>Yp L2.2
theorem hi_6 (t2:t<=j)(t4:∀m,t<=m->m<j->lt (gx ys m) (gx xs (i-1))=false)(q:1<=t->lt (gx ys (t-1)) (gx xs (i-1))=true):YH prog w A E s (hi6 (xs.map it) (ys.map it) mg ac i j v t) R st:=by
 have b:=L.b;have c:=L.bx;refine wi (λk0=>?_) λk0=>?_
 .have M4:=L.M.galB (m:=t) H.W H.hxy H.px t2 L.a L.ax t4;refine wi (λz=>Yp (C.dn se ⟨_,M4.first (Ys.mp z) () fst,vU (dE e)⟩)) λz1=>wi (λz=>Yp (C.dn se ⟨_,M4.doneB (Ys.mp z),vU (dE e)⟩)) λz2=>?_;have t0:2<=t:=by
   have z1:t≠1:=λy=>z1 (Ys.mpr y);have z2:t≠0:=λy=>z2 (Ys.mpr y);omega
  exact bM fst H ⟨M4,L.a,t0,L.ax,Zh t2 c,by have:=L.g;omega⟩ (dE e) C se (q (Xb t0))
 .have e0:t=j:=()
  subst e0;exact bM fst H L e C se (q (Xb b))
variable (O:Orc prog w A s kind it lt N)(kd:kindOf st0=kind)
include O kd
theorem bD (q:lt (gx ys (j-1)) (gx xs (i-1))=false):YH prog w A E s (hi5 (xs.map it) (ys.map it) mg ac bc j i v) R st:=by
 have a:=L.a;have b:=L.b;have c:=L.bx;have c2:=L.ax;refine Yo (xA () ?_);have M3:=L.M.two H.W H.hxy H.px a c2 (Xb b) c q;refine wi (λz=>Yp (C.dn se ⟨_,M3.first (Ys.mp z) () fst,vU (fM e)⟩)) λz=>?_;have z:j-1≠1:=λy=>z (Ys.mpr y);have p:i-1<xs.size:=()
 refine Yo (xA p (Yo (xI O (se.kd.trans kd) (H.xn _ (yM p)) () (λi hi=>H.yn _ (yM ())) () (fO H.W H.py ()) λt t2 t3 t4=>?_)));simp only[Nat.zero_add] at t3 t4;exact hi_6 fst H ⟨M3,a,(),c2,(),by have:=L.g;omega⟩ (fM e) C se t2 t4 λy=>t3 (t-1) (Nat.sub_lt y Yu)
theorem hi_3:YH prog w A E s (hi3 (xs.map it) (ys.map it) i j v ac bc mg) R st:=by
 have a:=L.a;have b:=L.b;have c:=L.bx;have c2:=L.ax;have p:j-1<ys.size:=()
 refine Yo (nS se λst se=>Yo (xA p (Yo (xI O (se.kd.trans kd) (H.yn _ (yM p)) () (λi hi=>H.xn _ (yM ())) () (gW H.W H.px ()) λt t2 t3 t4=>?_))));simp only[Nat.zero_add] at t3 t4;have q:1<=t->lt (gx ys (j-1)) (gx xs (t-1))=false:=λhz=>by
  have:(!lt (gx ys (j-1)) (gx xs (t-1)))=true:=t3 (t-1) (Nat.sub_lt hz Yu);simpa using this
 refine wi (λk0=>?_) λk0=>?_
 .have M2:=L.M.galA (m:=t) H.W H.py t2 (Xb b) c λi h1 h2=>by
   have:(!lt (gx ys (j-1)) (gx xs i))=false:=t4 i h1 h2;simpa using this
  refine wi (λz=>Yp (C.dn se ⟨_,M2.doneA (Ys.mp z),vU (dE e)⟩)) λz=>?_;have t0:1<=t:=Nat.pos_of_ne_zero λy=>z (Ys.mpr y);exact bD fst H ⟨M2,t0,b,Zh t2 c2,c,by have:=L.g;omega⟩ (dE e) C se O kd (q t0)
 .have e0:t=i:=()
  subst e0;exact bD fst H L e C se O kd (q a)
end
theorem hi_1 {R:ForInStep (G6 Nat Nat KA)->Yy}(O:Orc prog w A s kind it lt N)(kd:kindOf st=kind)(dn:∀{v t},MD lt it xs ys v->R (.done (some v,t)) st)(go:∀{i j v ac bc},HL lt it xs ys (g+1) i j v->R (.done (none,i,j,v,ac,bc)) st/\R (.yield (none,i,j,v,ac,bc)) st):
 YH prog w A E s (hi1 (xs.map it) (ys.map it) mg i j v ac bc) R st:=by
 have a:=L.a;have b:=L.b;have c:=L.bx;have c2:=L.ax;have g9:=L.g;have p1:i-1<xs.size:=()
 have p2:j-1<ys.size:=()
 refine Yo (xA p2 (Yo (xA p1 (Yo (pZ O kd (H.yn _ (yM p2)) (H.xn _ (yM p1)) ?_)))));refine wi (λq=>Yo (xA p1 ?_)) λq=>Yo (xA p2 ?_)
 .have M2:=L.M.one H.W H.py a c2 (Xb b) c q;refine wi (λz=>Yp (dn ⟨_,M2.doneA (Ys.mp z),vU (fM e)⟩)) λz=>?_;have L2:=go (ac:=ac+1) (bc:=0) ⟨_,⟨M2,Nat.pos_of_ne_zero λy=>z (Ys.mpr y),b,Zy p1,c,()⟩,fM e⟩;exact wi (λ_=>Yp L2.1) λ_=>Yp L2.2
 .have M2:=L.M.two H.W H.hxy H.px a c2 (Xb b) c (Xw.mpr q);refine wi (λz=>Yp (dn ⟨_,M2.first (Ys.mp z) (Zh (Xb b) c) fst,vU (fM e)⟩)) λz=>?_;have L2:=go (ac:=0) (bc:=bc+1) ⟨_,⟨M2,a,by have:j-1≠1:=λy=>z (Ys.mpr y);omega,c2,Zy p2,()⟩,fM e⟩;exact wi (λ_=>Yp L2.1) λ_=>Yp L2.2
end
section
def sl_mergeHi {Q:Array Keyed->Yy}(H:MH lt N xs ys)(O:Orc prog w A s kind it lt N)(kd:kindOf st=kind)(x1:1<=xs.size)(y1:1<=ys.size)(fst:∀x∈xs.toList,Bef lt (gx ys 0) x)(lst:lt (gx ys (ys.size-1)) (gx xs (xs.size-1))=true)
 (h:∀o st',SEq st st'->Mrg lt xs ys o->Q (ar it o) st'):YH prog w A E s (qH (xs.map it) (ys.map it)) Q st:=by
 have M1:MInvH lt xs ys (xs.size-1) ys.size [gx xs (xs.size-1)]:=by
  refine MInvH.one (o:=[]) (na:=xs.size) (nb:=ys.size) H.W H.py ⟨?_,?_,?_⟩ x1 (Zf _) y1 (Zf _) lst
  .rw[Z3 (by simp),Zz];exact H.px
  .rw[Z3 (by simp),Zz];exact H.py
  .rw[Z3 (by simp),Z3 (by simp),Zz]
 rw[hi_eq,sz,sz];have p:xs.size-1<xs.size:=Nat.sub_lt x1 Yu;have o1: #[it (gx xs (xs.size-1))]=ar it [gx xs (xs.size-1)].reverse:=mw;refine Yo (wpS_lift (wpAny_rule ⟨rfl,Yo (xA p ?_)⟩));refine wi (λz=>?_) λz1=>wi (λz=>?_) λz2=>?_
 .rw[vU o1];exact Yp (h _ _ (.refl _) (M1.doneA (Ys.mp z)))
 .rw[vU o1];exact Yp (h _ _ (.refl _) (M1.first (Ys.mp z) y1 fst))
 have z1:xs.size-1≠0:=λy=>z1 (Ys.mpr y);have z2:ys.size≠1:=λy=>z2 (Ys.mpr y);have L1:HI lt xs ys 1 (xs.size-1) ys.size [gx xs (xs.size-1)]:=⟨M1,(),(),(),(),()⟩;exact m_T (P:=HL lt it xs ys) (D:=MD lt it xs ys) kd ⟨_,L1,o1⟩ (λzh=>by
  obtain⟨_,L,_⟩:=zh;have:=L.a;have:=L.b;have:=L.g;omega) (λ⟨o,L,e⟩ h=>⟨o,⟨L.M,L.a,L.b,L.ax,L.bx,by have:=L.g;omega⟩,e⟩) (λkd ⟨_,L,e⟩ dn go=>hi_1 fst H L e O kd dn go) (λC se ⟨_,L,e⟩=>hi_3 fst H L e C se O kd) λse ⟨o,m,e⟩=>by rw[e];exact h o _ se m
end
theorem lj {α:Type}(k:Nat):∀(l:List α) (i:Nat) (a:Array α),k+i+l.length<=a.size->((l.zipIdx i).foldl (λa (p:α × Nat)=>a.setIfInBounds (k+p.2) p.1) a).toList=a.toList.take (k+i)++l++a.toList.drop (k+i+l.length)
 | [],i,a,h=>by simp
 |x::r,i,a,h=>by
  rw[Zu] at h;rw[List.zipIdx_cons,XF,lj k r (i+1) _ (by rw[Array.size_setIfInBounds];omega),Array.toList_setIfInBounds,Zu];have e1:(a.toList.set (k+i) x).take (k+(i+1))=a.toList.take (k+i)++[x]:=by
   rw[show k+(i+1)=(k+i)+1 by omega,List.take_succ,List.take_set_of_le (Zf _),Xo (by simp;omega)];rfl
  rw[e1,List.drop_set_of_lt (),show k+(i+1)+r.length=k+i+(r.length+1) by omega,ZJ,ZJ,ZJ];rfl
def jY {α β: Type}(f:α -> β)(xs:Array α)(i j:Nat):(xs.map f).extract i j=(xs.extract i j).map f:=by
 apply Array.ext';simp[List.map_take,List.map_drop]
def o9 {ix:Yi}{i j a:Nat}(h:i+a<j)(hj:j<=ix.size):gx (ix.extract i j) a=gx ix (i+a):=by
 unfold gx;rw[Array.getElem?_extract,Zd ()]
section
def sl_set {sy:SortSt}{Q:PUnit->Yy}(h:Q ⟨⟩ sy):YH prog w A E s (set sy:StateT SortSt Sem PUnit) Q st:=by
 unfold YH wpS;rw[StateT.run_set];exact Zb ⟨rfl,h⟩
def uQ {ix:Yi}{i j x:Nat}(hj:j<=ix.size)(h:x∈(ix.extract i j).toList):∃l,i<=l/\l<j/\x=gx ix l:=by
 rw[Array.toList_extract,List.extract_eq_drop_take] at h;obtain⟨l,l1,l2,l3⟩:=nR (xs:=ix) (i:=i) (k:=j-i) h;exact⟨i+l,(),(),l3⟩
def gS {ix:Yi}{R:Nat->Nat->Prop}{i j:Nat}(hj:j<=ix.size)(h:∀a b,i<=a->a<b->b<j->R (gx ix a) (gx ix b)):(ix.extract i j).toList.Pairwise R:=by
 rw[ZZ];intro a b ha hb ab;have sz:(ix.extract i j).size=j-i:=by simp;omega
 have hb':b<j-i:=by rw[<- sz,<- ZN];exact hb
 have e:∀c (hc:c<(ix.extract i j).toList.length),c<j-i->(ix.extract i j).toList[c]=gx ix (i+c):=λc hc h=>by
  rw[<- o9 (i:=i) (j:=j) (a:=c) () hj];unfold gx;rw[ZH (by rw[sz];exact h)];simp
 rw[e a ha (),e b hb hb'];exact h _ _ () () ()
def mono_f1 {x y k:Nat}(W:Wk lt)(b:Bef lt x y)(h:be lt false y k=true):be lt false x k=true:=by
 have b:=Bef.no W b;have h:(!lt k y)=true:=h;show(!lt k x)=true;cases q:lt k x with
 |false=>rfl
 |true =>
  rcases W.neg _ y _ q with z|z
  .rw[z] at h;cases h
  .rw[b] at z;cases z
def mono_t1 {x y k:Nat}(W:Wk lt)(b:Bef lt x y)(h:be lt true y k=true):be lt true x k=true:=by
 have b:=Bef.no W b;have h:lt y k=true:=h;show lt x k=true;rcases W.neg _ x _ h with z|z
 .rw[b] at z;cases z
 .exact z
end
structure PlO (lo N:Nat)(bs ix:Yi)(k:Nat):Prop where
 size:ix.size=N
 perm:ix.Perm (Array.range N)
 low:∀a,a<lo->gx ix a=gx bs a
 mid:∀a,lo<=a->a<k->lo<=gx ix a/\gx ix a<k
 suf:∀a,k<=a->a<N->gx ix a=a
def kP {N a:Nat}{ix:Yi}(p:ix.Perm (Array.range N))(ha:a<ix.size):gx ix a<N:=by
 have:=(Array.perm_iff_toList_perm.mp p).mem_iff.mp (yM ha);simpa using this
section
def PlO.all (h:PlO lo N bs ix k){a:Nat}(ha:a<N):gx ix a<N:=kP h.perm (by rw[h.size];exact ha)
def PlO.succ (h:PlO lo N bs ix k)(hl:lo<=k)(hk:k<N):PlO lo N bs ix (k+1):=by
 refine⟨h.size,h.perm,h.low,λa h0 ha=>?_,λa h1 h2=>h.suf a () h2⟩;by_cases c:a<k
 .have:=h.mid a h0 c;omega
 .have:a=k:=()
  subst this;rw[h.suf a (Zf _) hk];omega
def PlO.rev {i:Nat}(h:PlO lo N bs ix k)(hk:k<=N)(li:lo<=i)(hi:i<=k):PlO lo N bs (mirror ix i k ((k-i) / 2)) k:=by
 have hz:k<=ix.size:=by rw[h.size];exact hk
 refine⟨by rw[mirror_size];exact h.size,(mirror_perm _ _ _ _).trans h.perm,λa ha=>?_,λa h0 ha=>?_,λa h1 h2=>?_⟩
 .rw[wy hz,Ze ()];exact h.low a ha
 .rw[wy hz]
  split
  .exact h.mid _ () ()
  .exact h.mid a h0 ha
 .rw[wy hz,Ze ()];exact h.suf a h1 h2
end
def UpO (lt:Yd)(lo:Nat)(ix:Yi)(k:Nat):Prop:=∀a b,lo<=a->a<b->b<k->Bef lt (gx ix a) (gx ix b)
def DnO (lt:Yd)(lo:Nat)(ix:Yi)(k:Nat):Prop:=∀a b,lo<=a->a<b->b<k->Bef lt (gx ix b) (gx ix a)
structure SBp (it:Nat->Keyed)(kind:SortKind)(pn:Array (Nat×Nat×Nat))(ix:Yi)(st:SortSt):Prop where
 arr:arrOf st=ix.map it
 kd:kindOf st=kind
 fl:failedOf st=none
 pd:pendingOf st=pn
structure EqO (lt:Yd)(lo:Nat)(ix:Yi)(x u:Nat):Prop where
 le:lo<=u
 ux:u<x
 out:∀a b,lo<=a->a<b->b<x->a<u->lt (gx ix b) (gx ix a)=true\/(b<u/\Bef lt (gx ix b) (gx ix a))
 same:∀a b,u<=a->a<x->u<=b->b<x->lt (gx ix a) (gx ix b)=false
 rise:∀a b,u<=a->a<b->b<x->gx ix a<gx ix b
def uO {ix:Yi}{i j k:Nat}(hj:j<=ix.size)(h1:i<=k)(h2:k<j):∃m,i<=m/\m<j/\k+m+1=i+j/\gx (mirror ix i j ((j-i) / 2)) k=gx ix m:=by
 refine⟨i+j-1-k,(),(),(),?_⟩;rw[wy hj,Zd ⟨h1,h2⟩]
def tZ {ix:Yi}{i j k:Nat}(hj:j<=ix.size)(h:k<i\/j<=k):gx (mirror ix i j ((j-i) / 2)) k=gx ix k:=by
 rw[wy hj,Ze ()]
section
variable (W:Wk lt)
include W
theorem qw {a:Nat}:lt a a=false:=by
 cases z:lt a a with
 |false=>rfl
 |true=>have:=W.asy _ _ z;rw[z] at this;exact zqb this.symm
theorem EqO.down {x u:Nat}(h:EqO lt lo ix x u)(hz:x<=ix.size):DnO lt lo (mirror ix u x ((x-u) / 2)) x:=by
 intro a b la ab bx;by_cases cb:u<=b
 .obtain⟨b',b1,b2,b3,e⟩:=uO (i:=u) hz cb bx;rw[e];by_cases ca:u<=a
  .obtain⟨a',a1,a2,a3,e⟩:=uO (i:=u) hz ca (Xj ab bx);rw[e];exact .inr ⟨h.same _ _ a1 a2 b1 b2,h.rise _ _ b1 () a2⟩
  .have ca:=XN ca;rw[tZ hz (.inl ca)];rcases h.out a b' la (Zg ca b1) b2 ca with z|z
   .exact .inl z
   .exact z.2
 .have cb:=XN cb;have ca:=Xj ab cb;rw[tZ hz (.inl cb),tZ hz (.inl ca)];rcases h.out a b la ab bx ca with z|z
  .exact .inl z
  .exact z.2
theorem EqO.down0 {x:Nat}(h:EqO lt lo ix (x+1) x):DnO lt lo ix (x+1):=by
 intro a b la ab bx;rcases h.out a b la ab bx (Zg ab (ZX bx)) with z|z
 .exact .inl z
 .exact z.2
theorem EqO.less {x y:Nat}(hy:y+1=x)(hx:lo<=y)(D:DnO lt lo ix x)(hl:lt (gx ix x) (gx ix y)=true):EqO lt lo ix (x+1) x:=by
 have top:∀a,lo<=a->a<x->lt (gx ix x) (gx ix a)=true:=λa la ax=>by
  by_cases c:a=y
  .rw[c];exact hl
  .rcases W.neg _ (gx ix a) _ hl with z|z
   .exact z
   .rw[Bef.no W (D a y la () ())] at z;exact zqb z
 have eq:∀{a},x<=a->a<x+1->a=x:=λh k=>Nat.le_antisymm (ZX k) h;refine⟨(),Xm _,λa b la ab bx ax=>?_,λa b a1 a2 b1 b2=>?_,λa b a1 ab bx=>()⟩
 .by_cases c:b<x
  .exact .inr ⟨c,D a b la ab c⟩
  .rw[eq (Nat.le_of_not_lt c) bx];exact .inl (top a la ax)
 .rw[eq a1 a2,eq b1 b2];exact qw W
theorem EqO.more {x y u:Nat}(h:EqO lt lo ix x u)(hy:y+1=x)(hx:gx ix x=x)(pre:∀a,lo<=a->a<x->gx ix a<x)(n1:lt (gx ix x) (gx ix y)=false)(n2:lt (gx ix y) (gx ix x)=false):EqO lt lo ix (x+1) u:=by
 have le:=h.le;have ux:=h.ux;have up:∀k,lt (gx ix y) k=true->lt (gx ix x) k=true:=λk z=>by
  rcases W.neg _ (gx ix x) _ z with y|y
  .rw[n2] at y;exact zqb y
  .exact y
 have dn:∀k,lt k (gx ix x)=true->lt k (gx ix y)=true:=λk z=>by
  rcases W.neg _ (gx ix y) _ z with y|y
  .exact y
  .rw[n2] at y;exact zqb y
 have up':∀k,lt (gx ix x) k=true->lt (gx ix y) k=true:=λk z=>by
  rcases W.neg _ (gx ix y) _ z with y|y
  .rw[n1] at y;exact zqb y
  .exact y
 have yx:y<x:=()
 have uy:u<=y:=()
 have lt1:∀{b},b<x+1->¬b=x->b<x:=λh k=>Xh (ZX h) k;refine⟨le,Xa ux,λa b la ab bx ax=>?_,λa b a1 a2 b1 b2=>?_,λa b a1 ab bx=>?_⟩
 .by_cases c:b=x
  .rw[c];rcases h.out a y la (Zg ax uy) yx ax with z|z
   .exact .inl (up _ z)
   .exact Zn z.1 (Nat.not_lt_of_le uy)
  .exact h.out a b la ab (lt1 bx c) ax
 .by_cases ca:a=x
  .by_cases cb:b=x
   .rw[ca,cb];exact qw W
   .rw[ca];cases z:lt (gx ix x) (gx ix b) with
    |false=>rfl
    |true =>
     have w:=up' _ z;rw[h.same y b uy yx b1 (lt1 b2 cb)] at w;exact zqb w
  .by_cases cb:b=x
   .rw[cb];cases z:lt (gx ix a) (gx ix x) with
    |false=>rfl
    |true =>
     have w:=dn _ z;rw[h.same a y a1 (lt1 a2 ca) uy yx] at w;exact zqb w
   .exact h.same a b a1 (lt1 a2 ca) b1 (lt1 b2 cb)
 .by_cases cb:b=x
  .rw[cb,hx];exact pre a (Zh le a1) (cb ▸ ab)
  .exact h.rise a b a1 ab (lt1 bx cb)
end
abbrev C2:=Option (Option Nat)×Nat
noncomputable def crS (p c:Nat):SM (ForInStep C2):=ltAt' p (p-1) >>= λr=>match r with
 |some t=>if t=true then pure (.done (none,c)) else pure (.yield (none,c+1))
 |_=>pure (.done (some none,c))
def cr4 (lo nr n:Nat):SM (Option Nat):=reverseSlice' lo (lo+n) >>= λ_=>(forIn [n:nr] ((none,n):C2) λ_ c=>crS (lo+c.2) c.2) >>= λc=>match c.1 with
 |some r=>pure r
 |none=>pure (some c.2)
def cr3 (lo nr n q:Nat):SM (Option Nat):=if q > 0 then reverseSlice' (lo+n-(q+1)) (lo+n) >>= λ_=>cr4 lo nr n else cr4 lo nr n
noncomputable def crD (p n q:Nat):SM (ForInStep C3):=ltAt' p (p-1) >>= λr=>match r with
 |some t=>if t=true then(if q > 0 then reverseSlice' (p-(q+1)) p >>= λ_=>pure (.yield (none,n+1,0)) else pure (.yield (none,n+1,0)))
  else ltAt' (p-1) p >>= λr=>match r with
   |some t=>if t=true then pure (.done (none,n,q)) else pure (.yield (none,n+1,q+1))
   |_=>pure (.done (some none,n,q))
 |_=>pure (.done (some none,n,q))
def cr2 (lo nr n:Nat):SM (Option Nat):=(liftM (rule "list.sort.descending-run"):SM PUnit) >>= λ_=>(forIn [n+1:nr] ((none,n+1,0):C3) λ_ c=>crD (lo+c.2.1) c.2.1 c.2.2) >>= λc=>match c.1 with
 |some r=>pure r
 |none=>cr3 lo nr c.2.1 c.2.2
def cr1 (lo nr n:Nat):SM (Option Nat):=if(n == nr)=true then pure (some n) else if n > 1 then ltAt' lo (lo+n-1) >>= λr=>match r with
 |some t=>if t=true then pure (some n) else reverseSlice' lo (lo+n) >>= λ_=>cr2 lo nr n
 |_=>pure none
 else cr2 lo nr n
set_option smartUnfolding false in
def cr_eq {lo nr:Nat}:countRun' lo nr=((forIn [1:nr] ((none,1):C2) λ_ c=>crS (lo+c.2) c.2) >>= λc=>match c.1 with|some r=>pure r|none=>cr1 lo nr c.2):=rfl
section
variable {pn:Array (Nat×Nat×Nat)}
def jq {a b k:Nat}{Q:Option Bool->Yy}(O:Orc prog w A s kind it lt N)(B:SBp it kind pn ix st)(L:PlO lo N bs ix k)(ha:a<N)(hb:b<N)(h:Q (some (lt (gx ix a) (gx ix b))) st):
 YH prog w A E s (ltAt' a b) Q st:=by
 have e1:(arrOf st)[a]? = some (it (gx ix a)):=by rw[B.arr,Xs,jk (by rw[L.size];exact ha)];rfl
 have e2:(arrOf st)[b]? = some (it (gx ix b)):=by rw[B.arr,Xs,jk (by rw[L.size];exact hb)];rfl
 rw[ltAt'_eq];refine Yo (wpS_get ?_);show wpS _ _ _ _ (elem' (arrOf st) a >>= λx=>elem' (arrOf st) b >>= λy=>lt' x y) Q st;rw[elem'_eq,elem'_eq,e1,e2];exact Yo (Yp (Yo (Yp (pZ O B.kd (L.all ha) (L.all hb) h))))
def SBp.set {jx:Yi}(B:SBp it kind pn ix st){xs:Array Keyed}(e:xs=jx.map it):SBp it kind pn jx (setArr st xs):=⟨e,B.kd,B.fl,B.pd⟩
def SBp.rev {i j m:Nat}(B:SBp it kind pn ix st):SBp it kind pn (mirror ix i j m) (setArr st (mirror (arrOf st) i j m)):=B.set (by rw[B.arr,mirror_map])
variable (W:Wk lt)(O:Orc prog w A s kind it lt N)
include W O
theorem so_crS {p c:Nat}{R:ForInStep C2->Yy}(pN:p<N)(lp:lo<p)(B:SBp it kind pn ix st)(L:PlO lo N bs ix p)(U:UpO lt lo ix p)
 (dn:lt (gx ix p) (gx ix (p-1))=true->R (.done (none,c)) st) (go:PlO lo N bs ix (p+1)->UpO lt lo ix (p+1)->R (.yield (none,c+1)) st):YH prog w A E s (crS p c) R st:=by
 obtain⟨y,rfl⟩:∃y,p=y+1:=⟨p-1,()⟩;have ly:=ZX lp;refine Yo (jq O B L pN (Xx pN) (wi (λq=>Yp (dn q)) λq=>Yp (go (L.succ (XR ly) pN) λi j li ij jx=>?_)));have last:Bef lt (gx ix y) (gx ix (y+1)):=.inr ⟨Xw.mpr q,by rw[L.suf _ (Zf _) pN];exact(L.mid _ ly (Xm _)).2⟩;by_cases c:j<y+1
 .exact U i j li ij c
 .have e:j=y+1:=()
  subst e;by_cases d:i=y
  .rw[d];exact last
  .exact Bef.trans W (U i y li () (Xm _)) last
theorem gY {a nr:Nat}{Q:C2->Yy}
 (hn:lo+nr<=N) (ha:1<=a) (han:a<=nr) (B:SBp it kind pn ix st) (L:PlO lo N bs ix (lo+a)) (U:UpO lt lo ix (lo+a))
 (h:∀m,a<=m->m<=nr->PlO lo N bs ix (lo+m)->UpO lt lo ix (lo+m)->(m=nr\/lt (gx ix (lo+m)) (gx ix (lo+m-1))=true)->Q (none,m) st):YH prog w A E s (forIn [a:nr] ((none,a):C2) λ_ c=>crS (lo+c.2) c.2) Q st:=by
 refine Yr (I:=λx c sx=>sx=st/\c=(none,x)/\PlO lo N bs ix (lo+x)/\UpO lt lo ix (lo+x)) ?_ ?_ ⟨rfl,rfl,L,U⟩
 .rintro x c sx ax xn ⟨rfl,rfl,Lx,Ux⟩;exact so_crS W O () () B Lx Ux (λq=>h x ax (Zy xn) Lx Ux (.inr q)) λl u=>⟨rfl,rfl,l,u⟩
 .rintro c sx ⟨rfl,rfl,Lx,Ux⟩;rw[Nat.max_eq_right han] at Lx Ux ⊢;exact h nr han (Zf _) Lx Ux (.inl rfl)
variable {nr x q u:Nat}{Q:Option Nat->Yy}(hn:lo+nr<=N)(h:∀k jx st',SBp it kind pn jx st'->1<=k->k<=nr->PlO lo N bs jx (lo+k)->UpO lt lo jx (lo+k)->Q (some k) st')
include hn h
theorem gK (x1:1<=x)(x2:x<=nr)(B:SBp it kind pn ix st)(L:PlO lo N bs ix (lo+x))(D:DnO lt lo ix (lo+x)):YH prog w A E s (cr4 lo nr x) Q st:=by
 have hz:lo+x<=ix.size:=by rw[L.size];omega
 have L3:=L.rev (i:=lo) () (Zf _) ();refine Yo (wpS_reverse (Yo (gY W O hn x1 x2 B.rev L3 (λa b la ab bm=>?_) λk k1 k2 Lk Uk _=>Yp (h k _ _ B.rev (Zh x1 k1) k2 Lk Uk))));obtain⟨a',a1,a2,a3,e⟩:=uO hz la (Xj ab bm);obtain⟨b',b1,b2,b3,e'⟩:=uO hz (Zy (Xr la ab)) bm;rw[e,e'];exact D _ _ b1 () a2
theorem so_cr3 (x1:1<=x)(x2:x<=nr)(B:SBp it kind pn ix st)(L:PlO lo N bs ix (lo+x))(X:EqO lt lo ix (lo+x) u)(e:u+(q+1)=lo+x):YH prog w A E s (cr3 lo nr x q) Q st:=by
 refine wi (λhq=>?_) λhq=>?_
 .rw[show lo+x-(q+1)=u by omega];have le:=X.le;have ux:=X.ux;exact Yo (wpS_reverse (gK W O hn h x1 x2 B.rev (L.rev () le (Zy ux)) (X.down W (by rw[L.size];omega))))
 .have q0:q=0:=Nat.eq_zero_of_not_pos hq;subst q0;rw[<- e] at X;exact gK W O hn h x1 x2 B L (e ▸ X.down0 W)
omit hn h in
theorem so_crD {p:Nat}{R:ForInStep C3->Yy}(pN:p<N)(B:SBp it kind pn ix st)(L:PlO lo N bs ix p)(X:EqO lt lo ix p u)(e:u+(q+1)=p)
 (dn:R (.done (none,x,q)) st) (go:∀jx u q st',SBp it kind pn jx st'->PlO lo N bs jx (p+1)->EqO lt lo jx (p+1) u->u+(q+1)=p+1->R (.yield (none,x+1,q)) st'):YH prog w A E s (crD p x q) R st:=by
 have le:=X.le;have ux:=X.ux;have hz:p<=ix.size:=by rw[L.size];exact Zy pN
 obtain⟨y,rfl⟩:∃y,p=y+1:=⟨p-1,()⟩;have y2:=Xx pN;have ly:lo<=y:=Zh le (ZX ux);refine Yo (jq O B L pN y2 (wi (λz=>wi (λhq=>?_) λhq=>?_) λz=>?_))
 .have z:lt (gx ix (y+1)) (gx ix y)=true:=z;rw[show y+1-(q+1)=u by omega];refine Yo (wpS_reverse (Yp (go _ _ 0 _ B.rev ((L.rev (Zy pN) le (Zy ux)).succ (XR ly) pN) (EqO.less W rfl ly (X.down W hz) ?_) rfl)));obtain⟨m,m1,m2,_,e⟩:=uO hz (ZX ux) (Xm y);rw[tZ hz (.inr (Zf _)),e];rcases W.neg _ (gx ix m) _ z with y|y
  .exact y
  .rw[X.same _ _ m1 m2 (ZX ux) (Xm _)] at y;exact zqb y
 .have q0:q=0:=Nat.eq_zero_of_not_pos hq;subst q0;have e:u=y:=Nat.succ.inj e;subst e;exact Yp (go ix _ 0 st B (L.succ (XR ly) pN) (EqO.less W rfl ly (X.down0 W) z) rfl)
 .refine Yo (jq O B L y2 pN (wi (λ_=>Yp dn) λz2=>?_));exact Yp (go ix u _ st B (L.succ (XR ly) pN) (X.more W rfl (L.suf _ (Zf _) pN) (λa la ha=>(L.mid a la ha).2) (Xw.mpr z) (Xw.mpr z2)) (Zt (· + 1) e))
theorem fK (x2:x+1<=nr)(B:SBp it kind pn ix st)(L:PlO lo N bs ix (lo+x+1))(X:EqO lt lo ix (lo+x+1) (lo+x)):YH prog w A E s (cr2 lo nr x) Q st:=by
 refine Yo (wpS_lift (wpAny_rule ⟨rfl,?_⟩));refine Yo (Yq (Yr (I:=λx c sx=>∃u q kx,c=(none,x,q)/\SBp it kind pn kx sx/\PlO lo N bs kx (lo+x)/\EqO lt lo kx (lo+x) u/\u+(q+1)=lo+x) (Q:=λc sx=>∃y u q kx,c=(none,y,q)/\1<=y/\y<=nr/\SBp it kind pn kx sx/\PlO lo N bs kx (lo+y)/\EqO lt lo kx (lo+y) u/\u+(q+1)=lo+y) ?_ ?_ ⟨lo+x,0,ix,rfl,B,L,X,rfl⟩) ?_)
 .rintro y c sx mx xn ⟨u,q,kx,rfl,Bx,Lx,Ex,e⟩;exact so_crD W O (show lo+y<N from ()) Bx Lx Ex e ⟨y,u,q,kx,rfl,Zh (Nat.le_add_left 1 x) mx,Zy xn,Bx,Lx,Ex,e⟩ λjx u q st' b l x e=>⟨u,q,jx,rfl,b,l,x,e⟩
 .rintro c sx ⟨u,q,kx,rfl,Bx,Lx,Ex,e⟩;rw[Nat.max_eq_right x2] at Lx Ex e ⊢;exact⟨nr,u,q,kx,rfl,Zh (Nat.le_add_left 1 x) x2,Zf _,Bx,Lx,Ex,e⟩
 .rintro c sx ⟨x,u,q,kx,rfl,x1,x2,Bx,Lx,Ex,e⟩;exact so_cr3 W O hn h x1 x2 Bx Lx Ex e
theorem so_count (h1:1<=nr)(B:SBp it kind pn ix st)(L:PlO lo N bs ix (lo+1)):YH prog w A E s (countRun' lo nr) Q st:=by
 rw[cr_eq];refine Yo (gY W O hn (Zf 1) h1 B L (λa b la ab b1=>()) λm m1 m2 Lm Um why=>?_);refine wi (λ_=>Yp (h m ix st B m1 m2 Lm Um)) λmn=>?_;have mn:m≠nr:=λz=>mn (Ys.mpr z);have hl:lt (gx ix (lo+m)) (gx ix (lo+m-1))=true:=why.resolve_left mn;have m2:m+1<=nr:=Xh m2 mn;have pN:lo+m<N:=()
 have lp:lo<lo+m:=()
 have hz:lo+m<=ix.size:=by rw[Lm.size];exact Zy pN
 refine wi (λgt=>?_) λgt=>?_
 .have key:=λ{ix' st'}=>fK (E:=E) (bs:=bs) (ix:=ix') (st:=st') W O hn h m2;have hh:=h m ix st B m1 (Xb m2) Lm Um;generalize lo+m=p at *;obtain⟨y,rfl⟩:∃y,p=y+1:=⟨p-1,()⟩;have hl:lt (gx ix (y+1)) (gx ix y)=true:=hl;have ly:=ZX lp;have y2:=Xx pN;have yy:=Xm y;refine Yo (jq O B Lm (Xj lp pN) y2 (wi (λ_=>Yp hh) λrose=>?_));have rose:lt (gx ix lo) (gx ix y)=false:=Xw.mpr rose;have flat:∀a b,lo<=a->a<y+1->lo<=b->b<y+1->lt (gx ix a) (gx ix b)=false:=λa b la am lb bm=>by
   cases z:lt (gx ix a) (gx ix b) with
   |false=>rfl
   |true =>
    rcases W.neg _ (gx ix lo) _ z with w|w
    .by_cases a0:a=lo
     .rw[a0,qw W] at w;exact zqb w
     .rw[Bef.no W (Um lo a (Zf _) () am)] at w;exact zqb w
    .rcases W.neg _ (gx ix y) _ w with u|u
     .rw[rose] at u;exact zqb u
     .by_cases bm':b=y
      .rw[bm',qw W] at u;exact zqb u
      .rw[Bef.no W (Um b y lb () yy)] at u;exact zqb u
  have rise:∀a b,lo<=a->a<b->b<y+1->gx ix a<gx ix b:=λa b la ab bm=>by
   rcases Um a b la ab bm with z|z
   .rw[flat a b la (Xj ab bm) (Zh la (Zy ab)) bm] at z;exact zqb z
   .exact z.2
  refine Yo (wpS_reverse (key B.rev ((Lm.rev (Zy pN) (Zf _) (Zy lp)).succ (Zy lp) pN) (EqO.less W rfl ly (λa b la ab bm=>?_) ?_)))
  .obtain⟨a',a1,a2,a3,e⟩:=uO hz la (Xj ab bm);obtain⟨b',b1,b2,b3,e'⟩:=uO hz (Zh la (Zy ab)) bm;rw[e,e'];exact .inr ⟨flat _ _ a1 a2 b1 b2,rise _ _ b1 () a2⟩
  .obtain⟨m,a1,a2,_,e⟩:=uO hz ly yy;rw[tZ hz (.inr (Zf _)),e];rcases W.neg _ (gx ix m) _ hl with z|z
   .exact z
   .rw[flat _ _ a1 a2 ly yy] at z;exact zqb z
 .have e1:m=1:=()
  subst e1;exact fK W O hn h m2 B (Lm.succ (ZY _ _) pN) (EqO.less W rfl (Zf _) (λa b la ab b1=>()) hl)
omit hn h
omit O W in
theorem qc {ix:Yi}{p l k:Nat}(hs:p<ix.size)(hl:l<=p)(hk:k<=p):(k<l/\gx (bubble ix p (p-l)) k=gx ix k)\/(k=l/\gx (bubble ix p (p-l)) k=gx ix p)\/∃j,k=j+1/\l<=j/\j<p/\gx (bubble ix p (p-l)) k=gx ix j:=by
 rw[ow hs (Nat.sub_le _ _),show p-(p-l)=l by omega];by_cases c:k=l
 .exact .inr (.inl ⟨c,Zd c⟩)
 .by_cases d:l<k
  .exact .inr (.inr ⟨k-1,(),(),(),by rw[Ze c,Zd ⟨d,hk⟩]⟩)
  .exact .inl ⟨(),by rw[Ze c,Ze λz=>d z.1]⟩
omit O W in
theorem so_bub {p l:Nat}(pN:p<N)(hl:l<=p)(ll:lo<=l)(L:PlO lo N bs ix p)(U:UpO lt lo ix p)(low:∀i,lo<=i->i<l->lt p (gx ix i)=false)(hi:∀i,l<=i->i<p->lt p (gx ix i)=true):PlO lo N bs (bubble ix p (p-l)) (p+1)/\UpO lt lo (bubble ix p (p-l)) (p+1):=by
 have hs:p<ix.size:=by rw[L.size];exact pN
 have ep:gx ix p=p:=L.suf p (Zf _) pN;have md:∀{i},lo<=i->i<p->lo<=gx ix i/\gx ix i<p+1:=λh k=>⟨(L.mid _ h k).1,Xa (L.mid _ h k).2⟩;refine⟨⟨by rw[bubble_size];exact L.size,(bubble_perm _ _ _).trans L.perm,λa ha=>?_,λa h0 ha=>?_,λa a1 a2=>?_⟩,λa b la ab bp=>?_⟩
 .rcases qc hs hl (Zy (Zg ha (Zh ll hl))) with ⟨_,e⟩|⟨z,_⟩|⟨j,z,h,_⟩
  .rw[e];exact L.low a ha
  .omega
  .omega
 .rcases qc hs hl (ZX ha) with ⟨z,e⟩|⟨z,e⟩|⟨j,z,h,k,e⟩
  .rw[e];exact md h0 (Zg z hl)
  .rw[e,ep];exact⟨Zh ll hl,Xm _⟩
  .rw[e];exact md (Zh ll h) k
 .rw[ow hs (Nat.sub_le _ _),Ze (),Ze ()];exact L.suf a (Xb a1) a2
 .have bp:=ZX bp;rcases qc hs hl (Zh (Zy ab) bp) with ⟨z,e⟩|⟨z,e⟩|⟨i,z,h,k,e⟩
  .rcases qc hs hl bp with ⟨z',e'⟩|⟨z',e'⟩|⟨j,z',h',k',e'⟩
   .rw[e,e'];exact U a b la ab (Zg z' hl)
   .rw[e,e',ep];exact .inr ⟨low a la z,(L.mid a la (Zg z hl)).2⟩
   .rw[e,e'];exact U a j la (Zg z h') k'
  .rcases qc hs hl bp with ⟨z',e'⟩|⟨z',e'⟩|⟨j,z',h',k',e'⟩
   .omega
   .omega
   .rw[e,e',ep];exact .inl (hi j h' k')
  .rcases qc hs hl bp with ⟨z',e'⟩|⟨z',e'⟩|⟨j,z',h',k',e'⟩
   .omega
   .omega
   .rw[e,e'];exact U i j (Zh ll h) () k'
theorem so_bin {fc ok:Nat}{Q:Bool->Yy}(hfc:lo+fc<=N)(hok:ok<=fc)(h1:1<=ok)(B:SBp it kind pn ix st)(L:PlO lo N bs ix (lo+ok))(U:UpO lt lo ix (lo+ok))
 (h:∀jx st',SBp it kind pn jx st'->PlO lo N bs jx (lo+fc)->UpO lt lo jx (lo+fc)->Q true st'):YH prog w A E s (binarySort' lo fc ok) Q st:=by
 rw[binarySort'_eq];have hm:max ok 1=ok:=()
 rw[hm];refine Yo (Yq (Yr (I:=λk c st'=>c=(none,Yt)/\∃jx,SBp it kind pn jx st'/\PlO lo N bs jx (lo+k)/\UpO lt lo jx (lo+k)) (Q:=λc st'=>c=(none,Yt)/\∃jx,SBp it kind pn jx st'/\PlO lo N bs jx (lo+fc)/\UpO lt lo jx (lo+fc)) ?_ ?_ ⟨rfl,ix,B,L,U⟩) ?_)
 .rintro k c sk hk1 hk2 ⟨rfl,jx,Bk,Lk,Uk⟩;have ek:gx jx (lo+k)=lo+k:=Lk.suf _ (Zf _) ();refine Yo (Yq (Yr (I:=λx c sx=>sx=sk/\∃l r,c=(none,l,r)/\l<=r/\r<=k/\r-l<=k-x/\(∀i,i<l->lt (lo+k) (gx jx (lo+i))=false)/\(∀i,r<=i->i<k->lt (lo+k) (gx jx (lo+i))=true))
   (Q:=λc sx=>sx=sk/\∃l r,c=(none,l,r)/\l<=k/\(∀i,i<l->lt (lo+k) (gx jx (lo+i))=false)/\(∀i,l<=i->i<k->lt (lo+k) (gx jx (lo+i))=true)) ?_ ?_ ⟨rfl,0,k,rfl,(),(),(),λi hi=>(),λi a b=>()⟩) ?_)
  .rintro x c sx _ hx ⟨rfl,l,r,rfl,lr,rk,gap,low,hi⟩;dsimp only;by_cases ge:l ≥ r
   .rw[Zd ge];have e:l=r:=()
    subst e;exact Yp ⟨rfl,l,l,rfl,rk,low,hi⟩
   .rw[Ze ge];obtain⟨m,hm,m1,m2,m3,m4⟩:=gX (XN ge) gap;rw[hm];have mk:=Zg m2 rk;refine Yo (jq O Bk Lk () () ?_);rw[ek];cases q:lt (lo+k) (gx jx (lo+m)) with
    |true =>
     simp only[if_true];refine Yp ⟨rfl,l,m,rfl,m1,Zy mk,m3,low,λi a b=>?_⟩;by_cases im:i=m
     .rw[im];exact q
     .rcases W.neg (lo+k) (gx jx (lo+i)) _ q with z|z
      .exact z
      .rw[Bef.no W (Uk (lo+m) (lo+i) () () ())] at z;exact zqb z
    |false =>
     simp only[ZO,if_false];refine Yp ⟨rfl,m+1,r,rfl,m2,rk,m4,λi a=>?_,hi⟩;by_cases im:i=m
     .rw[im];exact q
     .cases z:lt (lo+k) (gx jx (lo+i)) with
      |false=>rfl
      |true =>
       rcases W.neg (lo+k) (gx jx (lo+m)) _ z with y|y
       .rw[q] at y;exact zqb y
       .rw[Bef.no W (Uk (lo+i) (lo+m) () () ())] at y;exact zqb y
  .rintro c sx ⟨rfl,l,r,rfl,lr,rk,gap,low,hi⟩;have e:l=r:=()
   subst e;exact⟨rfl,l,l,rfl,rk,low,hi⟩
  .rintro c sx ⟨rfl,l,r,rfl,lk,low,hi⟩;show wpS _ _ _ _ (moveDown' (lo+k) (lo+l) >>= λ_=>pure (ForInStep.yield (none,Yt))) _ _;rw[moveDown'_eq];have low:∀i,lo<=i->i<lo+l->lt (lo+k) (gx jx i)=false:=λi h1 h2=>by
    obtain⟨d,rfl⟩:=Nat.exists_eq_add_of_le h1;exact low d (XG h2)
   have hi:∀i,lo+l<=i->i<lo+k->lt (lo+k) (gx jx i)=true:=λi h1 h2=>by
    obtain⟨d,rfl⟩:=Nat.exists_eq_add_of_le (Zh (ZY _ _) h1);exact hi d (Nat.le_of_add_le_add_left h1) (XG h2)
   have L2:=so_bub (show lo+k<N from ()) (Nat.add_le_add_left lk lo) (ZY _ _) Lk Uk low hi;exact Yo (wpS_modify (Yp ⟨rfl,bubble jx (lo+k) (lo+k-(lo+l)),Bk.set (by rw[Bk.arr,bubble_map]),L2.1,L2.2⟩))
 .rintro c sk ⟨rfl,jx,b1,b2,b3⟩;have e:max ok fc=fc:=()
  rw[e] at b2 b3;exact⟨rfl,jx,b1,b2,b3⟩
 .rintro c sk ⟨rfl,jx,b1,b2,b3⟩;exact Yp (h jx sk b1 b2 b3)
end
structure Seg (lt:Yd)(ix:Yi)(a b:Nat):Prop where
 pl:∀i,a<=i->i<b->a<=gx ix i/\gx ix i<b
 up:∀i j,a<=i->i<j->j<b->Bef lt (gx ix i) (gx ix j)
def Seg.same {lt:Yd}{ix jx:Yi}{a b:Nat}(S:Seg lt ix a b)(h:∀i,a<=i->i<b->gx jx i=gx ix i):Seg lt jx a b:=⟨λi h1 h2=>by rw[h i h1 h2];exact S.pl i h1 h2,λi j h1 h2 h3=>by rw[h i h1 (),h j () h3];exact S.up i j h1 h2 h3⟩
section
def Seg.join {a m b:Nat}{ix:Yi}(W:Wk lt)(S:Seg lt ix a m)(T:Seg lt ix m b)(h2:m<b)(k:∀i,a<=i->i<m->Bef lt (gx ix i) (gx ix m))(am:a<=m):Seg lt ix a b:=by
 refine⟨λi h1 h3=>?_,λi j h1 ij jb=>?_⟩
 .by_cases z:i<m
  .have:=S.pl i h1 z;omega
  .have:=T.pl i () h3;omega
 .by_cases z:j<m
  .exact S.up i j h1 ij z
  .by_cases y:m<=i
   .exact T.up i j y ij jb
   .by_cases e:j=m
    .rw[e];exact k i h1 ()
    .exact Bef.trans W (k i h1 ()) (T.up m j (Zf _) () jb)
def Seg.put {a n1 b m k:Nat}{ix:Yi}{o:Yj}(W:Wk lt)(S:Seg lt ix a n1)(T:Seg lt ix n1 b)(hb:b<=ix.size)(ham:a<=m)(hm:m<n1)(hk:1<=k)(hkn:n1+k<=b)(pre:∀i,a<=i->i<m->lt (gx ix n1) (gx ix i)=false)(suf:∀i,n1+k<=i->i<b->lt (gx ix i) (gx ix (n1-1))=false)
 (M:Mrg lt (ix.extract m n1) (ix.extract n1 (n1+k)) o):∃jx:Yi,jx.toList=ix.toList.take m++o++ix.toList.drop (n1+k)/\o.length=n1+k-m/\jx.Perm ix/\Seg lt jx a b/\∀i,i<a\/b<=i->gx jx i=gx ix i:=by
 have ol:o.length=n1+k-m:=by
  rw[M.1.length_eq,ZG,ZN,ZN,X3,X3,XL (),XL ()];omega
 have ew:m+o.length=n1+k:=()
 have whole:ix.toList.take m++((ix.extract m n1).toList++(ix.extract n1 (n1+k)).toList)++ix.toList.drop (n1+k)=ix.toList:=by
  have ex:(ix.extract m n1).toList++ix.toList.drop n1=ix.toList.drop m:=by
   rw[Array.toList_extract,List.extract_eq_drop_take];have:ix.toList.drop n1=(ix.toList.drop m).drop (n1-m):=by rw[List.drop_drop,Nat.add_sub_of_le (Zy hm)]
   rw[this,Xi]
  have ey:(ix.extract n1 (n1+k)).toList++ix.toList.drop (n1+k)=ix.toList.drop n1:=by
   rw[Array.toList_extract,List.extract_eq_drop_take,XZ,<- List.drop_drop,Xi]
  rw[ZJ,ZJ,ey,ex,Xi]
 have pm:(ix.toList.take m++o++ix.toList.drop (n1+k)).Perm ix.toList:=by
  conv=>rhs;rw[<- whole]
  exact List.Perm.append_right _ (List.Perm.append_left _ M.1)
 have inx:∀x∈o,(∃b,m<=b/\b<n1/\x=gx ix b)\/∃b,n1<=b/\b<n1+k/\x=gx ix b:=λx hx=>by
  rcases ZM.mp (M.1.mem_iff.mp hx) with z|z
  .exact .inl (uQ () z)
  .exact .inr (uQ (Zh hkn hb) z)
 obtain⟨jx,ej⟩:∃jx:Yi,jx=(ix.toList.take m++o++ix.toList.drop (n1+k)).toArray:=⟨_,rfl⟩;have jl:jx.toList=ix.toList.take m++o++ix.toList.drop (n1+k):=by rw[ej]
 have lt1:(ix.toList.take m).length=m:=by rw[Z2,ZN];exact XL ()
 have at1:∀i,i<m->gx jx i=gx ix i:=λi h=>by
  unfold gx;rw[<- Xy,<- Xy,jl,ZJ,Xv (by rw[lt1];exact h),List.getElem?_take,Zd h]
 have at2:∀j (h:j<o.length),gx jx (m+j)=o[j]:=λj h=>by
  unfold gx;rw[<- Xy,jl,ZJ,Xq (by rw[lt1];exact ZY _ _),lt1,XZ,Xv h,Zqg h];rfl
 have at3:∀j,gx jx (n1+k+j)=gx ix (n1+k+j):=λj=>by
  unfold gx;rw[<- Xy,<- Xy,jl,Xq (by rw[ZG,lt1,ew];exact ZY _ _),ZG,lt1,ew,XZ,List.getElem?_drop]
 have tri:∀i,i<m\/(∃j,j<o.length/\i=m+j)\/∃j,i=n1+k+j:=λi=>by
  by_cases c1:i<m
  .exact .inl c1
  .by_cases c2:i<n1+k
   .exact .inr (.inl ⟨i-m,(),()⟩)
   .exact .inr (.inr ⟨i-(n1+k),()⟩)
 have pq:∀i j,a<=i->i<m->n1<=j->j<b->Bef lt (gx ix i) (gx ix j):=λi j h0 h h1 h2=>by
  have nb:=Xr h1 h2;have pk:Bef lt (gx ix i) (gx ix n1):=.inr ⟨pre i h0 h,Zg (S.pl i h0 (Xj h hm)).2 (T.pl n1 (Zf _) nb).1⟩;by_cases z:j=n1
  .rw[z];exact pk
  .exact Bef.trans W pk (T.up n1 j (Zf _) () h2)
 have sq:∀i c,a<=i->i<n1->n1+k<=c->c<b->Bef lt (gx ix i) (gx ix c):=λi c h0 h1 h2 h3=>by
  have sk:Bef lt (gx ix (n1-1)) (gx ix c):=.inr ⟨suf c h2 h3,Zg (S.pl (n1-1) () ()).2 (T.pl c (Zh (ZY _ _) h2) h3).1⟩;by_cases z:i=n1-1
  .rw[z];exact sk
  .exact Bef.trans W (S.up i (n1-1) h0 () ()) sk
 have sp:∀{y},a<=y->y<n1->a<=gx ix y/\gx ix y<b:=λh1 h2=>⟨(S.pl _ h1 h2).1,by have:=(S.pl _ h1 h2).2;omega⟩;have tp:∀{y},n1<=y->y<b->a<=gx ix y/\gx ix y<b:=λh1 h2=>⟨by have:=(T.pl _ h1 h2).1;omega,(T.pl _ h1 h2).2⟩;refine⟨jx,jl,ol,?_,⟨λi h1 h2=>?_,λi j h1 ij jb=>?_⟩,λi h=>?_⟩
 .rw[Array.perm_iff_toList_perm,jl];exact pm
 .rcases tri i with c|⟨j,c,rfl⟩|⟨j,rfl⟩
  .rw[at1 i c];exact sp h1 (Xj c hm)
  .rw[at2 j c];rcases inx _ (Z9 c) with ⟨y,y1,y2,y3⟩|⟨y,y1,y2,y3⟩
   .rw[y3];exact sp (Zh ham y1) y2
   .rw[y3];exact tp y1 (Zg y2 hkn)
  .rw[at3 j];exact tp () h2
 .rcases tri i with c|⟨i,c,rfl⟩|⟨i,rfl⟩
  .rw[at1 i c];rcases tri j with d|⟨j,d,rfl⟩|⟨j,rfl⟩
   .rw[at1 j d];exact S.up i j h1 ij (Xj d hm)
   .rw[at2 j d];rcases inx _ (Z9 d) with ⟨y,y1,y2,y3⟩|⟨y,y1,y2,y3⟩
    .rw[y3];exact S.up i y h1 (Zg c y1) y2
    .rw[y3];exact pq i y h1 c y1 (Zg y2 hkn)
   .rw[at3 j];exact pq i _ h1 c () jb
  .rw[at2 i c];rcases tri j with d|⟨j,d,rfl⟩|⟨j,rfl⟩
   .omega
   .rw[at2 j d];exact ZZ.mp M.2 i j c d (XG ij)
   .rw[at3 j];rcases inx _ (Z9 c) with ⟨y,y1,y2,y3⟩|⟨y,y1,y2,y3⟩
    .rw[y3];exact sq y _ (Zh ham y1) y2 (ZY _ _) jb
    .rw[y3];exact T.up y _ y1 (Zg y2 (ZY _ _)) jb
  .rcases tri j with d|⟨j,d,rfl⟩|⟨j,rfl⟩
   .omega
   .omega
   .rw[at3 i,at3 j];exact T.up _ _ () ij jb
 .rcases h with z|z
  .exact at1 i (Zg z ham)
  .obtain⟨j,rfl⟩:=Nat.exists_eq_add_of_le (Zh hkn z);exact at3 j
def pend_set {l r:Yc}{x y z:Nat×Nat×Nat}:((l++x::y::r).toArray.setIfInBounds l.length z).eraseIdxIfInBounds (l.length+1)=(l++z::r).toArray:=by
 apply Array.ext';rw[List.setIfInBounds_toArray];unfold Array.eraseIdxIfInBounds;rw[dif_pos (by simp)];rw[Array.toList_eraseIdx];simp[List.eraseIdx_append_of_length_le]
noncomputable def mgP (sa:Nat)(v:KA):SM Bool:=(modify λs=>setArr s (List.foldl (λa x=>match x with|(p,j)=>a.setIfInBounds (sa+j) p) (arrOf s) v.toList.zipIdx)) >>= λ_=>get >>= λz=>pure (failedOf z).isNone
def mg3 (a:KA)(sa na sb k:Nat):SM Bool:=if(k == 0)=true then pure true else if na<=k then qT (a.extract sa sb) (a.extract sb (sb+k)) >>= mgP sa else qH (a.extract sa sb) (a.extract sb (sb+k)) >>= mgP sa
def mg2 (a:KA)(sa na sb nb:Nat):SM Bool:=if(na == 0)=true then pure true else elem' a (sa+na-1) >>= λx=>w5 true x a sb nb (nb-1) >>= λr=>match r with
 |some k=>mg3 a sa na sb k
 |_=>pure false
def mg1 (a:KA)(sa na sb nb:Nat):SM Bool:=elem' a sb >>= λx=>w5 false x a sa na 0 >>= λr=>match r with
 |some k=>mg2 a (sa+k) (na-k) sb nb
 |_=>pure false
set_option smartUnfolding false in
def mg_eq {i:Nat}:mergeAt' i=(get >>= λz=>match (pendingOf z)[i]?,(pendingOf z)[i+1]? with
 |some (sa,na,pw),some (sb,nb,_)=>set (setPending z (((pendingOf z).setIfInBounds i (sa,na+nb,pw)).eraseIdxIfInBounds (i+1))) >>= λ_=>mg1 (arrOf z) sa na sb nb
 |_,_=>liftM (unsupported "internal:list.sort.pending")):=rfl
def j9 {p:Array (Nat×Nat×Nat)}:pendingOf (setPending st p)=p:=by cases st;rfl
section
variable {a b q am u x y:Nat}{pn:Array (Nat×Nat×Nat)}{Q:Bool->Yy}(W:Wk lt)(S:Seg lt ix a (q+1))(T:Seg lt ix (q+1) b)(hz:ix.size=N)(hb:b<=N)(B:SBp it kind pn ix st)
 (h:∀jx st',SBp it kind pn jx st'->jx.Perm ix->Seg lt jx a b->(∀i,i<a\/b<=i->gx jx i=gx ix i)->Q true st')
include W S T hz hb B h
theorem fI {o:Yj}{s2:SortSt}(am1:a<=am)(am2:am<q+1)(k1:1<=k)(kb:q+1+k<=b)(m3:∀i,a<=i->i<am->lt (gx ix (q+1)) (gx ix i)=false)(k4:∀i,q+1+k<=i->i<b->lt (gx ix i) (gx ix q)=false)
 (se:SEq st s2) (M:Mrg lt (ix.extract am (q+1)) (ix.extract (q+1) (q+1+k)) o):YH prog w A E s (mgP am (ar it o)) Q s2:=by
 obtain⟨jx,j1,j2,j3,j4,j5⟩:=S.put W T (by rw[hz];exact hb) am1 am2 k1 kb m3 k4 M;refine Yo (wpS_modify (Yo (wpS_get (Yp ?_))));have f:failedOf s2=none:=se.fl.trans B.fl;show Q (failedOf s2).isNone _;rw[f];refine h jx _ ⟨?_,se.kd.trans B.kd,f,se.pd.trans B.pd⟩ j3 j4 j5;show List.foldl _ (arrOf s2) _=_;rw[se.arr,B.arr];apply Array.ext';have ol:(ar it o).toList=o.map it:=by simp[ar]
 refine Eq.trans (Zt (λz=>(List.foldl (λ(a:Array Keyed) (x:Keyed×Nat)=>a.setIfInBounds (am+x.2) x.1) (ix.map it) z.zipIdx).toList) ol) ?_;have e1:am+o.length=q+1+k:=()
 rw[lj am (o.map it) 0 _ (by rw[Z0,Zql];omega),Array.toList_map,Array.toList_map,j1,Zql,Nat.add_zero,e1,ZV,ZV,List.map_take,List.map_drop]
theorem jy (j:∀i,a<=i->i<q+1->Bef lt (gx ix i) (gx ix (q+1)))(aq:a<=q+1)(qb:q+1<b):Q true st:=h ix st B (.refl _) (S.join W T qb j aq) λ_ _=>rfl
variable (O:Orc prog w A s kind it lt N)(lo1:∀i,i<N->gx ix i<N)
include O lo1
theorem mg_3 (e:am+u=q+1)(u1:1<=u)(am1:a<=am)(qb:q+1<b)(kb:q+1+k<=b)(m3:∀i,a<=i->i<am->lt (gx ix (q+1)) (gx ix i)=false)(m4:∀i,am<=i->i<q+1->lt (gx ix (q+1)) (gx ix i)=true)
 (k3:∀i,q+1<=i->i<q+1+k->lt (gx ix i) (gx ix q)=true) (k4:∀i,q+1+k<=i->i<b->lt (gx ix i) (gx ix q)=false):YH prog w A E s (mg3 (ix.map it) am u (q+1) k) Q st:=by
 have am2:am<q+1:=()
 have bz:b<=ix.size:=by rw[hz];exact hb
 refine wi (λc=>Yp (jy W S T hz hb B h (λi h3 hi=>?_) (Zy (Xr am1 am2)) qb)) λc=>?_
 .have c:k=0:=Ys.mp c;subst c;have b:Bef lt (gx ix q) (gx ix (q+1)):=.inr ⟨k4 _ (Zf _) qb,Zg (S.pl q (Zh am1 (ZX am2)) (Xm _)).2 (T.pl _ (Zf _) qb).1⟩;by_cases z:i=q
  .rw[z];exact b
  .exact Bef.trans W (S.up i q h3 () (Xm _)) b
 have k1:1<=k:=Nat.pos_of_ne_zero λy=>c (Ys.mpr y);have qz:q+1<=ix.size:=()
 have kz:=Zh kb bz;have xn:∀x∈(ix.extract am (q+1)).toList,x<N:=λx hx=>by
  obtain⟨l,l1,l2,rfl⟩:=uQ qz hx;exact lo1 _ ()
 have yn:∀y∈(ix.extract (q+1) (q+1+k)).toList,y<N:=λx hx=>by
  obtain⟨l,l1,l2,rfl⟩:=uQ kz hx;exact lo1 _ ()
 have hxy:∀x∈(ix.extract am (q+1)).toList,∀y∈(ix.extract (q+1) (q+1+k)).toList,x<y:=λx hx y hy=>by
  obtain⟨l,l1,l2,rfl⟩:=uQ qz hx;obtain⟨l',l1',l2',rfl⟩:=uQ kz hy;exact Zg (S.pl l (Zh am1 l1) l2).2 (T.pl l' l1' (Zg l2' kb)).1
 have px:=gS (ix:=ix) (R:=Bef lt) (i:=am) (j:=q+1) qz λa b h ab bm=>S.up a b (Zh am1 h) ab bm;have py:=gS (ix:=ix) (R:=Bef lt) (i:=q+1) (j:=q+1+k) kz λa b h ab bm=>T.up a b h ab (Zg bm kb);have H:MH lt N (ix.extract am (q+1)) (ix.extract (q+1) (q+1+k)):=⟨W,xn,yn,hxy,px,py⟩;have sx:(ix.extract am (q+1)).size=u:=by rw[X3];omega
 have sy:(ix.extract (q+1) (q+1+k)).size=k:=by rw[X3];omega
 have gx0:gx (ix.extract am (q+1)) 0=gx ix am:=o9 am2 qz;have gxl:gx (ix.extract am (q+1)) (u-1)=gx ix q:=by rw[o9 () qz,show am+(u-1)=q by omega]
 have gy0:gx (ix.extract (q+1) (q+1+k)) 0=gx ix (q+1):=o9 () kz;have gyl:gx (ix.extract (q+1) (q+1+k)) (k-1)=gx ix (q+k):=by rw[o9 () kz,show q+1+(k-1)=q+k by omega]
 rw[jY,jY];refine wi (λ_=>Yo (sl_mergeLo H O B.kd (by rw[sx];exact u1) (by rw[sy];exact k1) (by rw[gy0,gx0];exact m4 am (Zf _) am2) (λy hy=>?_) λo s2 se M=>fI W S T hz hb B h am1 am2 k1 kb m3 k4 se M))
  λ_=>Yo (sl_mergeHi H O B.kd (by rw[sx];exact u1) (by rw[sy];exact k1) (λx hx=>?_) (by rw[sx,sy,gyl,gxl];exact k3 _ () ()) λo s2 se M=>fI W S T hz hb B h am1 am2 k1 kb m3 k4 se M)
 .obtain⟨l,l1,l2,rfl⟩:=uQ kz hy;rw[sx,gxl];exact .inl (k3 l l1 l2)
 .obtain⟨l,l1,l2,rfl⟩:=uQ qz hx;rw[gy0];exact .inl (m4 l l1 l2)
theorem mg_2 (e:am+u=q+1)(y1:1<=y)(eb:q+1+y=b)(am1:a<=am)(m3:∀i,a<=i->i<am->lt (gx ix (q+1)) (gx ix i)=false)(m4:∀i,am<=i->i<q+1->lt (gx ix (q+1)) (gx ix i)=true):YH prog w A E s (mg2 (ix.map it) am u (q+1) y) Q st:=by
 have qb:q+1<b:=()
 have qN:q+1<N:=Zg qb hb;have aq:a<=q+1:=Zh am1 (Nat.le.intro e);refine wi (λc=>Yp (jy W S T hz hb B h (λi h3 hi=>.inr ⟨m3 i h3 ?_,Zg (S.pl i h3 hi).2 (T.pl _ (Zf _) qb).1⟩) aq qb)) λc=>?_
 .have c:u=0:=Ys.mp c;subst c;have e:am=q+1:=e;rw[e];exact hi
 have u1:1<=u:=Nat.pos_of_ne_zero λy=>c (Ys.mpr y);rw[show am+u-1=q by rw[e];rfl];refine Yo (xA () (Yo (xI O B.kd (lo1 _ (Xx qN)) () (λi hi=>lo1 _ ()) () (λi j ij jn q=>mono_t1 W (T.up _ _ (ZY _ _) (Nat.add_lt_add_left ij _) ()) q) λk k2 k3 k4=>?_)));refine mg_3 W S T hz hb B h O lo1 e u1 am1 qb () m3 m4 (λi h1 h2=>?_) λi h1 h2=>?_
 .obtain⟨d,rfl⟩:=Nat.exists_eq_add_of_le h1;exact k3 d (XG h2)
 .obtain⟨d,rfl⟩:=Nat.exists_eq_add_of_le (Zh (ZY _ _) h1);exact k4 d (Nat.le_of_add_le_add_left h1) ()
theorem mg_1 (e:a+x=q+1)(x1:1<=x)(y1:1<=y)(eb:q+1+y=b):YH prog w A E s (mg1 (ix.map it) a x (q+1) y) Q st:=by
 have qN:q+1<N:=()
 refine Yo (xA () (Yo (xI O B.kd (lo1 _ qN) () (λi hi=>lo1 _ ()) x1 (λi j ij jn q=>mono_f1 W (S.up _ _ (ZY _ _) (Nat.add_lt_add_left ij _) ()) q) λm m2 m3 m4=>?_)));refine mg_2 W S T hz hb B h O lo1 (by rw[Nat.add_assoc,Nat.add_sub_of_le m2];exact e) y1 eb (ZY _ _) (λi h1 h2=>?_) λi h1 h2=>?_
 .obtain⟨d,rfl⟩:=Nat.exists_eq_add_of_le h1;have z:(!lt (gx ix (q+1)) (gx ix (a+d)))=true:=m3 d (XG h2);simpa using z
 .obtain⟨d,rfl⟩:=Nat.exists_eq_add_of_le (Zh (ZY _ _) h1);have z:(!lt (gx ix (q+1)) (gx ix (a+d)))=false:=m4 d (Nat.le_of_add_le_add_left h1) ();simpa using z
end
def sl_mergeG {a x y pw p2:Nat}{l r:Yc}{ix:Yi}{Q:Bool->Yy}(W:Wk lt)(O:Orc prog w A s kind it lt N)(B:SBp it kind (l++(a,x,pw)::(a+x,y,p2)::r).toArray ix st)(hz:ix.size=N)(pm:ix.Perm (Array.range N))(S:Seg lt ix a (a+x))(T:Seg lt ix (a+x) (a+x+y))(h1:1<=x)(h2:1<=y)(hb:a+x+y<=N)
 (h:∀jx st',SBp it kind (l++(a,x+y,pw)::r).toArray jx st'->jx.Perm ix->Seg lt jx a (a+x+y)->(∀i,i<a\/a+x+y<=i->gx jx i=gx ix i)->Q true st'):YH prog w A E s (mergeAt' l.length) Q st:=by
 have e0:(pendingOf st)[l.length]? = some (a,x,pw):=by rw[B.pd];simp
 have e1:(pendingOf st)[l.length+1]? = some (a+x,y,p2):=by
  rw[B.pd,List.getElem?_toArray,Xq (ZY _ _),XZ];rfl
 rw[mg_eq];refine Yo (wpS_get ?_);rw[e0,e1];refine Yo (sl_set ?_);rw[B.arr];have B':SBp it kind (l++(a,x+y,pw)::r).toArray ix (setPending st (((pendingOf st).setIfInBounds l.length (a,x+y,pw)).eraseIdxIfInBounds (l.length+1))):=⟨B.arr,B.kd,B.fl,by rw[j9,B.pd];exact pend_set⟩;clear B;obtain⟨q,e⟩:∃q,a+x=q+1:=⟨a+x-1,()⟩;rw[e] at S T hb h ⊢;exact mg_1 W S T hz hb B' h O (λi hi=>kP pm (by rw[hz];exact hi)) e h1 h2 rfl
noncomputable def xH (lt:Yd)(ix:Yi):Nat->List (Nat×Nat×Nat)->Nat->Prop
 |a,[],b=>a=b
 |a,p::r,b=>p.1=a/\1<=p.2.1/\Seg lt ix a (a+p.2.1)/\xH lt ix (a+p.2.1) r b
theorem xH.le {ix:Yi}:∀{l:Yc} {a b:Nat},xH lt ix a l b->a+l.length<=b
 | [],a,b,h=>by rw[show a=b from h];exact Zf _
 |p::r,a,b,⟨_,h2,_,h4⟩=>by have:=h4.le;rw[Zu];omega
theorem xH.app {ix:Yi}:∀{l r:Yc} {a b:Nat},xH lt ix a (l++r) b->∃c,xH lt ix a l c/\xH lt ix c r b
 | [],r,a,b,h=>⟨a,rfl,h⟩
 |p::l,r,a,b,⟨h1,h2,h3,h4⟩=>by
  obtain⟨c,c1,c2⟩:=xH.app (l:=l) h4;exact⟨c,⟨h1,h2,h3,c1⟩,c2⟩
theorem xH.cat {ix:Yi}:∀{l r:Yc} {a b c:Nat},xH lt ix a l c->xH lt ix c r b->xH lt ix a (l++r) b
 | [],r,a,b,c,h,k=>by rw[show a=c from h];exact k
 |p::l,r,a,b,c,⟨h1,h2,h3,h4⟩,k=>⟨h1,h2,h3,xH.cat h4 k⟩
theorem xH.same {ix jx:Yi}:∀{l:Yc} {a b:Nat},xH lt ix a l b->(∀i,a<=i->i<b->gx jx i=gx ix i)->xH lt jx a l b
 | [],a,b,h,_=>h
 |p::r,a,b,⟨h1,h2,h3,h4⟩,k=>⟨h1,h2,h3.same λi x y=>k i x (by have:=h4.le;omega),h4.same λi x y=>k i () y⟩
structure RI (it:Nat->Keyed)(kind:SortKind)(lt:Yd)(N:Nat)(ps:Yc)(lo:Nat)(ix:Yi)(st:SortSt):Prop where
 b:SBp it kind ps.toArray ix st
 size:ix.size=N
 perm:ix.Perm (Array.range N)
 ch:xH lt ix 0 ps lo
 le:lo<=N
def lU {i lo:Nat}{ps:Yc}{ix:Yi}{Q:Bool->Yy}(W:Wk lt)(O:Orc prog w A s kind it lt N)(R:RI it kind lt N ps lo ix st)(hi:i+1<ps.length)
 (h:∀ps' jx st',ps'.length+1=ps.length->RI it kind lt N ps' lo jx st'->(∀i,lo<=i->gx jx i=gx ix i)->Q true st'):YH prog w A E s (mergeAt' i) Q st:=by
 obtain⟨l,x,y,r,rfl,hl⟩:∃l x y r,ps=l++x::y::r/\l.length=i:=⟨ps.take i,ps[i],ps[i+1],ps.drop (i+2),by
  rw[<- ZU hi,<- ZU (),Xi],by rw[Z2];omega⟩
 obtain⟨c,c1,c2⟩:=R.ch.app;obtain⟨x1,x2,xp⟩:=x;obtain⟨y1,y2,yp⟩:=y;obtain⟨d1,d2,d3,d4,d5,d6,d7⟩:=c2;have q1:x1=c:=d1;have q4:y1=c+x2:=d4;have q2:1<=x2:=d2;have q5:1<=y2:=d5;have q3:Seg lt ix c (c+x2):=d3;have q6:Seg lt ix (c+x2) (c+x2+y2):=d6;have q7:xH lt ix (c+x2+y2) r lo:=d7;clear d1 d2 d3 d4 d5 d6 d7;subst q1 q4;have lr:=q7.le;have le:=R.le;have B:=R.b;subst hl;refine sl_mergeG W O B R.size R.perm q3 q6 q2 q5 () λjx st' B' p' S' k'=>h (l++(x1,x2+y2,xp)::r) jx st' (by rw[ZG,ZG];rfl) ⟨B',by rw[p'.size_eq];exact R.size,p'.trans R.perm,?_,R.le⟩ λi h1=>k' i (.inr ());rw[Nat.add_assoc] at S';refine(c1.same λi _ h2=>k' i (.inl h2)).cat ⟨rfl,Zh q2 (ZY _ _),S',?_⟩;show xH lt jx (x1+(x2+y2)) r lo;rw[<- Nat.add_assoc];exact q7.same λi h1 _=>k' i (.inr h1)
def pend_mod {l:Yc}{x:Nat×Nat×Nat}(f:Nat×Nat×Nat->Nat×Nat×Nat):(l++[x]).toArray.modify ((l++[x]).toArray.size-1) f=(l++[f x]).toArray:=by
 apply Array.ext';have e:∀l:Yc,(l++[x]).modify l.length f=l++[f x]:=λl=>by
  induction l with
  |nil=>rfl
  |cons y l ih=>show y::(l++[x]).modify l.length f=_;rw[ih];rfl
 simp[e]
abbrev U2:=Option Unit×Unit
abbrev U1:=Option Unit×Nat
noncomputable def srG (pw:Nat):SM (ForInStep U2):=get >>= λz=>match (if(pendingOf z).size > 1 then(pendingOf z)[(pendingOf z).size-2]? else none) with
 |some (_,_,older)=>if older<=pw then pure (.done (none,Yt)) else mergeAt' ((pendingOf z).size-2) >>= λb=>if(!b)=true then pure (.done (some Yt,Yt)) else pure (.yield (none,Yt))
 |_=>pure (.done (none,Yt))
noncomputable def srE (lo n:Nat):SM (ForInStep U1):=(modify λs=>setPending s ((pendingOf s).push (lo,n,0))) >>= λ_=>pure (.yield (none,lo+n))
def srQ (lo n pw:Nat)(c:U2):SM (ForInStep U1):=match c.1 with
 |some r=>pure (.done (some r,lo))
 |none=>(modify λs=>setPending s ((pendingOf s).modify ((pendingOf s).size-1) λ(st,len,_)=>(st,len,pw))) >>= λ_=>srE lo n
def srP (N lo n:Nat):SM (ForInStep U1):=get >>= λz=>match (pendingOf z).back? with
 |some (s1,n1,_)=>(forIn [:N] ((none,Yt):U2) λ_ _=>srG (power' N (2*s1+n1) (2*s1+n1+n1+n) N)) >>= srQ lo n (power' N (2*s1+n1) (2*s1+n1+n1+n) N)
 |_=>srE lo n
def srB (N mr lo:Nat):SM (ForInStep U1):=if lo ≥ N then pure (.done (none,lo)) else countRun' lo (N-lo) >>= λr=>match r with
 |some n=>if n<mr then(liftM (rule "list.sort.binary-insertion"):SM PUnit) >>= λ_=>binarySort' lo (min (N-lo) mr) n >>= λb=>if(!b)=true then pure (.done (some Yt,lo)) else srP N lo (min (N-lo) mr) else srP N lo n
 |_=>pure (.done (some Yt,lo))
noncomputable def srI (p:Array (Nat×Nat×Nat)):Nat:=if Option.any (λx=>decide (x<p[p.size-2+1]?.elim 0 λx=>x.2.1)) (if p.size-2 > 0 then p[p.size-2-1]?.map (λx=>x.2.1) else none)=true then p.size-2-1 else p.size-2
def srF:SM (ForInStep U2):=get >>= λz=>if(pendingOf z).size<=1 then pure (.done (none,Yt)) else mergeAt' (srI (pendingOf z)) >>= λb=>if(!b)=true then pure (.done (some Yt,Yt)) else pure (.yield (none,Yt))
set_option smartUnfolding false in
def sr_eq:sortRuns'=(get >>= λz=>(forIn [:(arrOf z).size] ((none,0):U1) λ_ c=>srB (arrOf z).size (minRun' (arrOf z).size (arrOf z).size 0) c.2) >>= λc=>match c.1 with
 |some r=>pure r
 |none=>(forIn [:(arrOf z).size] ((none,Yt):U2) λ_ _=>srF) >>= λc=>match c.1 with
  |some r=>pure r
  |none=>pure Yt):=rfl
def ite_le {c:Prop}[Decidable c]{x y z:Nat}(h:x<=z)(k:y<=z):(if c then x else y)<=z:=by split<;>assumption
def srI_le {p:Array (Nat×Nat×Nat)}:srI p<=p.size-2:=ite_le (Nat.sub_le _ _) (Zf _)
section
variable {ps:Yc}{pw:Nat}{jx px:Yi}{R:ForInStep U1->Yy}(Sg:Seg lt jx lo (lo+k))(k1:1<=k)(k2:lo+k<=N)(suf:∀i,lo+k<=i->i<N->gx jx i=i)
 (go:∀ps jx st',RI it kind lt N ps (lo+k) jx st'->(∀i,lo+k<=i->i<N->gx jx i=i)->R (.yield (none,lo+k)) st')
include Sg k1 k2 suf go
theorem fE (R4:RI it kind lt N ps lo jx st):YH prog w A E s (srE lo k) R st:=
 Yo (wpS_modify (Yp (go (ps++[(lo,k,0)]) jx _ ⟨⟨R4.b.arr,R4.b.kd,R4.b.fl,by rw[j9,R4.b.pd];simp⟩,R4.size,R4.perm,R4.ch.cat ⟨rfl,k1,Sg,rfl⟩,k2⟩ suf)))
theorem so_srQ (p1:1<=ps.length)(R4:RI it kind lt N ps lo jx st):YH prog w A E s (srQ lo k pw (none,Yt)) R st:=by
 rcases List.eq_nil_or_concat ps with z|⟨l2,v,z⟩
 .rw[z] at p1;cases p1
 .subst z;rw[List.concat_eq_append] at R4;obtain⟨v1,v2,v3⟩:=v;refine Yo (wpS_modify (fE (ps:=l2++[(v1,v2,pw)]) (jx:=jx) Sg k1 k2 suf go ⟨⟨R4.b.arr,R4.b.kd,R4.b.fl,?_⟩,R4.size,R4.perm,?_,R4.le⟩))
  .rw[j9,R4.b.pd];exact pend_mod _
  .obtain⟨c,c1,d1,d2,d3,d4⟩:=R4.ch.app;exact c1.cat (r:=[(v1,v2,pw)]) ⟨d1,d2,d3,d4⟩
end
def so_srG {ps:Yc}{lo pw:Nat}{jx:Yi}{Q:ForInStep U2->Yy}(W:Wk lt)(O:Orc prog w A s kind it lt N)(p1:1<=ps.length)(R4:RI it kind lt N ps lo jx st)(dn:Q (.done (none,Yt)) st)
 (go:∀ps' kx st',1<=ps'.length->RI it kind lt N ps' lo kx st'->(∀i,lo<=i->gx kx i=gx jx i)->Q (.yield (none,Yt)) st'):YH prog w A E s (srG pw) Q st:=by
 refine Yo (wpS_get ?_);rw[R4.b.pd]
 split
 .rename_i o1 o2 older ho;have hp:2<=ps.length:=by
   split at ho
   .rename_i z;rw[Zm] at z;exact z
   .exact zqn ho
  refine wi (λ_=>Yp dn) λ_=>Yo (lU W O R4 (by rw[Zm];omega) λps' kx st' l' R' u'=>Yp (go ps' kx st' () R' u'))
 .exact Yp dn
def f9 {ps:Yc}{lo k:Nat}{ix px:Yi}{R:ForInStep U1->Yy}(W:Wk lt)(O:Orc prog w A s kind it lt N)(B:SBp it kind ps.toArray px st)(L:PlO lo N ix px (lo+k))(U:UpO lt lo px (lo+k))(ch:xH lt ix 0 ps lo)(le:lo<=N)(k1:1<=k)(k2:lo+k<=N)
 (go:∀ps jx st',RI it kind lt N ps (lo+k) jx st'->(∀i,lo+k<=i->i<N->gx jx i=i)->R (.yield (none,lo+k)) st'):YH prog w A E s (srP N lo k) R st:=by
 have Sg:Seg lt px lo (lo+k):=⟨L.mid,U⟩;have R3:RI it kind lt N ps lo px st:=⟨B,L.size,L.perm,ch.same λi _ h2=>L.low i h2,le⟩;refine Yo (wpS_get ?_);rw[B.pd];rcases List.eq_nil_or_concat ps with z|⟨l,y,z⟩
 .subst z;exact fE Sg k1 k2 L.suf go R3
 .have p1:1<=ps.length:=by rw[z,List.concat_eq_append,ZG];exact Nat.le_add_left _ _
  rw[show ps.toArray.back? = some y by rw[z,List.concat_eq_append];simp];refine Yo (Yq (Yr (I:=λ_ c sy=>c=(none,Yt)/\∃ps jx,1<=ps.length/\RI it kind lt N ps lo jx sy/\∀i,lo<=i->gx jx i=gx px i) (Q:=λc sy=>c=(none,Yt)/\∃ps jx,1<=ps.length/\RI it kind lt N ps lo jx sy/\∀i,lo<=i->gx jx i=gx px i) ?_ (λ_ _ z=>z) ⟨rfl,_,px,p1,R3,λ_ _=>rfl⟩) ?_)
  .rintro y c sy _ _ ⟨rfl,ps,jx,p1,R4,un⟩;exact so_srG W O p1 R4 ⟨rfl,ps,jx,p1,R4,un⟩ λps' kx st' l' R' u'=>⟨rfl,ps',kx,l',R',λi hi=>(u' i hi).trans (un i hi)⟩
  .rintro c sy ⟨rfl,ps,jx,p1,R4,un⟩;exact so_srQ (Sg.same λi h1 h2=>un i h1) k1 k2 (λi h1 h2=>(un i (Zh (ZY _ _) h1)).trans (L.suf i h1 h2)) go p1 R4
def so_srF {ps:Yc}{jx:Yi}{Q:ForInStep U2->Yy}(W:Wk lt)(O:Orc prog w A s kind it lt N)(R:RI it kind lt N ps N jx st)(dn:ps.length<=1->Q (.done (none,Yt)) st)
 (go:∀ps' kx st',ps'.length+1=ps.length->RI it kind lt N ps' N kx st'->Q (.yield (none,Yt)) st'):YH prog w A E s srF Q st:=by
 refine Yo (wpS_get ?_);rw[R.b.pd];refine wi (λc=>Yp (dn c)) λc=>Yo (lU W O R ?_ λps' jx st' l' R' _=>Yp (go ps' jx st' l' R'));have c:¬ps.length<=1:=c;have:=srI_le (p:=ps.toArray);rw[Zm] at this;omega
def so_all {ix:Yi}{Q:Unit->Yy}(W:Wk lt)(O:Orc prog w A s kind it lt N)(R0:RI it kind lt N [] 0 ix st)(suf:∀i,i<N->gx ix i=i)(h2:2<=N)
 (h:∀jx st',arrOf st'=jx.map it->failedOf st'=none->Pl N jx N->Up lt jx N->Q Yt st'):YH prog w A E s sortRuns' Q st:=by
 have sz:(arrOf st).size=N:=by rw[R0.b.arr,Z0];exact R0.size
 rw[sr_eq];refine Yo (wpS_get ?_);rw[sz];refine Yo (Yq (Yr (I:=λx c sx=>∃lo ps ix,c=(none,lo)/\x<=lo/\RI it kind lt N ps lo ix sx/\∀i,lo<=i->i<N->gx ix i=i) (Q:=λc sx=>∃ps ix,c=(none,N)/\RI it kind lt N ps N ix sx) ?_ ?_ ⟨0,[],ix,rfl,Zf _,R0,λi _ hi=>suf i hi⟩) ?_)
 .rintro x c sx _ xn ⟨lo,ps,ix,rfl,xl,R,suf⟩;have le:=R.le;refine wi (λge=>?_) λge=>?_
  .have e:lo=N:=Nat.le_antisymm le ge;subst e;exact Yp ⟨ps,ix,rfl,R⟩
  have ge:lo<N:=XN ge;have L1:PlO lo N ix ix (lo+1):=⟨R.size,R.perm,λ_ _=>rfl,λa h1 h2=>by
   rw[suf a h1 (Zg h2 ge)];exact⟨h1,h2⟩,λa h1 h2=>suf a (Xb h1) h2⟩
  exact Yo (so_count W O () (λm kx s2 B2 m1 m2 L2 U2=>wi (λmn=>Yo (wpS_lift (wpAny_rule ⟨rfl,Yo (so_bin W O () () m1 B2 L2 U2 λpx s3 B3 L3 U3=>f9 W O B3 L3 U3 R.ch le () () λps jx st' R' s'=>⟨_,ps,jx,rfl,(),R',s'⟩)⟩))) λ_=>f9 W O B2 L2 U2 R.ch le m1 () λps jx st' R' s'=>⟨_,ps,jx,rfl,(),R',s'⟩) () R.b L1)
 .rintro c sx ⟨lo,ps,ix,rfl,xl,R,suf⟩;have le:=R.le;have e:lo=N:=()
  subst e;exact⟨ps,ix,rfl,R⟩
 .rintro c sx ⟨ps,ix,rfl,R⟩;refine Yo (Yq (Yr (I:=λx c sy=>∃ps ix,c=(none,Yt)/\(ps.length<=1\/ps.length+x<=N)/\RI it kind lt N ps N ix sy) (Q:=λc sy=>∃ps ix,c=(none,Yt)/\ps.length<=1/\RI it kind lt N ps N ix sy) ?_ ?_ ⟨ps,ix,rfl,.inr (by have:=R.ch.le;omega),R⟩) ?_)
  .rintro x c sy _ xn ⟨ps,ix,rfl,lp,R⟩;exact so_srF W O R (λc1=>⟨ps,ix,rfl,c1,R⟩) λps' jx st' l' R'=>⟨ps',jx,rfl,(),R'⟩
  .rintro c sy ⟨ps,ix,rfl,lp,R⟩;exact⟨ps,ix,rfl,(),R⟩
  .rintro c sy ⟨ps,ix,rfl,lp,R⟩;cases ps with
   |nil =>
    have:0=N:=R.ch;omega
   |cons p r =>
    have e:r=[]:=List.eq_nil_of_length_eq_zero (Nat.le_zero.mp (Nat.le_of_succ_le_succ lp));subst e;obtain⟨d1,d2,d3,d4⟩:=R.ch;have d4:0+p.2.1=N:=d4;rw[d4] at d3;exact Yp (h ix sy R.b.arr R.b.fl ⟨R.size,R.perm,λa ha=>(d3.pl a (Nat.zero_le _) ha).2,λa h1 h2=>Zn h2 (Nat.not_lt_of_le h1)⟩ λa b ab bn=>d3.up a b (Nat.zero_le _) ab bn)
end
open PySem PyProof.Rows
section
def kX (W:Wk lt)(O:Orc prog w A s kind it lt n){Q:Unit->Yy}(B:SB it kind ix st)(L:Pl n ix 1)(h2:2<=n)(h64:n<1000)
 (h:∀jx st',arrOf st'=jx.map it->failedOf st'=none->Pl n jx n->Up lt jx n->Q Yt st'):YH prog w A E s sortRuns' Q st:=
 so_all W O ⟨⟨B.arr,B.kd,B.fl,B.pd⟩,L.size,L.perm,rfl,Nat.zero_le _⟩ (λi hi=>if z:i=0 then by rw[z];have:=L.pre 0 ();omega else L.suf i () hi) h2 h
end
end L2
end
namespace L2
noncomputable def xg (vs:Yf)(i:Nat):Value:=vs.getD i .none
def sN (vs:Yf):vs.toArray.zip vs.toArray=(Array.range vs.length).map λi=>(xg vs i,xg vs i):=by
 apply Array.ext_getElem?;intro k;rw[Xs];by_cases h:k<vs.length
 .rw[XS,Zd h];have e:xg vs k=vs[k]:=by unfold xg;rw[ZE,Zqg h];rfl
  simp[Array.getElem?_zip_eq_some,h,e]
 .rw[XS,Ze h,Xu (by simp;omega)];rfl
def lH (h:k<n):gx (Array.range n) k=k:=by
 unfold gx;rw[XS,Zd h];rfl
def tz (n k:Nat)(hk:k<=n):Pl n (Array.range n) k:=by
 refine⟨Array.size_range,Array.Perm.refl _,λa ha=>?_,λa _ h=>lH h⟩;rw[lH ()];exact ha
section
variable {prog:Program}{w:World}{A:Around}{E:Ya}{s:Shared}{lt:Yd}
def d9 (prog:Program)(w:World)(A:Around)(s:Shared)(vs:Yf)(lt:Yd):Prop:=
 ∃kind,(∀(E:Ya) (Q:SortKind->Yz),Q kind s->YG prog w A (keyKind' vs.toArray) Q E s)/\Orc prog w A s kind (λi=>(xg vs i,xg vs i)) lt vs.length
def qi (W:Wk lt)(ho:s.heap.get? a=some (seqObj "list" vs.toArray n))(h64:vs.length<1000)
 (hk:∀h',(∀b o,b≠a->s.heap.get? b=some o->h'.get? b=some o)->2<=vs.length->d9 prog w A { s with heap:=h' } vs lt)
 (h:∀jx,Pl vs.length jx vs.length->Up lt jx vs.length->P (.done (.ret .none)) { s with heap:=sortedHeap s.heap a vs (jx.map (xg vs)) }):
 YG prog w A (Builtin.«list.sort» ⟨[.ref a],[]⟩) P E s:=by
 rw[list_sort_plain];have la:a<s.heap.objs.size:=Zk ho;obtain⟨c1,g1⟩:∃c1,(s.heap.update a (Obj.mapSeq λ_ => #[])).get? a=some (seqObj "list" #[] c1):=⟨_,get?_update_seq ho (λ_ => #[])⟩;refine Za (listItems_at ho rfl (Za (listUpdate_at ho rfl (Za (seqEpoch_at g1 rfl (Za (wpAny_newTuple (Za (wpAny_newList (wpAny_holding ?_))))))))));have ne1:∀b,b<s.heap.objs.size->b≠(s.heap.update a (Obj.mapSeq λ_ => #[])).objs.size:=λb hb=>by
  rw[Heap.size_update];exact Zi hb
 have ne2:∀b,b<s.heap.objs.size->b≠((s.heap.update a (Obj.mapSeq λ_ => #[])).push (seqObj "tuple" vs.toArray 0)).objs.size:=λb hb=>by
  rw[size_push',Heap.size_update];exact Zi (Xa hb)
 have g6:(((s.heap.update a (Obj.mapSeq λ_ => #[])).push (seqObj "tuple" vs.toArray 0)).push (seqObj "list" #[] 0)).get? a=some (seqObj "list" #[] c1):=by
  rw[Heap.get?_push_ne _ _ _ (ne2 a la),Heap.get?_push_ne _ _ _ (ne1 a la)];exact g1
 have kp:∀b o,b≠a->s.heap.get? b=some o->(((s.heap.update a (Obj.mapSeq λ_ => #[])).push (seqObj "tuple" vs.toArray 0)).push (seqObj "list" #[] 0)).get? b=some o:=λb o hb e=>by
  rw[Heap.get?_push_ne _ _ _ (ne2 b (Zk e)),Heap.get?_push_ne _ _ _ (ne1 b (Zk e)),Heap.get?_update_ne _ _ _ _ hb];exact e
 have ms:∀(jx:Yi),(jx.map λi=>(xg vs i,xg vs i)).map (·.2)=jx.map (xg vs):=λjx=>by
  rw[Array.map_map];rfl
 show YG prog w A _ P E { s with heap:=((s.heap.update a (Obj.mapSeq λ_ => #[])).push (seqObj "tuple" vs.toArray 0)).push (seqObj "list" #[] 0) };dsimp only;have sz:vs.toArray.size=vs.length:=by simp
 by_cases few:vs.toArray.size<2
 .rw[Zd few,Zd few];refine Za (Zb ?_);rw[StateT.run_pure];refine Za (Zb ?_);dsimp only;refine Za (seqEpoch_at g6 rfl (Za (listUpdate_at g6 rfl ?_ (hsz2:=by rw[Z0,sN,Z0,Array.size_range,sizeLine_eq];omega))));simp only[bne_self_eq_false,ZO,if_false];have fin:=h (Array.range vs.length) (tz _ _ (Zf _)) λi j ij jn=>()
  rw[<- ms,<- sN] at fin;exact Zb fin
 .rw[Ze few,Ze few];refine zc1b (hk _ kp ()) λkind k1 k2=>?_;refine Za (k1 _ _ ?_);refine Za (Zc (kX W k2 (ix:=Array.range vs.length) (st:=SortSt.mk' kind (vs.toArray.zip vs.toArray) #[] 7 none) (Q:=λ_ st'=>∃jx,arrOf st'=jx.map (λi=>(xg vs i,xg vs i))/\failedOf st'=none/\Pl vs.length jx vs.length/\Up lt jx vs.length)
   ⟨sN vs,rfl,rfl,rfl⟩ (tz _ _ ()) () h64 λjx st' a1 a2 a3 a4=>⟨jx,a1,a2,a3,a4⟩) ?_ λ_ _ e=>e)
  rintro⟨⟨⟩,st'⟩ s' ⟨rfl,jx,q1,q2,q3,q4⟩;dsimp only;refine Za (seqEpoch_at g6 rfl (Za (listUpdate_at g6 rfl ?_ (hsz2:=by
   rw[Z0,q1,Z0,q3.size,sizeLine_eq];omega))))
  rw[q2];simp only[bne_self_eq_false,ZO,if_false];have fin:=h jx q3 q4;rw[<- ms,<- q1] at fin;exact Zb fin
def p7 (W:Wk lt)
 (hc:wpAny (model prog w) A.in1 (collect x) (λvs s1=>vs.length<1000/\(∀h',(∀b o,s1.heap.get? b=some o->h'.get? b=some o)->2<=vs.length->d9 prog w A.in1.in1 { s1 with heap:=h' } vs lt) /\
  ∀jx h' l,Pl vs.length jx vs.length->Up lt jx vs.length->(∀b o,s1.heap.get? b=some o->h'.get? b=some o)->s1.heap.objs.size<=l->(∃e,h'.get? l=some (seqObj "list" (jx.map (xg vs)) e))->Q (.ref l) { s1 with heap:=h' }) E s):
 YG prog w A (call (.builtin "sorted") [x]) Q E s:=by
 refine Calls.call_function_entry kind_sorted plain_sorted entry_sorted (args_sorted1 _) ?_;unfold Builtin.«sorted»;refine Za (m:=checkCount "sorted" 1 1 _) (Zb (Za (Zc hc (λvs s1 z=>?_) λ_ _ e=>e)));obtain⟨h64,hk,hq⟩:=z;have gl:(s1.heap.push (seqObj "list" vs.toArray 0)).get? s1.heap.objs.size=some (seqObj "list" vs.toArray 0):=Zr _ rfl;have nl:∀b o,s1.heap.get? b=some o->b≠s1.heap.objs.size:=λb o e=>Zi (Zk e);refine Za (wpAny_newList (Za (wpAny_holding (wpAny_call_entry slot_list_sort ⟨_,gl,rfl⟩ entry_list_sort (qi (s:={ s1 with heap:=s1.heap.push (seqObj "list" vs.toArray 0) }) W gl h64 (λh' kp=>hk h' λb o e=>kp b o (nl b o e) (Zq _ e)) λjx p u=>⟨_,rfl,Zb ⟨_,rfl,?_⟩⟩) (args_list_sort _)))));refine hq jx _ _ p u (λb o e=>?_) (Zf _) (sortedHeap_at gl);rw[sortedHeap_old (nl b o e) (by rw[size_push'];exact Xa (Zk e))];exact Zq _ e
end
structure Tot {α:Type}(ltb:α -> α -> Bool):Prop where
 asy:∀a b,ltb a b=true->ltb b a=false
 neg:∀a b c,ltb a c=true->ltb a b=true\/ltb b c=true
 tot:∀a b,ltb a b=false->ltb b a=false->a=b
def Tot.irr {α:Type}{ltb:α -> α -> Bool}(T:Tot ltb)(a:α):ltb a a=false:=by
 cases q:ltb a a with
 |false=>rfl
 |true=>have:=T.asy _ _ q;rw[q] at this;cases this
def Tot.wk {α:Type}{ltb:α -> α -> Bool}(T:Tot ltb)(f:Nat -> α):Wk λi j=>ltb (f i) (f j):=⟨λi j=>T.asy _ _,λi j k=>T.neg _ _ _⟩
noncomputable def wK (p q:Int×Int):Bool:=decide (p.1<q.1)||(decide (p.1=q.1)&&decide (p.2<q.2))
def xj:wK p q=true↔p.1<q.1\/(p.1=q.1/\p.2<q.2):=by
 unfold wK;simp
def sD:wK p q=false↔¬(p.1<q.1\/(p.1=q.1/\p.2<q.2)):=by
 rw[<- xj];simp
def xS:Tot wK:=by
 refine⟨λa b h=>?_,λa b c h=>?_,λa b h1 h2=>?_⟩
 .rw[xj] at h;rw[sD];omega
 .rw[xj] at h;rw[xj,xj];omega
 .rw[sD] at h1 h2;exact Prod.ext () ()
def yF:X6->X6->Bool
 | [],[]=>false
 | [],_::_=>true
 |_::_,[]=>false
 |p::r,q::s=>if p=q then yF r s else wK p q
def xr (p q:Int×Int)(r s:X6):yF (p::r) (q::s)=if p=q then yF r s else wK p q:=rfl
theorem jK:∀a b:X6,yF a b=true->yF b a=false
 | [],[],h=>by exact zqb h
 | [],_::_,_=>rfl
 |_::_,[],h=>by exact zqb h
 |p::r,q::s,h=>by
  rw[xr] at h ⊢;by_cases e:p=q
  .rw[Zd e] at h;rw[Zd e.symm];exact jK r s h
  .rw[Ze e] at h;rw[Ze (λz=>e z.symm)];exact xS.asy _ _ h
theorem kQ:∀a b c:X6,yF a c=true->yF a b=true\/yF b c=true
 | [],[],c,h=>.inr h
 | [],_::_,_,_=>.inl rfl
 |_::_,_,[],h=>by exact zqb h
 |p::r,[],q::s,_=>.inr rfl
 |p::r,x::t,q::s,h=>by
  rw[xr] at h;rw[xr,xr];by_cases e:p=q
  .rw[Zd e] at h;by_cases e1:p=x
   .rw[Zd e1,Zd (e1.symm.trans e)];exact kQ r t s h
   .rw[Ze e1,Ze (λz=>e1 (e.trans z.symm))];cases z:wK p x with
    |true=>exact .inl rfl
    |false =>
     right;rw[<- e];cases y:wK x p with
     |true=>rfl
     |false=>exact Zn (xS.tot _ _ z y) e1
  .rw[Ze e] at h;by_cases e1:p=x
   .rw[Zd e1,Ze (λz=>e (e1.trans z))];right;rw[<- e1];exact h
   .rw[Ze e1];by_cases e2:x=q
    .left;rw[e2];exact h
    .rw[Ze e2];exact xS.neg _ _ _ h
theorem ji:∀a b:X6,yF a b=false->yF b a=false->a=b
 | [],[],_,_=>rfl
 | [],_::_,h,_=>by cases h
 |_::_,[],_,h=>by cases h
 |p::r,q::s,h1,h2=>by
  rw[xr] at h1 h2;by_cases e:p=q
  .rw[Zd e] at h1;rw[Zd e.symm] at h2;rw[e,ji r s h1 h2]
  .rw[Ze e] at h1;rw[Ze (λz=>e z.symm)] at h2;exact Zn (xS.tot _ _ h1 h2) e
def ya:Tot yF:=⟨jK,kQ,ji⟩
section
variable {α:Type}(ltb:α -> α -> Bool)
noncomputable def dw (x:α):List α -> List α
 | []=>[x]
 |y::r=>if ltb x y=true then x::y::r else y::dw x r
def zT:List α -> List α
 | []=>[]
 |x::r=>dw ltb x (zT r)
noncomputable def Sd (l:List α):Prop:=l.Pairwise λa b=>ltb b a=false
variable {ltb}
theorem sh (x:α):∀l:List α,(dw ltb x l).Perm (x::l)
 | []=>List.Perm.refl _
 |y::r=>by
  unfold dw
  split
  .exact List.Perm.refl _
  .exact((sh x r).cons y).trans (List.Perm.swap x y r)
theorem zv:∀l:List α,(zT ltb l).Perm l
 | []=>List.Perm.refl _
 |x::r=>(sh x _).trans ((zv r).cons x)
theorem i6 (T:Tot ltb)(x:α):∀l:List α,Sd ltb l->Sd ltb (dw ltb x l)
 | [],_=>Xn _ _
 |y::r,h=>by
  obtain⟨h1,h2⟩:=Z6.mp h;unfold dw
  split
  .rename_i c;refine Z6.mpr ⟨λz hz=>?_,h⟩;rcases ZF.mp hz with e|e
   .rw[e];exact T.asy _ _ c
   .cases q:ltb z x with
    |false=>rfl
    |true =>
     have n1:=h1 z e;rcases T.neg x z y c with u|u
     .rw[T.asy _ _ u] at q;exact zqb q
     .rw[n1] at u;exact zqb u
  .rename_i c;refine Z6.mpr ⟨λz hz=>?_,i6 T x r h2⟩;rcases ZF.mp ((sh x r).mem_iff.mp hz) with e|e
   .rw[e];cases q:ltb x y with
    |false=>rfl
    |true=>exact Zn q c
   .exact h1 z e
theorem x6 (T:Tot ltb):∀l:List α,Sd ltb (zT ltb l)
 | []=>List.Pairwise.nil
 |x::r=>i6 T x _ (x6 T r)
theorem lN (T:Tot ltb):∀{a b:List α},a.Perm b->Sd ltb a->Sd ltb b->a=b
 | [],b,p,_,_=>p.nil_eq
 |x::r,b,p,ha,hb=>by
  cases b with
  |nil=>exact Zn p.length_eq (by simp)
  |cons y t =>
   obtain⟨a1,a2⟩:=Z6.mp ha;obtain⟨b1,b2⟩:=Z6.mp hb;have e:x=y:=by
    rcases ZF.mp (p.mem_iff.mp Zqs) with z|z
    .exact z
    .rcases ZF.mp (p.mem_iff.mpr Zqs) with u|u
     .exact u.symm
     .exact T.tot _ _ (b1 x z) (a1 y u)
   subst e;rw[lN T p.cons_inv a2 b2]
def xQ (T:Tot ltb){l:List α}{d:α}(p:Pl l.length jx l.length)(u:Up (λi j=>ltb (l.getD i d) (l.getD j d)) jx l.length):jx.toList.map (λi=>l.getD i d)=zT ltb l:=by
 refine lN T ?_ ?_ (x6 T l)
 .refine List.Perm.trans ?_ (zv l).symm;have q:jx.toList.Perm (List.range l.length):=by
   have:=Array.perm_iff_toList_perm.mp p.perm;simpa using this
  refine(q.map _).trans (List.Perm.of_eq ?_);apply List.ext_getElem
  .simp
  .intro i h1 h2;simp[h2]
 .refine ZZ.mpr λa b ha hb ab=>?_;rw[List.getElem_map,List.getElem_map];have sz:jx.toList.length=l.length:=by rw[ZN,p.size]
  rw[Zql] at ha hb;have ea:jx.toList[a]=gx jx a:=by
   unfold gx;rw[ZH (by rw[p.size];omega)];simp
  have eb:jx.toList[b]=gx jx b:=by
   unfold gx;rw[ZH (by rw[p.size];omega)];simp
  rw[ea,eb];exact Bef.no (T.wk λi=>l.getD i d) (u a b ab ())
end
def z4 {α:Type}{l:List α}{d x:α}(h:l[i]? = some x):l.getD i d=x:=by
 rw[ZE,h];rfl
noncomputable def v7 (h:Heap)(vs:Yf)(ps:X6):Prop:=vs.length=ps.length/\∀(i:Nat) p,ps[i]? = some p->∃a o n t u,vs[i]? = some (.ref a)/\h.get? a=some o/\o.cls=.type "tuple" /\ o.data=.seq #[.int p.1 t,.int p.2 u] n
section
variable {prog:Program}{w:World}{A:Around}{s:Shared}
theorem uJ:∀{vs:Yf} {ps:X6},v7 h vs ps->∃fs,W.KatTups h vs fs/\fs.length=vs.length/\∀v∈fs,∃k t,v=Value.int k t
 | [],ps,q=>⟨[],.nil,rfl,λv hv=>nomatch hv⟩
 |v::vs,[],q=>by have:=q.1;simp at this
 |v::vs,p::ps,q=>by
  refine zc4a (q.2 0 p rfl) λa o n t zz=>zc1d zz λu e1 e2 e3 e4=>?_;have e1:some v=some (Value.ref a):=e1;obtain rfl:=Zqi e1;refine zc1c (uJ (h:=h) (vs:=vs) (ps:=ps) ⟨by have:=q.1;simpa using this,λi p hp=>q.2 (i+1) p hp⟩) λfs k1 k2 k3=>?_;refine⟨.int p.1 t::fs,.cons e2 e3 e4 rfl k1,by simp[k2],λv hv=>?_⟩;rcases ZF.mp hv with z|z
  .exact⟨p.1,t,z⟩
  .exact k3 v z
def keys_pairs (q:v7 s.heap vs ps)(h2:2<=vs.length):d9 prog w A s vs λi j=>wK (ps.getD i (0,0)) (ps.getD j (0,0)):=by
 refine zc1c (uJ q) λfs k1 k2 k3=>?_;refine⟨tuples' (Value.type "int" != Value.type "tuple"),λE Q h=>W.kat_kind (T:=Value.type "int") k1 () (λv hv=>?_) rfl h,λi j hi hj E Q h=>?_⟩
 .refine zc2a (k3 v hv) λk t zr2=>?_;subst zr2;exact W.Looks.of_pure rfl
 .have l1:=q.1;obtain⟨p,hp⟩:∃p,ps[i]? = some p:=⟨_,Zqg ()⟩;obtain⟨p',hp'⟩:∃p,ps[j]? = some p:=⟨_,Zqg ()⟩;refine zc4a (q.2 i p hp) λa o n t zz=>zc1d zz λu e1 e2 e3 e4=>?_;refine zc4a (q.2 j p' hp') λa' o' n' t' zz=>zc1d zz λu' f1 f2 f3 f4=>?_;dsimp only at h;rw[z4 hp,z4 hp'] at h;show YG prog w A (keyLt' _ (xg vs i) (xg vs j)) Q E s;unfold xg;rw[z4 e1,z4 f1];refine W.kat_lt e2 e4 f2 f4 ?_;refine W.kat_cons (PySem.SeqAt.EqAt.int_int p.1 t p'.1 t' prog w _ _ ?_);by_cases c:p.1=p'.1
  .rw[show(p.1 == p'.1)=true by simpa using c];refine W.kat_yes (W.kat_cons (PySem.SeqAt.EqAt.int_int p.2 u p'.2 u' prog w _ _ ?_));by_cases d:p.2=p'.2
   .rw[show(p.2 == p'.2)=true by simpa using d];refine W.kat_yes (W.kat_nil ?_);have z:wK p p'=false:=by rw[sD];omega
    rw[z] at h;exact h
   .rw[show(p.2 == p'.2)=false by simpa using d];refine W.kat_no (W.kat_one _ _ (lt_int ?_));have z:wK p p'=decide (p.2<p'.2):=by
     by_cases g:p.2<p'.2
     .rw[Zp g,xj];omega
     .rw[Zo g,sD];omega
    rw[z] at h;exact h
  .rw[show(p.1 == p'.1)=false by simpa using c];refine W.kat_no (oneLt_int ?_);have z:wK p p'=decide (p.1<p'.1):=by
    by_cases g:p.1<p'.1
    .rw[Zp g,xj];omega
    .rw[Zo g,sD];omega
   rw[z] at h;exact h
structure RowAt (h:Heap)(v:Value)(r:X6)(a:Addr)(o:Obj)(us:Yf)(n:Nat):Prop where
 isv:v=.ref a
 get:h.get? a=some o
 cls:o.cls=.type "tuple"
 dat:o.data=.seq us.toArray n
 prs:v7 h us r
def jW (ok:HOk P w H h)(hr:Is H (rD r) x)(rv:y8 x v):∃a o us n,RowAt h v r a o us n:=by
 unfold rD at hr;rw[Is.tuple_iff] at hr;refine zc2c hr λa xs zr2 ht ha=>?_;subst zr2;obtain rfl:v=Value.ref a:=rv;refine wx ((show yE P w H h a (.tup xs) from ok a _ ht)) λ_ zz=>zc1b zz λits ri zz=>zc1c zz λo e1 e2 zz=>zc1a zz λn e3=>?_;refine⟨a,o,its,n,rfl,e1,e2,e3,?_,λi p hp=>?_⟩
 .have l1:=ha.length;have l2:=ri.length;rw[Zql] at l1;omega
 .refine zc1b (ha.get (i:=i) (d:=pD p) (by rw[Zv,hp];rfl)) λx hx hi=>?_;refine zc1b (ri.get hx) λu hu ru=>?_;refine zc1b (qA.mp hi) λb zr1 hb=>?_;subst zr1;obtain rfl:u=Value.ref b:=ru;refine wx ((show yE P w H h b (.tup [.int p.1,.int p.2]) from ok b _ hb)) λ_ zz=>zc1b zz λits2 r2 zz=>zc1c zz λo2 g1 g2 zz=>zc1a zz λn2 g3=>?_;refine zc2c (iW r2) λu1 u2 zr2 q1 q2=>?_;subst zr2;obtain⟨t1,rfl⟩:=(show ∃t,u1=Value.int p.1 t from q1);obtain⟨t2,rfl⟩:=(show ∃t,u2=Value.int p.2 t from q2);exact⟨b,o2,n2,t1,t2,hu,g1,g2,g3⟩
theorem pp (hu:A.units+4<cLine){fin:Bool}{E:Ya}{Q:Bool->Yz}:∀{r r':X6} {us us':Yf} (i:Nat),v7 s.heap us r->v7 s.heap us' r' ->
 fin=decide (r.length<r'.length)->Q (yF r r') s->W.KatLex prog w A false fin Q (us.zip us') i s
 | [],[],us,us',i,q,q',hf,h=>by
  obtain rfl:us=[]:=ZQ.mp q.1;refine W.kat_nil ?_;rw[hf];exact h
 | [],p::r',us,us',i,q,q',hf,h=>by
  obtain rfl:us=[]:=ZQ.mp q.1;refine W.kat_nil ?_;rw[hf,Zp (by simp)];exact h
 |p::r,[],us,us',i,q,q',hf,h=>by
  obtain rfl:us'=[]:=ZQ.mp q'.1;rw[List.zip_nil_right];refine W.kat_nil ?_;rw[hf,Zo (by simp)];exact h
 |p::r,p'::r',us,us',i,q,q',hf,h=>by
  refine zc4a (q.2 0 p rfl) λa o n t zz=>zc1d zz λu e1 e2 e3 e4=>?_;refine zc4a (q'.2 0 p' rfl) λa' o' n' t' zz=>zc1d zz λu' f1 f2 f3 f4=>?_;cases us with
  |nil=>exact zqn e1
  |cons v us =>
   cases us' with
   |nil=>exact zqn f1
   |cons v' us' =>
    have e1:some v=some (Value.ref a):=e1;have f1:some v'=some (Value.ref a'):=f1;obtain rfl:=Zqi e1;obtain rfl:=Zqi f1;have R1:Reads s.heap (.ref a) (pD p) _:=.tuple e2 e3 e4 (.cons (.int p.1 t) (.cons (.int p.2 u) .nil));have R2:Reads s.heap (.ref a') (pD p') _:=.tuple f2 f3 f4 (.cons (.int p'.1 t') (.cons (.int p'.2 u') .nil));have dp:∀z:Int×Int,(pD z).depth=1:=λz=>by
     unfold pD PyData.depth;show PyData.depthAll ([z.1,z.2].map PyData.int)+1=1;rw[qg]
    rw[XH];refine W.kat_cons (PySem.SeqAt.eqAt_reads _ _ A s _ _ _ _ R1 R2 (sj _ (ub p)) (sj _ (ub p')) (by rw[dp,dp];omega) prog w _ _ ?_);rw[xr] at h;by_cases c:p=p'
    .subst c;rw[eqv_self (ub p)];rw[Zd rfl] at h;refine W.kat_yes (pp hu (E:=E) (i+1) ⟨by have:=q.1;simpa using this,λi z hz=>q.2 (i+1) z hz⟩ ⟨by have:=q'.1;simpa using this,λi z hz=>q'.2 (i+1) z hz⟩ (by rw[hf];simp) h)
    .rw[Ze c] at h;have ne:pD p≠pD p':=λz=>c (by
      unfold pD at z;injection z with z
      injection z with z1 z
      injection z with z2 z
      injection z1 with z1
      injection z2 with z2
      exact Prod.ext z1 z2)
     rw[eqv_ne (ub p) (ub p') ne];refine W.kat_no ?_;rw[Bool.false_and];have I1:IntsAre (#[Value.int p.1 t,Value.int p.2 u]:Yn).toList [p.1,p.2]:=.cons _ _ (.cons _ _ .nil);have I2:IntsAre (#[Value.int p'.1 t',Value.int p'.2 u']:Yn).toList [p'.1,p'.2]:=.cons _ _ (.cons _ _ .nil);refine W.kat_one _ _ (HT.lt_tupInts ⟨o,e2,e3,n,e4⟩ ⟨o',f2,f3,n',f4⟩ I1 I2 () ?_);have z:HT.lexLt [p.1,p.2] [p'.1,p'.2]=wK p p':=by
      rw[HT.lexLt_cons,HT.lexLt_cons,HT.lexLt_nil_nil];unfold wK;by_cases g:p.1=p'.1
      .have g2:¬p.2=p'.2:=λz=>c (Prod.ext g z);simp[g,g2]
      .simp[g]
     rw[z];exact h
def oh {P:Program}{H:Hp}{rs:X7}{xs:YB}{vs:Yf}(hu:A.units+4<cLine)(ok:HOk P w H s.heap)(ha:zw H (rs.map rD) xs)(rv:yt xs vs)(hne:∀r∈rs,r ≠ [])(h2:2<=vs.length):
 d9 prog w A s vs λi j=>yF (rs.getD i []) (rs.getD j []):=by
 have l1:=ha.length;have l2:=rv.length;rw[Zql] at l1;have at_:∀(i:Nat) r,rs[i]? = some r->∃v a o us n,vs[i]? = some v/\RowAt s.heap v r a o us n:=λi r hr=>by
  refine zc1b (ha.get (i:=i) (d:=rD r) (by rw[Zv,hr];rfl)) λx hx hi=>?_;refine zc1b (rv.get hx) λv hv ru=>?_;refine zc4a (jW ok hi ru) λa o us n R=>?_;exact⟨v,a,o,us,n,hv,R⟩
 have firsts:∀(vs:Yf) (rs:X7),vs.length=rs.length->(∀r∈rs,r ≠ [])->(∀(i:Nat) r,rs[i]? = some r->∃v a o us n,vs[i]? = some v/\RowAt s.heap v r a o us n)->∃fs,W.KatTups s.heap vs fs/\fs.length=vs.length/\∀v∈fs,∃b ob,v=Value.ref b/\s.heap.get? b=some ob/\ob.cls=.type "tuple" := by
  intro vs
  induction vs with
  |nil=>exact λ_ _ _ _=>⟨[],.nil,rfl,λv hv=>nomatch hv⟩
  |cons v vs ih =>
   intro rs hl hne hat;cases rs with
   |nil=>simp at hl
   |cons r rs =>
    refine zc4a (hat 0 r rfl) λv' a o us zz=>zc1b zz λn e1 R=>?_;have e1:some v=some v':=e1;obtain rfl:=Zqi e1;refine zc1c (ih rs (by simpa using hl) (λr hr=>hne r (Zqm _ hr)) λi r hr=>hat (i+1) r hr) λfs k1 k2 k3=>?_;cases r with
    |nil=>exact Zn rfl (hne [] Zqs)
    |cons p r =>
     refine zc4a (R.prs.2 0 p rfl) λb ob nb t zz=>zc1d zz λu g1 g2 g3 g4=>?_;obtain rfl:v=Value.ref a:=R.isv;refine⟨.ref b::fs,.cons R.get R.cls R.dat (by simpa using g1) k1,by simp[k2],λz hz=>?_⟩;rcases ZF.mp hz with y|y
     .exact⟨b,ob,y,g2,g3⟩
     .exact k3 z y
 refine zc1c (firsts vs rs () hne at_) λfs k1 k2 k3=>?_;refine⟨tuples' (Value.type "tuple" != Value.type "tuple"),λE Q h=>W.kat_kind (T:=Value.type "tuple") k1 () (λv hv=>?_) rfl h,λi j hi hj E Q h=>?_⟩
 .refine zc2c (k3 v hv) λb ob zr2 g1 g2=>?_;subst zr2;rw[<- g2];exact(W.Looks.ld g1).andThen .now
 .obtain⟨r,hr⟩:∃r,rs[i]? = some r:=⟨_,Zqg ()⟩;obtain⟨r',hr'⟩:∃r,rs[j]? = some r:=⟨_,Zqg ()⟩;refine zc4a (at_ i r hr) λv a o us zz=>zc1b zz λn e1 R=>?_;refine zc4a (at_ j r' hr') λv' a' o' us' zz=>zc1b zz λn' f1 R'=>?_;dsimp only at h;rw[z4 hr,z4 hr'] at h;show YG prog w A (keyLt' _ (xg vs i) (xg vs j)) Q E s;unfold xg;rw[z4 e1,z4 f1,R.isv,R'.isv];refine W.kat_lt R.get R.dat R'.get R'.dat ?_;exact pp hu (E:=E) 0 R.prs R'.prs (by rw[Zm,Zm,R.prs.1,R'.prs.1]) h
end
section
variable {X:Cx}{tg iter elt c:Expr}{scope:Scope}{pos:Pos}{wi:TI}{g:TG}{te:TE}{tt:TT}
def o7 (N:Yk)(cap:List (Option Nat))(hc:X.calm=true)(okB:yN scope X.env N X.N cap=true)(hi:PI X tg iter wi)(hg:∀cl C s H ex,PG (z5 X scope N cl C s H ex) tg g)(ht:∀cl C s H ex,PT (z5 X scope N cl C s H ex) c tt)(he:∀cl C s H ex,PE (z5 X scope N cl C s H ex) elt te)
 (hs:∀x,foldedSetIterable iter X.env x=pure x) {use:Option (Value->Sem Unit)} {R:Ya} {fpos:Pos} {Y:Yb} {s:Shared} {Z:St} {H:Hp} {Q:VK} (I:Inv X Y Z H s) (h:si cap wi g tt te Z H Q) (fin:sE X Y Z Q use R):
 YF X (comprehension (.ListComp elt [⟨tg,iter,[c],0⟩] scope pos) scope X.env fpos (newList []) false (eval iter X.env) use) R X.xe s:=
 mq (test:=λenv R Q s=>YF X (isTrue c env (eval c env)) Q (notedBy (model X.prog X.w) X.A env λe s'=>R (.error e) s') s) N (λI turn n h=>W.kct_loop I turn n h)
  (λcl C s H ex _ _ _ _ _ _ _ _ hR I q k=>Zc (ht cl C s H ex _ _ _ _ _ I q) (λb s8 z=>by obtain⟨H8,I8,q8⟩:=z;exact k b s8 H8 I8 q8) λe s' hx=>Zc hx (λ_ s'' z=>hR _ _ z) λ_ _ z=>hR _ _ z) cap hc okB hi hg (λcl C s H ex _=>he cl C s H ex) hs I h fin
def pe_compIf (N:Yk)(cap:List (Option Nat))(hc:X.calm=true)(okB:yN scope X.env N X.N cap=true)(hi:PI X tg iter wi)(hg:∀cl C s H ex,PG (z5 X scope N cl C s H ex) tg g)(ht:∀cl C s H ex,PT (z5 X scope N cl C s H ex) c tt)(he:∀cl C s H ex,PE (z5 X scope N cl C s H ex) elt te)
 (hs:autoParam (∀x,foldedSetIterable iter X.env x=pure x) zaw._auto_1):PE X (.ListComp elt [⟨tg,iter,[c],0⟩] scope pos) (si cap wi g tt te):=by
 intro Y s Z H Q I h;rw[eval_ListComp];exact o7 N cap hc okB hi hg ht he hs I h lM
end
def lookup_mem {L:List (Addr×HO)}{b:Addr}{u:HO}(h:L.lookup b=some u):(b,u)∈L:=by
 induction L with
 |nil=>exact zqn h
 |cons p r ih =>
  rw[List.lookup_cons] at h;cases c:b == p.1 with
  |true =>
   rw[c] at h;have e:b=p.1:=by simpa using c
   have h:some p.2=some u:=h;obtain rfl:=Zqi h;subst e;exact Zqs
  |false =>
   rw[c] at h;exact Zqm _ (ih h)
noncomputable def qO (H:Hp)(L:List (Addr×HO)):Hp:=λb=>match L.lookup b with
 |some o=>some o
 |none=>H b
def tq (h:∀p∈L,p.1≠b):qO H L b=H b:=by
 unfold qO;have e:L.lookup b=none:=by
  induction L with
  |nil=>rfl
  |cons p r ih =>
   rw[List.lookup_cons];have:(b == p.1)=false:=by
    have:=h p Zqs;simp;exact λz=>this z.symm
   rw[this];exact ih λq hq=>h q (Zqm _ hq)
 rw[e]
def mE (nd:(L.map (·.1)).Nodup)(h:(a,o)∈L):qO H L a=some o:=by
 unfold qO;have e:L.lookup a=some o:=by
  induction L with
  |nil=>cases h
  |cons p r ih =>
   obtain⟨n1,n2⟩:=List.nodup_cons.mp (show(p.1::r.map (·.1)).Nodup from nd);rw[List.lookup_cons];rcases ZF.mp h with z|z
   .rw[<- z,beq_self_eq_true]
   .have:(a == p.1)=false:=by
     simp;intro y;exact n1 (ZD.mpr ⟨(a,o),z,y⟩)
    rw[this];exact ih n2 z
 rw[e]
def oq (h:qO H L b=some u):(b,u)∈L\/((∀p∈L,p.1≠b)/\H b=some u):=by
 unfold qO at h;cases e:L.lookup b with
 |some o =>
  rw[e] at h;obtain rfl:=Zqi h;exact .inl (lookup_mem e)
 |none =>
  rw[e] at h;refine .inr ⟨λp hp z=>?_,h⟩;have:(b == p.1)=true:=by simp[z]
  have q:(L.lookup b).isSome=true:=by
   clear h
   induction L with
   |nil=>cases hp
   |cons q r ih =>
    rw[List.lookup_cons];cases c:b == q.1 with
    |true=>rfl
    |false =>
     rcases ZF.mp hp with y|y
     .rw[y] at this;rw[this] at c;cases c
     .rw[List.lookup_cons,c] at e;exact ih e y
  rw[e] at q;exact zqb q
def Inv.laidMany (I:Inv X Y Z H s)(k:∀b u,s.heap.get? b=some u->h'.get? b=some u)(hp:∀p∈L,s.heap.objs.size<=p.1)
 (ok:∀p∈L,yE X.prog X.w (qO H L) h' p.1 p.2):Inv X Y Z (qO H L) { s with heap:=h',toks:=t' }:=by
 have old:∀b u,s.heap.get? b=some u->∀p∈L,p.1≠b:=λb u e p hq z=>Zn (Zg (Zk e) (by rw[<- z];exact hp p hq)) (Zx _);have oldH:∀b u,H b=some u->qO H L b=some u:=λb u e=>by
  rw[tq λp hq z=>Zn (Zg (I.hok.lt e) (by rw[<- z];exact hp p hq)) (Zx _)];exact e
 refine I.un ⟨λb u q _ _ _=>k b u q,λb u q _ _ _=>⟨u.slots,k b u q⟩,λb u q n _=>by rw[tq (old b u q)];exact n,λb u q _=>⟨u,k b u q⟩,λb xs q=>oldH b _ q,λb u xs q=>oldH b _ q,λb ps q=>⟨#[],by rw[oldH b _ q];simp⟩⟩ λb u e=>?_;rcases oq e with z|⟨z,e'⟩
 .exact ok (b,u) z
 .exact(I.hok b u e').stay (λc v _ q=>k c v q) (λc q=>oldH c _ q) λc xs q=>oldH c _ q
theorem oF:∀{L:Yj},(∀i∈L,Is H (f i) (g i))->zw H (L.map f) (L.map g)
 | [],_=>by show zw H [] [];unfold zw;rfl
 |i::L,h=>by
  show zw H (f i::L.map f) (g i::L.map g);unfold zw;exact⟨_,_,rfl,h i Zqs,oF λj hj=>h j (Zqm _ hj)⟩
theorem wR:∀{L:Yj},(∀i∈L,y8 (g i) (u i))->yt (L.map g) (L.map u)
 | [],_=>.nil
 |i::L,h=>.cons (h i Zqs) (wR λj hj=>h j (Zqm _ hj))
def Pl.mem (p:Pl n jx n)(h:i∈jx.toList):i<n:=by
 have q:=(Array.perm_iff_toList_perm.mp p.perm).mem_iff.mp h;simpa using q
def Pl.len (p:Pl n jx k):jx.toList.length=n:=by rw[ZN,p.size]
section
variable {X:Cx}
def call_sortedRows (hu:X.A.units+64<cLine):zB X (.builtin "sorted") (λxs H Q=>∃a ys rs,xs=[.ref a]/\Rd H a (.lst ys)/\zw H (rs.map rD) ys/\(∀r∈rs,r ≠ [])/\rs.length<1000 /\
 ∀(l:Addr) (ix:Yj),H l=none->(∀i∈ix,i<rs.length)->ix.map (λi=>rs.getD i [])=zT yF rs->Q (.ref l) (upd H l (.lst (ix.map λi=>ys.getD i .non)))):=by
 intro Y s Z H xs us Q I rv h;obtain⟨a,ys,rs,rfl,ha,hA,hne,h64,q⟩:=h;obtain⟨u,rfl,ru⟩:=wp rv;obtain rfl:u=Value.ref a:=ru;obtain⟨its,ri,pl,hz⟩:=I.list (.inl ha);have l1:=hA.length;have l2:=ri.length;rw[Zql] at l1;have lw:its.length=rs.length:=()
 have up:∀b o,s.heap.get? b=some o->((s.heap.push (seqObj "list" #[] 0)).update s.heap.objs.size (Obj.mapSeq (· ++ its.toArray))).get? b=some o:=λb o e=>by
  rw[Heap.get?_update_ne _ _ _ _ (Zi (Zk e)),Heap.get?_push_ne _ _ _ (Zi (Zk e))];exact e
 refine p7 (ya.wk λi=>rs.getD i []) (collect_list pl.isList ⟨(),λh' kp h2=>oh (by show X.A.units+1+1+4<cLine;omega) (I.hok.kept λb o e=>kp b o (up b o e)) hA ri hne h2,λjx h' l p u kp hl gl=>?_⟩ (by rw[lw];exact ua ()));obtain⟨e,gl⟩:=gl;rw[lw] at p u;have szl:s.heap.objs.size<=l:=by
  have:((s.heap.push (seqObj "list" #[] 0)).update s.heap.objs.size (Obj.mapSeq (· ++ its.toArray))).objs.size=s.heap.objs.size+1:=by rw[Heap.size_update,size_push']
  have hl:((s.heap.push (seqObj "list" #[] 0)).update s.heap.objs.size (Obj.mapSeq (· ++ its.toArray))).objs.size<=l:=hl;omega
 have at_:∀i∈jx.toList,∃x v,ys[i]? = some x/\its[i]? = some v/\y8 x v/\Is H (rD (rs.getD i [])) x:=λi hi=>by
  have hn:=p.mem hi;obtain⟨x,hx,hr⟩:=hA.get (i:=i) (d:=rD (rs.getD i [])) (by
   rw[Zv,Zqg hn,z4 (Zqg hn)];rfl)
  obtain⟨v,hv,rr⟩:=ri.get hx;exact⟨x,v,hx,hv,rr,hr⟩
 refine⟨.ref l,upd H l (.lst (jx.toList.map λi=>ys.getD i .non)),I.laid (a:=l) (o:=.lst (jx.toList.map λi=>ys.getD i .non)) (t':=s.toks) (λb o e=>kp b o (up b o e)) szl ⟨?_,jx.toList.map (xg its),e,?_,?_⟩,rfl,q l jx.toList (I.hok.fresh szl) (λi hi=>p.mem hi) (xQ ya p u)⟩
 .rw[Zql,p.len];exact ua ()
 .refine wR λi hi=>?_;obtain⟨x,v,hx,hv,rr,_⟩:=at_ i hi;unfold xg;rw[z4 hx,z4 hv];exact rr
 .rw[gl]
  congr 3
  apply Array.ext';simp
noncomputable def o5 (vw d:Addr):HO:=.ext λh=>h.IsItemsView vw d
def mt_items:MtR X "dict.items" (λx vs H Q=>∃d kvs,x=.ref d/\vs=[]/\H d=some (.dK kvs)/\∀p,H p=none->Q (.ref p) (upd H p (o5 p d))):=by
 intro Y s Z H x vs v us Q I rx rv h;refine zc2d h λd kvs zr2 zr3 hd q=>?_;subst zr2;subst zr3;obtain rfl:v=Value.ref d:=rx;obtain rfl:us=[]:=yt.zero rv;refine x8 (db I.hok hd) λz lo zz=>zc1b zz λws rel dd=>?_;refine call_meetsIn PySem.F.slot_dict_items dd.typeIs PySem.F.entry_dict_items (PySem.F.args_dict_items_1 _) (meets_dict_items (zZ X.prog X.w) d lo) ⟨⟨ws,dd⟩,?_⟩;refine⟨.ref s.heap.objs.size,upd H s.heap.objs.size (o5 s.heap.objs.size d),I.laid (t':=s.toks) (λb o e=>Zq _ e) (Zf _) ?_,rfl,q _ (I.hok.fresh (Zf _))⟩;exact⟨⟨_,Zr _ rfl,rfl,rfl⟩,⟨_,Zr _ rfl⟩,λh1 h2 z kk=>by
  refine zc1b z λo e r=>?_;exact⟨o,kk o e,r⟩⟩
def call_sortedItems (hc:X.calm=true):zB X (.builtin "sorted") (λxs H Q=>∃vw d r,xs=[.ref vw]/\H vw=some (o5 vw d)/\H d=some (.dK (kvR r))/\r ≠ []/\r.length<1000 /\
 ∀l L,(∀p∈L,H p.1=none)->(L.map (·.1)).Nodup->(∀G,Is (qO G L) (.list ((zT wK r).map pD)) (.ref l))->Q (.ref l) (qO H L)):=by
 intro Y s Z H xs us Q I rv h;refine zc3a h λvw d r zz=>xf zz λzr3 hv hd hne zz=>wx zz λh64 q=>?_;subst zr3;refine zc1b (wp rv) λu zr1 ru=>?_;subst zr1;obtain rfl:u=Value.ref vw:=ru;refine x8 ((show yE X.prog X.w H s.heap vw (o5 vw d) from I.hok vw _ hv)) λhview _ _=>?_;refine x8 (db I.hok hd) λz lo zz=>zc1b zz λws rel zz=>zc3a zz λod es ep zz=>xf zz λd1 d2 d3 d4 zz=>wx zz λd5 d6=>?_;have lk:=rel.length;have lr:(kvR r).length=r.length:=Zql _;have hat:s.heap.DictAt (zZ X.prog X.w) d ws ep:=⟨od,es,d1,d2,d3,d4,d5,d6⟩;refine p7 (xS.wk λi=>r.getD i (0,0)) (W.kdx_collect (knd:=zZ X.prog X.w) (I.ok.hd hc) hview hat (by rw[<- lk,lr];exact ua ()) λh1 tk as kp1 la G=>?_);have lv:(as.map Value.ref).length=r.length:=by rw[Zql];omega
 have pa:∀h',(∀b o,h1.get? b=some o->h'.get? b=some o)->v7 h' (as.map Value.ref) r:=λh' kp=>by
  refine⟨lv,λi p hp=>?_⟩;have hi:i<as.length:=by
   have:=(ZI.mp hp).1;omega
  refine zc3c (G.pairs i as[i] (Zqg hi)) λkey k x g1 g2 g3=>?_;have kv:KV (kvR r) ws:=rel;have hk:(kvR r)[i]? = some (Sum.inl p.1,V.int p.2):=by unfold kvR;rw[Zv,hp];rfl
  have both:∀{l1:List (Key×V)} {l2:List (Key×Value)} {i:Nat} {a:Key×V} {b:Key×Value},KV l1 l2->l1[i]? = some a->l2[i]? = some b->a.1=b.1/\y8 a.2 b.2:=by
   intro l1 l2 i a b hkv;unfold KV at hkv
   induction hkv generalizing i with
   |nil=>intro e;simp at e
   |cons hh tt ih =>
    cases i with
    |zero =>
     intro e1 e2;simp at e1 e2;subst e1 e2;exact hh
    |succ i =>
     intro e1 e2;exact ih (by simpa using e1) (by simpa using e2)
  obtain⟨b1,b2⟩:=both kv hk g1;have b1:(Sum.inl p.1:Key)=k:=b1;subst b1;obtain⟨t1,rfl⟩:=(show ∃t,x=Value.int p.2 t from b2);obtain⟨t0,rfl⟩:∃t,key=Value.int p.1 t:=by
   rcases zS (show ny (Sum.inl p.1) key=true from g2) with ⟨i0,t,e1,e2⟩|⟨x0,t,e1,e2⟩
   .cases e1;exact⟨t,e2⟩
   .cases e1
  exact⟨as[i],_,_,t0,t1,by rw[Zv,Zqg hi];rfl,kp _ _ g3,rfl,rfl⟩
 refine⟨(),λh' kp h2=>keys_pairs (pa h' kp) h2,λjx h' l p u kp hl gl=>?_⟩;obtain⟨e,gl⟩:=gl;rw[lv] at p u;have kk:∀b o,s.heap.get? b=some o->h'.get? b=some o:=λb o e=>kp b o (kp1 b o e);have asl:∀a∈as,s.heap.objs.size<a:=G.above;have ash:∀a∈as,a<l:=λa ha=>Zg (G.there ha) hl;have szl:s.heap.objs.size<=l:=by
  cases as with
  |nil=>exact Zn (ZQ.mp (by rw[<- lv];rfl)) hne
  |cons a as'=>exact Zy (Xj (asl a Zqs) (ash a Zqs))
 obtain⟨L,hL⟩:∃L:List (Addr×HO),L=(l,.lst (jx.toList.map λi=>V.ref (as.getD i 0)))::(as.zip r).map λz=>(z.1,HO.tup [.int z.2.1,.int z.2.2]):=⟨_,rfl⟩;have keysL:L.map (·.1)=l::as:=by
  rw[hL,Zl,Zw];show l::(as.zip r).map (λz=>z.1)=_;rw[List.map_fst_zip ()]
 have nd:(L.map (·.1)).Nodup:=by
  rw[keysL];refine List.nodup_cons.mpr ⟨λm=>Zx _ (ash l m),?_⟩;exact G.rise.imp λhlt=>Zi hlt
 have inL:∀p∈L,s.heap.objs.size<=p.1:=λp hp=>by
  have:p.1∈L.map (·.1):=ZD.mpr ⟨p,hp,rfl⟩;rw[keysL] at this;rcases ZF.mp this with z|z
  .rw[z];exact szl
  .exact Zy (asl _ z)
 have tupAt:∀(G:Hp) (i:Nat) p,r[i]? = some p->qO G L (as.getD i 0)=some (.tup [.int p.1,.int p.2]):=λG i p hp=>by
  have hi:i<as.length:=by
   have:=(ZI.mp hp).1;omega
  refine mE nd ?_;rw[hL];refine Zqm _ (ZD.mpr ⟨(as[i],p),?_,by rw[z4 (Zqg hi)]⟩);refine ZS (i:=i) ?_;rw[List.getElem?_zip_eq_some];exact⟨Zqg hi,hp⟩
 refine⟨.ref l,qO H L,I.laidMany (t':=tk) kk inL λy hy=>?_,rfl,q l L (λp hp=>I.hok.fresh (inL p hp)) nd λG'=>?_⟩
 .rw[hL] at hy;rcases ZF.mp hy with z'|z'
  .rw[z'];refine⟨?_,jx.toList.map (xg (as.map Value.ref)),e,?_,?_⟩
   .rw[Zql,p.len];exact ua ()
   .refine wR λi hi=>?_;have hn:=p.mem hi;have hi':i<as.length:=()
    unfold xg;rw[z4 (Zqg hi'),z4 (x:=Value.ref as[i]) (by rw[Zv,Zqg hi'];rfl)];rfl
   .rw[gl]
    congr 3
    apply Array.ext';simp
  .refine zc1b (ZD.mp z') λzr0 hm zr2=>?_;obtain⟨a,p'⟩:=zr0;subst zr2;obtain⟨i,hi⟩:=List.mem_iff_getElem?.mp hm;rw[List.getElem?_zip_eq_some] at hi;obtain⟨i1,i2⟩:=hi;refine zc4a ((pa h' kp).2 i p' i2) λa' o' n' t' zz=>zc1d zz λu' f1 f2 f3 f4=>?_;rw[Zv,i1] at f1;cases f1;refine zc3c (G.pairs i a i1) λkey k x g1 g2 g3=>?_;have g3':=kp _ _ g3;rw[g3'] at f2;obtain rfl:=Zqi f2;exact⟨⟨(by show 2<=sizeLine;decide),_,g3',rfl⟩,[.int p'.1 t',.int p'.2 u'],.cons ⟨t',rfl⟩ (.cons ⟨u',rfl⟩ .nil),_,g3',rfl,n',f4⟩
 .rw[Is.list_iff];refine⟨l,_,rfl,mE nd (by rw[hL];exact Zqs),?_⟩;rw[<- xQ xS p u,Zw];refine oF λi hi=>?_;have hn:=p.mem hi;refine qA.mpr ⟨as.getD i 0,rfl,?_⟩;have:=tupAt G' i (r.getD i (0,0)) (by rw[z4 (Zqg hn)];exact Zqg hn);exact this
end
noncomputable def pe (r:X6)(t w:Int):X6:=if(r.any λp=>decide (p.1=t))=true then r.map (λp=>if p.1=t then(p.1,w) else p) else r++[(t,w)]
def iF:decide ((Sum.inl a:Key)=Sum.inl b)=decide (a=b):=by
 by_cases h:a=b
 .rw[h,Zp rfl,Zp rfl]
 .rw[Zo h,Zo (λz=>h (by injection z))]
def putK_kvR (r:X6)(t w:Int):qh (kvR r) (Sum.inl t) (V.int w)=kvR (pe r t w):=by
 have e:((kvR r).any λkv=>decide (kv.1=Sum.inl t))=r.any λp=>decide (p.1=t):=by
  unfold kvR;rw[List.any_map]
  congr 1
  funext p
  exact iF
 unfold qh pe;rw[e]
 split
 .unfold kvR;rw[Zw,Zw];apply Xk;intro p _;by_cases c:p.1=t
  .simp[c]
  .have c':¬(Sum.inl p.1:Key)=Sum.inl t:=λz=>c (by injection z);simp[c]
 .unfold kvR;rw[ZV];rfl
def xo (p:Int×Int)(r:X6)(t:Int):zj (p::r) t=match zj r t with|some w=>some w|none=>if p.1=t then some p.2 else none:=rfl
def lookR_map (r:X6)(t w j:Int):zj (r.map λp=>if p.1=t then(p.1,w) else p) j=(zj r j).map λx=>if j=t then w else x:=by
 induction r with
 |nil=>rfl
 |cons p r ih =>
  rw[Zl,xo,xo,ih];cases q:zj r j with
  |some x=>rfl
  |none =>
   dsimp only[Option.map];by_cases c:p.1=t
   .rw[Zd c];by_cases d:p.1=j
    .rw[Zd d,Zd d];show some w=some (if j=t then w else p.2);rw[Zd (d.symm.trans c)]
    .rw[Ze d,Ze d]
   .rw[Ze c];by_cases d:p.1=j
    .rw[Zd d];show some p.2=some (if j=t then w else p.2);rw[Ze (λz=>c (d.trans z))]
    .rw[Ze d]
def any_look (r:X6)(t:Int):(r.any λp=>decide (p.1=t))=(zj r t).isSome:=by
 cases q:zj r t with
 |none =>
  rw[Option.isSome_none,XT];rintro⟨a,b⟩ hm;by_cases e:a=t
  .subst e;exact Zn hm (qj q b)
  .simp[e]
 |some w =>
  rw[Option.isSome_some,ZP];exact⟨_,zy q,by simp⟩
def look_putR (r:X6)(t w j:Int):zj (pe r t w) j=if j=t then some w else zj r j:=by
 unfold pe;rw[any_look];by_cases a:(zj r t).isSome=true
 .rw[Zd a,lookR_map];by_cases e:j=t
  .rw[Zd e,e];obtain⟨x,hx⟩:=Option.isSome_iff_exists.mp a;rw[hx];simp
  .rw[Ze e];cases zj r j with
   |none=>rfl
   |some x=>simp[e]
 .rw[Ze a,lookR_append];have n:zj r t=none:=by
   cases q:zj r t with
   |none=>rfl
   |some x=>rw[q] at a;exact Zn rfl a
  rw[xo];show(match (if t=j then some w else none) with|some w=>some w|none=>zj r j)=_;by_cases e:j=t
  .rw[Zd e,Zd e.symm]
  .rw[Ze e,Ze (λz=>e z.symm)]
def putR_fst (r:X6)(t w:Int):(pe r t w).map (·.1)=if(r.any λp=>decide (p.1=t))=true then r.map (·.1) else r.map (·.1)++[t]:=by
 unfold pe
 split
 .rw[Zw];apply Xk;intro p _;by_cases c:p.1=t
  .simp[c]
  .simp[c]
 .rw[ZV];rfl
def once_putR (h:yH r):yH (pe r t w):=by
 unfold yH;rw[putR_fst]
 split
 .exact h
 .rename_i c;unfold yH at h;rw[List.nodup_append];refine⟨h,by simp,λa ha b hb=>?_⟩;simp at hb;subst hb;rintro rfl;refine zc1b (ZD.mp ha) λp hp e=>?_;exact c (ZP.mpr ⟨p,hp,by simp[e]⟩)
def putR_len (r:X6)(t w:Int):(pe r t w).length<=r.length+1:=by
 unfold pe
 split
 .rw[Zql];omega
 .rw[ZG];exact Zf _
theorem oM:∀(r acc:X6),su (kvR acc) (kvR r)=kvR (r.foldl (λa p=>pe a p.1 p.2) acc)
 | [],acc=>rfl
 |p::r,acc=>by
  have e:su (kvR acc) (kvR (p::r))=su (qh (kvR acc) (Sum.inl p.1) (V.int p.2)) (kvR r):=rfl;rw[e,putK_kvR,oM r];rfl
theorem pB:∀(r acc:X6),yH (acc++r)->r.foldl (λa p=>pe a p.1 p.2) acc=acc++r
 | [],acc,_=>by simp
 |p::r,acc,h=>by
  have hn:(acc.any λq=>decide (q.1=p.1))=false:=by
   rw[XT];intro q hq;simp;intro e;unfold yH at h;rw[ZV,List.nodup_append] at h;exact h.2.2 q.1 (ZD.mpr ⟨q,hq,rfl⟩) p.1 (by simp) e
  have e:pe acc p.1 p.2=acc++[p]:=by
   unfold pe;rw[hn];simp
  rw[XF,e,pB r (acc++[p]) (by rw[ZJ];exact h),ZJ];rfl
noncomputable def jw:Option Int->Option Int->Option Int
 |none,b=>b
 |some x,none=>some x
 |some x,some y=>some (if x > y then x else y)
def xh (acc:X6)(p:Int×Int):X6:=pe acc p.1 (if(zj acc p.1).getD p.2 > p.2 then(zj acc p.1).getD p.2 else p.2)
def yG (r o:X6):X6:=o.foldl xh r
def joinStep_look (acc:X6)(p:Int×Int)(t:Int):zj (xh acc p) t=if t=p.1 then jw (zj acc t) (some p.2) else zj acc t:=by
 unfold xh;rw[look_putR];by_cases e:t=p.1
 .rw[Zd e,Zd e,e];cases zj acc p.1 with
  |none=>simp[jw]
  |some x=>simp[jw]
 .rw[Ze e,Ze e]
theorem wT (t:Int):∀(o r:X6),yH o->zj (yG r o) t=jw (zj r t) (zj o t)
 | [],r,_=>by
  show zj r t=jw (zj r t) none;cases zj r t<;>rfl
 |p::o,r,h=>by
  obtain⟨h1,h2⟩:=List.nodup_cons.mp (show(p.1::o.map (·.1)).Nodup from h);have e:yG r (p::o)=yG (xh r p) o:=rfl;rw[e,wT t o _ h2,joinStep_look,xo];by_cases c:t=p.1
  .have n:zj o t=none:=by
    cases q:zj o t with
    |none=>rfl
    |some w=>exact Zn (ZD.mpr ⟨_,zy q,c⟩) h1
   rw[Zd c,n];dsimp only;rw[Zd c.symm];cases jw (zj r t) (some p.2)<;>rfl
  .rw[Ze c];cases zj o t with
   |some w=>rfl
   |none =>
    dsimp only;rw[Ze (λz=>c z.symm)]
theorem wW:∀(o r:X6),yH r->yH (yG r o)
 | [],r,h=>h
 |p::o,r,h=>wW o _ (once_putR h)
theorem tN:∀(o r:X6),(yG r o).length<=r.length+o.length
 | [],r=>Zf _
 |p::o,r=>by
  have a:=tN o (xh r p);have b:(xh r p).length<=r.length+1:=putR_len _ _ _;show(yG (xh r p) o).length<=_;rw[Zu];omega
def l6 (h:r ≠ [])(wo:yH o):yG r o ≠ []:=by
 intro z;cases r with
 |nil=>exact h rfl
 |cons p r =>
  have q:=wT p.1 o (p::r) wo;rw[z] at q;have:∃x,zj (p::r) p.1=some x:=by
   rw[xo];cases zj r p.1 with
   |some x=>exact⟨x,rfl⟩
   |none=>exact⟨p.2,Zd rfl⟩
  obtain⟨x,hx⟩:=this;rw[hx] at q;cases hq:zj o p.1 with
  |none=>rw[hq] at q;exact zqn q
  |some y=>rw[hq] at q;exact zqn q
def m7 (h:yH r):(t,w)∈r↔zj r t=some w:=⟨λm=>h.look m,zy⟩
theorem wS {α:Type}{ltb:α -> α -> Bool}(T:Tot ltb):∀{a b:List α},a.Pairwise (λx y=>ltb x y=true)->b.Pairwise (λx y=>ltb x y=true)->(∀x,x∈a↔x∈b)->a=b
 | [],[],_,_,_=>rfl
 | [],y::b,_,_,h=>by
  have z:y∈([]:List α):=(h y).mpr Zqs;cases z
 |x::a,[],_,_,h=>by
  have z:x∈([]:List α):=(h x).mp Zqs;cases z
 |x::a,y::b,ha,hb,h=>by
  obtain⟨a1,a2⟩:=Z6.mp ha;obtain⟨b1,b2⟩:=Z6.mp hb;have e:x=y:=by
   rcases ZF.mp ((h x).mp Zqs) with z|z
   .exact z
   .rcases ZF.mp ((h y).mpr Zqs) with u|u
    .exact u.symm
    .have:=T.asy _ _ (b1 x z);rw[a1 y u] at this;cases this
  subst e
  congr 1
  refine wS T a2 b2 λz=>⟨λhz=>?_,λhz=>?_⟩
  .rcases ZF.mp ((h z).mp (Zqm _ hz)) with u|u
   .rw[u] at hz;have:=a1 x hz;rw[T.irr] at this;exact zqb this
   .exact u
  .rcases ZF.mp ((h z).mpr (Zqm _ hz)) with u|u
   .rw[u] at hz;have:=b1 x hz;rw[T.irr] at this;exact zqb this
   .exact u
theorem uM {α β: Type}(f:α -> β):∀{l:List α},(l.map f).Nodup->l.Nodup
 | [],_=>List.nodup_nil
 |x::r,h=>by
  rw[Zl,List.nodup_cons] at h;exact List.nodup_cons.mpr ⟨λm=>h.1 (List.mem_map_of_mem m),uM f h.2⟩
def strict_sortB (h:yH r):(zT wK r).Pairwise λx y=>wK x y=true:=by
 have hp:=zv (ltb:=wK) r;have nd:(zT wK r).Nodup:=hp.nodup_iff.mpr (uM (λp:Int×Int=>p.1) h);have sd:=x6 xS r;have both:(zT wK r).Pairwise λx y=>wK y x=false/\x≠y:=List.Pairwise.and sd nd;refine both.imp λ{x y} z=>?_;cases q:wK x y with
 |true=>rfl
 |false=>exact Zn (xS.tot _ _ q z.1) z.2
end L2
namespace L2.DL
def ite_some {c:Prop}{_:Decidable c}{α:Type}{a z:α}(h:(if c then some a else none)=some z):c/\a=z:=by
 by_cases q:c
 .rw[Zd q] at h;exact⟨q,Zqi h⟩
 .rw[Ze q] at h;exact zqn h
set_option genInjectivity false in
inductive D where
 |non|bl (b:Bool)|int (i:Int)|str (x:Str)|ty (n:String)|scr (ns:Yh)
 |tup (ds:List D)|lst (ds:List D)|dct (ks:List Key) (ds:List D)|ins (c:Str) (fs:Yk) (ds:List D)
 |exc (c:Str)|ucl (c:Str)
 |adr (a:Addr)|dcf (ks:List Key) (ds:List D)
abbrev _root_.YD:=List D
abbrev _root_.YE:=Option D
inductive Res (α:Type) where
 |ok (a:α)|ex (c:Str) (fs:YD)|no
noncomputable def Res.bind {α β: Type}(r:Res α)(g:α -> Res β):Res β:= match r with
 | .ok a=>g a
 | .ex c fs=>.ex c fs
 | .no=>.no
noncomputable def Res.need {α:Type}(r:Res α)(p:α -> Prop)(q:Str->YD->Prop):Prop:=match r with
 | .ok a=>p a
 | .ex c fs=>q c fs
 | .no=>False
@[simp]def Res.bind_ok {α β: Type}(a:α)(g:α -> Res β):(Res.ok a).bind g=g a:=rfl
@[simp]def Res.bind_ex {α β: Type}(c:Str)(fs:YD)(g:α -> Res β):(Res.ex c fs:Res α).bind g=.ex c fs:=rfl
@[simp]def Res.bind_no {α β: Type}(g:α -> Res β):(Res.no:Res α).bind g=.no:=rfl
def Res.need_bind {α β: Type}{r:Res α}{g:α -> Res β}{p:β -> Prop}(h:(r.bind g).need p q):r.need (λa=>(g a).need p q) q:=by
 cases r<;>exact h
def Res.need.mono {α:Type}{r:Res α}{p p': α -> Prop}(h:r.need p q)(hp:∀a,p a->p' a)(hq:∀c fs,q c fs->q' c fs):r.need p' q':=by
 cases r with
 |ok a=>exact hp a h
 |ex c fs=>exact hq c fs h
 |no=>exact h
def Res.need.monoE {α:Type}{r:Res α}{p p': α -> Prop}(h:r.need p q)(hp:∀a,r=.ok a->p a->p' a)(hq:∀c fs,q c fs->q' c fs):r.need p' q':=by
 cases r with
 |ok a=>exact hp a rfl h
 |ex c fs=>exact hq c fs h
 |no=>exact h
noncomputable def bQ (C x:Addr):HO:=.ext λh=>∃o,h.get? x=some o/\o.cls=.ref C
noncomputable def iJ (_:W.Frag)(H:Hp)(a:Addr)(xs:YB):Prop:=H a=some (.tup xs)
def iJ.same {K:W.Frag}{H H':Hp}{a:Addr}{xs:YB}(e:yC H H')(h:iJ K H a xs):iJ K H' a xs:=e _ _ h
def iJ.of {K:W.Frag}{H:Hp}{a:Addr}{xs:YB}(h:H a=some (.tup xs)):iJ K H a xs:=h
def iJ.sq {K:W.Frag}{H:Hp}{a:Addr}{xs:YB}(h:iJ K H a xs):SqT K H a xs:=SqT.of h
noncomputable def lD (_:W.Frag)(H:Hp)(a:Addr)(xs:YB):Prop:=Rd H a (.lst xs)
def lD.same {K:W.Frag}{H H':Hp}{a:Addr}{xs:YB}(e:yC H H')(h:lD K H a xs):lD K H' a xs:=h.imp (λq=>e _ _ q) (by rintro⟨o,q⟩;exact⟨o,e _ _ q⟩)
def lD.of {K:W.Frag}{H:Hp}{a:Addr}{xs:YB}(h:H a=some (.lst xs)):lD K H a xs:=.inl h
def lD.sq {K:W.Frag}{H:Hp}{a:Addr}{xs:YB}(h:lD K H a xs):SqL K H a xs:=.inl h
section
variable (K:W.Frag)
mutual
noncomputable def IsD (H:Hp):D->V->Prop
 | .non,v=>v=.non
 | .bl b,v=>v=.bl b
 | .int i,v=>v=.int i
 | .str x,v=>v=.str x
 | .ty n,v=>v=.ty n
 | .scr ns,v=>∃a,v=.ref a/\SqL K H a (ns.map V.int)
 | .tup ds,v=>∃a xs,v=.ref a/\iJ K H a xs/\zq H ds xs
 | .lst ds,v=>∃a xs,v=.ref a/\lD K H a xs/\zq H ds xs
 | .dct ks ds,v=>∃a xs,v=.ref a/\H a=some (.dK (ks.zip xs))/\ks.length=xs.length/\zq H ds xs
 | .ins c fs ds,v=>∃a C dx xs,v=.ref a/\W.nsIn K mainGlobals c=some (some (.ref C))/\H a=some (.ins C dx (fs.zip xs))/\fs.length=xs.length/\zq H ds xs
 | .exc c,v=>∃a C,v=.ref a/\W.nsIn K mainGlobals c=some (some (.ref C))/\H a=some (bQ C a)
 | .ucl c,v=>∃C,v=.ref C/\W.nsIn K mainGlobals c=some (some (.ref C))
 | .adr a,v=>v=.ref a
 | .dcf ks ds,v=>∃a o xs,v=.ref a/\H a=some (.frz o (.dK (ks.zip xs)))/\ks.length=xs.length/\zq H ds xs
noncomputable def zq (H:Hp):YD->YB->Prop
 | [],xs=>xs=[]
 |d::ds,xs=>∃x r,xs=x::r/\IsD H d x/\zq H ds r
end
end
section
variable {K:W.Frag}{H H':Hp}
def IsD.non_iff:IsD K H .non v↔v=.non:=.rfl
def IsD.bl_iff:IsD K H (.bl b) v↔v=.bl b:=.rfl
def IsD.int_iff:IsD K H (.int i) v↔v=.int i:=.rfl
def IsD.str_iff:IsD K H (.str x) v↔v=.str x:=.rfl
def IsD.ty_iff:IsD K H (.ty n) v↔v=.ty n:=.rfl
def IsD.scr_iff:IsD K H (.scr ns) v↔∃a,v=.ref a/\SqL K H a (ns.map V.int):=.rfl
def IsD.tup_iff:IsD K H (.tup ds) v↔∃a xs,v=.ref a/\iJ K H a xs/\zq K H ds xs:=.rfl
def IsD.lst_iff:IsD K H (.lst ds) v↔∃a xs,v=.ref a/\lD K H a xs/\zq K H ds xs:=.rfl
def IsD.dct_iff:IsD K H (.dct ks ds) v↔∃a xs,v=.ref a/\H a=some (.dK (ks.zip xs))/\ks.length=xs.length/\zq K H ds xs:=.rfl
def IsD.ins_iff:IsD K H (.ins c fs ds) v↔∃a C dx xs,v=.ref a/\W.nsIn K mainGlobals c=some (some (.ref C))/\H a=some (.ins C dx (fs.zip xs))/\fs.length=xs.length/\zq K H ds xs:=.rfl
def IsD.exc_iff:IsD K H (.exc c) v↔∃a C,v=.ref a/\W.nsIn K mainGlobals c=some (some (.ref C))/\H a=some (bQ C a):=.rfl
def IsD.ucl_iff:IsD K H (.ucl c) v↔∃C,v=.ref C/\W.nsIn K mainGlobals c=some (some (.ref C)):=.rfl
def IsD.adr_iff:IsD K H (.adr a) v↔v=.ref a:=.rfl
def IsD.dcf_iff:IsD K H (.dcf ks ds) v↔∃a o xs,v=.ref a/\H a=some (.frz o (.dK (ks.zip xs)))/\ks.length=xs.length/\zq K H ds xs:=.rfl
def zq.nil_iff:zq K H [] xs↔xs=[]:=.rfl
def zq.cons_iff:zq K H (d::ds) xs↔∃x r,xs=x::r/\IsD K H d x/\zq K H ds r:=.rfl
mutual
theorem IsD.same (e:yC H H'):∀(d:D) (v:V),IsD K H d v->IsD K H' d v
 | .non,_,h=>h
 | .bl _,_,h=>h
 | .int _,_,h=>h
 | .str _,_,h=>h
 | .ty _,_,h=>h
 | .scr _,_,h=>by
  refine zc1b (IsD.scr_iff.mp h) λa h1 h2=>?_;exact IsD.scr_iff.mpr ⟨a,h1,yC.seq e h2⟩
 | .tup ds,_,h=>by
  refine zc2c (IsD.tup_iff.mp h) λa xs h1 h2 h3=>?_;exact IsD.tup_iff.mpr ⟨a,xs,h1,h2.same e,zq.same e ds xs h3⟩
 | .lst ds,_,h=>by
  refine zc2c (IsD.lst_iff.mp h) λa xs h1 h2 h3=>?_;exact IsD.lst_iff.mpr ⟨a,xs,h1,h2.same e,zq.same e ds xs h3⟩
 | .dct ks ds,_,h=>by
  refine zc2d (IsD.dct_iff.mp h) λa xs h1 h2 h4 h3=>?_;exact IsD.dct_iff.mpr ⟨a,xs,h1,e _ _ h2,h4,zq.same e ds xs h3⟩
 | .ins c fs ds,_,h=>by
  refine zc4a (IsD.ins_iff.mp h) λa C dx xs zz=>xf zz λh1 h5 h2 h4 h3=>?_;exact IsD.ins_iff.mpr ⟨a,C,dx,xs,h1,h5,e _ _ h2,h4,zq.same e ds xs h3⟩
 | .exc _,_,h=>by
  refine zc2c (IsD.exc_iff.mp h) λa C h1 h2 h3=>?_;exact IsD.exc_iff.mpr ⟨a,C,h1,h2,e _ _ h3⟩
 | .ucl _,_,h=>h
 | .adr _,_,h=>h
 | .dcf ks ds,_,h=>by
  obtain⟨a,o,xs,h1,h2,h4,h3⟩:=IsD.dcf_iff.mp h;exact IsD.dcf_iff.mpr ⟨a,o,xs,h1,e _ _ h2,h4,zq.same e ds xs h3⟩
theorem zq.same (e:yC H H'):∀(ds:YD) (xs:YB),zq K H ds xs->zq K H' ds xs
 | [],_,h=>h
 |d::ds,_,h=>by
  refine zc2c (zq.cons_iff.mp h) λx r h1 h2 h3=>?_;exact zq.cons_iff.mpr ⟨x,r,h1,IsD.same e d x h2,zq.same e ds r h3⟩
end
def zq.mk (h:IsD K H d x)(r:zq K H ds xs):zq K H (d::ds) (x::xs):=zq.cons_iff.mpr ⟨x,xs,rfl,h,r⟩
def zq.nil:zq K H [] []:=zq.nil_iff.mpr rfl
theorem zq.length:∀{ds:YD} {xs:YB},zq K H ds xs->xs.length=ds.length
 | [],xs,h=>by rw[zq.nil_iff] at h;subst h;rfl
 |d::ds,xs,h=>by
  rw[zq.cons_iff] at h;obtain⟨x,r,rfl,_,h3⟩:=h;rw[Zu,Zu,zq.length h3]
theorem zq.get:∀{ds:YD} {xs:YB} {i:Nat} {d:D},zq K H ds xs->ds[i]? = some d->∃x,xs[i]? = some x/\IsD K H d x
 | [],_,_,_,_,e=>by exact zqn e
 |d::ds,xs,i,e,h,q=>by
  rw[zq.cons_iff] at h;refine zc2c h λx r zr2 h2 h3=>?_;subst zr2;cases i with
  |zero=>cases q;exact⟨x,rfl,h2⟩
  |succ i=>exact zq.get (i:=i) h3 q
def zq.getV {ds:YD}{xs:YB}{i:Nat}{x:V}(h:zq K H ds xs)(q:xs[i]? = some x):∃d,ds[i]? = some d/\IsD K H d x:=by
 have hl:=h.length;have hi:i<ds.length:=by rw[<- hl];exact(ZI.mp q).1
 refine zc1b (h.get (Zqg hi)) λy h1 h2=>?_;rw[q] at h1;obtain rfl:=Zqi h1;exact⟨_,Zqg hi,h2⟩
theorem zq.append:∀{ds es:YD} {xs ys:YB},zq K H ds xs->zq K H es ys->zq K H (ds++es) (xs++ys)
 | [],_,xs,_,h,h'=>by rw[zq.nil_iff] at h;subst h;exact h'
 |d::ds,_,xs,_,h,h'=>by
  rw[zq.cons_iff] at h;refine zc2c h λx r zr2 h2 h3=>?_;subst zr2;exact zq.mk h2 (zq.append h3 h')
def zq.snoc (h:zq K H ds xs)(h':IsD K H d x):zq K H (ds++[d]) (xs++[x]):=h.append (.mk h' .nil)
theorem zq.set:∀(n:Nat) {ds:YD} {xs:YB} {d:D} {x:V},zq K H ds xs->IsD K H d x->zq K H (ds.set n d) (xs.set n x)
 |_,[],xs,_,_,h,_=>by rw[zq.nil_iff] at h;subst h;exact .nil
 | 0,d::ds,xs,_,_,h,q=>by
  rw[zq.cons_iff] at h;refine zc2c h λx r zr2 h2 h3=>?_;subst zr2;exact zq.mk q h3
 |n+1,d::ds,xs,_,_,h,q=>by
  rw[zq.cons_iff] at h;refine zc2c h λx r zr2 h2 h3=>?_;subst zr2;exact zq.mk h2 (zq.set n h3 q)
theorem zq.ints:∀(ns:Yh),zq K H (ns.map D.int) (ns.map V.int)
 | []=>.nil
 |n::ns=>.mk (IsD.int_iff.mpr rfl) (zq.ints ns)
theorem zq.ints_iff:∀{ns:Yh} {xs:YB},zq K H (ns.map D.int) xs->xs=ns.map V.int
 | [],_,h=>zq.nil_iff.mp h
 |n::ns,xs,h=>by
  rw[Zl,zq.cons_iff] at h;obtain⟨x,r,rfl,h2,h3⟩:=h;rw[IsD.int_iff] at h2;rw[h2,zq.ints_iff h3];rfl
end
structure Ext (F H F' H':Hp):Prop where
 ff:yC F F'
 fh:yC F' H'
 hh:yC H H'
 new:∀a,F a=none->H a≠none->F' a=none
theorem Ext.refl (h:yC F H):Ext F H F H:=⟨.refl _,h,.refl _,λ_ e _=>e⟩
theorem Ext.trans (a:Ext F H F1 H1)(b:Ext F1 H1 F2 H2):Ext F H F2 H2:=
 ⟨a.ff.trans b.ff,b.fh,a.hh.trans b.hh,λx e n=>b.new x (a.new x e n) (by
  cases q:H x with
  |none=>exact Zn q n
  |some o=>rw[a.hh _ _ q];simp)⟩
def zF (h:yC F H)(hp:H p=none):F p=none:=h.free hp
def Ext.alloc (h:yC F H)(hp:H p=none)(o:HO):Ext F H (upd F p o) (upd H p o):=
 ⟨yQ (h.free hp) o,λb u e=>by
  by_cases q:b=p
  .subst q;rw[zu] at e ⊢;exact e
  .rw[zD q] at e ⊢;exact h _ _ e,yQ hp o,λa e n=>by
  have q:a≠p:=λz=>n (by rw[z];exact hp);rw[zD q];exact e⟩
def Ext.keep (h:yC F H)(hp:H p=none)(o:HO):Ext F H F (upd H p o):=
 ⟨.refl _,h.trans (yQ hp o),yQ hp o,λ_ e _=>e⟩
def Ext.grow (h:yC F H)(hh:yC H H'):Ext F H F H':=⟨.refl _,h.trans hh,hh,λ_ e _=>e⟩
set_option genInjectivity false in
inductive SV where
 |val (d:D)|own (p:Bool) (d:D)
set_option genInjectivity false in
structure Bs where
 F0:Hp
 H0:Hp
 pa:Nat->Option (Addr×YB)
abbrev SD:=List (Option SV)
def tW (K:W.Frag)(F H:Hp)(l:Addr):D->Prop
 | .lst ds=>∃xs,H l=some (.lst xs)/\zq K F ds xs
 | .dct ks ds=>∃xs,H l=some (.dK (ks.zip xs))/\ks.length=xs.length/\zq K F ds xs
 | .ins c fs ds=>∃C dx xs,W.nsIn K mainGlobals c=some (some (.ref C))/\H l=some (.ins C dx (fs.zip xs))/\fs.length=xs.length/\zq K F ds xs
 |_=>False
def tW.has {K:W.Frag}{F H:Hp}{l:Addr}{d:D}(h:tW K F H l d):∃o,H l=some o:=by
 cases d with
 |lst ds=>obtain⟨xs,e,_⟩:=h;exact⟨_,e⟩
 |dct ks ds=>obtain⟨xs,e,_⟩:=h;exact⟨_,e⟩
 |ins c fs ds=>obtain⟨C,dx,xs,_,e,_⟩:=h;exact⟨_,e⟩
 |_=>exact False.elim h
def tW.ext {K:W.Frag}{F H F' H':Hp}{l:Addr}{d:D}(h:tW K F H l d)(ff:yC F F')(hh:∀o,H l=some o->H' l=some o):tW K F' H' l d:=by
 cases d with
 |lst ds=>obtain⟨xs,e,q⟩:=h;exact⟨xs,hh _ e,zq.same ff _ _ q⟩
 |dct ks ds=>obtain⟨xs,e,z,q⟩:=h;exact⟨xs,hh _ e,z,zq.same ff _ _ q⟩
 |ins c fs ds=>obtain⟨C,dx,xs,k,e,z,q⟩:=h;exact⟨C,dx,xs,k,hh _ e,z,zq.same ff _ _ q⟩
 |_=>exact False.elim h
def tW.frz {K:W.Frag}{F H:Hp}{l:Addr}{d:D}{o:HO}(h:tW K F H l d)(e:H l=Option.some o)(n:F l=none):IsD K (upd F l o) d (.ref l):=by
 cases d with
 |lst ds =>
  refine zc1b h λxs e' q=>?_;rw[e] at e';obtain rfl:=Zqi e';exact IsD.lst_iff.mpr ⟨l,xs,rfl,.of zu,zq.same (yQ n _) _ _ q⟩
 |dct ks ds =>
  refine zc1c h λxs e' z q=>?_;rw[e] at e';obtain rfl:=Zqi e';exact IsD.dct_iff.mpr ⟨l,xs,rfl,zu,z,zq.same (yQ n _) _ _ q⟩
 |ins c fs ds =>
  refine zc3a h λC dx xs zz=>ng zz λk e' z q=>?_;rw[e] at e';obtain rfl:=Zqi e';exact IsD.ins_iff.mpr ⟨l,C,dx,xs,rfl,k,zu,z,zq.same (yQ n _) _ _ q⟩
 |_=>exact False.elim h
noncomputable def gF (H:Hp)(l:Addr)(o:Option (Addr×YB)):Prop:=∃xs,o=some (l,xs)/\H l=some (.lst xs)
structure RS (K:W.Frag)(B:Bs)(F H:Hp)(sd:SD)(Z:St):Prop where
 ext:Ext B.F0 B.H0 F H
 len:Z.length=sd.length
 val:∀{i:Nat} {d:D},sd[i]? = some (some (.val d))->∃v,Z[i]? = some (some v)/\IsD K F d v
 own:∀{i:Nat} {p:Bool} {d:D},sd[i]? = some (some (.own p d))->∃l,Z[i]? = some (some (.ref l))/\B.H0 l=none/\F l=none/\tW K F H l d/\(p=true->gF H l (B.pa i))
 apart:∀{i j:Nat} {p q:Bool} {d e:D} {l:Addr},i≠j->sd[i]? = some (some (.own p d))->sd[j]? = some (some (.own q e)) -> Z[i]? = some (some (.ref l)) -> Z[j]? ≠ some (some (.ref l))
section
variable {K:W.Frag}{B:Bs}{F H F' H':Hp}{sd:SD}{Z:St}
def gF.mono (h:gF H l o)(k:∀u,H l=some u->H' l=some u):gF H' l o:=let ⟨xs,h1,h2⟩:=h;⟨xs,h1,k _ h2⟩
def RS.step (r:RS K B F H sd Z)(e:Ext F H F' H'):RS K B F' H' sd Z where
 ext:=r.ext.trans e
 len:=r.len
 val:=λh=>let ⟨v,h1,h2⟩:=r.val h;⟨v,h1,IsD.same e.ff _ _ h2⟩
 own:=λh=>by
  refine zc1e (r.own h) λl h1 h2 h3 h4 h5=>?_;obtain⟨o,ho⟩:=h4.has;exact⟨l,h1,h2,e.new l h3 (by rw[ho];simp),h4.ext e.ff λo q=>e.hh _ _ q,λp=>(h5 p).mono λu q=>e.hh _ _ q⟩
 apart:=r.apart
def z6 {α:Type}{l:List α}{a:α}(h:i≠j):(l.set i a)[j]? = l[j]?:= List.getElem?_set_ne h
def zG {α:Type}{l:List α}{a b:α}(h:(l.set i a)[i]? = some b):b=a/\i<l.length:=by
 have hi:i<l.length:=by
  have:=(ZI.mp h).1
  rwa [XE] at this
 rw[Xo hi] at h;exact⟨(Zqi h).symm,hi⟩
def RS.setVal (r:RS K B F H sd Z)(h:IsD K F d v):RS K B F H (sd.set i (some (.val d))) (Z.set i (some v)) where
 ext:=r.ext
 len:=by rw[XE,XE,r.len]
 val:=λ{j e} q=>by
  by_cases z:i=j
  .subst z;obtain⟨e1,hi⟩:=zG q;cases e1;exact⟨v,Xo (by rw[r.len];exact hi),h⟩
  .rw[z6 z] at q ⊢;exact r.val q
 own:=λ{j p e} q=>by
  by_cases z:i=j
  .subst z;obtain⟨e1,_⟩:=zG q;cases e1
  .rw[z6 z] at q ⊢;exact r.own q
 apart:=λ{j k p1 p2 d1 d2 l} n q1 q2 q3=>by
  have z1:i≠j:=λz=>by subst z;obtain⟨e1,_⟩:=zG q1;cases e1
  have z2:i≠k:=λz=>by subst z;obtain⟨e1,_⟩:=zG q2;cases e1
  rw[z6 z1] at q1 q3;rw[z6 z2] at q2 ⊢;exact r.apart n q1 q2 q3
def RS.setOwn (r:RS K B F H sd Z)(h0:B.H0 l=none)(hf:F l=none)(h:tW K F H l d)(fr:∀(j:Nat) (p:Bool) (e:D),sd[j]? = some (some (SV.own p e)) -> Z[j]? ≠ some (some (.ref l))):
 RS K B F H (sd.set i (some (.own false d))) (Z.set i (some (.ref l))) where
 ext:=r.ext
 len:=by rw[XE,XE,r.len]
 val:=λ{j e} q=>by
  by_cases z:i=j
  .subst z;obtain⟨e1,_⟩:=zG q;cases e1
  .rw[z6 z] at q ⊢;exact r.val q
 own:=λ{j p e} q=>by
  by_cases z:i=j
  .subst z;obtain⟨e1,hi⟩:=zG q;cases e1;exact⟨l,Xo (by rw[r.len];exact hi),h0,hf,h,λz=>by cases z⟩
  .rw[z6 z] at q ⊢;exact r.own q
 apart:=λ{j k p1 p2 d1 d2 m} n q1 q2 q3=>by
  by_cases z1:i=j
  .subst z1;obtain⟨_,hi⟩:=zG q1;rw[z6 n] at q2 ⊢;rw[Xo (by rw[r.len];exact hi)] at q3;cases q3;exact fr k p2 d2 q2
  .rw[z6 z1] at q1 q3;by_cases z2:i=k
   .subst z2;obtain⟨_,hi⟩:=zG q2;rw[Xo (by rw[r.len];exact hi)];intro e;cases e;exact fr j p1 d1 q1 q3
   .rw[z6 z2] at q2 ⊢;exact r.apart n q1 q2 q3
def RS.chg {i:Nat}{p:Bool}{d d':D}{l:Addr}{o:HO}(r:RS K B F H sd Z)(hi:sd[i]? = some (some (.own p d)))(hl:Z[i]? = some (some (.ref l)))(h:tW K F (upd H l o) l d'):
 RS K B F (upd H l o) (sd.set i (some (.own false d'))) Z:= by
 refine zc1e (r.own hi) λl' e1 h0 hf _ _=>?_;rw[hl] at e1;cases e1;have hil:i<sd.length:=(ZI.mp hi).1;refine⟨⟨r.ext.ff,mP o r.ext.fh hf,mP o r.ext.hh h0,r.ext.new⟩,by rw[XE,r.len],λ{j e} q=>?_,λ{j p e} q=>?_,λ{j k p1 p2 d1 d2 m} n q1 q2 q3=>?_⟩
 .by_cases z:i=j
  .subst z;obtain⟨e1,_⟩:=zG q;cases e1
  .rw[z6 z] at q;exact r.val q
 .by_cases z:i=j
  .subst z;obtain⟨e1,_⟩:=zG q;cases e1;exact⟨l,hl,h0,hf,h,λz=>by cases z⟩
  .rw[z6 z] at q;refine zc1e (r.own q) λm m1 m2 m3 m4 m5=>?_;have ne:m≠l:=λe=>r.apart z hi q hl (by rw[<- e];exact m1);exact⟨m,m1,m2,m3,m4.ext (.refl _) λu q'=>by rw[zD ne];exact q',λp=>(m5 p).mono λu q'=>by rw[zD ne];exact q'⟩
 .have g:∀{j:Nat} {p:Bool} {e:D},(sd.set i (some (.own false d')))[j]? = some (some (.own p e))->∃p' e',sd[j]? = some (some (.own p' e')):=λ{j p e} q=>by
   by_cases z:i=j
   .subst z;exact⟨_,d,hi⟩
   .rw[z6 z] at q;exact⟨p,e,q⟩
  refine zc2a (g q1) λ_ _ p1=>?_;refine zc2a (g q2) λ_ _ p2=>?_;exact r.apart n p1 p2 q3
def RS.frz1 (r:RS K B F H sd Z)(hi:sd[i]? = some (some (.own p d))):∃F',yC F F'/\RS K B F' H (sd.set i (some (.val d))) Z:= by
 refine zc1e (r.own hi) λl hl h0 hf ho _=>?_;obtain⟨o,e⟩:=ho.has;have hil:i<sd.length:=(ZI.mp hi).1;have sF:yC F (upd F l o):=yQ hf o;refine⟨upd F l o,sF,⟨r.ext.ff.trans sF,λb u q=>?_,r.ext.hh,λa q1 q2=>?_⟩,by rw[XE,r.len],λ{j x} q=>?_,λ{j p x} q=>?_,λ{j k p1 p2 d1 d2 m} n q1 q2 q3=>?_⟩
 .by_cases z:b=l
  .subst z;rw[zu] at q;cases q;exact e
  .rw[zD z] at q;exact r.ext.fh _ _ q
 .have z:a≠l:=λz=>q2 (by rw[z];exact h0);rw[zD z];exact r.ext.new a q1 q2
 .by_cases z:i=j
  .subst z;obtain⟨e1,_⟩:=zG q;cases e1;exact⟨_,hl,ho.frz e hf⟩
  .rw[z6 z] at q;refine zc1b (r.val q) λv v1 v2=>?_;exact⟨v,v1,IsD.same sF _ _ v2⟩
 .by_cases z:i=j
  .subst z;obtain⟨e1,_⟩:=zG q;cases e1
  .rw[z6 z] at q;refine zc1e (r.own q) λm m1 m2 m3 m4 m5=>?_;have ne:m≠l:=λe=>r.apart z hi q hl (by rw[<- e];exact m1);exact⟨m,m1,m2,by rw[zD ne];exact m3,m4.ext sF λu q'=>q',m5⟩
 .have z1:i≠j:=λz=>by subst z;obtain⟨e1,_⟩:=zG q1;cases e1
  have z2:i≠k:=λz=>by subst z;obtain⟨e1,_⟩:=zG q2;cases e1
  rw[z6 z1] at q1;rw[z6 z2] at q2;exact r.apart n q1 q2 q3
noncomputable def qZ:Yj->SD->SD
 | [],sd=>sd
 |i::is,sd=>qZ is (match sd[i]? with
  |some (some (.own _ d))=>sd.set i (some (.val d))
  |_=>sd)
theorem RS.frz:∀(is:Yj) {F:Hp} {sd:SD},RS K B F H sd Z -> ∃F',yC F F'/\RS K B F' H (qZ is sd) Z
 | [],F,sd,r=>⟨F,.refl _,r⟩
 |i::is,F,sd,r=>by
  unfold qZ
  split
  .rename_i p d h;refine zc1b (r.frz1 h) λF1 s1 r1=>?_;refine zc1b (RS.frz is r1) λF2 s2 r2=>?_;exact⟨F2,s1.trans s2,r2⟩
  .exact RS.frz is r
end
def ExcIs (K:W.Frag)(F H:Hp)(c:Str)(fs:YD)(cv:Value)(a:Option Addr):Prop:=
 ∃C,cv=.ref C/\W.nsIn K mainGlobals c=some (some (.ref C))/\(fs=[]\/∃p n d x,fs=[d]/\a=some p/\H p=some (.xd [(n,x)])/\IsD K F d x)
def XW (K:W.Frag)(E:XK)(F H:Hp)(c:Str)(fs:YD):Prop:=∀cv a F' H',Ext F H F' H'->ExcIs K F' H' c fs cv a->E cv a H'
def XW.ext {K:W.Frag}{E:XK}{F H F' H':Hp}{c:Str}{fs:YD}(h:XW K E F H c fs)(e:Ext F H F' H'):XW K E F' H' c fs:=λcv a F2 H2 e2 q=>h cv a F2 H2 (e.trans e2) q
abbrev FE:=SD->Res D
abbrev FT:=SD->Res Bool
abbrev FA:=SD->Res YD
def OkD (K:W.Frag)(F H:Hp)(Q:VK)(d:D):Prop:=∀v F' H',Ext F H F' H'->IsD K F' d v->Q v H'
noncomputable def OkB (F H:Hp)(Q:Bool->Hp->Prop)(b:Bool):Prop:=∀F' H',Ext F H F' H'->Q b H'
def OkA (K:W.Frag)(F H:Hp)(Q:YB->Hp->Prop)(ds:YD):Prop:=∀vs F' H',Ext F H F' H'->zq K F' ds vs->Q vs H'
def OkN (K:W.Frag)(F H:Hp)(Q:VK)(d:D):Prop:=∀l F' H',Ext F H F' H'->H l=none->F' l=none->tW K F' H' l d->Q (.ref l) H'
def tD (K:W.Frag)(E:XK)(f:FE):TE:=λZ H Q=>∃B F sd,RS K B F H sd Z /\ (f sd).need (OkD K F H Q) (XW K E F H)
def tDT (K:W.Frag)(E:XK)(f:FT):TT:=λZ H Q=>∃B F sd,RS K B F H sd Z /\ (f sd).need (OkB F H Q) (XW K E F H)
def tDA (K:W.Frag)(E:XK)(f:FA):TA:=λZ H Q=>∃B F sd,RS K B F H sd Z /\ (f sd).need (OkA K F H Q) (XW K E F H)
def tDN (K:W.Frag)(E:XK)(f:FE):TE:=λZ H Q=>∃B F sd,RS K B F H sd Z /\ (f sd).need (OkN K F H Q) (XW K E F H)
abbrev QE (X:Cx)(E:XK)(e:Expr)(f:FE):Prop:=PE X e (tD X.K E f)
abbrev QT (X:Cx)(E:XK)(e:Expr)(f:FT):Prop:=PT X e (tDT X.K E f)
abbrev QW (X:Cx)(E:XK)(e:Expr)(f:FT):Prop:=PW X e (tDT X.K E f)
abbrev QA (X:Cx)(E:XK)(es:Ym)(f:FA):Prop:=PA X es (tDA X.K E f)
abbrev QN (X:Cx)(E:XK)(e:Expr)(f:FE):Prop:=PE X e (tDN X.K E f)
def PE.weak (h:PE X e t)(w:∀Z H Q,t' Z H Q->t Z H Q):PE X e t':=λY s Z H Q I q=>h Y s Z H Q I (w _ _ _ q)
def PT.weak (h:PT X e t)(w:∀Z H Q,t' Z H Q->t Z H Q):PT X e t':=λY s Z H Q I q=>h Y s Z H Q I (w _ _ _ q)
def PW.weak (h:PW X e t)(w:∀Z H Q,t' Z H Q->t Z H Q):PW X e t':=λwhole Y s Z H Q I q=>h whole Y s Z H Q I (w _ _ _ q)
def PA.weak (h:PA X e t)(w:∀Z H Q,t' Z H Q->t Z H Q):PA X e t':=λpos Y s Z H Q I q=>h pos Y s Z H Q I (w _ _ _ q)
def PS.weak (h:PS X e t)(w:∀D Z H,t' D Z H->t D Z H):PS X e t':=λY s Z H D I q=>h Y s Z H D I (w _ _ _ q)
def PSs.weak (h:PSs X e t)(w:∀D Z H,t' D Z H->t D Z H):PSs X e t':=λY s Z H D I q=>h Y s Z H D I (w _ _ _ q)
def PI.weak (h:PI X tg e t)(w:∀Z H R,t' Z H R->t Z H R):PI X tg e t':=λY s Z H R I q=>h Y s Z H R I (w _ _ _ q)
section
variable {K:W.Frag}{E:XK}{F H F' H':Hp}
def OkD.ext (h:OkD K F H Q d)(e:Ext F H F' H'):OkD K F' H' Q d:=λv F2 H2 e2 q=>h v F2 H2 (e.trans e2) q
def OkB.ext (h:OkB F H Q b)(e:Ext F H F' H'):OkB F' H' Q b:=λF2 H2 e2=>h F2 H2 (e.trans e2)
def OkN.ext (h:OkN K F H Q d)(e:Ext F H F' H'):OkN K F' H' Q d:=λl F2 H2 e2 q=>h l F2 H2 (e.trans e2) (zF e.hh q)
def dk {Q:VK}{r:Res D}(h:r.need (OkD K F H Q) (XW K E F H))(e:Ext F H F' H'):r.need (OkD K F' H' Q) (XW K E F' H'):=h.mono (λ_ q=>q.ext e) λ_ _ q=>q.ext e
def dJ {Q:Bool->Hp->Prop}{r:Res Bool}(h:r.need (OkB F H Q) (XW K E F H))(e:Ext F H F' H'):r.need (OkB F' H' Q) (XW K E F' H'):=h.mono (λ_ q=>q.ext e) λ_ _ q=>q.ext e
def eP {Q:VK}{r:Res D}(h:r.need (OkN K F H Q) (XW K E F H))(e:Ext F H F' H'):r.need (OkN K F' H' Q) (XW K E F' H'):=h.mono (λ_ q=>q.ext e) λ_ _ q=>q.ext e
theorem OkD.new (h:OkD K F H Q d):OkN K F H Q d:=λl F' H' e n n' o=>by
 obtain⟨u,hu⟩:=o.has;refine h (.ref l) (upd F' l u) H' ⟨e.ff.trans (yQ n' u),λb v q=>?_,e.hh,λa q1 q2=>?_⟩ (o.frz hu n')
 .by_cases z:b=l
  .subst z;rw[zu] at q;cases q;exact hu
  .rw[zD z] at q;exact e.fh _ _ q
 .have z:a≠l:=λz=>q2 (by rw[z];exact n);rw[zD z];exact e.new a q1 q2
end
section
variable {X:Cx}{E:XK}
def QN.qe (h:QN X E e f):QE X E e f:=PE.weak h (by rintro Z H Q ⟨B,F,sd,r,n⟩;exact⟨B,F,sd,r,n.mono (λ_ q=>q.new) λ_ _ q=>q⟩)
noncomputable def ze (i:Nat):FE:=λsd=>match sd[i]? with
 |some (some (.val d))=>.ok d
 |_=>.no
noncomputable def dC (d:D):FE:=λ_=>.ok d
def zc (h:PE X e (hW i)):QE X E e (ze i):=PE.weak h λZ H Q zh=>by
 refine zc3b zh λB F sd r n=>?_;unfold ze at n
 split at n
 .rename_i d q;refine zc1b (r.val q) λv h1 h2=>?_;exact⟨v,h1,n v F H (.refl r.ext.fh) h2⟩
 .exact n.elim
def n8 (h:PE X e (tC v))(i:∀F,IsD X.K F d v):QE X E e (dC d):=PE.weak h (by rintro Z H Q ⟨B,F,sd,r,n⟩;exact n v F H (.refl r.ext.fh) (i F))
def zk {i j pos}:QE X E (.Constant (.int i) j pos) (dC (.int i)):=n8 pe_int λ_=>IsD.int_iff.mpr rfl
def uY {b j pos}:QE X E (.Constant (.bool b) j pos) (dC (.bl b)):=n8 pe_bl λ_=>IsD.bl_iff.mpr rfl
def pI {j pos}:QE X E (.Constant .none j pos) (dC .non):=n8 pe_non λ_=>IsD.non_iff.mpr rfl
noncomputable def Res.ofO {α:Type}:Option α -> Res α
 |some a=>.ok a
 |none=>.no
@[simp]def Res.ofO_some {α:Type}(a:α):Res.ofO (some a)=.ok a:=rfl
@[simp]def Res.ofO_none {α:Type}:Res.ofO (none:Option α)=.no:=rfl
def Res.need_ofO {α:Type}{o:Option α}{p:α -> Prop}(h:(Res.ofO o).need p q):∃a,o=some a/\p a:=by
 cases o with
 |none=>exact h.elim
 |some a=>exact⟨a,rfl,h⟩
def dOp (g:D->D->YE)(fa fb:FE):FE:=λsd=>(fa sd).bind λx=>(fb sd).bind λy=>.ofO (g x y)
def dUn (g:D->YE)(fa:FE):FE:=λsd=>(fa sd).bind λx=>.ofO (g x)
def rD2 (K:W.Frag)(g:D->D->YE):R2:=λv w H Q=>∃F d e z,yC F H/\IsD K F d v/\IsD K F e w/\g d e=some z/\OkD K F H Q z
def b8 (K:W.Frag)(g:D->D->YE):R2:=λv w H Q=>∃F d e z,yC F H/\IsD K F d v/\IsD K F e w/\g d e=some z/\OkN K F H Q z
def rD1 (K:W.Frag)(g:D->YE):V->Hp->VK->Prop:=λv H Q=>∃F d z,yC F H/\IsD K F d v/\g d=some z/\OkD K F H Q z
def rDA (K:W.Frag)(g:YD->YE):YB->Hp->VK->Prop:=λvs H Q=>∃F ds z,yC F H/\zq K F ds vs/\g ds=some z/\OkD K F H Q z
def cF (K:W.Frag)(g:YD->YE):YB->Hp->VK->Prop:=λvs H Q=>∃F ds z,yC F H/\zq K F ds vs/\g ds=some z/\OkN K F H Q z
def jG {K:W.Frag}{g:D->D->YE}{fa fb:FE}{Z:St}{H:Hp}{Q:VK}(h:tD K E (dOp g fa fb) Z H Q):tOp (rD2 K g) (tD K E fa) (tD K E fb) Z H Q:=by
 refine zc3b h λB F sd r n=>?_;refine⟨B,F,sd,r,(Res.need_bind n).mono (λx n1 v F1 H1 e1 i1=>?_) λ_ _ q=>q⟩;refine⟨B,F1,sd,r.step e1,(Res.need_bind n1).mono (λy n2 w F2 H2 e2 i2=>?_) λ_ _ q=>q.ext e1⟩;refine zc1b (Res.need_ofO n2) λz hz q=>?_;exact⟨F2,x,y,z,e2.fh,IsD.same e2.ff _ _ i1,i2,hz,q.ext (e1.trans e2)⟩
def tDN_op {K:W.Frag}{g:D->D->YE}{fa fb:FE}{Z:St}{H:Hp}{Q:VK}(h:tDN K E (dOp g fa fb) Z H Q):tOp (b8 K g) (tD K E fa) (tD K E fb) Z H Q:=by
 refine zc3b h λB F sd r n=>?_;refine⟨B,F,sd,r,(Res.need_bind n).mono (λx n1 v F1 H1 e1 i1=>?_) λ_ _ q=>q⟩;refine⟨B,F1,sd,r.step e1,(Res.need_bind n1).mono (λy n2 w F2 H2 e2 i2=>?_) λ_ _ q=>q.ext e1⟩;refine zc1b (Res.need_ofO n2) λz hz q=>?_;exact⟨F2,x,y,z,e2.fh,IsD.same e2.ff _ _ i1,i2,hz,q.ext (e1.trans e2)⟩
def tD_un {K:W.Frag}{g:D->YE}{fa:FE}{Z:St}{H:Hp}{Q:VK}(h:tD K E (dUn g fa) Z H Q):tUn (rD1 K g) (tD K E fa) Z H Q:=by
 refine zc3b h λB F sd r n=>?_;refine⟨B,F,sd,r,(Res.need_bind n).mono (λx n1 v F1 H1 e1 i1=>?_) λ_ _ q=>q⟩;refine zc1b (Res.need_ofO n1) λz hz q=>?_;exact⟨F1,x,z,e1.fh,i1,hz,q.ext e1⟩
abbrev OpD (X:Cx)(f:Value->Value->Sem Value)(g:D->D->YE):Prop:=OpR X f (rD2 X.K g)
abbrev br (X:Cx)(f:Value->Value->Sem Value)(g:D->D->YE):Prop:=OpR X f (b8 X.K g)
def OpR.weak (h:OpR X f r)(w:∀x y H Q,r' x y H Q->r x y H Q):OpR X f r':=λY s Z H x y v u Q I rx ry q=>h Y s Z H x y v u Q I rx ry (w _ _ _ _ q)
def UnR.weak (h:UnR X f r)(w:∀x H Q,r' x H Q->r x H Q):UnR X f r':=λY s Z H x v Q I rx q=>h Y s Z H x v Q I rx (w _ _ _ q)
def zB.weak (h:zB X f r)(w:∀x H Q,r' x H Q->r x H Q):zB X f r':=λY s Z H x v Q I rx q=>h Y s Z H x v Q I rx (w _ _ _ q)
def IxR.weak (h:IxR X r)(w:∀x y H Q,r' x y H Q->r x y H Q):IxR X r':=λvalue slice Y s Z H x y v u Q I rx ry q e=>h value slice Y s Z H x y v u Q I rx ry (w _ _ _ _ q) e
variable {a b:Expr}{fa fb:FE}{pos:Pos}
def xa (ho:OpD X (binaryOp op) g)(ha:QE X E a fa)(hb:QE X E b fb):QE X E (.BinOp a op b pos) (dOp g fa fb):=PE.weak (dR ho ha hb) λ_ _ _ h=>jG h
def q_opN (ho:br X (binaryOp op) g)(ha:QE X E a fa)(hb:QE X E b fb):QN X E (.BinOp a op b pos) (dOp g fa fb):=PE.weak (dR ho ha hb) λ_ _ _ h=>tDN_op h
def bB (ho:UnR X (unaryOp op) (rD1 X.K g))(ha:QE X E a fa):QE X E (.UnaryOp op a pos) (dUn g fa):=PE.weak (pe_un ho ha) λ_ _ _ h=>tD_un h
def hU (ho:OpD X (compareOp op) g)(ha:QE X E a fa)(hb:QE X E b fb)(hm:behindInMarks op b=false):QE X E (.Compare a [op] [b] pos) (dOp g fa fb):=PE.weak (nX ho ha hb hm) λ_ _ _ h=>jG h
def z3 (fa:FE):FT:=λsd=>(fa sd).bind λx=>match x with
 | .bl b=>.ok b
 |_=>.no
def wd {K:W.Frag}{Z:St}{H:Hp}{Q:Bool->Hp->Prop}(h:tDT K E (z3 fa) Z H Q):tD K E fa Z H (λx H'=>∃k,x=.bl k/\Q k H'):=by
 refine zc3b h λB F sd r n=>?_;refine⟨B,F,sd,r,(Res.need_bind n).mono (λx n1 v F1 H1 e1 i1=>?_) λ_ _ q=>q⟩;cases x with
 |bl k=>exact⟨k,IsD.bl_iff.mp i1,n1 F1 H1 e1⟩
 |_=>exact n1.elim
def yd {op:CmpOp}{g:D->D->YE}(ho:OpD X (compareOp op) g)(ha:QE X E a fa)(hb:QE X E b fb)(hm:behindInMarks op b=false):QT X E (.Compare a [op] [b] pos) (z3 (dOp g fa fb)):=
 PT.weak (nQ ho ha hb hm) λZ H Q h=>by
  have h:=wd h;exact jG h
def uR (ha:QE X E a fa)(he:autoParam (∀whole,isTrue a X.env whole=(do let v <- whole;standAt a.pos;holding [v] (truthy v))) zaw._auto_1):QT X E a (z3 fa):=PT.weak (pt_val ha he) λZ H Q q=>wd q
def sZ (f:FT):FT:=λsd=>(f sd).bind λb=>.ok (!b)
def qW (f g:FT):FT:=λsd=>(f sd).bind λb=>if b then g sd else .ok false
def dB (f g:FT):FT:=λsd=>(f sd).bind λb=>if b then .ok true else g sd
variable {f g:FT}{rest:Ym}
def lS (ha:QT X E a f):QT X E (.UnaryOp .Not a pos) (sZ f):=PT.weak (pt_not ha) λZ H Q ⟨B,F,sd,r,n⟩ =>
 ⟨B,F,sd,r,(Res.need_bind n).mono (λ_ q=>q) λ_ _ q=>q⟩
def uq (ha:QT X E a f):QW X E (.BoolOp .And [a] pos) f:=pw_and1 ha
def jT (ha:QT X E a f):QW X E (.BoolOp .Or [a] pos) f:=pw_or1 ha
def qk (ha:QT X E a f)(hb:QW X E (.BoolOp .And (b::rest) pos) g):QW X E (.BoolOp .And (a::b::rest) pos) (qW f g):=PW.weak (pw_and ha hb) λZ H Q zh=>by
 refine zc3b zh λB F sd r n=>?_;refine⟨B,F,sd,r,(Res.need_bind n).mono (λk n1 F1 H1 e1=>?_) λ_ _ q=>q⟩;cases k with
 |true=>exact⟨B,F1,sd,r.step e1,dJ n1 e1⟩
 |false=>exact n1 F1 H1 e1
def de (ha:QT X E a f)(hb:QW X E (.BoolOp .Or (b::rest) pos) g):QW X E (.BoolOp .Or (a::b::rest) pos) (dB f g):=PW.weak (pw_or ha hb) λZ H Q zh=>by
 refine zc3b zh λB F sd r n=>?_;refine⟨B,F,sd,r,(Res.need_bind n).mono (λk n1 F1 H1 e1=>?_) λ_ _ q=>q⟩;cases k with
 |true=>exact n1 F1 H1 e1
 |false=>exact⟨B,F1,sd,r.step e1,dJ n1 e1⟩
def QW.qt (h:QW X E e f):QT X E e f:=PW.pt h
def fT (fa fb:FE):FE:=λsd=>(z3 fa sd).bind λb=>if b then fb sd else .ok (.bl false)
def q_one {op}(h:QE X E a fa):QE X E (.BoolOp op [a] pos) fa:=pe_one h
def q_and (ha:QE X E a fa)(hb:QE X E (.BoolOp .And (b::rest) pos) fb):QE X E (.BoolOp .And (a::b::rest) pos) (fT fa fb):=PE.weak (pe_and ha hb) λZ H Q zh=>by
 obtain⟨B,F,sd,r,n⟩:=zh;refine wd (K:=X.K) (E:=E) (Q:=λc H1=>if c=true then tD X.K E fb Z H1 Q else Q (.bl false) H1) ⟨B,F,sd,r,(Res.need_bind n).mono (λk n1 F1 H1 e1=>?_) λ_ _ q=>q⟩;cases k with
 |true=>exact⟨B,F1,sd,r.step e1,dk n1 e1⟩
 |false=>exact n1 _ F1 H1 e1 (IsD.bl_iff.mpr rfl)
noncomputable def zn:FA:=λ_=>.ok []
def zb (fa:FE)(fr:FA):FA:=λsd=>(fa sd).bind λx=>(fr sd).bind λxs=>.ok (x::xs)
def zd:QA X E [] zn:=PA.weak o8 (by rintro Z H Q ⟨B,F,sd,r,n⟩;exact n [] F H (.refl r.ext.fh) .nil)
def za (ha:QE X E e fe)(hr:QA X E es fr)(hs:autoParam (starEach (e::es) X.env=(false,eval e X.env)::starEach es X.env) zau._auto_1):QA X E (e::es) (zb fe fr):=
 PA.weak (sK ha hr hs) λZ H Q zh=>by
  refine zc3b zh λB F sd r n=>?_;refine⟨B,F,sd,r,(Res.need_bind n).mono (λx n1 v F1 H1 e1 i1=>?_) λ_ _ q=>q⟩;refine⟨B,F1,sd,r.step e1,(Res.need_bind n1).mono (λxs n2 vs F2 H2 e2 i2=>?_) λ_ _ q=>q.ext e1⟩;exact n2 _ F2 H2 (e1.trans e2) (.mk (IsD.same e2.ff _ _ i1) i2)
def sC (fr:FA):FE:=λsd=>(fr sd).bind λxs=>if xs.length<=1000 then .ok (.lst xs) else .no
def pc (fr:FA):FE:=λsd=>(fr sd).bind λxs=>if xs.length<=1000 then .ok (.tup xs) else .no
def xB (h:QA X E es fr):QN X E (.List es pos) (sC fr):=PE.weak (pe_lst h) λZ H Q zh=>by
 refine zc3b zh λB F sd r n=>?_;refine⟨B,F,sd,r,(Res.need_bind n).mono (λxs n1 vs F1 H1 e1 i1=>?_) λ_ _ q=>q⟩
 split at n1
 .rename_i hl;have hz:=i1.length;refine⟨ua (),λp hp=>?_⟩;exact n1 p F1 (upd H1 p (.lst vs)) (e1.trans (.keep e1.fh hp _)) (zF e1.hh hp) (zF e1.fh hp) ⟨vs,zu,i1⟩
 .exact n1.elim
def sI {x1}(h:QA X E es fr):QE X E (.Tuple es x1 pos) (pc fr):=PE.weak (pe_tup h) λZ H Q zh=>by
 refine zc3b zh λB F sd r n=>?_;refine⟨B,F,sd,r,(Res.need_bind n).mono (λxs n1 vs F1 H1 e1 i1=>?_) λ_ _ q=>q⟩
 split at n1
 .rename_i hl;have hz:=i1.length;refine⟨ua (),λp hp=>?_⟩;have ea:=Ext.alloc e1.fh hp (.tup vs);exact n1 _ _ _ (e1.trans ea) (IsD.tup_iff.mpr ⟨p,vs,rfl,.of zu,zq.same ea.ff _ _ i1⟩)
 .exact n1.elim
def SpD (K:W.Frag)(Fn:YD->Res D):Sp:=λvs H Q _=>∃F ds,yC F H/\zq K F ds vs/\(Fn ds).need (OkD K F H Q) (XW K E0 F H)
def SpN (K:W.Frag)(Fn:YD->Res D):Sp:=λvs H Q _=>∃F ds,yC F H/\zq K F ds vs/\(Fn ds).need (OkN K F H Q) (XW K E0 F H)
def zt (Fn:YD->Res D)(fr:FA):FE:=λsd=>(fr sd).bind Fn
def wu {name:Str}{k:Nat}{ps:Yk}{Fn:YD->Res D}{p:Pos}{e:Expr}{es:Ym}{fr:FA}(c:zp X.prog X.w X.K X.mg X.base name k ps (SpD X.K Fn))(hr:Room k X.A)(hg:Gl X name)(ha:QA X E0 (e::es) fr)
 (hdb:autoParam ((name == ("__debug__" : Str))=false) zav._auto_1) (he:starEach (e::es) X.env=(false,eval e X.env)::starEach es X.env:=by rfl) (hpl:(backTo pos (starEach es X.env)).any (·.1)=false:=by rfl):
 QE X E0 (.Call (.Name name p) (e::es) [] pos) (zt Fn fr):=PE.weak (fY c hr hg ha hdb he hpl) λZ H Q zh=>by
 refine zc3b zh λB F sd r n=>?_;refine⟨B,F,sd,r,(Res.need_bind n).mono (λxs n1 vs F1 H1 e1 i1=>?_) λ_ _ q=>q⟩;show SpD X.K Fn (vs++[]) H1 Q E0;rw[Zz];exact⟨F1,xs,e1.fh,i1,dk n1 e1⟩
def vt {name:Str}{k:Nat}{ps:Yk}{Fn:YD->Res D}{p:Pos}{e:Expr}{es:Ym}{fr:FA}(c:zp X.prog X.w X.K X.mg X.base name k ps (SpN X.K Fn))(hr:Room k X.A)(hg:Gl X name)(ha:QA X E0 (e::es) fr)
 (hdb:autoParam ((name == ("__debug__" : Str))=false) zav._auto_1) (he:starEach (e::es) X.env=(false,eval e X.env)::starEach es X.env:=by rfl) (hpl:(backTo pos (starEach es X.env)).any (·.1)=false:=by rfl):
 QN X E0 (.Call (.Name name p) (e::es) [] pos) (zt Fn fr):=PE.weak (fY c hr hg ha hdb he hpl) λZ H Q zh=>by
 refine zc3b zh λB F sd r n=>?_;refine⟨B,F,sd,r,(Res.need_bind n).mono (λxs n1 vs F1 H1 e1 i1=>?_) λ_ _ q=>q⟩;show SpN X.K Fn (vs++[]) H1 Q E0;rw[Zz];exact⟨F1,xs,e1.fh,i1,eP n1 e1⟩
def yT (g:YD->YE)(fr:FA):FE:=λsd=>(fr sd).bind λxs=>.ofO (g xs)
def yg {id:String}{x:Str}{p:Pos}{e:Expr}{es:Ym}{g:YD->YE}{fr:FA}(hc:zB X (.builtin id) (rDA X.K g))(hg:Gl X x)(hm:X.mg x=none)(hv:bootBuiltins x=some (.builtin id))(ha:QA X E (e::es) fr)(hn:autoParam (x ≠ "__name__") zav._auto_1)(hdb:autoParam ((x == ("__debug__" : Str))=false) zav._auto_1)
 (he:autoParam (starEach (e::es) X.env=(false,eval e X.env)::starEach es X.env) zau._auto_1) (hpl:autoParam ((backTo pos (starEach es X.env)).any (·.1)=false) zau._auto_1):QE X E (.Call (.Name x p) (e::es) [] pos) (yT g fr):=
 PE.weak (t7 hc hg hm hv ha hn hdb he hpl) λZ H Q zh=>by
  refine zc3b zh λB F sd r n=>?_;refine⟨B,F,sd,r,(Res.need_bind n).mono (λxs n1 vs F1 H1 e1 i1=>?_) λ_ _ q=>q⟩;refine zc1b (Res.need_ofO n1) λz hz q=>?_;exact⟨F1,xs,z,e1.fh,i1,hz,q.ext e1⟩
def qP {id:String}{x:Str}{p:Pos}{e:Expr}{es:Ym}{g:YD->YE}{fr:FA}(hc:zB X (.builtin id) (cF X.K g))(hg:Gl X x)(hm:X.mg x=none)(hv:bootBuiltins x=some (.builtin id))(ha:QA X E (e::es) fr)(hn:autoParam (x ≠ "__name__") zav._auto_1)(hdb:autoParam ((x == ("__debug__" : Str))=false) zav._auto_1)
 (he:autoParam (starEach (e::es) X.env=(false,eval e X.env)::starEach es X.env) zau._auto_1) (hpl:autoParam ((backTo pos (starEach es X.env)).any (·.1)=false) zau._auto_1):QN X E (.Call (.Name x p) (e::es) [] pos) (yT g fr):=
 PE.weak (t7 hc hg hm hv ha hn hdb he hpl) λZ H Q zh=>by
  refine zc3b zh λB F sd r n=>?_;refine⟨B,F,sd,r,(Res.need_bind n).mono (λxs n1 vs F1 H1 e1 i1=>?_) λ_ _ q=>q⟩;refine zc1b (Res.need_ofO n1) λz hz q=>?_;exact⟨F1,xs,z,e1.fh,i1,hz,q.ext e1⟩
def wc {T:String}{x:Str}{p:Pos}{e:Expr}{es:Ym}{g:YD->YE}{fr:FA}(hc:zB X (.type T) (rDA X.K g))(hg:Gl X x)(hm:X.mg x=none)(hv:bootBuiltins x=some (.type T))(ha:QA X E (e::es) fr)(hn:autoParam (x ≠ "__name__") zav._auto_1)(hdb:autoParam ((x == ("__debug__" : Str))=false) zav._auto_1)
 (he:autoParam (starEach (e::es) X.env=(false,eval e X.env)::starEach es X.env) zau._auto_1) (hpl:autoParam ((backTo pos (starEach es X.env)).any (·.1)=false) zau._auto_1):QE X E (.Call (.Name x p) (e::es) [] pos) (yT g fr):=
 PE.weak (wE hc hg hm hv ha hn hdb he hpl) λZ H Q zh=>by
  refine zc3b zh λB F sd r n=>?_;refine⟨B,F,sd,r,(Res.need_bind n).mono (λxs n1 vs F1 H1 e1 i1=>?_) λ_ _ q=>q⟩;refine zc1b (Res.need_ofO n1) λz hz q=>?_;exact⟨F1,xs,z,e1.fh,i1,hz,q.ext e1⟩
def xL {T:String}{x:Str}{p:Pos}{e:Expr}{es:Ym}{g:YD->YE}{fr:FA}(hc:zB X (.type T) (cF X.K g))(hg:Gl X x)(hm:X.mg x=none)(hv:bootBuiltins x=some (.type T))(ha:QA X E (e::es) fr)(hn:autoParam (x ≠ "__name__") zav._auto_1)(hdb:autoParam ((x == ("__debug__" : Str))=false) zav._auto_1)
 (he:autoParam (starEach (e::es) X.env=(false,eval e X.env)::starEach es X.env) zau._auto_1) (hpl:autoParam ((backTo pos (starEach es X.env)).any (·.1)=false) zau._auto_1):QN X E (.Call (.Name x p) (e::es) [] pos) (yT g fr):=
 PE.weak (wE hc hg hm hv ha hn hdb he hpl) λZ H Q zh=>by
  refine zc3b zh λB F sd r n=>?_;refine⟨B,F,sd,r,(Res.need_bind n).mono (λxs n1 vs F1 H1 e1 i1=>?_) λ_ _ q=>q⟩;refine zc1b (Res.need_ofO n1) λz hz q=>?_;exact⟨F1,xs,z,e1.fh,i1,hz,q.ext e1⟩
noncomputable def k6:D->Bool
 | .tup _=>false
 | .lst _=>false
 | .dct _ _=>false
 | .ins _ _ _=>false
 | .exc _=>false
 | .dcf _ _=>false
 | .scr _=>false
 |_=>true
def IsD.scal {K:W.Frag}{F F':Hp}{d:D}{v:V}(s:k6 d=true)(h:IsD K F d v):IsD K F' d v:=by
 cases d with
 |tup _=>exact zqb s
 |lst _=>exact zqb s
 |dct _ _=>exact zqb s
 |ins _ _ _=>exact zqb s
 |exc _=>exact zqb s
 |dcf _ _=>exact zqb s
 |scr _=>exact zqb s
 |_=>exact h
noncomputable def Res.bare {α:Type}(r:Res α):Res α:= match r with
 | .ok a=>.ok a
 | .ex c []=>.ex c []
 |_=>.no
def Res.need_bare {α:Type}{K:W.Frag}{F H F1:Hp}{r:Res α}{p:α -> Prop}(sF:yC F H)(h:r.bare.need p (XW K E0 F H)):r.need p (XW K E0 F1 H):=by
 cases r with
 |ok a=>exact h
 |no=>exact h
 |ex c fs =>
  cases fs with
  |nil=>exact λcv a F2 H2 e2 ⟨C,h1,h2,_⟩=>h cv none F H2 (.grow sF e2.hh) ⟨C,h1,h2,.inl rfl⟩
  |cons d r=>exact h.elim
def kH (is:Yj)(f:FE):FE:=λsd=>(f (qZ is sd)).bare.bind λd=>if k6 d then .ok d else .no
def kr (is:Yj)(f:FT):FT:=λsd=>(f (qZ is sd)).bare
def kw {e:Expr}{fe:FE}(is:Yj)(h:QE X E0 e fe):QE X E0 e (kH is fe):=PE.weak h λZ H Q zh=>by
 refine zc3b zh λB F sd r n=>?_;refine zc1b (r.frz is) λF1 s1 r1=>?_;refine⟨B,F1,_,r1,(Res.need_bare r.ext.fh (Res.need_bind n)).mono (λd n1 v F2 H2 e2 i2=>?_) λc fs q=>q⟩
 split at n1
 .rename_i hs;exact n1 v F H2 (.grow r.ext.fh e2.hh) (i2.scal hs)
 .exact n1.elim
def lO {e:Expr}{fe:FT}(is:Yj)(h:QT X E0 e fe):QT X E0 e (kr is fe):=PT.weak h λZ H Q zh=>by
 refine zc3b zh λB F sd r n=>?_;refine zc1b (r.frz is) λF1 s1 r1=>?_;refine⟨B,F1,_,r1,(Res.need_bare r.ext.fh n).mono (λd n1 F2 H2 e2=>?_) λc fs q=>q⟩;exact n1 F H2 (.grow r.ext.fh e2.hh)
end
inductive Out where
 |next (sd:SD)|ret (d:D)|brk (sd:SD)|cont (sd:SD)
def OkM (K:W.Frag)(F H:Hp)(Q:VK)(d:D):Prop:=if k6 d=true then OkD K F H Q d else OkN K F H Q d
def RetOk (K:W.Frag)(m:Option Bool)(B:Bs)(Q:VK)(d:D):Prop:=match m with
 |some true=>OkN K B.F0 B.H0 Q d
 |some false=>OkD K B.F0 B.H0 Q d
 |none=>OkM K B.F0 B.H0 Q d
def tX (K:W.Frag)(m:Option Bool)(B:Bs)(F:Hp)(T:Ends):Out->Prop
 | .next sd=>∀Z F' H',yC F F'->RS K B F' H' sd Z -> T.nx Z H'
 | .brk sd=>∀Z F' H',yC F F'->RS K B F' H' sd Z -> T.bk Z H'
 | .cont sd=>∀Z F' H',yC F F'->RS K B F' H' sd Z -> T.ct Z H'
 | .ret d=>RetOk K m B T.rt d
abbrev FS:=SD->Res Out
def tDS (K:W.Frag)(E:XK)(m:Option Bool)(g:FS):TS:=λT Z H=>∃B F sd,RS K B F H sd Z /\ (g sd).need (tX K m B F T) (XW K E B.F0 B.H0)
abbrev QS (X:Cx)(E:XK)(m:Option Bool)(st:Stmt)(g:FS):Prop:=PS X st (tDS X.K E m g)
abbrev QSs (X:Cx)(E:XK)(m:Option Bool)(st:List Stmt)(g:FS):Prop:=PSs X st (tDS X.K E m g)
section
variable {K:W.Frag}{E:XK}{m:Option Bool}{B:Bs}{F F' H:Hp}{T:Ends}
def tX.mono (h:tX K m B F T o)(e:yC F F'):tX K m B F' T o:=by
 cases o with
 |next sd=>exact λZ F2 H2 s r=>h Z F2 H2 (e.trans s) r
 |brk sd=>exact λZ F2 H2 s r=>h Z F2 H2 (e.trans s) r
 |cont sd=>exact λZ F2 H2 s r=>h Z F2 H2 (e.trans s) r
 |ret d=>exact h
end
section
variable {X:Cx}{E:XK}{m:Option Bool}{st:Stmt}{sts:List Stmt}{g g1 g2:FS}{pos:Pos}
noncomputable def y9:FS:=λsd=>.ok (.next sd)
def zO (g1 g2:FS):FS:=λsd=>(g1 sd).bind λo=>match o with
 | .next sd'=>g2 sd'
 |o=>.ok o
def zE:QSs X E m [] y9:=PSs.weak pss_nil (by rintro T Z H ⟨B,F,sd,r,n⟩;exact n Z F H (.refl _) r)
def zg (h:QS X E m st g):QSs X E m [st] g:=pss_one h
def zf (h1:QS X E m st g1)(h2:QSs X E m sts g2):QSs X E m (st::sts) (zO g1 g2):=PSs.weak (pss_cons h1 h2) λT Z H zh=>by
 refine zc3b zh λB F sd r n=>?_;refine⟨B,F,sd,r,(Res.need_bind n).mono (λo n1=>?_) λ_ _ q=>q⟩;cases o with
 |next sd'=>exact λZ' F' H' s r'=>⟨B,F',sd',r',n1.mono (λo q=>q.mono s) λ_ _ q=>q⟩
 |ret d=>exact n1
 |brk sd'=>exact n1
 |cont sd'=>exact n1
def oe (is:Yj)(h:QS X E m st g):QS X E m st (λsd=>g (qZ is sd)):=PS.weak h λT Z H zh=>by
 refine zc3b zh λB F sd r n=>?_;refine zc1b (r.frz is) λF1 s1 r1=>?_;exact⟨B,F1,_,r1,n.mono (λ_ q=>q.mono s1) λ_ _ q=>q⟩
noncomputable def cQ:FS:=λsd=>.ok (.brk sd)
def qs_break:QS X E m (.Break pos) cQ:=PS.weak ps_break (by rintro T Z H ⟨B,F,sd,r,n⟩;exact n Z F H (.refl _) r)
variable {e:Expr}{fe:FE}
def xy (i:Nat)(f:FE):FS:=λsd=>(f sd).bind λd=>.ok (.next (sd.set i (some (.val d))))
def nV (i:Nat)(f:FE):FS:=λsd=>(f sd).bind λd=>.ok (.next (sd.set i (some (.own false d))))
def zP (hN:X.N.Nodup)(hi:X.N[i]? = some x)(hx:Loc X.env.scope x)(he:QE X E e fe)(hs:autoParam (swapsWith e (some (.Name x pos')) pos.line X.env=pure false) zau._auto_1)
 (hf:X.fn x=true\/X.env.scope.names.lookup x=some .local:=by trivial):QS X E m (.Assign [.Name x pos'] e pos) (xy i fe):=PS.weak (fy hN hi hx he hs hf) λT Z H zh=>by
 refine zc3b zh λB F sd r n=>?_;refine⟨B,F,sd,r,(Res.need_bind n).mono (λd n1 v F1 H1 e1 i1=>?_) λ_ _ q=>q.ext r.ext⟩;exact n1 _ F1 H1 e1.ff ((r.step e1).setVal i1)
def xK (hN:X.N.Nodup)(hi:X.N[i]? = some x)(hx:Loc X.env.scope x)(he:QN X E e fe)(hs:autoParam (swapsWith e (some (.Name x pos')) pos.line X.env=pure false) zau._auto_1)
 (hf:X.fn x=true\/X.env.scope.names.lookup x=some .local:=by trivial):QS X E m (.Assign [.Name x pos'] e pos) (nV i fe):=PS.weak (fy hN hi hx he hs hf) λT Z H zh=>by
 refine zc3b zh λB F sd r n=>?_;refine⟨B,F,sd,r,(Res.need_bind n).mono (λd n1 l F1 H1 e1 h1 h2 h3=>?_) λ_ _ q=>q.ext r.ext⟩;refine n1 _ F1 H1 e1.ff ((r.step e1).setOwn (zF r.ext.hh h1) h2 h3 λj p d' q1 q2=>?_);refine zc1e (r.own q1) λl' p1 _ _ p4 _=>?_;rw[p1] at q2;cases q2;obtain⟨o,ho⟩:=p4.has;rw[h1] at ho;exact zqn ho
def yS (f:FE):FS:=λsd=>(f sd).bind λd=>.ok (.ret d)
def zI (he:QE X E e fe):QS X E false (.Return (some e) pos) (yS fe):=PS.weak (jo he) λT Z H zh=>by
 refine zc3b zh λB F sd r n=>?_;refine⟨B,F,sd,r,(Res.need_bind n).mono (λd n1 v F1 H1 e1 i1=>?_) λ_ _ q=>q.ext r.ext⟩;exact n1 v F1 H1 (r.ext.trans e1) i1
def x9 (he:QN X E e fe):QS X E true (.Return (some e) pos) (yS fe):=PS.weak (jo he) λT Z H zh=>by
 refine zc3b zh λB F sd r n=>?_;refine⟨B,F,sd,r,(Res.need_bind n).mono (λd n1 l F1 H1 e1 h1 h2 h3=>?_) λ_ _ q=>q.ext r.ext⟩;exact n1 l F1 H1 (r.ext.trans e1) (zF r.ext.hh h1) h2 h3
noncomputable def xq (i:Nat):FS:=λsd=>match sd[i]? with
 |some (some (.own _ d))=>.ok (.ret d)
 |_=>.no
def xJ (he:PE X e (hW i)):QS X E true (.Return (some e) pos) (xq i):=PS.weak (jo he) λT Z H zh=>by
 refine zc3b zh λB F sd r n=>?_;unfold xq at n
 split at n
 .rename_i d q;refine zc1e (r.own q) λl h1 h2 h3 h4 _=>?_;exact⟨.ref l,h1,n l F H r.ext h2 h3 h4⟩
 .exact n.elim
def sIf (c:FT)(g1 g2:FS):FS:=λsd=>(c sd).bind λb=>if b then g1 sd else g2 sd
def yU (hc:QT X E c fc)(ha:QSs X E m a g1)(hb:QSs X E m b g2):QS X E m (.If c a b pos) (sIf fc g1 g2):=PS.weak (ps_if hc ha hb) λT Z H zh=>by
 refine zc3b zh λB F sd r n=>?_;refine⟨B,F,sd,r,(Res.need_bind n).mono (λb n1 F1 H1 e1=>?_) λ_ _ q=>q.ext r.ext⟩;cases b with
 |true=>exact⟨B,F1,sd,r.step e1,n1.mono (λ_ q=>q.mono e1.ff) λ_ _ q=>q⟩
 |false=>exact⟨B,F1,sd,r.step e1,n1.mono (λ_ q=>q.mono e1.ff) λ_ _ q=>q⟩
def zX (i:Nat)(f:FE):FS:=λsd=>match sd[i]? with
 |some (some (.own false (.lst ds)))=>(f sd).bind λd=>if ds.length<sizeLine then .ok (.next (sd.set i (some (.own false (.lst (ds++[d])))))) else .no
 |_=>.no
def yb (ho:PE X o (hW i))(he:QE X E e fe)
 (hp:∀{to:TE} {t:TA},PE X o to->PA X [e] t->PE X (.Call (.Attribute o "append" apos) [e] [] cpos) (tBM X.K "list" kJ to t))
 (hs:autoParam (swapsWith (.Call (.Attribute o "append" apos) [e] [] cpos) none pos.line X.env=pure false) zau._auto_1)
 (hst:autoParam (starEach [e] X.env=(false,eval e X.env)::starEach [] X.env) zau._auto_1):QS X E m (.Expr (.Call (.Attribute o "append" apos) [e] [] cpos) pos) (zX i fe):=
 PS.weak (ir (hp ho (za he zd hst)) hs) λT Z H zh=>by
  obtain⟨B,F,sd,r,n⟩:=zh;unfold zX at n
  split at n
  .rename_i ds hi;obtain⟨l,h1,h2,h3,⟨xs,h4,h5⟩,_⟩:=r.own hi;refine⟨.ref l,h1,.inl ⟨rfl,xs,SqL.of h4⟩,B,F,sd,r,?_⟩;unfold zb zn;show((fe sd).bind λx=>.ok [x]).need _ _;have n2:=Res.need_bind n;cases q:fe sd with
   |no=>rw[q] at n2;exact n2
   |ex c fs=>rw[q] at n2;exact n2.ext r.ext
   |ok d =>
    rw[q] at n2;intro vs F1 H1 e1 i1;rw[zq.cons_iff] at i1;obtain⟨v,w,rfl,i2,i3⟩:=i1;rw[zq.nil_iff] at i3;subst i3;have n3:(if ds.length<sizeLine then Res.ok (Out.next (sd.set i (some (.own false (.lst (ds++[d])))))) else .no).need (tX X.K m B F T) (XW X.K E B.F0 B.H0):=n2
    split at n3
    .rename_i hz;have hl:=h5.length;refine⟨l,xs,v,rfl,rfl,e1.hh _ _ h4,(),?_⟩;have r1:=r.step e1;exact n3 Z F1 _ e1.ff (r1.chg hi h1 ⟨xs++[v],zu,(zq.same e1.ff _ _ h5).snoc i2⟩)
    .exact n3.elim
  .exact n.elim
def u9 (i:Nat)(f:FE):FS:=λsd=>match sd[i]? with
 |some (some (.own false (.lst ds)))=>(f sd).bind λd=>match d with
  | .lst es=>if ds.length+es.length<=sizeLine then .ok (.next (sd.set i (some (.own false (.lst (ds++es)))))) else .no
  |_=>.no
 |_=>.no
def qs_extend (ho:PE X o (hW i))(he:QN X E e fe)
 (hp:∀{to:TE} {t:TA},PE X o to->PA X [e] t->PE X (.Call (.Attribute o "extend" apos) [e] [] cpos) (tBM X.K "list" i7 to t))
 (hs:autoParam (swapsWith (.Call (.Attribute o "extend" apos) [e] [] cpos) none pos.line X.env=pure false) zau._auto_1)
 (hst:autoParam (starEach [e] X.env=(false,eval e X.env)::starEach [] X.env) zau._auto_1):QS X E m (.Expr (.Call (.Attribute o "extend" apos) [e] [] cpos) pos) (u9 i fe):=
 PS.weak (ir (hp ho (sK he o8 hst)) hs) λT Z H zh=>by
  refine zc3b zh λB F sd r n=>?_;unfold u9 at n
  split at n
  .rename_i ds hi;refine zc1e (r.own hi) λl h1 h2 h3 zr4 _=>?_;obtain⟨xs,h4,h5⟩:=zr4;refine⟨.ref l,h1,.inl ⟨rfl,xs,SqL.of h4⟩,B,F,sd,r,(Res.need_bind n).mono (λd n1 b F1 H1 e1 i1 i2 i3=>?_) λ_ _ q=>q.ext r.ext⟩;cases d with
   |lst es =>
    refine zc1b i3 λys g1 g2=>?_;have n3:(if ds.length+es.length<=sizeLine then Res.ok (Out.next (sd.set i (some (.own false (.lst (ds++es)))))) else .no).need (tX X.K m B F T) (XW X.K E B.F0 B.H0):=n1
    split at n3
    .rename_i hz;have hl:=h5.length;have hl2:=g2.length;refine⟨l,b,xs,ys,rfl,rfl,e1.hh _ _ h4,g1,(),?_⟩;have r1:=r.step e1;exact n3 Z F1 _ e1.ff (r1.chg hi h1 ⟨xs++ys,zu,(zq.same e1.ff _ _ h5).append g2⟩)
    .exact n3.elim
   |_=>exact n1.elim
  .exact n.elim
set_option genInjectivity false in
inductive Tg where
 |one (i:Nat)|tup (is:Yj)
noncomputable def setAll:Yj->YD->SD->SD
 |i::is,d::ds,sd=>setAll is ds (sd.set i (some (.val d)))
 |_,_,sd=>sd
def yY:Tg->D->SD->Res SD
 | .one i,d,sd=>.ok (sd.set i (some (.val d)))
 | .tup is,.tup ds,sd=>if ds.length=is.length then .ok (setAll is ds sd) else .no
 |_,_,_=>.no
noncomputable def qD:Yj->YB->St->St
 |i::is,v::vs,Z => qD is vs (Z.set i (some v))
 |_,_,Z => Z
theorem RS.setAll {K:W.Frag}{B:Bs}{F H:Hp}:∀{is:Yj} {ds:YD} {vs:YB} {sd:SD} {Z:St},RS K B F H sd Z -> zq K F ds vs->RS K B F H (setAll is ds sd) (qD is vs Z)
 | [],ds,vs,sd,Z,r,_=>r
 |i::is,[],vs,sd,Z,r,h=>by
  rw[zq.nil_iff] at h;subst h;exact r
 |i::is,d::ds,vs,sd,Z,r,h=>by
  rw[zq.cons_iff] at h;refine zc2c h λv w zr2 h1 h2=>?_;subst zr2;exact RS.setAll (is:=is) (ds:=ds) (vs:=w) (r.setVal (i:=i) h1) h2
def RS.forget {K:W.Frag}{B:Bs}{F H:Hp}{sd sd':SD}{Z:St}(r:RS K B F H sd Z)(hl:sd'.length=sd.length)(h:∀(i:Nat) (x:SV),sd'[i]? = some (some x)->sd[i]? = some (some x)):RS K B F H sd' Z:=
 ⟨r.ext,by rw[r.len,hl],λq=>r.val (h _ _ q),λq=>r.own (h _ _ q),λn q1 q2 q3=>r.apart n (h _ _ q1) (h _ _ q2) q3⟩
def gT:Tg->W.Frag->TG
 | .one i,_=>qB i
 | .tup is,K=>λv Z H Q=>∃a xs,v=.ref a/\SqT K H a xs/\xs.length=is.length/\Q (qD is xs Z) H
def dc {K:W.Frag}{tg:Tg}{B:Bs}{F H:Hp}{sd:SD}{Z:St}{d:D}{v:V}{p:SD->Prop}{q:Str->YD->Prop}{Q:St->Hp->Prop}(r:RS K B F H sd Z)(hi:IsD K F d v)(n:(yY tg d sd).need p q)
 (h:∀sd' Z',p sd'->yY tg d sd=.ok sd'->RS K B F H sd' Z'->Q Z' H):gT tg K v Z H Q:=by
 cases tg with
 |one i=>exact h _ _ n rfl (r.setVal hi)
 |tup is =>
  cases d with
  |tup ds =>
   rw[IsD.tup_iff] at hi;refine zc2c hi λa xs zr2 h1 h2=>?_;subst zr2;have eb:yY (.tup is) (.tup ds) sd=if ds.length=is.length then .ok (setAll is ds sd) else .no:=rfl
   by_cases hl:ds.length=is.length
   .rw[Zd hl] at eb;rw[eb] at n;exact⟨a,xs,rfl,(h1.same r.ext.fh).sq,by rw[h2.length,hl],h _ _ n eb (r.setAll h2)⟩
   .rw[Ze hl] at eb;rw[eb] at n;exact n.elim
  |_=>exact n.elim
abbrev QG (X:Cx)(e:Expr)(tg:Tg):Prop:=PG X e (gT tg X.K)
def bj (K:W.Frag)(F1:Hp)(J:It)(ds:YD):Prop:=∀(i:Nat) (F2 H2:Hp),yC F1 F2->yC F2 H2 ->
 (i<ds.length->J.go i H2/\∀x H3,J.yld i H2 x H3->∃d F3,ds[i]? = some d/\Ext F2 H2 F3 H3/\IsD K F3 d x)/\(ds.length<=i->J.stop i H2)
def tDI (K:W.Frag)(E:XK)(f:FA):TI:=λZ H R=>∃B F sd,RS K B F H sd Z /\ (f sd).need (λds=>∀J F' H',Ext F H F' H'->bj K F' J ds->R J H') (XW K E F H)
abbrev QI (X:Cx)(E:XK)(tg iter:Expr)(f:FA):Prop:=PI X tg iter (tDI X.K E f)
def iO (b:D->FS):YD->FS
 | [],sd=>.ok (.next sd)
 |x::xs,sd=>(b x sd).bind λo=>match o with
  | .next sd'=>iO b xs sd'
  | .cont sd'=>iO b xs sd'
  | .brk sd'=>.ok (.next sd')
  | .ret d=>.ok (.ret d)
def sV (it:FA)(tg:Tg)(b:FS):FS:=λsd=>(it sd).bind λds=>iO (λx sd=>(yY tg x sd).bind b) ds sd
def yL (hp:PassesOwn (model X.prog X.w) X.A X.env X.xe)(hc:X.calm=true)(hi:QI X E tg iter fi)(hg:QG X tg t)(hb:QSs X E m body g)
 (hss:autoParam (∀x,foldedSetIterable iter X.env x=pure x) zaw._auto_1):QS X E m (.For tg iter body [] pos) (sV fi t g):=PS.weak (ps_for hp hc hi hg hb hss) λT Z H zh=>by
 refine zc3b zh λB F sd r n=>?_;refine⟨B,F,sd,r,(Res.need_bind n).mono (λds n1 J F1 H1 e1 wk=>?_) λ_ _ q=>q.ext r.ext⟩;refine⟨λi k Z H=>k=ds.length-i/\i<=ds.length/\∃F2 sd,yC F1 F2/\RS X.K B F2 H sd Z /\ (iO (λx sd=>(yY t x sd).bind g) (ds.drop i) sd).need (tX X.K m B F2 T) (XW X.K E B.F0 B.H0),
  ⟨ds.length,rfl,Nat.zero_le _,F1,sd,.refl _,r.step e1,n1.mono (λ_ q=>q.mono e1.ff) λ_ _ q=>q⟩,?_⟩
 rintro i k Z2 H2 ⟨rfl,hi,F2,sd2,s2,r2,n2⟩;obtain⟨w1,w2⟩:=wk i F2 H2 s2 r2.ext.fh;by_cases hlt:i<ds.length
 .obtain⟨go,yl⟩:=w1 hlt;refine .inr ⟨go,λZ' H'=>∃F3 sd3,yC F1 F3/\RS X.K B F3 H' sd3 Z'/\(iO (λx sd=>(yY t x sd).bind g) (ds.drop (i+1)) sd3).need (tX X.K m B F3 T) (XW X.K E B.F0 B.H0),
   λZ' H' ⟨F3,sd3,q1,q2,q3⟩=>⟨ds.length-(i+1),(),rfl,hlt,F3,sd3,q1,q2,q3⟩,λx H3 y=>?_⟩
  refine zc2c (yl x H3 y) λd F3 hd e3 i3=>?_;rw[ZU hlt] at n2;have hd':ds[i]=d:=by rw[Zqg hlt] at hd;exact Zqi hd
  rw[hd'] at n2;have r3:=r2.step e3;unfold iO at n2;have n3:=Res.need_bind (Res.need_bind n2);refine dc r3 i3 n3 λsd' Z' n4 _ r4=>?_;refine⟨B,F3,sd',r4,n4.mono (λo n5=>?_) λ_ _ q=>q⟩;cases o with
  |next sd5=>exact λZ5 F5 H5 s5 r5=>⟨F5,sd5,(s2.trans e3.ff).trans s5,r5,n5.mono (λ_ q=>q.mono (e3.ff.trans s5)) λ_ _ q=>q⟩
  |cont sd5=>exact λZ5 F5 H5 s5 r5=>⟨F5,sd5,(s2.trans e3.ff).trans s5,r5,n5.mono (λ_ q=>q.mono (e3.ff.trans s5)) λ_ _ q=>q⟩
  |brk sd5=>exact λZ5 F5 H5 s5 r5=>n5 Z5 F5 H5 (e3.ff.trans s5) r5
  |ret d=>exact n5
 .have he:i=ds.length:=()
  refine .inl ⟨w2 (),?_⟩;subst he;rw[XO] at n2;exact n2 Z2 F2 H2 (.refl _) r2
def gm {α β: Type}(f:α -> Res β):List α -> Res (List β)
 | []=>.ok []
 |x::xs=>(f x).bind λy=>(gm f xs).bind λys=>.ok (y::ys)
def sW (cap:List (Option Nat))(sd:SD):SD:=cap.map λo=>o.bind λj=>match sd[j]? with
 |some (some (.val d))=>some (.val d)
 |_=>none
noncomputable def vP (sd:SD)(i:Nat):Bool:=match sd[i]? with
 |some none=>true
 |_=>false
def sr (sd:SD):Tg->Bool
 | .one i=>vP sd i
 | .tup is=>is.all (vP sd)
def xO (cap:List (Option Nat))(it:FA)(tg:Tg)(f:FE):FE:=λsd=>(it sd).bind λds=>if sr (sW cap sd) tg=true/\ds.length<sizeLine then
 (gm (λx=>(yY tg x (sW cap sd)).bind f) ds).bind λys=>.ok (.lst ys) else .no
theorem RS.cap {K:W.Frag}{B:Bs}{F H:Hp}{sd:SD}{Z:St}(cap:List (Option Nat))(r:RS K B F H sd Z):RS K B F H (sW cap sd) (nE cap Z):=by
 have key:∀{i:Nat} {x:SV},(sW cap sd)[i]? = some (some x)->∃j d,cap[i]? = some (some j)/\sd[j]? = some (some (.val d))/\x=.val d:=λ{i x} q=>by
  unfold sW at q;rw[Zv] at q;cases hc:cap[i]? with
  |none=>rw[hc] at q;exact zqn q
  |some o =>
   rw[hc] at q;cases o with
   |none=>cases q
   |some j =>
    have q:(match sd[j]? with
     |some (some (.val d))=>some (SV.val d)
     |_=>none)=some x:=Zqi q
    split at q
    .rename_i d hd;exact⟨j,d,rfl,hd,(Zqi q).symm⟩
    .exact zqn q
 refine⟨r.ext,by unfold sW nE;rw[Zql,Zql],λ{i d} q=>?_,λ{i p d} q=>?_,λ{i j p p' d e l} _ q=>?_⟩
 .refine zc2c (key q) λj d' h1 h2 h3=>?_;cases h3;refine zc1b (r.val h2) λv v1 v2=>?_;refine⟨v,?_,v2⟩;unfold nE;rw[Zv,h1];show some (Option.bind (some j) λj=>(Z[j]?).join)=_;rw[Option.bind_some,v1];rfl
 .refine zc2c (key q) λj d' h1 h2 h3=>?_;cases h3
 .refine zc2c (key q) λj d' h1 h2 h3=>?_;cases h3
theorem vx:∀(is:Yj) (ds:YD) (sd0 sd:SD),is.all (vP sd0)=true->sd.length=sd0.length->(∀(i:Nat) (x:SV),sd0[i]? = some (some x)->sd[i]? = some (some x)) ->
 (setAll is ds sd).length=sd0.length/\∀(i:Nat) (x:SV),sd0[i]? = some (some x)->(setAll is ds sd)[i]? = some (some x)
 | [],ds,sd0,sd,_,hl,h=>⟨hl,h⟩
 |i::is,[],sd0,sd,_,hl,h=>⟨hl,h⟩
 |i::is,d::ds,sd0,sd,hn,hl,h=>by
  rw[XA,ZR] at hn;refine vx is ds sd0 (sd.set i (some (.val d))) hn.2 (by rw[XE,hl]) λj x q=>?_;have ne:i≠j:=λz=>by
   subst z;have:=hn.1;unfold vP at this;rw[q] at this;exact zqb this
  rw[z6 ne];exact h j x q
def rE (hn:sr sd0 tg=true)(h:yY tg d sd0=.ok sd):sd0.length=sd.length/\∀(i:Nat) (x:SV),sd0[i]? = some (some x)->sd[i]? = some (some x):=by
 cases tg with
 |one i =>
  cases h;have:=vx [i] [d] sd0 sd0 (by rw[XA,List.all_nil,Bool.and_true];exact hn) rfl λ_ _ q=>q;exact⟨this.1.symm,this.2⟩
 |tup is =>
  cases d with
  |tup ds =>
   have eb:yY (.tup is) (.tup ds) sd0=if ds.length=is.length then .ok (setAll is ds sd0) else .no:=rfl
   rw[eb] at h
   split at h
   .cases h;have:=vx is ds sd0 sd0 hn rfl λ_ _ q=>q;exact⟨this.1.symm,this.2⟩
   .cases h
  |_=>cases h
def mapD_drop {α β: Type}{f:α -> Res β}{xs:List α}{x:α}{p:List β -> Prop}(hx:xs[i]? = some x)(h:(gm f (xs.drop i)).need p q):(f x).need (λy=>(gm f (xs.drop (i+1))).need (λys=>p (y::ys)) q) q:=by
 have hlt:i<xs.length:=(ZI.mp hx).1;rw[ZU hlt] at h;have e:xs[i]=x:=by rw[Zqg hlt] at hx;exact Zqi hx
 rw[e] at h;unfold gm at h;refine(Res.need_bind h).mono (λy h1=>?_) λ_ _ z=>z;exact(Res.need_bind h1).mono (λys h2=>h2) λ_ _ z=>z
def lh {K:W.Frag}{t:Tg}{fi:FA}{f:FE}{cap:List (Option Nat)}{Z:St}{H:Hp}{Q:VK}(hh:tDN K E (xO cap fi t f) Z H Q):jV cap (tDI K E fi) (gT t K) (tD K E f) Z H Q:=by
 refine zc3b hh λB F sd r n=>?_;refine⟨B,F,sd,r,(Res.need_bind n).mono (λds n1 J F1 H1 e1 wk=>?_) λ_ _ q=>q⟩
 split at n1
 .rename_i hh;obtain⟨hn,hz⟩:=hh;refine⟨λi k ys Z H2=>k=ds.length-i/\i<=ds.length/\∃F2 es,Ext F1 H1 F2 H2/\RS K B F2 H2 (sW cap sd) Z /\ zq K F2 es ys/\es.length=i /\
   (gm (λx=>(yY t x (sW cap sd)).bind f) (ds.drop i)).need (λrs=>OkN K F2 H2 Q (.lst (es++rs))) (XW K E F2 H2),⟨ds.length,rfl,Nat.zero_le _,F1,[],.refl e1.fh,(r.step e1).cap cap,.nil,rfl,?_⟩,?_⟩
  .exact(Res.need_bind n1).mono (λrs q=>(show OkN K F H Q (.lst rs) from q).ext e1) λ_ _ q=>q.ext e1
  rintro i k ys Z2 H2 ⟨rfl,hi,F2,es,e2,r2,i2,hl,n2⟩;have ly:=i2.length;refine⟨(),?_⟩;obtain⟨w1,w2⟩:=wk i F2 H2 e2.ff e2.fh;by_cases hlt:i<ds.length
  .obtain⟨go,yl⟩:=w1 hlt;refine .inr ⟨go,λx H3 y=>?_⟩;refine zc2c (yl x H3 y) λd F3 hd e3 i3=>?_;have n3:=mapD_drop hd n2;have r3:=r2.step e3;refine dc (K:=K) r3 i3 (Res.need_bind n3) λsd' Z' n4 hb r4=>?_;obtain⟨b1,b2⟩:=rE hn hb;refine⟨B,F3,sd',r4,n4.mono (λy n5 v F4 H4 e4 i4=>?_) λ_ _ q=>q.ext e3⟩;refine⟨ds.length-(i+1),(),rfl,hlt,F4,es++[y],(e2.trans e3).trans e4,(r4.step e4).forget b1 b2,(zq.same (e3.ff.trans e4.ff) _ _ i2).snoc i4,by rw[ZG,hl];rfl,?_⟩;refine n5.mono (λrs q=>?_) λ_ _ q=>q.ext (e3.trans e4);rw[ZJ];exact q.ext (e3.trans e4)
  .have he:i=ds.length:=()
   subst he;refine .inl ⟨w2 (Zf _),λD hD=>?_⟩;rw[XO] at n2;have q:OkN K F2 H2 Q (.lst (es++[])):=n2;rw[Zz] at q;exact q D F2 _ (.keep r2.ext.fh hD _) hD (zF r2.ext.fh hD) ⟨ys,zu,i2⟩
 .exact n1.elim
def wD (N:Yk)(cap:List (Option Nat))(hc:X.calm=true)(okB:yN scope X.env N X.N cap=true)(hi:QI X E tg iter fi)
 (hg:∀cl C s H ex,QG (z5 X scope N cl C s H ex) tg t) (he:∀cl C s H ex,QE (z5 X scope N cl C s H ex) E elt f) (hs:autoParam (∀x,foldedSetIterable iter X.env x=pure x) zaw._auto_1):
 QN X E (.ListComp elt [⟨tg,iter,[],0⟩] scope pos) (xO cap fi t f):=PE.weak (pe_comp (g:=gT t X.K) (te:=tD X.K E f) N cap hc okB hi hg he hs) λ_ _ _ h=>lh h
noncomputable def xE (n:Nat)(ds:YD):SD:=ds.map (λd=>some (.val d))++List.replicate (n-ds.length) none
def ve (n ar:Nat)(g:FS)(ds:YD):Res D:=if ds.length=ar then(g (xE n ds)).bind λo=>match o with
 | .ret d=>.ok d
 | .next _=>.ok .non
 |_=>.no else .no
def uc (n ar:Nat)(g:FS)(ds:YD):Res D:=if ds.length=ar then(g (xE n ds)).bind λo=>match o with
 | .ret d=>.ok d
 |_=>.no else .no
theorem RS.start {K:W.Frag}{F H:Hp}{N:Yk}{ds:YD}{vs:YB}(s:yC F H)(h:zq K F ds vs):RS K ⟨F,H,λ_=>none⟩ F H (xE N.length ds) (start N vs):=by
 have key:∀{i:Nat} {x:SV},(xE N.length ds)[i]? = some (some x)->∃d,ds[i]? = some d/\x=.val d:=λ{i x} q=>by
  unfold xE at q;by_cases hi:i<ds.length
  .rw[Xv (by rw[Zql];exact hi),Zv,Zqg hi] at q;exact⟨ds[i],Zqg hi,(Zqi (Zqi q)).symm⟩
  .rw[Xq (by rw[Zql];omega),List.getElem?_replicate] at q
   split at q<;>(first|exact zqn q|cases q)
 refine⟨.refl s,by unfold xE L2.start;simp[h.length],λ{i d} q=>?_,λ{i p d} q=>?_,λ{i j p p' d e l} _ q=>?_⟩
 .refine zc1b (key q) λd' h1 h2=>?_;cases h2;refine zc1b (h.get h1) λv v1 v2=>?_;refine⟨v,?_,v2⟩;unfold L2.start;rw[Xv (by rw[Zql];exact(ZI.mp v1).1),Zv,v1];rfl
 .refine zc1b (key q) λ_ _ h2=>?_;cases h2
 .refine zc1b (key q) λ_ _ h2=>?_;cases h2
section
variable {P:Program}{w:World}{K:W.Frag}{mg:Ye}{base:Heap}{x qual:Str}{f:Addr}{fd:FuncData}{N ps:Yk}{k:Nat}
def pb (F:Fun K x qual st f fd)(S:FnScope N ps (zi st))
 (hb:∀(cdv:Value) (A:Around) (outer:List Env) (s:Shared) (H:Hp) (E:XK),Room k (A.deeper (envOfC qual (zi st) s.heap.objs.size f cdv))->QSs (rl CX0 P w K mg base N qual (zi st) f cdv A outer s H E).nox E0 false (xb st) g):
 FnOk P w K mg base CX0 (k+1) f fd ps (SpD K (ve N.length ps.length g)):=by
 refine F.ok S (λvs H Q E ⟨F,ds,_,h,n⟩=>?_) λcdv A outer s H vs Q E hr ⟨F,ds,hs,h,n⟩=>⟨_,hb cdv A outer s H E hr,?_⟩
 .unfold ve at n
  split at n
  .rw[h.length];assumption
  .exact n.elim
 .unfold ve at n
  split at n
  .refine⟨⟨F,H,λ_=>none⟩,F,_,RS.start hs h,(Res.need_bind n).mono (λo n1=>?_) λ_ _ q=>q⟩;cases o with
   |next sd=>exact λZ F' H' _ r=>n1 .non F' H' r.ext (IsD.non_iff.mpr rfl)
   |ret d=>exact n1
   |brk sd=>exact n1.elim
   |cont sd=>exact n1.elim
  .exact n.elim
def mF (F:Fun K x qual st f fd)(S:FnScope N ps (zi st))
 (hb:∀(cdv:Value) (A:Around) (outer:List Env) (s:Shared) (H:Hp) (E:XK),Room k (A.deeper (envOfC qual (zi st) s.heap.objs.size f cdv))->QSs (rl CX0 P w K mg base N qual (zi st) f cdv A outer s H E).nox E0 true (xb st) g):
 FnOk P w K mg base CX0 (k+1) f fd ps (SpN K (uc N.length ps.length g)):=by
 refine F.ok S (λvs H Q E ⟨F,ds,_,h,n⟩=>?_) λcdv A outer s H vs Q E hr ⟨F,ds,hs,h,n⟩=>⟨_,hb cdv A outer s H E hr,?_⟩
 .unfold uc at n
  split at n
  .rw[h.length];assumption
  .exact n.elim
 .unfold uc at n
  split at n
  .refine⟨⟨F,H,λ_=>none⟩,F,_,RS.start hs h,(Res.need_bind n).mono (λo n1=>?_) λ_ _ q=>q⟩;cases o with
   |next sd=>exact n1.elim
   |ret d=>exact n1
   |brk sd=>exact n1.elim
   |cont sd=>exact n1.elim
  .exact n.elim
end
end
noncomputable def prD (p:Int×Int):D:=.tup [.int p.1,.int p.2]
def rwD (r:X6):D:=.tup (r.map prD)
noncomputable def oJ:D->Option (Int×Int)
 | .tup [.int i,.int j]=>some (i,j)
 |_=>none
def xx {α:Type}(f:D->Option α):YD->Option (List α)
 | []=>some []
 |d::ds=>(f d).bind λx=>(xx f ds).map λxs=>x::xs
def vJ:D->Option (X6)
 | .tup ds=>xx oJ ds
 |_=>none
noncomputable def kB:D->Option Int
 | .int i=>some i
 |_=>none
theorem wz {α β: Type}{f:D->Option α}{g:β -> D}{k:β -> α}(h:∀x,f (g x)=some (k x)):∀l:List β,xx f (l.map g)=some (l.map k)
 | []=>rfl
 |x::r=>by rw[Zl];unfold xx;rw[h,wz h r];rfl
theorem wL {α:Type}{f:D->Option α}{g:α -> D}(h:∀d x,f d=some x->d=g x):∀{ds:YD} {l:List α},xx f ds=some l->ds=l.map g
 | [],l,e=>by cases e;rfl
 |d::ds,l,e=>by
  unfold xx at e;cases h1:f d with
  |none=>rw[h1] at e;exact zqn e
  |some x =>
   cases h2:xx f ds with
   |none=>rw[h1,h2] at e;exact zqn e
   |some xs =>
    rw[h1,h2] at e;obtain rfl:=Zqi e;rw[Zl,<- h d x h1,<- wL h h2]
def pairOf_pr (p:Int×Int):oJ (prD p)=some p:=rfl
def pairOf_inv (h:oJ d=some p):d=prD p:=by
 cases d with
 |tup ds =>
  cases ds with
  |nil=>exact zqn h
  |cons x ds =>
   cases x with
   |int i =>
    cases ds with
    |nil=>exact zqn h
    |cons y ds =>
     cases y with
     |int j =>
      cases ds with
      |nil=>obtain rfl:=Zqi h;rfl
      |cons _ _=>exact zqn h
     |_=>exact zqn h
   |_=>exact zqn h
 |_=>exact zqn h
def vX (r:X6):vJ (rwD r)=some r:=by
 show xx oJ (r.map prD)=some r;rw[wz (k:=id) pairOf_pr,List.map_id]
def oT (h:vJ d=some r):d=rwD r:=by
 cases d with
 |tup ds=>unfold rwD;rw[<- wL (λ_ _=>pairOf_inv) (show xx oJ ds=some r from h)]
 |_=>exact zqn h
def intOf_inv (h:kB d=some i):d=.int i:=by
 cases d with
 |int j=>cases h;rfl
 |_=>exact zqn h
def allInt_inv (h:xx kB ds=some l):ds=l.map D.int:=wL (λ_ _=>intOf_inv) h
def allInt_map (l:Yh):xx kB (l.map D.int)=some l:=by
 have h:=wz (f:=kB) (g:=D.int) (k:=λi:Int=>i) (λ_=>rfl) l;rw[h,List.map_id']
def uI (l:X7):xx vJ (l.map rwD)=some l:=by rw[wz (k:=id) vX,List.map_id]
def uf (h:xx vJ ds=some l):ds=l.map rwD:=wL (λ_ _=>oT) h
section
variable {K:W.Frag}{H:Hp}
def gP:IsD K H (prD p) v↔Is H (pD p) v:=by
 rw[qA];unfold prD;rw[IsD.tup_iff];constructor
 .rintro⟨a,xs,rfl,h1,h2⟩;have:xs=[p.1,p.2].map V.int:=zq.ints_iff (ns:=[p.1,p.2]) h2;subst this;exact⟨a,rfl,h1⟩
 .rintro⟨a,rfl,h1⟩;exact⟨a,_,rfl,h1,zq.ints [p.1,p.2]⟩
theorem sU:∀{r:X6} {xs:YB},zq K H (r.map prD) xs↔zw H (r.map pD) xs
 | [],xs=>by rw[Xt,Xt,zq.nil_iff];unfold zw;exact Iff.rfl
 |p::r,xs=>by
  rw[Zl,Zl,zq.cons_iff];constructor
  .rintro⟨x,w,rfl,h1,h2⟩;unfold zw;exact⟨x,w,rfl,gP.mp h1,sU.mp h2⟩
  .intro h;unfold zw at h;refine zc2c h λx w e h1 h2=>?_;exact⟨x,w,e,gP.mpr h1,sU.mpr h2⟩
def fW:IsD K H (rwD r) v↔Is H (rD r) v:=by
 unfold rwD rD;rw[IsD.tup_iff,Is.tuple_iff];constructor
 .rintro⟨a,xs,e,h1,h2⟩;exact⟨a,xs,e,h1,sU.mp h2⟩
 .rintro⟨a,xs,e,h1,h2⟩;exact⟨a,xs,e,h1,sU.mpr h2⟩
theorem vg:∀{r:X7} {xs:YB},zq K H (r.map rwD) xs↔zw H (r.map rD) xs
 | [],xs=>by rw[Xt,Xt,zq.nil_iff];unfold zw;exact Iff.rfl
 |p::r,xs=>by
  rw[Zl,Zl,zq.cons_iff];constructor
  .rintro⟨x,w,rfl,h1,h2⟩;unfold zw;exact⟨x,w,rfl,fW.mp h1,vg.mp h2⟩
  .intro h;unfold zw at h;refine zc2c h λx w e h1 h2=>?_;exact⟨x,w,e,fW.mpr h1,vg.mpr h2⟩
end
section
variable {X:Cx}{E:XK}
noncomputable def gI (f:Int->Int->D):D->D->YE
 | .int i,.int j=>some (f i j)
 |_,_=>none
noncomputable def gIc (c:Int->Int->Bool)(f:Int->Int->D):D->D->YE
 | .int i,.int j=>if c i j then some (f i j) else none
 |_,_=>none
def eB (o:OpR X h (rI0 g))(hg:∀i j F,IsD X.K F (f i j) (g i j)):OpD X h (gI f):=OpR.weak o λx y H Q zh=>by
 obtain⟨F,d,e,z,sF,id,ie,hz,q⟩:=zh;cases d with
 |int i =>
  cases e with
  |int j=>cases hz;exact⟨i,j,IsD.int_iff.mp id,IsD.int_iff.mp ie,q _ F H (.refl sF) (hg i j F)⟩
  |_=>exact zqn hz
 |_=>exact zqn hz
def mY (o:OpR X h (rI C g))(hc:∀i j,c i j=true->C i j)(hg:∀i j F,IsD X.K F (f i j) (g i j)):OpD X h (gIc c f):=OpR.weak o λx y H Q zh=>by
 obtain⟨F,d,e,z,sF,id,ie,hz,q⟩:=zh;cases d with
 |int i =>
  cases e with
  |int j =>
   have hz:(if c i j then some (f i j) else none)=some z:=hz
   split at hz
   .rename_i hcc;cases hz;exact⟨i,j,IsD.int_iff.mp id,IsD.int_iff.mp ie,hc i j hcc,q _ F H (.refl sF) (hg i j F)⟩
   .exact zqn hz
  |_=>exact zqn hz
 |_=>exact zqn hz
def isI (i:Int)(F:Hp):IsD X.K F (.int i) (.int i):=IsD.int_iff.mpr rfl
def isB (b:Bool)(F:Hp):IsD X.K F (.bl b) (.bl b):=IsD.bl_iff.mpr rfl
noncomputable def ki:=gI λi j=>.int (i-j)
noncomputable def cz:Nat:=10715086071862673209484250490600018105614048117055336074437503883703510511249361224931983788156958581275946729175531468251871452856923140435984577574698574803934567774824230985421074605062371141877954182153046474983581941267398767559165543946077062914571196477686542167660429831652624386837205668069376
def sT (i j:Int):Bool:=(Nat.blt i.natAbs 18446744073709551616||Nat.blt j.natAbs 18446744073709551616)||(Nat.blt i.natAbs cz&&Nat.blt j.natAbs cz)
def mZ (h:k.natAbs<cz):Builtin.Int.intBits k<=2 ^ 20:=by
 have e:cz<=2 ^ 1000:=Nat.le_of_ble_eq_true rfl;have hn:k.natAbs<2 ^ 1000:=Zg h e;unfold Builtin.Int.intBits
 split
 .exact Nat.zero_le _
 .have l:k.natAbs.log2<1000:=by
   rcases Nat.eq_zero_or_pos k.natAbs with h0|hp
   .rw[h0];decide
   .exact(Nat.log2_lt (Nat.ne_of_gt hp)).mpr hn
  have e:(2:Nat) ^ 20=1048576:=by decide
  omega
def mulOk_ok (h:sT i j=true):IntMulOk i j:=by
 unfold sT at h;rw[X4,X4,ZR,Nat.blt_eq,Nat.blt_eq,Nat.blt_eq,Nat.blt_eq] at h;rcases h with (h|h)|⟨h1,h2⟩
 .exact .of_left (intBits_le_64 () ())
 .exact .of_right (intBits_le_64 () ())
 .exact .of_bits (mZ h1) (mZ h2)
def op_mulW:OpR X (binaryOp .Mult) (rI (λi j=>sT i j=true) λi j=>.int (i*j)):=opI λ_ _ _ _ _ _ _ hc q=>mul_int q (mulOk_ok hc)
def gH:=gIc sT λi j=>.int (i*j)
def pQ:=gIc (λ_ j=>Nat.blt 0 j.toNat&&Nat.blt j.toNat 1073741824) λi j=>.int (i / j)
def rq:=gIc (λ_ j=>Nat.blt 0 j.toNat) λi j=>.int (i % j)
def cT:=gIc (λi j=>Nat.ble (-j).toNat 0&&(Nat.ble j.toNat 1000000&&Nat.blt i.natAbs 18446744073709551616)) λi j=>.int (i ^ j.toNat)
noncomputable def gLt:=gI λi j=>.bl (decide (i<j))
noncomputable def gGt:=gI λi j=>.bl (decide (j<i))
def k7:OpD X (binaryOp .Sub) ki:=eB op_sub λ_ _ F=>isI _ F
def hZ:OpD X (binaryOp .Mult) gH:=mY op_mulW (λi j h=>h) λ_ _ F=>isI _ F
def rJ:OpD X (binaryOp .FloorDiv) pQ:=mY op_fdiv (λi j h=>by rw[ZR,Nat.blt_eq,Nat.blt_eq] at h;unfold bw;omega) λ_ _ F=>isI _ F
def wq:OpD X (binaryOp .Mod) rq:=mY op_mod (λi j h=>by rw[Nat.blt_eq] at h;omega) λ_ _ F=>isI _ F
def o_pow:OpD X (binaryOp .Pow) cT:=mY op_pow (λi j h=>by rw[ZR,ZR,Nat.ble_eq,Nat.ble_eq,Nat.blt_eq] at h;unfold bH;omega) λ_ _ F=>isI _ F
def o_lt:OpD X (compareOp .Lt) gLt:=eB op_lt λ_ _ F=>isB _ F
def eK:OpD X (compareOp .Gt) gGt:=eB op_gt λ_ _ F=>isB _ F
noncomputable def cG:D->YE
 | .int i=>some (.int (-i))
 |_=>none
def dZ:UnR X (unaryOp .USub) (rD1 X.K cG):=UnR.weak un_neg λx H Q zh=>by
 obtain⟨F,d,z,sF,id,hz,q⟩:=zh;cases d with
 |int i=>cases hz;exact⟨i,IsD.int_iff.mp id,q _ F H (.refl sF) (isI _ F)⟩
 |_=>exact zqn hz
noncomputable def u8:D->D->YE
 | .int i,.int j=>some (.int (i+j))
 | .str x,.str y=>if x.length+y.length<=sizeLine then some (.str (x++y)) else none
 | .tup a,.tup b=>if a ≠ []/\b ≠ []/\a.length+b.length<=sizeLine then some (.tup (a++b)) else none
 | .lst a,.lst b=>if a.length+b.length<=sizeLine then some (.lst (a++b)) else none
 |_,_=>none
def rCat' (K:W.Frag):R2:=λx y H Q=>∃l b xs zs,x=.ref l/\y=.ref b/\lD K H l xs/\lD K H b zs/\xs.length+zs.length<=sizeLine/\∀p,H p=none->Q (.ref p) (upd H p (.lst (xs++zs)))
def iD:OpR X (binaryOp .Add) (rCat' X.K):=by
 intro Y s Z H x y v u Q I rx ry h;refine zc4a h λl b xs zs zz=>xf zz λzr4 zr5 hl hb zz=>wx zz λhz q=>?_;subst zr4;subst zr5;obtain rfl:v=Value.ref l:=rx;obtain rfl:u=Value.ref b:=ry;refine wx (hl.ok I.hok) λ_ zz=>zc2b zz λits n r1 e1=>?_;refine wx (hb.ok I.hok) λ_ zz=>zc2b zz λits2 n2 r2 e2=>?_;have hl1:=r1.length;have hl2:=r2.length;refine PySem.P.add_list e1 e2 ?_ (by rw[Zm,Zm];omega);have ea:its.toArray++its2.toArray=(its++its2).toArray:=by simp
 rw[ea];exact⟨.ref _,_,I.lnew (t':=s.toks) (r1.append r2) (by rw[ZG];omega),rfl,q _ I.fresh⟩
def ww:OpD X (binaryOp .Add) u8:=by
 rintro Y s Z H x y v u Q I rx ry ⟨F,d,e,z,sF,id,ie,hz,q⟩;cases d with
 |int i =>
  cases e with
  |int j=>cases hz;exact op_add Y s Z H x y v u Q I rx ry ⟨i,j,IsD.int_iff.mp id,IsD.int_iff.mp ie,q _ F H (.refl sF) (isI _ F)⟩
  |_=>exact zqn hz
 |str a =>
  cases e with
  |str b =>
   have hz:(if a.length+b.length<=sizeLine then some (D.str (a++b)) else none)=some z:=hz
   split at hz
   .rename_i hl;cases hz;exact op_add_str Y s Z H x y v u Q I rx ry ⟨a,b,IsD.str_iff.mp id,IsD.str_iff.mp ie,hl,q _ F H (.refl sF) (IsD.str_iff.mpr rfl)⟩
   .exact zqn hz
  |_=>exact zqn hz
 |tup a =>
  cases e with
  |tup b =>
   have hz:(if a ≠ []/\b ≠ []/\a.length+b.length<=sizeLine then some (D.tup (a++b)) else none)=some z:=hz
   split at hz
   .rename_i hl;obtain rfl:=Zqi hz;rw[IsD.tup_iff] at id ie;obtain⟨la,xs,rfl,h1,h2⟩:=id;obtain⟨lb,ys,rfl,h3,h4⟩:=ie;have l1:=h2.length;have l2:=h4.length;have x0:xs ≠ []:=λz=>hl.1 (ZQ.mp (by rw[<- l1,z];rfl));have y0:ys ≠ []:=λz=>hl.2.1 (ZQ.mp (by rw[<- l2,z];rfl));refine op_catT Y s Z H _ _ v u Q I rx ry ⟨la,lb,xs,ys,rfl,rfl,(h1.same sF).sq,(h3.same sF).sq,x0,by have:=hl.2.2;omega,λz=>Zn z y0,λ_ p hp=>?_⟩;have ea:=Ext.alloc sF hp (.tup (xs++ys));exact q _ _ _ ea (IsD.tup_iff.mpr ⟨p,_,rfl,.of zu,zq.same ea.ff _ _ (h2.append h4)⟩)
   .exact zqn hz
  |_=>exact zqn hz
 |lst a =>
  cases e with
  |lst b =>
   have hz:(if a.length+b.length<=sizeLine then some (D.lst (a++b)) else none)=some z:=hz
   split at hz
   .rename_i hl;obtain rfl:=Zqi hz;rw[IsD.lst_iff] at id ie;obtain⟨la,xs,rfl,h1,h2⟩:=id;obtain⟨lb,ys,rfl,h3,h4⟩:=ie;have l1:=h2.length;have l2:=h4.length;refine iD Y s Z H _ _ v u Q I rx ry ⟨la,lb,xs,ys,rfl,rfl,h1.same sF,h3.same sF,(),λp hp=>?_⟩;have ea:=Ext.alloc sF hp (.lst (xs++ys));exact q _ _ _ ea (IsD.lst_iff.mpr ⟨p,_,rfl,.of zu,zq.same ea.ff _ _ (h2.append h4)⟩)
   .exact zqn hz
  |_=>exact zqn hz
 |_=>exact zqn hz
mutual
noncomputable def nh:D->PyData
 | .non=>.none
 | .bl b=>.bool b
 | .int i=>.int i
 | .str x=>.str x
 | .tup ds=>.tuple (sX ds)
 | .lst ds=>.list (sX ds)
 | .ty _=>.none
 | .scr _=>.none
 | .dct _ _=>.none
 | .ins _ _ _=>.none
 | .exc _=>.none
 | .ucl _=>.none
 | .adr _=>.none
 | .dcf _ _=>.none
noncomputable def sX:YD->List PyData
 | []=>[]
 |d::ds=>nh d::sX ds
end
noncomputable def plN:Nat->D->Bool
 | 0,_=>false
 |_+1,.int _=>true
 |_+1,.str x=>PyData.strOk x
 |_+1,.non=>true
 |n+1,.tup ds=>ds.all (plN n)
 |n+1,.lst ds=>ds.all (plN n)
 |_+1,_=>false
def rX:∀(n:Nat) (d:D),plN n d=true->(nh d).canLay0=true/\(nh d).depth<=n:=λn=>by
 induction n with
 |zero=>intro _ h;exact zqb h
 |succ n ihn =>
  intro d h;have all:∀ds:YD,ds.all (plN n)=true->PyData.canLayAll0 (sX ds)=true/\PyData.depthAll (sX ds)<=n:=by
   intro ds
   induction ds with
   |nil=>intro _;exact⟨rfl,Nat.zero_le _⟩
   |cons d ds ih =>
    intro h;rw[XA,ZR] at h;obtain⟨h1,h2⟩:=ihn d h.1;obtain⟨h3,h4⟩:=ih h.2;exact⟨XJ.mpr ⟨h1,h3⟩,Nat.max_le.mpr ⟨h2,h4⟩⟩
  cases d with
  |int i=>exact⟨rfl,Nat.zero_le _⟩
  |str i=>exact⟨h,Nat.zero_le _⟩
  |non=>exact⟨rfl,Nat.zero_le _⟩
  |tup ds=>exact⟨(all ds h).1,Nat.succ_le_succ (all ds h).2⟩
  |lst ds=>exact⟨(all ds h).1,Nat.succ_le_succ (all ds h).2⟩
  |_=>exact zqb h
def D.ne {d e:D}(h:(d.ctorIdx == e.ctorIdx)=false):¬d=e:=λq=>by
 rw[q,beq_self_eq_true] at h;cases  h
def jO:∀(n:Nat) (d e:D),plN n d=true->plN n e=true->(PyData.eqv (nh d) (nh e)=true↔d=e):=λn=>by
 induction n with
 |zero=>intro _ _ h;exact zqb h
 |succ n ihn =>
  intro d e h h';have all:∀ds es:YD,ds.all (plN n)=true->es.all (plN n)=true->(PyData.eqvAll (sX ds) (sX es)=true↔ds=es):=by
   intro ds
   induction ds with
   |nil =>
    intro es _ _;cases es with
    |nil=>exact iff_of_true rfl rfl
    |cons e es=>exact Zs Zj (λq=>List.cons_ne_nil _ _ q.symm)
   |cons d ds ih =>
    intro es h1 h2;cases es with
    |nil=>exact Zs Zj (List.cons_ne_nil _ _)
    |cons e es =>
     rw[XA,ZR] at h1 h2;show(PyData.eqv (nh d) (nh e)&&PyData.eqvAll (sX ds) (sX es))=true↔_;rw[XJ,ihn d e h1.1 h2.1,ih es h1.2 h2.2,List.cons.injEq]
  cases d with
  |int i =>
   cases e with
   |int j=>exact⟨λq=>Zt D.int (Ys.mp q),λq=>Ys.mpr (D.noConfusion q id)⟩
   |str _=>exact Zs Zj (D.ne rfl)
   |non=>exact Zs Zj (D.ne rfl)
   |tup _=>exact Zs Zj (D.ne rfl)
   |lst _=>exact Zs Zj (D.ne rfl)
   |_=>exact zqb h'
  |str i =>
   cases e with
   |str j=>exact⟨λq=>Zt D.str (of_decide_eq_true q),λq=>Zp (D.noConfusion q id)⟩
   |int _=>exact Zs Zj (D.ne rfl)
   |non=>exact Zs Zj (D.ne rfl)
   |tup _=>exact Zs Zj (D.ne rfl)
   |lst _=>exact Zs Zj (D.ne rfl)
   |_=>exact zqb h'
  |non =>
   cases e with
   |non=>exact iff_of_true rfl rfl
   |int _=>exact Zs Zj (D.ne rfl)
   |str _=>exact Zs Zj (D.ne rfl)
   |tup _=>exact Zs Zj (D.ne rfl)
   |lst _=>exact Zs Zj (D.ne rfl)
   |_=>exact zqb h'
  |tup ds =>
   cases e with
   |tup es=>exact(all ds es h h').trans ⟨λq=>Zt D.tup q,λq=>D.noConfusion q id⟩
   |int _=>exact Zs Zj (D.ne rfl)
   |str _=>exact Zs Zj (D.ne rfl)
   |non=>exact Zs Zj (D.ne rfl)
   |lst _=>exact Zs Zj (D.ne rfl)
   |_=>exact zqb h'
  |lst ds =>
   cases e with
   |lst es=>exact(all ds es h h').trans ⟨λq=>Zt D.lst q,λq=>D.noConfusion q id⟩
   |int _=>exact Zs Zj (D.ne rfl)
   |str _=>exact Zs Zj (D.ne rfl)
   |non=>exact Zs Zj (D.ne rfl)
   |tup _=>exact Zs Zj (D.ne rfl)
   |_=>exact zqb h'
  |_=>exact zqb h
theorem xX {P:Program}{w:World}{K:W.Frag}{H:Hp}{h:Heap}(ok:HOk P w H h):∀(n:Nat) (d:D) (v:V) (u:Value),plN n d=true->IsD K H d v->y8 v u->∃as,Reads h u (nh d) as
 | 0,_,_,_,p,_,_=>by exact zqb p
 |n+1,d,v,u,p,q,r=>by
  have all:∀(ds:YD) (xs:YB) (us:Yf),ds.all (plN n)=true->zq K H ds xs->yt xs us->∃as,ReadsAll h us (sX ds) as:=by
   intro ds
   induction ds with
   |nil =>
    intro xs us _ h1 h2;rw[zq.nil_iff] at h1;subst h1;cases h2;exact⟨_,.nil⟩
   |cons d ds ih =>
    intro xs us hp h1 h2;rw[XA,ZR] at hp;rw[zq.cons_iff] at h1;refine zc2c h1 λx rs zr2 h3 h4=>?_;subst zr2;cases h2 with
    |cons r1 r2 =>
     obtain⟨as,ra⟩:=xX ok n d x _ hp.1 h3 r1;obtain⟨bs,rb⟩:=ih rs _ hp.2 h4 r2;exact⟨_,.cons ra rb⟩
  cases d with
  |int i =>
   rw[IsD.int_iff] at q;subst q;obtain⟨t,rfl⟩:=(show ∃t,u=Value.int i t from r);exact⟨_,.int i t⟩
  |str x =>
   rw[IsD.str_iff] at q;subst q;obtain⟨t,rfl⟩:=(show ∃t,u=Value.str x t from r);exact⟨_,.str x t⟩
  |non =>
   rw[IsD.non_iff] at q;subst q;obtain rfl:u=Value.none:=r;exact⟨_,.none⟩
  |tup ds =>
   rw[IsD.tup_iff] at q;refine zc2c q λa xs zr2 h2 h3=>?_;subst zr2;obtain rfl:u=Value.ref a:=r;refine wx ((show yE P w H h a (.tup xs) from ok a _ h2)) λ_ zz=>zc1b zz λits rv zz=>zc1c zz λo e c zz=>zc1a zz λn' dt=>?_;obtain⟨as,ra⟩:=all ds xs its p h3 rv;exact⟨_,.tuple e c dt (by simpa using ra)⟩
  |lst ds =>
   rw[IsD.lst_iff] at q;refine zc2c q λa xs zr2 h2 h3=>?_;subst zr2;obtain rfl:u=Value.ref a:=r;refine wx (h2.ok ok) λ_ zz=>zc2b zz λits n' rv e=>?_;obtain⟨as,ra⟩:=all ds xs its p h3 rv;exact⟨_,.list e rfl rfl (by simpa using ra)⟩
  |_=>exact zqb p
noncomputable section
open Classical
noncomputable def zW (d e:D):Bool:=decide (d=e)
def zC (d:D):zW d d=true:=Zp rfl
def w6:zW d e=true↔d=e:=decide_eq_true_iff
def xY:zW d e=false↔d≠e:=decide_eq_false_iff_not
def gEq:D->D->YE
 | .bl a,.bl b=>some (.bl (a == b))
 |d,e=>if plN 12 d&&plN 12 e then some (.bl (zW d e)) else none
def gNe:D->D->YE
 | .bl a,.bl b=>some (.bl (a != b))
 |d,e=>if plN 12 d&&plN 12 e then some (.bl (!zW d e)) else none
end
def xM (h1:plN 12 d=true)(h2:plN 12 e=true):gEq d e=some (.bl (zW d e)):=by
 unfold gEq
 split
 .exact zqb h1
 .rw[h1,h2];rfl
def pr (h1:plN 12 d=true)(h2:plN 12 e=true):gNe d e=some (.bl (!zW d e)):=by
 unfold gNe
 split
 .exact zqb h1
 .rw[h1,h2];rfl
def gEq_int (i j:Int):gEq (.int i) (.int j)=some (.bl (decide (i=j))):=by
 rw[xM rfl rfl]
 congr 2
 by_cases h:i=j
 .rw[Zp h,h,zC]
 .rw[Zo h,xY.mpr λz=>h (by injection z)]
def gNe_int (i j:Int):gNe (.int i) (.int j)=some (.bl (!decide (i=j))):=by
 rw[pr rfl rfl]
 congr 3
 by_cases h:i=j
 .rw[Zp h,h,zC]
 .rw[Zo h,xY.mpr λz=>h (by injection z)]
def oZ (hu:X.A.units+64<cLine):OpD X (compareOp .Eq) gEq:=by
 rintro Y s Z H x y v u Q I rx ry ⟨F,d,e,z,sF,id,ie,hz,q⟩;unfold gEq at hz
 split at hz
 .rename_i a b;obtain rfl:=Zqi hz;refine op_eq Y s Z H x y v u Q I rx ry ⟨?_,?_⟩
  .rw[IsD.bl_iff.mp id,IsD.bl_iff.mp ie];rfl
  .rw[IsD.bl_iff.mp id,IsD.bl_iff.mp ie];refine q _ F H (.refl sF) ?_;rw[IsD.bl_iff];cases a<;>cases b<;>rfl
 .split at hz
  .rename_i hp;rw[ZR] at hp;obtain rfl:=Zqi hz;obtain⟨as,ra⟩:=xX I.hok 12 d x v hp.1 (IsD.same sF _ _ id) rx;obtain⟨bs,rb⟩:=xX I.hok 12 e y u hp.2 (IsD.same sF _ _ ie) ry;obtain⟨l1,z1⟩:=rX 12 d hp.1;obtain⟨l2,z2⟩:=rX 12 e hp.2;refine PySem.SeqAt.compareEq_reads ra rb l1 l2 () ?_;have hb:PyData.eqv (nh d) (nh e)=zW d e:=Xl.mpr ((jO 12 d e hp.1 hp.2).trans w6.symm);rw[hb];exact⟨.bl _,H,I,rfl,q _ F H (.refl sF) (isB _ F)⟩
  .exact zqn hz
def du (hu:X.A.units+64<cLine):OpD X (compareOp .NotEq) gNe:=by
 rintro Y s Z H x y v u Q I rx ry ⟨F,d,e,z,sF,id,ie,hz,q⟩;unfold gNe at hz
 split at hz
 .rename_i a b;obtain rfl:=Zqi hz;refine op_ne Y s Z H x y v u Q I rx ry ⟨?_,?_⟩
  .rw[IsD.bl_iff.mp id,IsD.bl_iff.mp ie];rfl
  .rw[IsD.bl_iff.mp id,IsD.bl_iff.mp ie];refine q _ F H (.refl sF) ?_;rw[IsD.bl_iff];cases a<;>cases b<;>rfl
 .split at hz
  .rename_i hp;rw[ZR] at hp;obtain rfl:=Zqi hz;obtain⟨as,ra⟩:=xX I.hok 12 d x v hp.1 (IsD.same sF _ _ id) rx;obtain⟨bs,rb⟩:=xX I.hok 12 e y u hp.2 (IsD.same sF _ _ ie) ry;obtain⟨l1,z1⟩:=rX 12 d hp.1;obtain⟨l2,z2⟩:=rX 12 e hp.2;refine PySem.SeqAt.compareNe_reads ra rb l1 l2 () ?_;have hb:PyData.eqv (nh d) (nh e)=zW d e:=Xl.mpr ((jO 12 d e hp.1 hp.2).trans w6.symm);rw[hb];exact⟨.bl _,H,I,rfl,q _ F H (.refl sF) (isB _ F)⟩
  .exact zqn hz
end
def PE.or (h:PE X e t)(h':PE X e t'):PE X e (λZ H Q=>t Z H Q\/t' Z H Q):=λY s Z H Q I q=>q.elim (h Y s Z H Q I) (h' Y s Z H Q I)
def PT.or (h:PT X e t)(h':PT X e t'):PT X e (λZ H Q=>t Z H Q\/t' Z H Q):=λY s Z H Q I q=>q.elim (h Y s Z H Q I) (h' Y s Z H Q I)
noncomputable def wY:D->Option Key
 | .int i=>some (.inl i)
 | .str x=>some (.inr x)
 |_=>none
def v9 {K:W.Frag}{H:Hp}{d:D}{k:Key}{v:V}(h:wY d=some k)(i:IsD K H d v):v=kV k:=by
 cases d with
 |int j=>cases h;exact IsD.int_iff.mp i
 |str x=>cases h;exact IsD.str_iff.mp i
 |_=>exact zqn h
noncomputable def tE:List Key->YD->Key->YE
 |k::ks,d::ds,q=>if k=q then some d else tE ks ds q
 |_,_,_=>none
def valV_cons (k q:Key)(v:V)(r:List (Key×V)):r9 ((k,v)::r) q=if k=q then some v else r9 r q:=by
 unfold r9;rw[List.find?_cons];by_cases h:k=q
 .rw[Zd h,Zp h];rfl
 .rw[Ze h,Zo h]
def pT:tE (k::ks) (d::ds) q=if k=q then some d else tE ks ds q:=rfl
theorem ss {K:W.Frag}{H:Hp}(q:Key):∀{ks:List Key} {ds:YD} {xs:YB},ks.length=xs.length->zq K H ds xs ->
 (∀d,tE ks ds q=some d->∃x,r9 (ks.zip xs) q=some x/\IsD K H d x)/\(tE ks ds q=none->r9 (ks.zip xs) q=none)
 | [],ds,xs,hl,h=>by
  have:xs=[]:=ZQ.mp hl.symm;subst this;refine⟨λd e=>?_,λ_=>rfl⟩;cases ds<;>exact zqn e
 |k::ks,[],xs,hl,h=>by
  rw[zq.nil_iff] at h;subst h;cases hl
 |k::ks,d::ds,xs,hl,h=>by
  rw[zq.cons_iff] at h;refine zc2c h λx r zr2 h1 h2=>?_;subst zr2;have ih:=ss q (ks:=ks) (Nat.succ.inj hl) h2;rw[XH,valV_cons];rw[pT];by_cases hk:k=q
  .rw[Zd hk,Zd hk];exact⟨λd' e=>by cases e;exact⟨x,rfl,h1⟩,λe=>by cases e⟩
  .rw[Ze hk,Ze hk];exact ih
noncomputable def d8:List Key->YD->Key->D->YD
 |k::ks,d::ds,q,v=>(if k=q then v else d)::d8 ks ds q v
 |_,_,_,_=>[]
noncomputable def dr:List Key->YB->Key->V->YB
 |k::ks,d::ds,q,v=>(if k=q then v else d)::dr ks ds q v
 |_,_,_,_=>[]
def o6:d8 (k::ks) (d::ds) q v=(if k=q then v else d)::d8 ks ds q v:=rfl
def chgV_cons:dr (k::ks) (d::ds) q v=(if k=q then v else d)::dr ks ds q v:=rfl
theorem fG {K:W.Frag}{H:Hp}{q:Key}{d:D}{v:V}(hv:IsD K H d v):∀{ks:List Key} {ds:YD} {xs:YB},ks.length=xs.length->zq K H ds xs->zq K H (d8 ks ds q d) (dr ks xs q v)/\(dr ks xs q v).length=ks.length /\
 (ks.zip xs).map (λkv=>if kv.1=q then(kv.1,v) else kv)=ks.zip (dr ks xs q v)
 | [],ds,xs,hl,h=>by
  have:xs=[]:=ZQ.mp hl.symm;subst this;refine⟨?_,rfl,rfl⟩;cases ds<;>exact .nil
 |k::ks,[],xs,hl,h=>by
  rw[zq.nil_iff] at h;subst h;cases hl
 |k::ks,d'::ds,xs,hl,h=>by
  rw[zq.cons_iff] at h;refine zc2c h λx r zr2 h1 h2=>?_;subst zr2;refine x8 (fG (q:=q) hv (ks:=ks) (Nat.succ.inj hl) h2) λi1 i2 i3=>?_;rw[o6,chgV_cons];refine⟨zq.mk ?_ i1,by rw[Zu,i2];rfl,?_⟩
  .by_cases hk:k=q
   .rw[Zd hk,Zd hk];exact hv
   .rw[Ze hk,Ze hk];exact h1
  .rw[XH,Zl,i3,XH];by_cases hk:k=q
   .rw[Zd hk,Zd hk]
   .rw[Ze hk,Ze hk]
noncomputable def dq (q:Key)(ks:List Key):Bool:=ks.any λk=>decide (k=q)
theorem iB (q:Key):∀{ks:List Key} {xs:YB},ks.length=xs.length->((ks.zip xs).any λkv=>decide (kv.1=q))=dq q ks
 | [],xs,_=>rfl
 |k::ks,[],h=>by cases h
 |k::ks,x::xs,h=>by
  rw[XH,List.any_cons,iB q (Nat.succ.inj h)];rfl
def nU (ks:List Key)(q:Key):List Key:=if dq q ks=true then ks else ks++[q]
def km (ks:List Key)(ds:YD)(q:Key)(v:D):YD:=if dq q ks=true then d8 ks ds q v else ds++[v]
def put_zip {K:W.Frag}{H:Hp}{q:Key}{d:D}{v:V}{ks:List Key}{ds:YD}{xs:YB}(hl:ks.length=xs.length)(h:zq K H ds xs)(hv:IsD K H d v):
 ∃ys,qh (ks.zip xs) q v=(nU ks q).zip ys/\(nU ks q).length=ys.length/\zq K H (km ks ds q d) ys:=by
 unfold qh nU km;rw[iB q hl];by_cases hm:dq q ks=true
 .rw[Zd hm,Zd hm,Zd hm];refine x8 (fG (q:=q) hv hl h) λh1 h2 h3=>?_;exact⟨_,h3,h2.symm,h1⟩
 .rw[Ze hm,Ze hm,Ze hm];exact⟨xs++[v],by rw[List.zip_append hl];rfl,by simp[hl],h.snoc hv⟩
section
variable {X:Cx}{E:XK}{m:Option Bool}{a b o i e:Expr}{fa fb fo fi fv:FE}{pos pos' apos cpos:Pos}
def jP {K:W.Frag}{H:Hp}{ds:YD}{xs:YB}{k:Int}{d:D}(h:zq K H ds xs)(e:atI ds k=some d):∃x,atI xs k=some x/\IsD K H d x:=by
 unfold atI at e ⊢;rw[h.length];cases hj:ixN ds.length k with
 |none=>rw[hj] at e;exact zqn e
 |some j =>
  rw[hj] at e;exact h.get e
def gIx:D->D->YE
 | .lst ds,.int k=>atI ds k
 | .tup ds,.int k=>atI ds k
 | .scr ns,.int k=>(atI ns k).map .int
 | .str x,.int k=>if x.length<=sizeLine then(atI x.cps.toList k).map λc=>.str ⟨#[c]⟩ else none
 | .dct ks ds,k=>(wY k).bind λq=>tE ks ds q
 | .dcf ks ds,k=>(wY k).bind λq=>tE ks ds q
 |_,_=>none
def fJ {K:W.Frag}{H:Hp}{d:D}{ks:List Key}{ds:YD}{v:V}(hd:d=.dct ks ds\/d=.dcf ks ds)(h:IsD K H d v):∃a xs,v=.ref a/\Rd H a (.dK (ks.zip xs))/\ks.length=xs.length/\zq K H ds xs:=by
 rcases hd with rfl|rfl
 .obtain⟨a,xs,h1,h2,h3⟩:=IsD.dct_iff.mp h;exact⟨a,xs,h1,.inl h2,h3⟩
 .obtain⟨a,o,xs,h1,h2,h3⟩:=IsD.dcf_iff.mp h;exact⟨a,xs,h1,.inr ⟨o,h2⟩,h3⟩
def nw {H H':Hp}{a:Addr}{u:HO}(e:yC H H')(h:Rd H a u):Rd H' a u:=h.imp (λq=>e _ _ q) (by rintro⟨o,q⟩;exact⟨o,e _ _ q⟩)
def jJ {H:Hp}{a:Addr}{kvs:List (Key×V)}{k:Key}(e:Rd H a (.dK kvs)):nG H a (kV k) (r9 kvs k):=.inl ⟨kvs,k,e,rfl,rfl⟩
def ixd_seq:IxR X (rD2 X.K λd e=>match d with
 | .dct _ _=>none
 | .dcf _ _=>none
 |d=>gIx d e):=IxR.weak ix_seq λx y H Q ⟨F,d,e,z,sF,id,ie,hz,q⟩=>by
 cases d with
 |lst ds =>
  cases e with
  |int k =>
   rw[IsD.lst_iff] at id;refine zc2c id λp xs zr2 h1 h2=>?_;subst zr2;refine zc1b (jP h2 (show atI ds k=some z from hz)) λx hx i2=>?_;exact .inl ⟨p,xs,k,x,rfl,IsD.int_iff.mp ie,(h1.same sF).sq,hx,q _ F H (.refl sF) i2⟩
  |_=>exact zqn hz
 |tup ds =>
  cases e with
  |int k =>
   rw[IsD.tup_iff] at id;refine zc2c id λp xs zr2 h1 h2=>?_;subst zr2;refine zc1b (jP h2 (show atI ds k=some z from hz)) λx hx i2=>?_;exact .inr (.inl ⟨p,xs,k,x,rfl,IsD.int_iff.mp ie,(h1.same sF).sq,hx,q _ F H (.refl sF) i2⟩)
  |_=>exact zqn hz
 |scr ns =>
  cases e with
  |int k =>
   rw[IsD.scr_iff] at id;refine zc1b id λp zr1 h1=>?_;subst zr1;refine zc1b (Xf.mp (show(atI ns k).map D.int=some z from hz)) λj hj hz=>?_;subst hz;refine .inl ⟨p,_,k,.int j,rfl,IsD.int_iff.mp ie,yC.seq sF h1,?_,q _ F H (.refl sF) (isI _ F)⟩;unfold atI at hj ⊢;rw[Zql];cases hx:ixN ns.length k with
   |none=>rw[hx] at hj;exact zqn hj
   |some i=>rw[hx] at hj;show(ns.map V.int)[i]? = _;rw[Zv,show ns[i]? = some j from hj];rfl
  |_=>exact zqn hz
 |str t =>
  cases e with
  |int k =>
   have hz:(if t.length<=sizeLine then(atI t.cps.toList k).map λc=>D.str ⟨#[c]⟩ else none)=some z:=hz
   split at hz
   .rename_i hl;cases hc:atI t.cps.toList k with
    |none=>rw[hc] at hz;exact zqn hz
    |some c =>
     rw[hc] at hz;obtain rfl:=Zqi hz;exact .inr (.inr ⟨t,k,c,IsD.str_iff.mp id,IsD.int_iff.mp ie,hl,hc,q _ F H (.refl sF) (IsD.str_iff.mpr rfl)⟩)
   .exact zqn hz
  |_=>exact zqn hz
 |_=>exact zqn hz
def yV (hu:X.A.units+1<cLine)(ha:QE X E a fa)(hb:QE X E b fb)(hs:mi b)(hs2:cI b):QE X E (.Subscript a b pos) (dOp gIx fa fb):=
 PE.weak (PE.or (iC hu ha hb hs2) (dG (ixd_seq) ha hb hs)) λZ H Q h=>by
  refine zc3b h λB F sd r n=>?_;by_cases hd:∃d ks ds,fa sd=.ok d/\(d=.dct ks ds\/d=.dcf ks ds)
  .obtain⟨d,ks,ds,hd,hc⟩:=hd;refine .inl ⟨B,F,sd,r,(Res.need_bind n).monoE (λx hx n1 v F1 H1 e1 i1=>?_) λ_ _ q=>q⟩;rw[hd] at hx;cases hx;refine⟨B,F1,sd,r.step e1,(Res.need_bind n1).mono (λy n2 w F2 H2 e2 i2=>?_) λ_ _ q=>q.ext e1⟩;refine zc1b (Res.need_ofO n2) λz hz q=>?_;obtain⟨k,hk,hz⟩:=Option.bind_eq_some_iff.mp (show(wY y).bind (λq=>tE ks ds q)=some z by rcases hc with rfl|rfl<;>exact hz);refine zc2d (fJ hc i1) λp xs zr2 h1 h2 h3=>?_;subst zr2;refine zc1b ((ss k h2 h3).1 z hz) λx hx ix=>?_;refine⟨p,x,rfl,?_,q x F2 H2 (e1.trans e2) (IsD.same e2.ff _ _ ix)⟩;rw[v9 hk i2,<- hx];exact jJ (nw e2.hh (nw e1.fh h1))
  .refine .inr (jG ⟨B,F,sd,r,?_⟩);unfold dOp at n ⊢;cases hx:fa sd with
   |ok d =>
    rw[hx] at n;cases d with
    |dct ks ds=>exact Zn ⟨_,ks,ds,hx,.inl rfl⟩ hd
    |dcf ks ds=>exact Zn ⟨_,ks,ds,hx,.inr rfl⟩ hd
    |_=>exact n
   |no=>rw[hx] at n;exact n
   |ex c fs=>rw[hx] at n;exact n
def gIn (neg:Bool):D->D->YE
 |k,.dct ks ds=>(wY k).map λq=>.bl (if neg then !(tE ks ds q).isSome else(tE ks ds q).isSome)
 |k,.dcf ks ds=>(wY k).map λq=>.bl (if neg then !(tE ks ds q).isSome else(tE ks ds q).isSome)
 |d,.lst ds=>if plN 12 d&&ds.all (plN 12) then some (.bl (if neg then !ds.any (λe=>zW e d) else ds.any λe=>zW e d)) else none
 |d,.tup ds=>if plN 12 d&&ds.all (plN 12) then some (.bl (if neg then !ds.any (λe=>zW e d) else ds.any λe=>zW e d)) else none
 |_,_=>none
theorem gZ {K:W.Frag}{H:Hp}:∀(n:Nat) (d e:D) (v:V),plN n d=true->plN n e=true->IsD K H d v->IsD K H e v->d=e
 | 0,_,_,_,h,_,_,_=>by exact zqb h
 |n+1,d,e,v,hd,he,h1,h2=>by
  have all:∀(ds es:YD) (xs:YB),ds.all (plN n)=true->es.all (plN n)=true->zq K H ds xs->zq K H es xs->ds=es:=by
   intro ds
   induction ds with
   |nil =>
    intro es xs _ _ h1 h2;rw[zq.nil_iff] at h1;subst h1;have:=h2.length;exact(ZQ.mp this.symm).symm
   |cons d ds ih =>
    intro es xs p1 p2 h1 h2;rw[XA,ZR] at p1;rw[zq.cons_iff] at h1;refine zc2c h1 λx r zr2 h3 h4=>?_;subst zr2;cases es with
    |nil=>rw[zq.nil_iff] at h2;cases h2
    |cons e es =>
     rw[XA,ZR] at p2;rw[zq.cons_iff] at h2;refine zc2c h2 λx' r' e' h5 h6=>?_;cases e';rw[gZ n d e x p1.1 p2.1 h3 h5,ih es r p1.2 p2.2 h4 h6]
  have ne:∀{a:Addr} {xs ys:YB},iJ K H a xs->lD K H a ys->False:=λ{a xs ys} q1 q2=>by
   rcases q2 with q2|⟨o,q2⟩
   .rw[q1] at q2;cases q2
   .rw[q1] at q2;cases q2
  cases d with
  |int i =>
   rw[IsD.int_iff] at h1;subst h1;cases e with
   |int j=>rw[IsD.int_iff] at h2;cases h2;rfl
   |str j=>rw[IsD.str_iff] at h2;cases h2
   |non=>rw[IsD.non_iff] at h2;cases h2
   |tup es=>rw[IsD.tup_iff] at h2;obtain⟨_,_,z,_⟩:=h2;cases z
   |lst es=>rw[IsD.lst_iff] at h2;obtain⟨_,_,z,_⟩:=h2;cases z
   |_=>exact zqb he
  |str i =>
   rw[IsD.str_iff] at h1;subst h1;cases e with
   |int j=>rw[IsD.int_iff] at h2;cases h2
   |str j=>rw[IsD.str_iff] at h2;cases h2;rfl
   |non=>rw[IsD.non_iff] at h2;cases h2
   |tup es=>rw[IsD.tup_iff] at h2;obtain⟨_,_,z,_⟩:=h2;cases z
   |lst es=>rw[IsD.lst_iff] at h2;obtain⟨_,_,z,_⟩:=h2;cases z
   |_=>exact zqb he
  |non =>
   rw[IsD.non_iff] at h1;subst h1;cases e with
   |int j=>rw[IsD.int_iff] at h2;cases h2
   |str j=>rw[IsD.str_iff] at h2;cases h2
   |non=>rfl
   |tup es=>rw[IsD.tup_iff] at h2;obtain⟨_,_,z,_⟩:=h2;cases z
   |lst es=>rw[IsD.lst_iff] at h2;obtain⟨_,_,z,_⟩:=h2;cases z
   |_=>exact zqb he
  |tup ds =>
   rw[IsD.tup_iff] at h1;refine zc2c h1 λa xs zr2 q1 q2=>?_;subst zr2;cases e with
   |int j=>rw[IsD.int_iff] at h2;cases h2
   |str j=>rw[IsD.str_iff] at h2;cases h2
   |non=>rw[IsD.non_iff] at h2;cases h2
   |tup es =>
    rw[IsD.tup_iff] at h2;refine zc2c h2 λa' xs' e' q3 q4=>?_;cases e';have q1':H a=some (.tup xs):=q1;rw[show H a=some (.tup xs') from q3] at q1';cases q1';rw[all ds es _ hd he q2 q4]
   |lst es =>
    rw[IsD.lst_iff] at h2;refine zc2c h2 λa' xs' e' q3 q4=>?_;cases e';exact(ne q1 q3).elim
   |_=>exact zqb he
  |lst ds =>
   rw[IsD.lst_iff] at h1;refine zc2c h1 λa xs zr2 q1 q2=>?_;subst zr2;cases e with
   |int j=>rw[IsD.int_iff] at h2;cases h2
   |str j=>rw[IsD.str_iff] at h2;cases h2
   |non=>rw[IsD.non_iff] at h2;cases h2
   |tup es =>
    rw[IsD.tup_iff] at h2;refine zc2c h2 λa' xs' e' q3 q4=>?_;cases e';exact(ne q3 q1).elim
   |lst es =>
    rw[IsD.lst_iff] at h2;refine zc2c h2 λa' xs' e' q3 q4=>?_;cases e';have:xs=xs':=by
     rcases q1 with q1|⟨_,q1⟩<;>rcases q3 with q3|⟨_,q3⟩<;>rw[q1] at q3<;>cases q3<;>rfl
    subst this;rw[all ds es _ hd he q2 q4]
   |_=>exact zqb he
  |_=>exact zqb hd
def ValIs (K:W.Frag)(H:Hp)(d:D)(u:Value):Prop:=∃v,y8 v u/\IsD K H d v
def lB (K:W.Frag)(H:Hp)(d:D)(u:Value):Bool:=@decide (ValIs K H d u) (Classical.propDecidable _)
def eqTo_same {K:W.Frag}{H:Hp}{d e:D}{v:V}{u:Value}(hd:plN 12 d=true)(he:plN 12 e=true)(h:IsD K H e v)(r:y8 v u):lB K H d u=zW e d:=by
 unfold lB;by_cases q:e=d
 .rw[q,zC];exact @decide_eq_true _ (Classical.propDecidable _) ⟨v,r,q ▸ h⟩
 .rw[xY.mpr q];refine @decide_eq_false _ (Classical.propDecidable _) λ⟨v',r',h'⟩=>q ?_;rw[r'.inj r] at h';exact gZ 12 e d v he hd h h'
def fD {P:Program}{w:World}{K:W.Frag}{A:Around}{s:Shared}{H:Hp}(hu:A.units+60<cLine)(ok:HOk P w H s.heap){d:D}{x:V}{v:Value}(hp:plN 12 d=true)(hx:IsD K H d x)(rx:y8 x v):
 ∀{ds:YD} {xs:YB} {us:Yf},ds.all (plN 12)=true->zq K H ds xs->yt xs us->us.map (lB K H d)=ds.map (λe=>zW e d)/\∀u∈us,SeqAt.EqAt A s u v (lB K H d u):=by
 intro ds
 induction ds with
 |nil =>
  intro xs us _ h1 h2;rw[zq.nil_iff] at h1;subst h1;cases h2;exact⟨rfl,λu hu=>nomatch hu⟩
 |cons e ds ih =>
  intro xs us hq h1 h2;rw[XA,ZR] at hq;rw[zq.cons_iff] at h1;refine zc2c h1 λy rs zr2 h3 h4=>?_;subst zr2;cases h2 with
  |cons r1 r2 =>
   obtain⟨i1,i2⟩:=ih hq.2 h4 r2;obtain⟨as,ra⟩:=xX ok 12 e y _ hq.1 h3 r1;obtain⟨cs,rb⟩:=xX ok 12 d x v hp hx rx;obtain⟨l1,z1⟩:=rX 12 e hq.1;obtain⟨l2,z2⟩:=rX 12 d hp;have es:=eqTo_same hp hq.1 h3 r1;refine⟨by rw[Zl,Zl,i1,es],λu hm=>?_⟩;rcases ZF.mp hm with hm|hm
   .subst hm;rw[es,<- (Xl.mpr ((jO 12 e d hq.1 hp).trans w6.symm):PyData.eqv (nh e) (nh d)=zW e d)];exact SeqAt.eqAt_reads (nh e) (nh d) A s _ v as cs ra rb l1 l2 ()
   .exact i2 u hm
def t6 {α:Type}{f:α -> Bool}{l:List α}:l.any f=(l.map f).any id:=by rw[List.any_map];rfl
def mJ (hu:X.A.units+64<cLine)(neg:Bool):OpR X (compareOp (if neg then .NotIn else .In)) (rD2 X.K λd e=>match e with
 | .dct _ _=>none
 | .dcf _ _=>none
 |e=>gIn neg d e):=by
 rintro Y s Z H x y v u Q I rx ry ⟨F,d,e,z,sF,id,ie,hz,q⟩;have id':=IsD.same sF _ _ id;cases e with
 |lst ds =>
  have hz:(if plN 12 d&&ds.all (plN 12) then some (D.bl (if neg then !ds.any (λe=>zW e d) else ds.any λe=>zW e d)) else none)=some z:=hz
  split at hz
  .rename_i hp;rw[ZR] at hp;obtain rfl:=Zqi hz;rw[IsD.lst_iff] at ie;refine zc2c ie λp xs zr2 h1 h2=>?_;subst zr2;obtain rfl:u=Value.ref p:=ry;refine zc1c (I.list (h1.same sF).sq) λits ri pl hl=>?_;obtain⟨k1,k2⟩:=fD (A:=X.A.in1) (by show X.A.units+1+60<cLine;omega) I.hok hp.1 id' rx hp.2 (zq.same sF _ _ h2) ri;have ea:its.toArray.any (lB X.K H d)=ds.any (λe=>zW e d):=by
    rw[show its.toArray.any (lB X.K H d)=its.any (lB X.K H d) by simp,t6,k1,<- t6]
   cases neg with
   |true =>
    refine SeqAt.notIn_listAt (lB X.K H d) pl.isList (λw hw=>k2 w (by simpa using hw)) ⟨.bl _,H,I,rfl,?_⟩;rw[ea];exact q _ F H (.refl sF) (isB _ F)
   |false =>
    refine SeqAt.in_listAt (lB X.K H d) pl.isList (λw hw=>k2 w (by simpa using hw)) ⟨.bl _,H,I,rfl,?_⟩;rw[ea];exact q _ F H (.refl sF) (isB _ F)
  .exact zqn hz
 |tup ds =>
  have hz:(if plN 12 d&&ds.all (plN 12) then some (D.bl (if neg then !ds.any (λe=>zW e d) else ds.any λe=>zW e d)) else none)=some z:=hz
  split at hz
  .rename_i hp;rw[ZR] at hp;obtain rfl:=Zqi hz;rw[IsD.tup_iff] at ie;refine zc2c ie λp xs zr2 h1 h2=>?_;subst zr2;obtain rfl:u=Value.ref p:=ry;refine zc1c (I.tuple (h1.same sF).sq) λits ri pl hl=>?_;obtain⟨k1,k2⟩:=fD (A:=X.A.in1) (by show X.A.units+1+60<cLine;omega) I.hok hp.1 id' rx hp.2 (zq.same sF _ _ h2) ri;have ea:its.toArray.any (lB X.K H d)=ds.any (λe=>zW e d):=by
    rw[show its.toArray.any (lB X.K H d)=its.any (lB X.K H d) by simp,t6,k1,<- t6]
   cases neg with
   |true =>
    refine SeqAt.notIn_tupleAt (lB X.K H d) pl (λw hw=>k2 w (by simpa using hw)) ⟨.bl _,H,I,rfl,?_⟩;rw[ea];exact q _ F H (.refl sF) (isB _ F)
   |false =>
    refine SeqAt.in_tupleAt (lB X.K H d) pl (λw hw=>k2 w (by simpa using hw)) ⟨.bl _,H,I,rfl,?_⟩;rw[ea];exact q _ F H (.refl sF) (isB _ F)
  .exact zqn hz
 |_=>exact zqn hz
def iX {K:W.Frag}{neg:Bool}{Z:St}{H:Hp}{Q:VK}(h:tD K E (dOp (gIn neg) fa fb) Z H Q):
 (λZ H Q=>tD K E fa Z H λy H1=>tD K E fb Z H1 λx H2=>∃a o,x=.ref a/\nG H2 a y o/\Q (.bl (if neg then !o.isSome else o.isSome)) H2) Z H Q\/tOp (rD2 K λd e=>match e with
 | .dct _ _=>none
 | .dcf _ _=>none
 |e=>gIn neg d e) (tD K E fa) (tD K E fb) Z H Q:=by
 refine zc3b h λB F sd r n=>?_;by_cases hd:∃d ks ds,fb sd=.ok d/\(d=.dct ks ds\/d=.dcf ks ds)
 .obtain⟨d,ks,ds,hd,hc⟩:=hd;refine .inl ⟨B,F,sd,r,(Res.need_bind n).mono (λx n1 v F1 H1 e1 i1=>?_) λ_ _ q=>q⟩;refine⟨B,F1,sd,r.step e1,(Res.need_bind n1).monoE (λy hy n2 w F2 H2 e2 i2=>?_) λ_ _ q=>q.ext e1⟩;rw[hd] at hy;cases hy;refine zc1b (Res.need_ofO n2) λz hz q=>?_;obtain⟨k,hk,hz⟩:=Xf.mp (show(wY x).map (λq=>D.bl (if neg then !(tE ks ds q).isSome else(tE ks ds q).isSome))=some z by rcases hc with rfl|rfl<;>exact hz);subst hz;refine zc2d (fJ hc i2) λp xs zr2 h1 h2 h3=>?_;subst zr2;obtain⟨g1,g2⟩:=ss k h2 h3;refine⟨p,r9 (ks.zip xs) k,rfl,?_,?_⟩
  .rw[v9 hk i1];exact jJ (nw e2.fh h1)
  .have es:(r9 (ks.zip xs) k).isSome=(tE ks ds k).isSome:=by
    cases hv:tE ks ds k with
    |none=>rw[g2 hv];rfl
    |some d=>obtain⟨x,hx,_⟩:=g1 d hv;rw[hx];rfl
   rw[es];exact q _ F2 H2 (e1.trans e2) (IsD.bl_iff.mpr rfl)
 .refine .inr (jG ⟨B,F,sd,r,?_⟩);unfold dOp at n ⊢;cases hx:fa sd with
  |ok d =>
   rw[hx] at n;cases hy:fb sd with
   |ok e =>
    rw[hy] at n;cases e with
    |dct ks ds=>exact Zn ⟨_,ks,ds,hy,.inl rfl⟩ hd
    |dcf ks ds=>exact Zn ⟨_,ks,ds,hy,.inr rfl⟩ hd
    |_=>exact n
   |no=>rw[hy] at n;exact n
   |ex c fs=>rw[hy] at n;exact n
  |no=>rw[hx] at n;exact n
  |ex c fs=>rw[hx] at n;exact n
def bJ (hu:X.A.units+64<cLine)(ha:QE X E a fa)(hb:QE X E b fb)(hm:autoParam (behindInMarks .In b=false) zau._auto_1):QE X E (.Compare a [.In] [b] pos) (dOp (gIn false) fa fb):=
 PE.weak (PE.or (iG (gR () ha hb) hm) (nX (mJ hu false) ha hb hm)) λZ H Q h=>iX h
def q_notIn (hu:X.A.units+64<cLine)(ha:QE X E a fa)(hb:QE X E b fb)(hm:autoParam (behindInMarks .NotIn b=false) zau._auto_1):QE X E (.Compare a [.NotIn] [b] pos) (dOp (gIn true) fa fb):=
 PE.weak (PE.or (iG (oO () ha hb) hm) (nX (mJ hu true) ha hb hm)) λZ H Q h=>iX h
def qt_in (hu:X.A.units+64<cLine)(ha:QE X E a fa)(hb:QE X E b fb)(hm:autoParam (behindInMarks .In b=false) zau._auto_1):QT X E (.Compare a [.In] [b] pos) (z3 (dOp (gIn false) fa fb)):=
 PT.weak (PT.or (mO (gR () ha hb) hm) (nQ (mJ hu false) ha hb hm)) λZ H Q h=>iX (wd h)
def vO (hu:X.A.units+64<cLine)(ha:QE X E a fa)(hb:QE X E b fb)(hm:autoParam (behindInMarks .NotIn b=false) zau._auto_1):QT X E (.Compare a [.NotIn] [b] pos) (z3 (dOp (gIn true) fa fb)):=
 PT.weak (PT.or (mO (oO () ha hb) hm) (nQ (mJ hu true) ha hb hm)) λZ H Q h=>iX (wd h)
end
section
variable {X:Cx}{E:XK}{m:Option Bool}{a b o i e f tg:Expr}{fa fb fo fi fv:FE}{fr:FA}{pos pos' apos cpos p:Pos}
def xF {K:W.Frag}{H:Hp}{d:D}{vs:YB}(h:zq K H [d] vs):∃v,vs=[v]/\IsD K H d v:=by
 rw[zq.cons_iff] at h;refine zc2c h λv r zr2 h1 h2=>?_;subst zr2;rw[zq.nil_iff] at h2;subst h2;exact⟨v,rfl,h1⟩
def dO {K:W.Frag}{H:Hp}{d e:D}{vs:YB}(h:zq K H [d,e] vs):∃v w,vs=[v,w]/\IsD K H d v/\IsD K H e w:=by
 rw[zq.cons_iff] at h;refine zc2c h λv r zr2 h1 h2=>?_;subst zr2;refine zc1b (xF h2) λw zr1 h3=>?_;subst zr1;exact⟨v,w,rfl,h1,h3⟩
noncomputable def nJ:YD->YE
 | [.lst ds]=>some (.int ds.length)
 | [.tup ds]=>some (.int ds.length)
 | [.dct ks _]=>some (.int ks.length)
 | [.scr ns]=>some (.int ns.length)
 | [.str x]=>if x.length<=sizeLine then some (.int x.length) else none
 |_=>none
noncomputable def LenP (ds:YD)(z:D):Prop:=(∃es,ds=[.lst es]/\z=.int es.length)\/(∃es,ds=[.tup es]/\z=.int es.length)\/(∃ks es,ds=[.dct ks es]/\z=.int ks.length)\/(∃ns,ds=[.scr ns]/\z=.int ns.length)\/∃x,x.length<=sizeLine/\ds=[.str x]/\z=.int x.length
def gLen_inv (hz:nJ ds=some z):LenP ds z:=by
 cases ds with
 |nil=>exact zqn hz
 |cons d ds =>
  cases ds with
  |nil =>
   cases d with
   |lst ds=>exact .inl ⟨_,rfl,(Zqi hz).symm⟩
   |tup ds=>exact .inr (.inl ⟨_,rfl,(Zqi hz).symm⟩)
   |dct ks ds=>exact .inr (.inr (.inl ⟨_,_,rfl,(Zqi hz).symm⟩))
   |scr ns=>exact .inr (.inr (.inr (.inl ⟨_,rfl,(Zqi hz).symm⟩)))
   |str x=>exact let q:=ite_some hz;.inr (.inr (.inr (.inr ⟨_,q.1,rfl,q.2.symm⟩)))
   |_=>exact zqn hz
  |cons e ds=>cases d<;>exact zqn hz
def pR:zB X (.builtin "len") (rDA X.K nJ):=zB.weak (zB.or call_len_seq (zB.or call_lenD call_len_str)) λxs H Q zh=>by
 obtain⟨F,ds,z,sF,id,hz,q⟩:=zh;rcases gLen_inv hz with ⟨es,rfl,rfl⟩|⟨es,rfl,rfl⟩|⟨ks,es,rfl,rfl⟩|⟨ns,rfl,rfl⟩|⟨x,hl,rfl,rfl⟩
 .obtain⟨v,rfl,h⟩:=xF id;rw[IsD.lst_iff] at h;obtain⟨a,ys,rfl,h1,h2⟩:=h;rw[<- h2.length] at q;exact .inl ⟨a,ys,rfl,.inl (h1.same sF).sq,q _ F H (.refl sF) (isI _ F)⟩
 .obtain⟨v,rfl,h⟩:=xF id;rw[IsD.tup_iff] at h;obtain⟨a,ys,rfl,h1,h2⟩:=h;rw[<- h2.length] at q;exact .inl ⟨a,ys,rfl,.inr (h1.same sF).sq,q _ F H (.refl sF) (isI _ F)⟩
 .obtain⟨v,rfl,h⟩:=xF id;rw[IsD.dct_iff] at h;obtain⟨a,ys,rfl,h1,h2,h3⟩:=h;refine .inr (.inl ⟨a,_,rfl,sF _ _ h1,?_⟩);rw[List.length_zip,<- h2,Nat.min_self];exact q _ F H (.refl sF) (isI _ F)
 .obtain⟨v,rfl,h⟩:=xF id;rw[IsD.scr_iff] at h;obtain⟨a,rfl,h1⟩:=h;refine .inl ⟨a,_,rfl,.inl (yC.seq sF h1),?_⟩;rw[Zql];exact q _ F H (.refl sF) (isI _ F)
 .obtain⟨v,rfl,h⟩:=xF id;rw[IsD.str_iff] at h;subst h;exact .inr (.inr ⟨_,rfl,hl,q _ F H (.refl sF) (isI _ F)⟩)
noncomputable def jd:YD->YE
 | [.int i,.int j]=>some (.int (if j > i then j else i))
 |_=>none
noncomputable def jI:YD->YE
 | [.int i,.int j]=>some (.int (if j<i then j else i))
 |_=>none
noncomputable def cr (ds:YD):Prop:=∃i j,ds=[.int i,.int j]
def max2_inv (hz:jd ds=some z):cr ds:=by
 cases ds with
 |nil=>exact zqn hz
 |cons d ds =>
  cases ds with
  |nil=>cases d<;>exact zqn hz
  |cons e ds =>
   cases d with
   |int i =>
    cases e with
    |int j =>
     cases ds with
     |nil=>exact⟨_,_,rfl⟩
     |cons _ _=>exact zqn hz
    |_=>exact zqn hz
   |_=>exact zqn hz
def two_inv (hz:jI ds=some z):cr ds:=by
 cases ds with
 |nil=>exact zqn hz
 |cons d ds =>
  cases ds with
  |nil=>cases d<;>exact zqn hz
  |cons e ds =>
   cases d with
   |int i =>
    cases e with
    |int j =>
     cases ds with
     |nil=>exact⟨_,_,rfl⟩
     |cons _ _=>exact zqn hz
    |_=>exact zqn hz
   |_=>exact zqn hz
def gM (hc:X.calm=true):zB X (.builtin "max") (rDA X.K jd):=zB.weak (call_max2 hc) λxs H Q zh=>by
 refine zc3a zh λF ds z zz=>ng zz λsF id hz q=>?_;refine zc2a (max2_inv hz) λi j zr2=>?_;subst zr2;obtain rfl:=Zqi hz;refine zc2c (dO id) λv w zr2 h1 h2=>?_;subst zr2;exact⟨_,_,by rw[IsD.int_iff.mp h1,IsD.int_iff.mp h2],q _ F H (.refl sF) (isI _ F)⟩
def f6 (hc:X.calm=true):zB X (.builtin "min") (rDA X.K jI):=zB.weak (call_min2 hc) λxs H Q zh=>by
 refine zc3a zh λF ds z zz=>ng zz λsF id hz q=>?_;refine zc2a (two_inv hz) λi j zr2=>?_;subst zr2;obtain rfl:=Zqi hz;refine zc2c (dO id) λv w zr2 h1 h2=>?_;subst zr2;exact⟨_,_,by rw[IsD.int_iff.mp h1,IsD.int_iff.mp h2],q _ F H (.refl sF) (isI _ F)⟩
def uS:D->Option Yh
 | .lst ds=>xx kB ds
 |_=>none
def sM {K:W.Frag}{H:Hp}{d:D}{ns:Yh}{v:V}(h:uS d=some ns)(i:IsD K H d v):∃a,v=.ref a/\lD K H a (ns.map V.int):=by
 cases d with
 |lst ds =>
  rw[IsD.lst_iff] at i;refine zc2c i λa xs zr2 h1 h2=>?_;subst zr2;rw[allInt_inv (show xx kB ds=some ns from h)] at h2;rw[zq.ints_iff h2] at h1;exact⟨a,rfl,h1⟩
 |_=>exact zqn h
def uG (ns:Yh):uS (.lst (ns.map D.int))=some ns:=allInt_map ns
def pH:YD->YE
 | [d]=>(uS d).bind λns=>if ns=[] then none else some (.int (ue ns))
 |_=>none
def qX:YD->YE
 | [d]=>(uS d).bind λns=>if ns=[] then none else some (.int (nN ns))
 |_=>none
def f7 (hc:X.calm=true):zB X (.builtin "max") (rDA X.K pH):=zB.weak (call_maxL hc) λxs H Q zh=>by
 refine zc3a zh λF ds z zz=>ng zz λsF id hz q=>?_;unfold pH at hz
 split at hz
 .refine zc1b (Option.bind_eq_some_iff.mp hz) λns h1 hz=>?_
  split at hz
  .exact zqn hz
  .rename_i hn;obtain rfl:=Zqi hz;refine zc1b (xF id) λv zr1 h=>?_;subst zr1;refine zc1b (sM h1 h) λa zr1 h2=>?_;subst zr1;exact⟨a,ns,rfl,(h2.same sF).sq,hn,q _ F H (.refl sF) (isI _ F)⟩
 .exact zqn hz
def jF (hc:X.calm=true):zB X (.builtin "min") (rDA X.K qX):=zB.weak (call_minL hc) λxs H Q zh=>by
 refine zc3a zh λF ds z zz=>ng zz λsF id hz q=>?_;unfold qX at hz
 split at hz
 .refine zc1b (Option.bind_eq_some_iff.mp hz) λns h1 hz=>?_
  split at hz
  .exact zqn hz
  .rename_i hn;obtain rfl:=Zqi hz;refine zc1b (xF id) λv zr1 h=>?_;subst zr1;refine zc1b (sM h1 h) λa zr1 h2=>?_;subst zr1;exact⟨a,ns,rfl,(h2.same sF).sq,hn,q _ F H (.refl sF) (isI _ F)⟩
 .exact zqn hz
noncomputable def tyN:D->Option String
 | .non=>some "NoneType"
 | .bl _=>some "bool"
 | .int _=>some "int"
 | .str _=>some "str"
 | .lst _=>some "list"
 | .tup _=>some "tuple"
 | .dct _ _=>some "dict"
 |_=>none
noncomputable def tyIn (t n:String):Bool:=(t == n)||(t == "bool" && n == "int")
noncomputable def tyKnown (t n:String):Bool:=["NoneType", "bool", "int", "str", "list", "tuple", "dict"].contains t&&["bool", "int", "str", "list", "tuple", "dict"].contains n
def cY:YD->YE
 | [d,.ty n]=>(tyN d).bind λt=>if tyKnown t n then some (.bl (tyIn t n)) else none
 |_=>none
noncomputable def gList:YD->YE
 | [.lst ds]=>some (.lst ds)
 | [.tup ds]=>some (.lst ds)
 | [.scr ns]=>some (.lst (ns.map .int))
 |_=>none
noncomputable def vh:YD->YE
 | [.lst ds]=>some (.tup ds)
 | [.tup ds]=>some (.tup ds)
 |_=>none
noncomputable def TupP (ds:YD)(z:D):Prop:=(∃es,ds=[.lst es]/\z=.tup es)\/∃es,ds=[.tup es]/\z=.tup es
def gTuple_inv (hz:vh ds=some z):TupP ds z:=by
 cases ds with
 |nil=>exact zqn hz
 |cons d ds =>
  cases ds with
  |nil =>
   cases d with
   |lst ds=>exact .inl ⟨_,rfl,(Zqi hz).symm⟩
   |tup ds=>exact .inr ⟨_,rfl,(Zqi hz).symm⟩
   |_=>exact zqn hz
  |cons e ds=>cases d<;>exact zqn hz
def sv:zB X (.type "tuple") (rDA X.K vh):=zB.weak call_tuple_of λxs H Q zh=>by
 refine zc3a zh λF ds z zz=>ng zz λsF id hz q=>?_;rcases gTuple_inv hz with ⟨es,rfl,rfl⟩|⟨es,rfl,rfl⟩
 .refine zc1b (xF id) λv zr1 h=>?_;subst zr1;rw[IsD.lst_iff] at h;refine zc2c h λa ys zr2 h1 h2=>?_;subst zr2;refine⟨a,ys,rfl,.inl ⟨(h1.same sF).sq,λl hl=>?_⟩⟩;have ea:=Ext.alloc sF hl (.tup ys);exact q _ _ _ ea (IsD.tup_iff.mpr ⟨l,ys,rfl,.of zu,zq.same ea.ff _ _ h2⟩)
 .refine zc1b (xF id) λv zr1 h=>?_;subst zr1;have h':=h;rw[IsD.tup_iff] at h;refine zc2c h λa ys zr2 h1 h2=>?_;subst zr2;exact⟨a,ys,rfl,.inr ⟨(h1.same sF).sq,q _ F H (.refl sF) h'⟩⟩
noncomputable def dcR (r:X6):D:=.dct (r.map λp=>.inl p.1) (r.map λp=>.int p.2)
def kj (r:X6):X6:=r.foldl (λa p=>pe a p.1 p.2) []
def dictR_T (r:X6):i8 r=kvR (kj r):=oM r []
def rQ (h:yH r):kj r=r:=by
 have:=pB r [] (by simpa using h);unfold kj;simpa using this
def j8 (r:X6):kvR r=(r.map λp=>(Sum.inl p.1:Key)).zip (r.map λp=>V.int p.2):=by
 unfold kvR
 induction r with
 |nil=>rfl
 |cons p r ih=>rw[Zl,ih];rfl
def dcR_vals (K:W.Frag)(F:Hp)(r:X6):zq K F (r.map λp=>D.int p.2) (r.map λp=>V.int p.2):=by
 have:=zq.ints (K:=K) (H:=F) (r.map (·.2));rw[Zw,Zw] at this;exact this
def vS:YD->YE
 | [d]=>(vJ d).bind λr=>if r.length<=100 then some (dcR (kj r)) else none
 |_=>none
def rL (hc:X.calm=true):zB X (.type "dict") (cF X.K vS):=zB.weak (call_dictP hc) λxs H Q zh=>by
 refine zc3a zh λF ds z zz=>ng zz λsF id hz q=>?_;unfold vS at hz
 split at hz
 .refine zc1b (Option.bind_eq_some_iff.mp hz) λr h1 hz=>?_
  split at hz
  .rename_i hl;obtain rfl:=Zqi hz;refine zc1b (xF id) λv zr1 h=>?_;subst zr1;rw[oT h1,fW] at h;have h':=Is.same sF _ _ h;refine zc2b ((show ∃a xs,v=.ref a/\_ by unfold rD at h;rw[Is.tuple_iff] at h;exact h)) λa ys e _=>?_;subst e;refine⟨a,r,rfl,h',hl,λp hp=>?_⟩;refine q p F _ (.keep sF hp _) hp (zF sF hp) ⟨(kj r).map λp=>V.int p.2,?_,by simp,dcR_vals _ _ _⟩;rw[zu,dictR_T,j8]
  .exact zqn hz
 .exact zqn hz
def kt (fo fk fx:FE):FE:=λsd=>(fo sd).bind λd=>match d with
 | .dct ks ds=>(fk sd).bind λk=>(fx sd).bind λx=>.ofO ((wY k).map λq=>(tE ks ds q).getD x)
 |_=>.no
def fA (hu:X.A.units+1<cLine)(ho:QE X E o fo)(he:QE X E e fa)(hf:QE X E f fb)(mm:M2 X o "get" apos e f cpos):QE X E (.Call (.Attribute o "get" apos) [e,f] [] cpos) (kt fo fa fb):=PE.weak (pe_dget2 hu ho he hf mm) λZ H Q zh=>by
 refine zc3b zh λB F sd r n=>?_;refine⟨B,F,sd,r,(Res.need_bind n).mono (λd n1 v F1 H1 e1 i1=>?_) λ_ _ q=>q⟩;cases d with
 |dct ks ds =>
  rw[IsD.dct_iff] at i1;refine zc2d i1 λp xs zr2 h1 h2 h3=>?_;subst zr2;have hp:=e1.fh _ _ h1;refine⟨p,rfl,.inl ⟨_,.inl hp⟩,B,F1,sd,r.step e1,(Res.need_bind n1).mono (λk n2 w F2 H2 e2 i2=>?_) λ_ _ q=>q.ext e1⟩;refine⟨B,F2,sd,(r.step e1).step e2,(Res.need_bind n2).mono (λx n3 u F3 H3 e3 i3=>?_) λ_ _ q=>q.ext (e1.trans e2)⟩;refine zc1b (Res.need_ofO n3) λz hz q=>?_;refine zc1b (Xf.mp hz) λk' hk hz=>?_;subst hz;obtain⟨g1,g2⟩:=ss k' h2 h3;refine⟨r9 (ks.zip xs) k',?_,?_⟩
  .rw[v9 hk i2];exact nG.k (e3.hh _ _ (e2.hh _ _ hp))
  .cases hv:tE ks ds k' with
   |none =>
    rw[hv] at q;rw[g2 hv];exact q _ F3 H3 ((e1.trans e2).trans e3) i3
   |some d =>
    rw[hv] at q;refine zc1b (g1 d hv) λy hy iy=>?_;rw[hy];exact q _ F3 H3 ((e1.trans e2).trans e3) (IsD.same (e2.ff.trans e3.ff) _ _ iy)
 |_=>exact n1.elim
def jC (i:Nat)(fk fv:FE):FS:=λsd=>(fv sd).bind λv=>match sd[i]? with
 |some (some (.own false (.dct ks ds)))=>(fk sd).bind λk=>match wY k with
  |some q=>if ks.length<sizeLine then .ok (.next (sd.set i (some (.own false (.dct (nU ks q) (km ks ds q v)))))) else .no
  |none=>.no
 |_=>.no
def qs_dput (hu:X.A.units+1<cLine)(ho:PE X o (hW j))(hi:QE X E i fi)(hv:QE X E e fv)(hs:autoParam (swapsWith e (some (.Subscript o i pos')) pos.line X.env=pure false) zau._auto_1):
 QS X E m (.Assign [.Subscript o i pos'] e pos) (jC j fi fv):=PS.weak (ps_dput hu ho hi hv hs) λT Z H zh=>by
 refine zc3b zh λB F sd r n=>?_;refine⟨B,F,sd,r,(Res.need_bind n).mono (λd n1 v F1 H1 e1 i1=>?_) λ_ _ q=>q.ext r.ext⟩
 split at n1
 .rename_i ks ds hj;refine zc1e ((r.step e1).own hj) λl h1 h2 h3 zr4 _=>?_;obtain⟨xs,h4,h5,h6⟩:=zr4;refine⟨.ref l,h1,B,F1,sd,r.step e1,(Res.need_bind n1).mono (λk n2 w F2 H2 e2 i2=>?_) λ_ _ q=>q.ext (r.step e1).ext⟩
  split at n2
  .rename_i q hk
   split at n2
   .rename_i hz;refine zc1c (put_zip (K:=X.K) (q:=q) h5 (zq.same e2.ff _ _ h6) (IsD.same e2.ff _ _ i1)) λys y1 y2 y3=>?_;have hH:=e2.hh _ _ h4;refine⟨l,_,rfl,(by rw[v9 hk i2];exact dD.k hH (by rw[List.length_zip];omega)),?_⟩;exact n2 Z F2 _ (e1.ff.trans e2.ff) (((r.step e1).step e2).chg hj h1 ⟨ys,by rw[zu,y1],y2,y3⟩)
   .exact n2.elim
  .exact n2.elim
 .exact n1.elim
noncomputable def walkL:D->Option YD
 | .lst ds=>some ds
 | .scr ns=>some (ns.map .int)
 |_=>none
noncomputable def walkT:D->Option YD
 | .tup ds=>some ds
 |_=>none
def iL (f:FE):FA:=λsd=>(f sd).bind λd=>.ofO (walkL d)
def iT (f:FE):FA:=λsd=>(f sd).bind λd=>.ofO (walkT d)
def uF {K:W.Frag}{F1:Hp}{J:It}{ds:YD}{xs:YB}{S:Hp->Prop}(h:zq K F1 ds xs)(sm:∀F H,yC F1 F->yC F H->S H)(g:∀i H x,S H->xs[i]? = some x->J.go i H)(st:∀i H,S H->xs.length<=i->J.stop i H)
 (yl:∀i H x H',S H->J.yld i H x H'->H'=H/\xs[i]? = some x):bj K F1 J ds:=λi F2 H2 s1 s2=>by
 have hS:=sm F2 H2 s1 s2;refine⟨λhi=>?_,λhi=>st i H2 hS (by rw[h.length];exact hi)⟩;refine zc1b (h.get (Zqg hi)) λx hx _=>?_;refine⟨g i H2 x hS hx,λy H3 hy=>?_⟩;obtain⟨rfl,hy'⟩:=yl i H2 y H3 hS hy;refine zc1b (h.getV hy') λd hd id=>?_;exact⟨d,F2,hd,.refl s2,IsD.same s1 _ _ id⟩
def qi_list (h:QE X E e fa):QI X E tg e (iL fa):=PI.weak (pi_list h) λZ H R zh=>by
 refine zc3b zh λB F sd r n=>?_;refine⟨B,F,sd,r,(Res.need_bind n).mono (λd n1 v F1 H1 e1 i1=>?_) λ_ _ q=>q⟩;refine zc1b (Res.need_ofO n1) λds hz q=>?_;cases d with
 |lst es =>
  obtain rfl:=Zqi hz;rw[IsD.lst_iff] at i1;refine zc2c i1 λa xs zr2 h1 h2=>?_;subst zr2;refine⟨a,rfl,⟨xs,(h1.same e1.fh).sq⟩,q _ F1 H1 e1 (uF (S:=λH=>SqL X.K H a xs) h2 (λF H s1 s2=>((h1.same s1).same s2).sq) (λi H x hS hx=>⟨xs,x,hS,hx⟩) (λi H hS hi=>⟨xs,hS,hi⟩) λi H x H' hS hy=>⟨hy.1,hy.2 xs hS⟩)⟩
 |scr ns =>
  obtain rfl:=Zqi hz;rw[IsD.scr_iff] at i1;refine zc1b i1 λa zr1 h1=>?_;subst zr1;refine⟨a,rfl,⟨_,yC.seq e1.fh h1⟩,q _ F1 H1 e1 (uF (S:=λH=>SqL X.K H a (ns.map V.int)) (zq.ints ns) (λF H s1 s2=>yC.seq s2 (yC.seq s1 h1)) (λi H x hS hx=>⟨_,x,hS,hx⟩) (λi H hS hi=>⟨_,hS,hi⟩) λi H x H' hS hy=>⟨hy.1,hy.2 _ hS⟩)⟩
 |_=>exact zqn hz
def qi_tup (h:QE X E e fa):QI X E tg e (iT fa):=PI.weak (pi_tup h) λZ H R zh=>by
 refine zc3b zh λB F sd r n=>?_;refine⟨B,F,sd,r,(Res.need_bind n).mono (λd n1 v F1 H1 e1 i1=>?_) λ_ _ q=>q⟩;refine zc1b (Res.need_ofO n1) λds hz q=>?_;cases d with
 |tup es =>
  obtain rfl:=Zqi hz;rw[IsD.tup_iff] at i1;refine zc2c i1 λa xs zr2 h1 h2=>?_;subst zr2;refine⟨a,rfl,⟨xs,(h1.same e1.fh).sq⟩,q _ F1 H1 e1 (uF (S:=λH=>SqT X.K H a xs) h2 (λF H s1 s2=>((h1.same s1).same s2).sq) (λi H x hS hx=>⟨xs,x,hS,hx⟩) (λi H hS hi=>⟨xs,hS,hi⟩) λi H x H' hS hy=>⟨hy.1,hy.2 xs hS⟩)⟩
 |_=>exact zqn hz
noncomputable def PIor {X:Cx}{tg e:Expr}{t t':TI}(h:PI X tg e t)(h':PI X tg e t'):PI X tg e (λZ H R=>t Z H R\/t' Z H R):=λY s Z H R I q=>q.elim (h Y s Z H R I) (h' Y s Z H R I)
noncomputable def nu:D->Option YD
 | .lst ds=>some ds
 | .scr ns=>some (ns.map .int)
 | .tup ds=>some ds
 |_=>none
def iS (f:FE):FA:=λsd=>(f sd).bind λd=>.ofO (nu d)
def zQ (h:QE X E e fa):QI X E tg e (iS fa):=PI.weak (PIor (qi_list (E:=E) h) (qi_tup (E:=E) h)) λZ H R zh=>by
 refine zc3b zh λB F sd r n=>?_;by_cases hd:∃ds,fa sd=.ok (.tup ds)
 .obtain⟨ds,hd⟩:=hd;refine .inr ⟨B,F,sd,r,?_⟩;unfold iS at n;unfold iT;rw[hd] at n ⊢;exact n
 .refine .inl ⟨B,F,sd,r,?_⟩;unfold iS at n;unfold iL;cases hx:fa sd with
  |ok d =>
   rw[hx] at n;cases d with
   |tup ds=>exact Zn ⟨ds,hx⟩ hd
   |_=>exact n
  |no=>rw[hx] at n;exact n
  |ex c fs=>rw[hx] at n;exact n
noncomputable def zx (lo:Int)(n:Nat):YD:=(List.range n).map λk:Nat=>.int (lo+k)
noncomputable def lZ (j:Int):Bool:=Nat.ble j.toNat 1000000000&&Nat.ble (-j).toNat 1000000000
def mo (h:lZ j=true): -(2 ^ 62)<=j/\j<2 ^ 62:=by
 unfold lZ at h;rw[ZR,Nat.ble_eq,Nat.ble_eq] at h;omega
def rngOk_in (h1: -1000000000<=j)(h2:j<=1000000000):lZ j=true:=by
 unfold lZ;rw[ZR,Nat.ble_eq,Nat.ble_eq];omega
def iR1 (fr:FA):FA:=λsd=>(fr sd).bind λds=>match ds with
 | [.int j]=>if lZ j then .ok (zx 0 j.toNat) else .no
 |_=>.no
def walk_range {K:W.Frag}{F1:Hp}(lo:Int)(n:Nat):bj K F1 (Itr lo n) (zx lo n):=λi F2 H2 s1 s2=>by
 have hl:(zx lo n).length=n:=by unfold zx;rw[Zql,ZA]
 rw[hl];refine⟨λhi=>⟨hi,λx H3 hy=>?_⟩,λhi=>hi⟩;obtain⟨rfl,rfl⟩:=hy;refine⟨.int (lo+i),F2,?_,.refl s2,IsD.int_iff.mpr rfl⟩;unfold zx;rw[Zv,XY hi];rfl
def yA {a:Expr}(hg:Gl X "range")(hm:X.mg "range" = none)(ha:QA X E [a] fr)(hs:autoParam (starEach [a] X.env=[(false,eval a X.env)]) zau._auto_1):QI X E tg (.Call (.Name "range" p) [a] [] pos) (iR1 fr):=PI.weak (pi_range1 hg hm ha hs) λZ H R zh=>by
 refine zc3b zh λB F sd r n=>?_;refine⟨B,F,sd,r,(Res.need_bind n).mono (λds n1 vs F1 H1 e1 i1=>?_) λ_ _ q=>q⟩
 split at n1
 .split at n1
  .rename_i j hj;refine zc1b (xF i1) λv zr1 h=>?_;subst zr1;rw[IsD.int_iff.mp h];exact⟨j,rfl,(mo hj).1,(mo hj).2,n1 _ F1 H1 e1 (walk_range 0 _)⟩
  .exact n1.elim
 .exact n1.elim
end
section
variable {X:Cx}{E:XK}{m:Option Bool}{a b o i e f tg:Expr}{fa fb fo fi fv:FE}{fr:FA}{pos pos' apos cpos p:Pos}
def PG.weak (h:PG X e t)(w:∀v Z H Q,t' v Z H Q->t v Z H Q):PG X e t':=λY s Z H v u Q I r q=>h Y s Z H v u Q I r (w _ _ _ _ q)
def kL:Yj->TGs
 | []=>b9
 |i::is=>cy (qB i) (kL is)
theorem oD:∀{is:Yj} {xs:YB} {Z:St} {H:Hp} {Q:St->Hp->Prop},xs.length=is.length->Q (qD is xs Z) H->kL is xs Z H Q
 | [],xs,Z,H,Q,hl,q=>⟨ZQ.mp hl,q⟩
 |i::is,[],Z,H,Q,hl,q=>by cases hl
 |i::is,x::xs,Z,H,Q,hl,q=>⟨x,xs,rfl,oD (is:=is) (xs:=xs) (Nat.succ.inj hl) q⟩
def zJ {i:Nat}{e:Expr}(h:PG X e (qB i)):QG X e (.one i):=h
def sS (is:Yj)(h:PG X e (bL X.K is.length (kL is))):QG X e (.tup is):=PG.weak h (by rintro v Z H Q ⟨a,xs,e,h1,h2,q⟩;exact⟨a,xs,e,h1,h2,oD h2 q⟩)
def wX (tg:Tg)(c:FT)(f:FE)(sd:SD):YD->Res YD
 | []=>.ok []
 |x::xs=>(yY tg x sd).bind λs=>(c s).bind λb=>if b then(f s).bind λy=>(wX tg c f sd xs).bind λys=>.ok (y::ys) else wX tg c f sd xs
def xw (cap:List (Option Nat))(it:FA)(tg:Tg)(c:FT)(f:FE):FE:=λsd=>(it sd).bind λds=>if sr (sW cap sd) tg=true/\ds.length<sizeLine then
 (wX tg c f (sW cap sd) ds).bind λys=>.ok (.lst ys) else .no
def rM {K:W.Frag}{t:Tg}{fi:FA}{fc:FT}{f:FE}{cap:List (Option Nat)}{Z:St}{H:Hp}{Q:VK}(hh:tDN K E (xw cap fi t fc f) Z H Q):si cap (tDI K E fi) (gT t K) (tDT K E fc) (tD K E f) Z H Q:=by
 refine zc3b hh λB F sd r n=>?_;refine⟨B,F,sd,r,(Res.need_bind n).mono (λds n1 J F1 H1 e1 wk=>?_) λ_ _ q=>q⟩
 split at n1
 .rename_i hh;obtain⟨hn,hz⟩:=hh;refine⟨λi k ys Z H2=>k=ds.length-i/\i<=ds.length/\∃F2 es,Ext F1 H1 F2 H2/\RS K B F2 H2 (sW cap sd) Z /\ zq K F2 es ys/\es.length<=i /\
   (wX t fc f (sW cap sd) (ds.drop i)).need (λrs=>OkN K F2 H2 Q (.lst (es++rs))) (XW K E F2 H2),⟨ds.length,rfl,Nat.zero_le _,F1,[],.refl e1.fh,(r.step e1).cap cap,.nil,Zf _,?_⟩,?_⟩
  .exact(Res.need_bind n1).mono (λrs q=>(show OkN K F H Q (.lst rs) from q).ext e1) λ_ _ q=>q.ext e1
  rintro i k ys Z2 H2 ⟨rfl,hi,F2,es,e2,r2,i2,hl,n2⟩;have ly:=i2.length;refine⟨(),?_⟩;obtain⟨w1,w2⟩:=wk i F2 H2 e2.ff e2.fh;by_cases hlt:i<ds.length
  .obtain⟨go,yl⟩:=w1 hlt;refine .inr ⟨go,λx H3 y=>?_⟩;refine zc2c (yl x H3 y) λd F3 hd e3 i3=>?_;rw[ZU hlt] at n2;have hd':ds[i]=d:=by rw[Zqg hlt] at hd;exact Zqi hd
   rw[hd'] at n2;unfold wX at n2;have r3:=r2.step e3;refine dc (K:=K) r3 i3 (Res.need_bind n2) λsd' Z' n4 hb r4=>?_;obtain⟨b1,b2⟩:=rE hn hb;refine⟨B,F3,sd',r4,(Res.need_bind n4).mono (λb n5 F4 H4 e4=>?_) λ_ _ q=>q.ext e3⟩;cases b with
   |true =>
    refine⟨B,F4,sd',r4.step e4,(Res.need_bind n5).mono (λy n6 v F5 H5 e5 i5=>?_) λ_ _ q=>q.ext (e3.trans e4)⟩;refine⟨ds.length-(i+1),(),rfl,hlt,F5,es++[y],((e2.trans e3).trans e4).trans e5,((r4.step e4).step e5).forget b1 b2,(zq.same ((e3.ff.trans e4.ff).trans e5.ff) _ _ i2).snoc i5,by rw[ZG];exact Nat.succ_le_succ hl,?_⟩;refine(Res.need_bind n6).mono (λrs q=>?_) λ_ _ q=>q.ext ((e3.trans e4).trans e5);rw[ZJ];exact(show OkN K F2 H2 Q (.lst (es++y::rs)) from q).ext ((e3.trans e4).trans e5)
   |false =>
    refine⟨ds.length-(i+1),(),rfl,hlt,F4,es,(e2.trans e3).trans e4,(r4.step e4).forget b1 b2,zq.same (e3.ff.trans e4.ff) _ _ i2,XR hl,?_⟩;exact(show(wX t fc f (sW cap sd) (ds.drop (i+1))).need _ _ from n5).mono (λrs q=>q.ext (e3.trans e4)) λ_ _ q=>q.ext (e3.trans e4)
  .have he:i=ds.length:=()
   subst he;refine .inl ⟨w2 (Zf _),λD hD=>?_⟩;rw[XO] at n2;have q:OkN K F2 H2 Q (.lst (es++[])):=n2;rw[Zz] at q;exact q D F2 _ (.keep r2.ext.fh hD _) hD (zF r2.ext.fh hD) ⟨ys,zu,i2⟩
 .exact n1.elim
def tw {tg iter elt c:Expr}{scope:Scope}{t:Tg}{fi:FA}{fc:FT}{f:FE}(N:Yk)(cap:List (Option Nat))(hc:X.calm=true)(okB:yN scope X.env N X.N cap=true)(hi:QI X E tg iter fi)
 (hg:∀cl C s H ex,QG (z5 X scope N cl C s H ex) tg t) (ht:∀cl C s H ex,QT (z5 X scope N cl C s H ex) E c fc) (he:∀cl C s H ex,QE (z5 X scope N cl C s H ex) E elt f) (hs:autoParam (∀x,foldedSetIterable iter X.env x=pure x) zaw._auto_1):
 QN X E (.ListComp elt [⟨tg,iter,[c],0⟩] scope pos) (xw cap fi t fc f):=PE.weak (pe_compIf (g:=gT t X.K) (tt:=tDT X.K E fc) (te:=tD X.K E f) N cap hc okB hi hg ht he hs) λ_ _ _ h=>rM h
noncomputable def v4:List Key->YD->Option (X6)
 | .inl k::ks,.int v::ds=>(v4 ks ds).map λr=>(k,v)::r
 | [],[]=>some []
 |_,_=>none
noncomputable def PairsP (ks:List Key)(ds:YD)(r:X6):Prop:=ks=r.map (λp=>.inl p.1)/\ds=r.map λp=>.int p.2
def pairsOf_inv (h:v4 ks ds=some r):PairsP ks ds r:=by
 induction ks generalizing ds r with
 |nil =>
  cases ds with
  |nil=>obtain rfl:=Zqi h;exact⟨rfl,rfl⟩
  |cons _ _=>exact zqn h
 |cons k ks ih =>
  cases k with
  |inr _=>exact zqn h
  |inl k =>
   cases ds with
   |nil=>exact zqn h
   |cons d ds =>
    cases d with
    |int v =>
     refine zc1b (Xf.mp (show(v4 ks ds).map (λr=>(k,v)::r)=some r from h)) λr' h1 h2=>?_;subst h2;exact⟨Zt (Sum.inl k :: ·) (ih h1).1,Zt (D.int v :: ·) (ih h1).2⟩
    |_=>exact zqn h
def pairsOf_dcR (r:X6):v4 (r.map λp=>.inl p.1) (r.map λp=>.int p.2)=some r:=by
 induction r with
 |nil=>rfl
 |cons p r ih=>exact Zt (Option.map λr=>(p.1,p.2)::r) ih
def Ext.many (s:yC F H)(fr:∀p∈L,H p.1=none):Ext F H (qO F L) (qO H L):=by
 have old:∀{G:Hp} {b:Addr},H b≠none->qO G L b=G b:=λ{G b} hb=>tq λp hp z=>hb (by rw[<- z];exact fr p hp);have ne:∀{b:Addr} {o:HO},H b=some o->H b≠none:=λ{b o} e z=>by rw[e] at z;cases z
 refine⟨λb o e=>by rw[old (ne (s _ _ e))];exact e,λb o e=>?_,λb o e=>by rw[old (ne e)];exact e,λa e n=>by rw[old n];exact e⟩;rcases oq e with h|⟨h1,h2⟩
 .unfold qO at e ⊢
  split at e
  .exact e
  .exact s _ _ e
 .rw[tq h1];exact s _ _ h2
def uw:D->YE
 | .dct ks ds=>(v4 ks ds).bind λr=>if r ≠ []/\r.length<1000 then some (.lst ((zT wK r).map prD)) else none
 |_=>none
def ui (fo:FE):FE:=λsd=>(fo sd).bind λd=>.ofO (uw d)
def q_sortItems (h:∀{to:TE},PE X o to->PE X e (tCB (λxs H Q=>∃vw d r,xs=[.ref vw]/\H vw=some (o5 vw d)/\H d=some (.dK (kvR r))/\r ≠ []/\r.length<1000/\∀l L,(∀p∈L,H p.1=none)->(L.map (·.1)).Nodup->(∀G,Is (qO G L) (.list ((zT wK r).map pD)) (.ref l))->Q (.ref l) (qO H L))
 (gC (bu X.K "dict" (λx vs H Q=>∃d kvs,x=.ref d/\vs=[]/\H d=some (.dK kvs)/\∀p,H p=none->Q (.ref p) (upd H p (o5 p d))) to) c9))) (ho:QE X E o fo):QE X E e (ui fo):=PE.weak (h ho) λZ H Q zh=>by
 refine zc3b zh λB F sd r n=>?_;refine⟨B,F,sd,r,(Res.need_bind n).mono (λd n1 v F1 H1 e1 i1=>?_) λ_ _ q=>q⟩;refine zc1b (Res.need_ofO n1) λz hz q=>?_;cases d with
 |dct ks ds =>
  refine zc1b (Option.bind_eq_some_iff.mp (show(v4 ks ds).bind (λr=>if r ≠ []/\r.length<1000 then some (D.lst ((zT wK r).map prD)) else none)=some z from hz)) λrr h1 h2=>?_
  split at h2
  .rename_i hc;obtain rfl:=Zqi h2;obtain⟨k1,k2⟩:=pairsOf_inv h1;rw[IsD.dct_iff] at i1;refine zc2d i1 λd xs zr2 g1 g2 g3=>?_;subst zr2;have ex:xs=rr.map λp=>V.int p.2:=by
    have g3':=g3;rw[k2] at g3';have:=zq.ints_iff (ns:=rr.map (·.2)) (by rw[Zw];exact g3');rw[this,Zw];rfl
   have hd:F1 d=some (.dK (kvR rr)):=by rw[g1,k1,ex,<- j8]
   have hd':=e1.fh _ _ hd;refine⟨.inr (.inr (.inl ⟨rfl,.inl ⟨_,hd'⟩⟩)),d,_,rfl,rfl,hd',λvw hvw=>?_⟩;have sn:=yQ hvw (o5 vw d);refine⟨vw,d,rr,rfl,zu,sn _ _ hd',hc.1,hc.2,λl L fr nd hl=>?_⟩;have ek:Ext F1 H1 F1 (upd H1 vw (o5 vw d)):=.keep e1.fh hvw _;have en:=Ext.many ek.fh fr;refine q _ _ _ (e1.trans (ek.trans en)) ?_;refine zc2c (Is.list_iff.mp (hl F1)) λl' ys e' g4 g5=>?_;exact IsD.lst_iff.mpr ⟨l',ys,e',.of g4,sU.mpr g5⟩
  .exact zqn h2
 |_=>exact zqn hz
end
section
variable {X:Cx}{E:XK}{m:Option Bool}{a b o i e f tg:Expr}{fa fb fo fi fv:FE}{fr:FA}{pos pos' apos cpos p:Pos}
noncomputable def kE (neg:Bool):D->YE
 | .non=>some (.bl (!neg))
 |_=>some (.bl neg)
noncomputable def isNonD:D->Bool
 | .non=>true
 |_=>false
def lF {K:W.Frag}{H:Hp}{d:D}{v:V}(h:IsD K H d v):decide (v=.non)=isNonD d:=by
 cases d with
 |non=>rw[IsD.non_iff.mp h];rfl
 |bl b=>rw[IsD.bl_iff.mp h];rfl
 |int b=>rw[IsD.int_iff.mp h];rfl
 |str b=>rw[IsD.str_iff.mp h];rfl
 |ty b=>rw[IsD.ty_iff.mp h];rfl
 |scr b=>obtain⟨a,rfl,_⟩:=IsD.scr_iff.mp h;rfl
 |tup b=>obtain⟨a,_,rfl,_⟩:=IsD.tup_iff.mp h;rfl
 |lst b=>obtain⟨a,_,rfl,_⟩:=IsD.lst_iff.mp h;rfl
 |dct b c=>obtain⟨a,_,rfl,_⟩:=IsD.dct_iff.mp h;rfl
 |ins b c d=>obtain⟨a,_,_,_,rfl,_⟩:=IsD.ins_iff.mp h;rfl
 |exc b=>obtain⟨a,_,rfl,_⟩:=IsD.exc_iff.mp h;rfl
 |ucl b=>obtain⟨a,rfl,_⟩:=IsD.ucl_iff.mp h;rfl
 |adr b=>rw[IsD.adr_iff.mp h];rfl
 |dcf b c=>obtain⟨a,_,_,rfl,_⟩:=IsD.dcf_iff.mp h;rfl
def gL {K:W.Frag}{Z:St}{H:Hp}{Q:VK}(h:tD K E (dUn (kE false) fa) Z H Q):bO (tD K E fa) Z H Q:=by
 obtain⟨B,F,sd,r,n⟩:=h;refine⟨B,F,sd,r,(Res.need_bind n).mono (λx n1 v F1 H1 e1 i1=>?_) λ_ _ q=>q⟩;show Q (V.bl (decide (v=V.non))) H1;rw[lF i1];cases x<;>exact n1 _ F1 H1 e1 (IsD.bl_iff.mpr rfl)
def tD_isNotN {K:W.Frag}{Z:St}{H:Hp}{Q:VK}(h:tD K E (dUn (kE true) fa) Z H Q):cu (tD K E fa) Z H Q:=by
 obtain⟨B,F,sd,r,n⟩:=h;refine⟨B,F,sd,r,(Res.need_bind n).mono (λx n1 v F1 H1 e1 i1=>?_) λ_ _ q=>q⟩;show Q (V.bl !decide (v=V.non)) H1;rw[lF i1];cases x<;>exact n1 _ F1 H1 e1 (IsD.bl_iff.mpr rfl)
def q_isN {j pos'}(ha:QE X E a fa):QE X E (.Compare a [.Is] [.Constant .none j pos'] pos) (dUn (kE false) fa):=PE.weak (iG (gG ha)) λ_ _ _ h=>gL h
def qt_isN {j pos'}(ha:QE X E a fa):QT X E (.Compare a [.Is] [.Constant .none j pos'] pos) (z3 (dUn (kE false) fa)):=PT.weak (mO (gG ha)) λ_ _ _ h=>gL (wd h)
def oG {j pos'}(ha:QE X E a fa):QT X E (.Compare a [.IsNot] [.Constant .none j pos'] pos) (z3 (dUn (kE true) fa)):=PT.weak (mO (pc_notN ha)) λ_ _ _ h=>tD_isNotN (wd h)
def qa (i:Nat)(fb:FE):FE:=λsd=>match sd[i]? with
 |some (some (.own _ d))=>(fb sd).bind λy=>.ofO (gIx d y)
 |_=>.no
def kI {i:Nat}(hu:X.A.units+1<cLine)(ha:PE X a (hW i))(hb:QE X E b fb)(hs:mi b)(hs2:cI b):QE X E (.Subscript a b pos) (qa i fb):=
 PE.weak (PE.or (iC hu ha hb hs2) (dG jg ha hb hs)) λZ H Q zh=>by
  refine zc3b zh λB F sd r n=>?_;unfold qa at n
  split at n
  .rename_i p d hi;refine zc1e (r.own hi) λl h1 h2 h3 h4 _=>?_;cases d with
   |lst ds =>
    refine zc1b h4 λxs g1 g2=>?_;refine .inr ⟨.ref l,h1,B,F,sd,r,(Res.need_bind n).mono (λy n1 w F1 H1 e1 i1=>?_) λ_ _ q=>q⟩;refine zc1b (Res.need_ofO n1) λz hz q=>?_;cases y with
    |int k =>
     refine zc1b (jP g2 (show atI ds k=some z from hz)) λx hx ix=>?_;exact⟨l,xs,k,x,rfl,IsD.int_iff.mp i1,SqL.of (e1.hh _ _ g1),hx,q _ F1 H1 e1 (IsD.same e1.ff _ _ ix)⟩
    |_=>exact zqn hz
   |dct ks ds =>
    refine zc1c h4 λxs g1 g2 g3=>?_;refine .inl ⟨.ref l,h1,B,F,sd,r,(Res.need_bind n).mono (λy n1 w F1 H1 e1 i1=>?_) λ_ _ q=>q⟩;refine zc1b (Res.need_ofO n1) λz hz q=>?_;refine zc1b (Option.bind_eq_some_iff.mp (show(wY y).bind (λq=>tE ks ds q)=some z from hz)) λk hk hz=>?_;refine zc1b ((ss k g2 g3).1 z hz) λx hx ix=>?_;refine⟨l,x,rfl,?_,q x F1 H1 e1 (IsD.same e1.ff _ _ ix)⟩;rw[v9 hk i1,<- hx];exact nG.k (e1.hh _ _ g1)
   |ins c fs ds =>
    refine .inr ⟨.ref l,h1,B,F,sd,r,(Res.need_bind n).mono (λy n1 w F1 H1 e1 i1=>?_) λ_ _ q=>q⟩;refine zc1b (Res.need_ofO n1) λz hz q=>?_;cases y<;>exact zqn hz
   |_=>exact h4.elim
  .exact n.elim
end
end L2.DL
namespace L2
section
variable {X:Cx}{tg iter elt c:Expr}{scope:Scope}{pos:Pos}{wi:TI}{g:TG}{te:TE}{tt:TT}
def jf (hNN:X.N.Nodup)(hiy:X.N[iy]? = some y)(hyy:Loc X.env.scope y)(hyf:X.fn y=true\/X.env.scope.names.lookup y=some .local):
 sE X Y Z (λv H'=>DD.nx (Z.set iy (some v)) H') (some (assign (.Name y py) X.env)) (λ_ s'=>SP X Y DD .next s'):=λC D m s5 r hm nC nF sz cC pC k=>by
 refine zc2d (k s5.heap ⟨rfl,λ_ _=>rfl⟩) λv5 H5 K5 rv5 fC q5=>?_;refine zc3c (id hm) λoC esC epC hoC hdC hrC=>?_;have KP:Inv X (Y++[(C,oC)]) Z H5 { s5 with heap:=s5.heap }:=K5.pins_of λp hp=>by
  rcases ZM.mp hp with hp|hp
  .exact K5.pin p (ZL _ hp)
  .have e:=ZC.mp hp;subst e;exact⟨hoC,fC,nC,nF,λv z=>by rw[show oC.data=_ from z] at hdC;cases hdC⟩
 refine wpAny_assign_Name (tu KP hNN hiy hyy rv5 (λs6 I6=>?_) hyf);have p6:=I6.pin (C,oC) (ZL _ (ZL _ Zqs));refine⟨m,⟨oC,esC,epC,p6.1,hdC,hrC⟩,λh' hs'=>⟨_,H5,?_,q5⟩⟩;exact(I6.pins_of (Y':=Y) λp hp=>I6.pin p (ZL _ (Z8 _ hp))).turned (t':=s6.toks) (it:=C) (λb o hb e=>(hs'.2 b hb).trans e) fC nC (.inr sz) cC pC
def ps_setComp (hsw:swapsWith (.ListComp elt [⟨tg,iter,[],0⟩] scope pos) (some (.Name y py)) spos.line X.env=pure true)(hNN:X.N.Nodup)(hiy:X.N[iy]? = some y)(hyy:Loc X.env.scope y)(hyf:X.fn y=true\/X.env.scope.names.lookup y=some .local)(N:Yk)(cap:List (Option Nat))(hc:X.calm=true)(okB:yN scope X.env N X.N cap=true)(hi:PI X tg iter wi)(hg:∀cl C s H ex,PG (z5 X scope N cl C s H ex) tg g)(he:∀cl C s H ex,PE (z5 X scope N cl C s H ex) elt te)
 (hs:autoParam (∀x,foldedSetIterable iter X.env x=pure x) zaw._auto_1):PS X (.Assign [.Name y py] (.ListComp elt [⟨tg,iter,[],0⟩] scope pos) spos) (dL (jV cap wi g te) (qB iy)):=by
 intro Y s Z H DD I h;rw[exec_Assign_Name_used _ _ _ _ hsw];refine Za (wpAny_standAt (Za ?_));refine Za (Zc (jB (use:=some (assign (.Name y py) X.env)) (R:=λ_ s'=>SP X Y DD .next s') N cap hc okB hi hg (λcl C s H ex _=>he cl C s H ex) hs I h (jf hNN hiy hyy hyf)) (λ_ s' hq=>Zb (Zb hq)) λ_ _ e=>e)
def ps_setCompIf (hsw:swapsWith (.ListComp elt [⟨tg,iter,[c],0⟩] scope pos) (some (.Name y py)) spos.line X.env=pure true)(hNN:X.N.Nodup)(hiy:X.N[iy]? = some y)(hyy:Loc X.env.scope y)(hyf:X.fn y=true\/X.env.scope.names.lookup y=some .local)(N:Yk)(cap:List (Option Nat))(hc:X.calm=true)(okB:yN scope X.env N X.N cap=true)(hi:PI X tg iter wi)(hg:∀cl C s H ex,PG (z5 X scope N cl C s H ex) tg g)(ht:∀cl C s H ex,PT (z5 X scope N cl C s H ex) c tt)(he:∀cl C s H ex,PE (z5 X scope N cl C s H ex) elt te)
 (hs:autoParam (∀x,foldedSetIterable iter X.env x=pure x) zaw._auto_1):PS X (.Assign [.Name y py] (.ListComp elt [⟨tg,iter,[c],0⟩] scope pos) spos) (dL (si cap wi g tt te) (qB iy)):=by
 intro Y s Z H DD I h;rw[exec_Assign_Name_used _ _ _ _ hsw];refine Za (wpAny_standAt (Za ?_));refine Za (Zc (o7 (use:=some (assign (.Name y py) X.env)) (R:=λ_ s'=>SP X Y DD .next s') N cap hc okB hi hg ht he hs I h (jf hNN hiy hyy hyf)) (λ_ s' hq=>Zb (Zb hq)) λ_ _ e=>e)
end
end L2
namespace L2.DL
section
variable {X:Cx}{E:XK}{m:Option Bool}{tg iter elt c:Expr}{scope:Scope}{pos spos py:Pos}{y:Str}{iy:Nat}{t:Tg}{fi:FA}{fc:FT}{f:FE}
def ic {K:W.Frag}{te:TE}{i:Nat}{fe:FE}(w:∀Z H Q,tDN K E fe Z H Q->te Z H Q){T:Ends}{Z:St}{H:Hp}(h:tDS K E m (xy i fe) T Z H):dL te (qB i) T Z H:=w _ _ _ (by
 obtain⟨B,F,sd,r,n⟩:=h;refine⟨B,F,sd,r,(Res.need_bind n).mono (λd n1=>OkD.new λv F1 H1 e1 i1=>?_) λ_ _ q=>q.ext r.ext⟩;exact n1 _ F1 H1 e1.ff ((r.step e1).setVal i1))
def rY (N:Yk)(cap:List (Option Nat))(hNN:X.N.Nodup)(hiy:X.N[iy]? = some y)(hyy:Loc X.env.scope y)(hc:X.calm=true)(okB:yN scope X.env N X.N cap=true)(hi:QI X E tg iter fi)
 (hg:∀cl C s H ex,QG (z5 X scope N cl C s H ex) tg t) (he:∀cl C s H ex,QE (z5 X scope N cl C s H ex) E elt f) (hsw:autoParam (swapsWith (.ListComp elt [⟨tg,iter,[],0⟩] scope pos) (some (.Name y py)) spos.line X.env=pure true) zau._auto_1)
 (hyf:X.fn y=true\/X.env.scope.names.lookup y=some .local:=by trivial) (hs:∀x,foldedSetIterable iter X.env x=pure x:=by intro _;rfl):
 QS X E m (.Assign [.Name y py] (.ListComp elt [⟨tg,iter,[],0⟩] scope pos) spos) (xy iy (xO cap fi t f)):=by
 have hh:=ps_setComp (g:=gT t X.K) (te:=tD X.K E f) hsw hNN hiy hyy hyf N cap hc okB hi hg he hs;exact PS.weak hh λT Z H h=>ic (λ_ _ _ q=>lh q) h
def wM (N:Yk)(cap:List (Option Nat))(hNN:X.N.Nodup)(hiy:X.N[iy]? = some y)(hyy:Loc X.env.scope y)(hc:X.calm=true)(okB:yN scope X.env N X.N cap=true)(hi:QI X E tg iter fi)
 (hg:∀cl C s H ex,QG (z5 X scope N cl C s H ex) tg t) (ht:∀cl C s H ex,QT (z5 X scope N cl C s H ex) E c fc) (he:∀cl C s H ex,QE (z5 X scope N cl C s H ex) E elt f) (hsw:autoParam (swapsWith (.ListComp elt [⟨tg,iter,[c],0⟩] scope pos) (some (.Name y py)) spos.line X.env=pure true) zau._auto_1)
 (hyf:X.fn y=true\/X.env.scope.names.lookup y=some .local:=by trivial) (hs:∀x,foldedSetIterable iter X.env x=pure x:=by intro _;rfl):
 QS X E m (.Assign [.Name y py] (.ListComp elt [⟨tg,iter,[c],0⟩] scope pos) spos) (xy iy (xw cap fi t fc f)):=by
 have hh:=ps_setCompIf (g:=gT t X.K) (tt:=tDT X.K E fc) (te:=tD X.K E f) hsw hNN hiy hyy hyf N cap hc okB hi hg ht he hs;exact PS.weak hh λT Z H h=>ic (λ_ _ _ q=>rM q) h
end
noncomputable def cj:Option (Option SV)->Res D
 |some (some (.val d))=>.ok d
 |_=>.no
@[simp]def slotV_val (d:D):cj (some (some (.val d)))=.ok d:=rfl
@[simp]def ev_var (i:Nat)(sd:SD):ze i sd=cj sd[i]?:= rfl
@[simp]def ev_C (d:D)(sd:SD):dC d sd=.ok d:=rfl
@[simp]def ev_op (g:D->D->YE)(fa fb:FE)(sd:SD):dOp g fa fb sd=(fa sd).bind λx=>(fb sd).bind λy=>.ofO (g x y):=rfl
@[simp]def ev_un (g:D->YE)(fa:FE)(sd:SD):dUn g fa sd=(fa sd).bind λx=>.ofO (g x):=rfl
noncomputable def bOf:D->Res Bool
 | .bl b=>.ok b
 |_=>.no
@[simp]def bOf_bl (b:Bool):bOf (.bl b)=.ok b:=rfl
@[simp]def ev_bool (fa:FE)(sd:SD):z3 fa sd=(fa sd).bind bOf:=by
 unfold z3;cases fa sd with
 |ok d=>cases d<;>rfl
 |ex c fs=>rfl
 |no=>rfl
@[simp]def ev_notT (f:FT)(sd:SD):sZ f sd=(f sd).bind λb=>.ok (!b):=rfl
@[simp]def ev_andT (f g:FT)(sd:SD):qW f g sd=(f sd).bind λb=>if b then g sd else .ok false:=rfl
@[simp]def ev_orT (f g:FT)(sd:SD):dB f g sd=(f sd).bind λb=>if b then .ok true else g sd:=rfl
@[simp]def ev_andV (fa fb:FE)(sd:SD):fT fa fb sd=(z3 fa sd).bind λb=>if b then fb sd else .ok (.bl false):=rfl
@[simp]def ev_nil (sd:SD):zn sd=.ok []:=rfl
@[simp]def ev_cons (fa:FE)(fr:FA)(sd:SD):zb fa fr sd=(fa sd).bind λx=>(fr sd).bind λxs=>.ok (x::xs):=rfl
@[simp]def ev_lst (fr:FA)(sd:SD):sC fr sd=(fr sd).bind λxs=>if xs.length<=1000 then .ok (.lst xs) else .no:=rfl
@[simp]def ev_tup (fr:FA)(sd:SD):pc fr sd=(fr sd).bind λxs=>if xs.length<=1000 then .ok (.tup xs) else .no:=rfl
@[simp]def ev_call (Fn:YD->Res D)(fr:FA)(sd:SD):zt Fn fr sd=(fr sd).bind Fn:=rfl
@[simp]def ev_blt (g:YD->YE)(fr:FA)(sd:SD):yT g fr sd=(fr sd).bind λxs=>.ofO (g xs):=rfl
@[simp]def jt {α:Type}(a:α):(Res.ok a).bare=.ok a:=rfl
@[simp]def ev_tmp (is:Yj)(f:FE)(sd:SD):kH is f sd=(f (qZ is sd)).bare.bind λd=>if k6 d then .ok d else .no:=rfl
@[simp]def ev_tmpT (is:Yj)(f:FT)(sd:SD):kr is f sd=(f (qZ is sd)).bare:=rfl
@[simp]def scal_int (i:Int):k6 (.int i)=true:=rfl
@[simp]def scal_bl (i:Bool):k6 (.bl i)=true:=rfl
@[simp]def frzD_nil (sd:SD):qZ [] sd=sd:=rfl
noncomputable def frz1 (i:Nat)(sd:SD):Option (Option SV)->SD
 |some (some (.own _ d))=>sd.set i (some (.val d))
 |_=>sd
@[simp]def frz1_own (i:Nat)(sd:SD)(p:Bool)(d:D):frz1 i sd (some (some (.own p d)))=sd.set i (some (.val d)):=rfl
@[simp]def frzD_cons (i:Nat)(is:Yj)(sd:SD):qZ (i::is) sd=qZ is (frz1 i sd sd[i]?):=by
 show qZ is _=qZ is _
 congr 1
noncomputable def mU (g:FS):Out->Res Out
 | .next sd=>g sd
 |o=>.ok o
@[simp]def seqK_next (g:FS)(sd:SD):mU g (.next sd)=g sd:=rfl
@[simp]def seqK_ret (g:FS)(d:D):mU g (.ret d)=.ok (.ret d):=rfl
@[simp]def seqK_brk (g:FS)(d:SD):mU g (.brk d)=.ok (.brk d):=rfl
@[simp]def ev_seq (g1 g2:FS)(sd:SD):zO g1 g2 sd=(g1 sd).bind (mU g2):=by
 unfold zO;cases g1 sd with
 |ok o=>cases o<;>rfl
 |ex c fs=>rfl
 |no=>rfl
@[simp]def ev_next (sd:SD):y9 sd=.ok (.next sd):=rfl
@[simp]def ev_brk (sd:SD):cQ sd=.ok (.brk sd):=rfl
@[simp]def ev_set (i:Nat)(f:FE)(sd:SD):xy i f sd=(f sd).bind λd=>.ok (.next (sd.set i (some (.val d)))):=rfl
@[simp]def ev_own (i:Nat)(f:FE)(sd:SD):nV i f sd=(f sd).bind λd=>.ok (.next (sd.set i (some (.own false d)))):=rfl
@[simp]def ev_ret (f:FE)(sd:SD):yS f sd=(f sd).bind λd=>.ok (.ret d):=rfl
noncomputable def cO:Option (Option SV)->Res D
 |some (some (.own _ d))=>.ok d
 |_=>.no
@[simp]def ownV_own (p:Bool)(d:D):cO (some (some (.own p d)))=.ok d:=rfl
@[simp]def ev_retOwn (i:Nat)(sd:SD):xq i sd=(cO sd[i]?).bind λd=>.ok (.ret d):=by
 unfold xq;cases sd[i]? with
 |none=>rfl
 |some o =>
  cases o with
  |none=>rfl
  |some v=>cases v<;>rfl
@[simp]def ev_ifS (c:FT)(g1 g2:FS)(sd:SD):sIf c g1 g2 sd=(c sd).bind λb=>if b then g1 sd else g2 sd:=rfl
noncomputable def cw:Option (Option SV)->Res YD
 |some (some (.own false (.lst ds)))=>.ok ds
 |_=>.no
@[simp]def ownL_own (ds:YD):cw (some (some (.own false (.lst ds))))=.ok ds:=rfl
@[simp]def ev_append (i:Nat)(f:FE)(sd:SD):zX i f sd=(cw sd[i]?).bind λds=>(f sd).bind λd=>if ds.length<sizeLine then .ok (.next (sd.set i (some (.own false (.lst (ds++[d])))))) else .no:=by
 unfold zX;cases sd[i]? with
 |none=>rfl
 |some o =>
  cases o with
  |none=>rfl
  |some v =>
   cases v with
   |val d=>rfl
   |own p d=>cases p<;>cases d<;>rfl
noncomputable def dU:D->Res YD
 | .lst es=>.ok es
 |_=>.no
@[simp]def lstOf_lst (es:YD):dU (.lst es)=.ok es:=rfl
@[simp]def ev_extend (i:Nat)(f:FE)(sd:SD):u9 i f sd=(cw sd[i]?).bind λds=>(f sd).bind λd=>(dU d).bind λes=>if ds.length+es.length<=sizeLine then .ok (.next (sd.set i (some (.own false (.lst (ds++es)))))) else .no:=by
 unfold u9;cases sd[i]? with
 |none=>rfl
 |some o =>
  cases o with
  |none=>rfl
  |some v =>
   cases v with
   |val d=>rfl
   |own p d =>
    cases p with
    |true=>cases d<;>rfl
    |false =>
     cases d with
     |lst ds =>
      show(f sd).bind _=(f sd).bind _;cases f sd with
      |ok x=>cases x<;>rfl
      |ex c fs=>rfl
      |no=>rfl
     |_=>rfl
noncomputable def cW:Option (Option SV)->Res (List Key×YD)
 |some (some (.own false (.dct ks ds)))=>.ok (ks,ds)
 |_=>.no
@[simp]def ownK_own (ks:List Key)(ds:YD):cW (some (some (.own false (.dct ks ds))))=.ok (ks,ds):=rfl
@[simp]def ev_dput (i:Nat)(fk fv:FE)(sd:SD):jC i fk fv sd=(fv sd).bind λv=>(cW sd[i]?).bind λo=>(fk sd).bind λk=>(Res.ofO (wY k)).bind λq=>if o.1.length<sizeLine then .ok (.next (sd.set i (some (.own false (.dct (nU o.1 q) (km o.1 o.2 q v)))))) else .no:=by
 unfold jC;cases fv sd with
 |ok v =>
  show(match sd[i]? with
   |some (some (.own false (.dct ks ds)))=>_
   |_=>_)=(cW sd[i]?).bind _
  cases sd[i]? with
  |none=>rfl
  |some o =>
   cases o with
   |none=>rfl
   |some w =>
    cases w with
    |val d=>rfl
    |own p d =>
     cases p with
     |true=>cases d<;>rfl
     |false =>
      cases d with
      |dct ks ds =>
       show(fk sd).bind _=(fk sd).bind _;cases fk sd with
       |ok k=>show(match wY k with|some q=>_|none=>_)=(Res.ofO (wY k)).bind _;cases wY k<;>rfl
       |ex c fs=>rfl
       |no=>rfl
      |_=>rfl
 |ex c fs=>rfl
 |no=>rfl
noncomputable def mR:Out->Res D
 | .ret d=>.ok d
 | .next _=>.ok .non
 |_=>.no
@[simp]def outV_ret (d:D):mR (.ret d)=.ok d:=rfl
def fQ (n ar:Nat)(g:FS)(ds:YD)(h:ds.length=ar):ve n ar g ds=(g (xE n ds)).bind mR:=by
 unfold ve;rw[Zd h];cases g (xE n ds) with
 |ok o=>cases o<;>rfl
 |ex c fs=>rfl
 |no=>rfl
noncomputable def fP:Out->Res D
 | .ret d=>.ok d
 |_=>.no
@[simp]def outN_ret (d:D):fP (.ret d)=.ok d:=rfl
def gq (n ar:Nat)(g:FS)(ds:YD)(h:ds.length=ar):uc n ar g ds=(g (xE n ds)).bind fP:=by
 unfold uc;rw[Zd h];cases g (xE n ds) with
 |ok o=>cases o<;>rfl
 |ex c fs=>rfl
 |no=>rfl
@[simp]def run_d1 (n:Nat)(g:FS)(a:D):ve n 1 g [a]=(g (some (.val a)::List.replicate (n-1) none)).bind mR:=fQ n 1 g [a] rfl
@[simp]def run_d2 (n:Nat)(g:FS)(a b:D):ve n 2 g [a,b]=(g (some (.val a)::some (.val b)::List.replicate (n-2) none)).bind mR:=fQ n 2 g [a,b] rfl
@[simp]def run_d3 (n:Nat)(g:FS)(a b c:D):ve n 3 g [a,b,c]=(g (some (.val a)::some (.val b)::some (.val c)::List.replicate (n-3) none)).bind mR:=fQ n 3 g [a,b,c] rfl
@[simp]def run_n1 (n:Nat)(g:FS)(a:D):uc n 1 g [a]=(g (some (.val a)::List.replicate (n-1) none)).bind fP:=gq n 1 g [a] rfl
@[simp]def run_n2 (n:Nat)(g:FS)(a b:D):uc n 2 g [a,b]=(g (some (.val a)::some (.val b)::List.replicate (n-2) none)).bind fP:=gq n 2 g [a,b] rfl
@[simp]def run_n3 (n:Nat)(g:FS)(a b c:D):uc n 3 g [a,b,c]=(g (some (.val a)::some (.val b)::some (.val c)::List.replicate (n-3) none)).bind fP:=gq n 3 g [a,b,c] rfl
@[simp]def run_n4 (n:Nat)(g:FS)(a b c d:D):uc n 4 g [a,b,c,d]=(g (some (.val a)::some (.val b)::some (.val c)::some (.val d)::List.replicate (n-4) none)).bind fP:=gq n 4 g [a,b,c,d] rfl
@[simp]def gAdd_int (i j:Int):u8 (.int i) (.int j)=some (.int (i+j)):=rfl
@[simp]def gSub_int (i j:Int):ki (.int i) (.int j)=some (.int (i-j)):=rfl
@[simp]def gNeg_int (i:Int):cG (.int i)=some (.int (-i)):=rfl
@[simp]def gLt_int (i j:Int):gLt (.int i) (.int j)=some (.bl (decide (i<j))):=rfl
@[simp]def gGt_int (i j:Int):gGt (.int i) (.int j)=some (.bl (decide (j<i))):=rfl
@[simp]def gEq_int' (i j:Int):gEq (.int i) (.int j)=some (.bl (decide (i=j))):=gEq_int i j
@[simp]def gNe_int' (i j:Int):gNe (.int i) (.int j)=some (.bl (!decide (i=j))):=gNe_int i j
def vm (h:sT i j=true):gH (.int i) (.int j)=some (.int (i*j)):=by
 show(if sT i j then _ else _)=_;rw[Zd h]
def uj (h1: -18446744073709551616<j)(h2:j<18446744073709551616):sT i j=true:=by
 unfold sT;rw[X4,X4,Nat.blt_eq,Nat.blt_eq];exact .inl ()
@[simp]def jh (h:0<j):rq (.int i) (.int j)=some (.int (i % j)):=by
 show(if Nat.blt 0 j.toNat then _ else _)=_;rw[Zd (by rw[Nat.blt_eq];omega)]
@[simp]def gFdiv_ok (h:0<j)(h2:j<1073741824):pQ (.int i) (.int j)=some (.int (i / j)):=by
 show(if Nat.blt 0 j.toNat&&Nat.blt j.toNat 1073741824 then _ else _)=_;rw[Zd (by rw[ZR,Nat.blt_eq,Nat.blt_eq];omega)]
@[simp]def gLen_lst (ds:YD):nJ [.lst ds]=some (.int ds.length):=rfl
@[simp]def gLen_scr (ns:Yh):nJ [.scr ns]=some (.int ns.length):=rfl
@[simp]def gMax2_int (i j:Int):jd [.int i,.int j]=some (.int (if j > i then j else i)):=rfl
@[simp]def gMin2_int (i j:Int):jI [.int i,.int j]=some (.int (if j<i then j else i)):=rfl
@[simp]def gTuple_lst (ds:YD):vh [.lst ds]=some (.tup ds):=rfl
@[simp]def gIx_lst (ds:YD)(k:Int):gIx (.lst ds) (.int k)=atI ds k:=rfl
@[simp]def gIx_tup (ds:YD)(k:Int):gIx (.tup ds) (.int k)=atI ds k:=rfl
@[simp]def gIx_scr (ns:Yh)(k:Int):gIx (.scr ns) (.int k)=(atI ns k).map .int:=rfl
@[simp]def gIx_dct (ks:List Key)(ds:YD)(k:Int):gIx (.dct ks ds) (.int k)=tE ks ds (.inl k):=rfl
@[simp]def gIn_dct (neg:Bool)(ks:List Key)(ds:YD)(k:Int):gIn neg (.int k) (.dct ks ds)=some (.bl (if neg then !(tE ks ds (.inl k)).isSome else(tE ks ds (.inl k)).isSome)):=rfl
@[simp]def keyOf_int (k:Int):wY (.int k)=some (.inl k):=rfl
@[simp]def wJ (h:r.length<=100)(o:yH r):vS [rwD r]=some (dcR r):=by
 unfold vS;show(vJ (rwD r)).bind _=_;rw[vX];show(if r.length<=100 then some (dcR (kj r)) else none)=_;rw[Zd h,rQ o]
def uA (h:ns ≠ []):pH [.lst (ns.map .int)]=some (.int (ue ns)):=by
 unfold pH;show(uS _).bind _=_;rw[uG];show(if ns=[] then none else some (D.int (ue ns)))=_;rw[Ze h]
def uB (h:ns ≠ []):qX [.lst (ns.map .int)]=some (.int (nN ns)):=by
 unfold qX;show(uS _).bind _=_;rw[uG];show(if ns=[] then none else some (D.int (nN ns)))=_;rw[Ze h]
theorem xR:∀{r:X6},yH r->∀t:Int,tE (r.map λp=>.inl p.1) (r.map λp=>.int p.2) (.inl t)=(zj r t).map .int
 | [],_,t=>rfl
 |p::r,o,t=>by
  have o':yH r:=by unfold yH at o ⊢;rw[Zl,List.nodup_cons] at o;exact o.2
  have n:p.1∉r.map (·.1):=by unfold yH at o;rw[Zl,List.nodup_cons] at o;exact o.1
  rw[Zl,Zl];rw[pT];rw[xo];by_cases h:p.1=t
  .rw[Zd (by rw[h])];cases q:zj r t with
   |none=>rw[Zd h];rfl
   |some w=>exact Zn (ZD.mpr ⟨(t,w),zy q,h.symm⟩) n
  .rw[Ze (λz=>h (by injection z)),xR o' t];cases zj r t with
   |none=>rw[Ze h]
   |some w=>rfl
noncomputable def eE:D->Res (List Key×YD)
 | .dct ks ds=>.ok (ks,ds)
 |_=>.no
@[simp]def dctOf_dct (ks:List Key)(ds:YD):eE (.dct ks ds)=.ok (ks,ds):=rfl
@[simp]def ev_get2 (fo fk fx:FE)(sd:SD):kt fo fk fx sd=(fo sd).bind λd=>(eE d).bind λo=>(fk sd).bind λk=>(fx sd).bind λx=>.ofO ((wY k).map λq=>(tE o.1 o.2 q).getD x):=by
 unfold kt;cases fo sd with
 |ok d=>cases d<;>rfl
 |ex c fs=>rfl
 |no=>rfl
def hasK_dcR (r:X6)(t:Int):dq (.inl t) (r.map λp=>.inl p.1)=r.any λp=>decide (p.1=t):=by
 unfold dq;rw[List.any_map]
 congr 1
 funext p
 exact iF
def put_dcR (r:X6)(t w:Int):D.dct (nU (r.map λp=>.inl p.1) (.inl t)) (km (r.map λp=>.inl p.1) (r.map λp=>.int p.2) (.inl t) (.int w))=dcR (pe r t w):=by
 unfold nU km dcR pe;rw[hasK_dcR];have ch:∀r:X6,d8 (r.map λp=>.inl p.1) (r.map λp=>.int p.2) (.inl t) (.int w)=(r.map λp=>if p.1=t then(p.1,w) else p).map λp=>D.int p.2:=by
  intro r
  induction r with
  |nil=>rfl
  |cons p r ih =>
   rw[Zl,Zl,Zl,Zl];rw[o6];rw[ih];by_cases h:p.1=t
   .rw[Zd (by rw[h]),Zd h]
   .rw[Ze (λz=>h (by injection z)),Ze h]
 have ck:∀r:X6,(r.map λp=>if p.1=t then(p.1,w) else p).map (λp=>(Sum.inl p.1:Key))=r.map λp=>.inl p.1:=by
  intro r;rw[Zw]
  congr 1
  funext p
  show(Sum.inl (if p.1=t then(p.1,w) else p).1:Key)=_;by_cases h:p.1=t
  .rw[Zd h]
  .rw[Ze h]
 by_cases q:(r.any λp=>decide (p.1=t))=true
 .rw[Zd q,Zd q,Zd q,ch,ck]
 .rw[Ze q,Ze q,Ze q,ZV,ZV];rfl
@[simp]def ev_sortItems (fo:FE)(sd:SD):ui fo sd=(fo sd).bind λd=>.ofO (uw d):=rfl
def gSortItems_dcR (h:r ≠ [])(hl:r.length<1000):uw (dcR r)=some (.lst ((zT wK r).map prD)):=by
 show(v4 _ _).bind _=_;rw[pairsOf_dcR];exact Zd ⟨h,hl⟩
@[simp]def ev_iS (f:FE)(sd:SD):iS f sd=(f sd).bind λd=>.ofO (nu d):=rfl
@[simp]def walkS_lst (ds:YD):nu (.lst ds)=some ds:=rfl
@[simp]def walkS_tup (ds:YD):nu (.tup ds)=some ds:=rfl
def xz:YD->Res YD
 | [.int j]=>if lZ j then .ok (zx 0 j.toNat) else .no
 |_=>.no
@[simp]def ev_iR1 (fr:FA)(sd:SD):iR1 fr sd=(fr sd).bind xz:=by
 unfold iR1;cases fr sd with
 |ok ds=>show(match ds with|[.int j]=>_|_=>_)=xz ds;unfold xz;rfl
 |ex c fs=>rfl
 |no=>rfl
def yi (h1: -1000000000<=j)(h2:j<=1000000000):xz [.int j]=.ok (zx 0 j.toNat):=Zd (rngOk_in h1 h2)
def we {lo:Int}{n i:Nat}{x:D}(h:(zx lo n)[i]? = some x):x=.int (lo+i)/\i<n:=by
 unfold zx at h;rw[Zv] at h;by_cases hi:i<n
 .rw[XY hi] at h;exact⟨(Zqi h).symm,hi⟩
 .rw[List.getElem?_eq_none (by rw[ZA];omega)] at h;exact zqn h
def yJ (lo:Int)(n:Nat):(zx lo n).length=n:=by unfold zx;rw[Zql,ZA]
def ja (tg:Tg)(b:FS)(ds:YD)(sd:SD):Res Out:=iO (λx sd=>(yY tg x sd).bind b) ds sd
@[simp]def ev_for (it:FA)(tg:Tg)(b:FS)(sd:SD):sV it tg b sd=(it sd).bind λds=>ja tg b ds sd:=rfl
@[simp]def bindT_one (i:Nat)(d:D)(sd:SD):yY (.one i) d sd=.ok (sd.set i (some (.val d))):=rfl
@[simp]def bindT_two (i j:Nat)(a b:D)(sd:SD):yY (.tup [i,j]) (.tup [a,b]) sd=.ok ((sd.set i (some (.val a))).set j (some (.val b))):=rfl
@[simp]def bindT_pair (i j:Nat)(p:Int×Int)(sd:SD):yY (.tup [i,j]) (prD p) sd=.ok ((sd.set i (some (.val (.int p.1)))).set j (some (.val (.int p.2)))):=rfl
def xc (P:Nat->SD->Prop)(h0:P 0 sd)(hs:∀(i:Nat) (x:D) (sd:SD),ds[i]? = some x->P i sd->∃sd',(yY tg x sd).bind b=.ok (.next sd')/\P (i+1) sd'):∃sd',ja tg b ds sd=.ok (.next sd')/\P ds.length sd':=by
 have key:∀(k i:Nat) (sd:SD),ds.length-i=k->i<=ds.length->P i sd->∃sd',ja tg b (ds.drop i) sd=.ok (.next sd')/\P ds.length sd':=by
  intro k
  induction k with
  |zero =>
   intro i sd e hi p;have:i=ds.length:=()
   subst this;rw[XO];exact⟨sd,rfl,p⟩
  |succ k ih =>
   intro i sd e hi p;have hlt:i<ds.length:=()
   rw[ZU hlt];refine zc1b (hs i ds[i] sd (Zqg hlt) p) λsd' h1 h2=>?_;refine zc1b (ih (i+1) sd' () hlt h2) λsd2 h3 h4=>?_;refine⟨sd2,?_,h4⟩;unfold ja iO;rw[h1];exact h3
 have:=key ds.length 0 sd () (Nat.zero_le _) h0
 rwa [List.drop_zero] at this
def wP (R:Res Out->Prop)(P:Nat->SD->Prop)(h0:P 0 sd)(he:∀sd,P ds.length sd->R (.ok (.next sd)))
 (hs:∀(i:Nat) (x:D) (sd:SD),ds[i]? = some x->P i sd->(∃sd',((yY tg x sd).bind b=.ok (.next sd')\/(yY tg x sd).bind b=.ok (.cont sd'))/\P (i+1) sd')\/(∃sd',(yY tg x sd).bind b=.ok (.brk sd')/\R (.ok (.next sd')))\/∃d,(yY tg x sd).bind b=.ok (.ret d)/\R (.ok (.ret d))):R (ja tg b ds sd):=by
 have key:∀(k i:Nat) (sd:SD),ds.length-i=k->i<=ds.length->P i sd->R (ja tg b (ds.drop i) sd):=by
  intro k
  induction k with
  |zero =>
   intro i sd e hi p;have:i=ds.length:=()
   subst this;rw[XO];exact he sd p
  |succ k ih =>
   intro i sd e hi p;have hlt:i<ds.length:=()
   rw[ZU hlt];unfold ja iO;rcases hs i ds[i] sd (Zqg hlt) p with ⟨sd',h1|h1,h2⟩|⟨sd',h1,h2⟩|⟨d,h1,h2⟩
   .rw[h1];exact ih (i+1) sd' () hlt h2
   .rw[h1];exact ih (i+1) sd' () hlt h2
   .rw[h1];exact h2
   .rw[h1];exact h2
 have:=key ds.length 0 sd () (Nat.zero_le _) h0
 rwa [List.drop_zero] at this
def lG {α β γ: Type}{f:α -> Res β}{k:γ -> α}{g:γ -> β}{xs:List γ}(h:∀x∈xs,f (k x)=.ok (g x)):gm f (xs.map k)=.ok (xs.map g):=by
 induction xs with
 |nil=>rfl
 |cons x xs ih =>
  rw[Zl];unfold gm;rw[h x Zqs,ih λy hy=>h y (Zqm _ hy)];rfl
def pf (tg:Tg)(f:FE)(c:SD)(ds:YD):Res YD:=gm (λx=>(yY tg x c).bind f) ds
@[simp]def ev_comp (cap:List (Option Nat))(it:FA)(tg:Tg)(f:FE)(sd:SD):xO cap it tg f sd=(it sd).bind λds=>if sr (sW cap sd) tg=true/\ds.length<sizeLine then(pf tg f (sW cap sd) ds).bind λys=>.ok (.lst ys) else .no:=rfl
noncomputable def bI:Option (Option SV)->Option SV
 |some (some (.val d))=>some (.val d)
 |_=>none
@[simp]def capV_val (d:D):bI (some (some (.val d)))=some (.val d):=rfl
@[simp]def capD_nil (sd:SD):sW [] sd=[]:=rfl
@[simp]def capD_n (cap:List (Option Nat))(sd:SD):sW (none::cap) sd=none::sW cap sd:=rfl
@[simp]def capD_s (j:Nat)(cap:List (Option Nat))(sd:SD):sW (some j::cap) sd=bI sd[j]? :: sW cap sd:=rfl
@[simp]def tgNone_one (sd:SD)(i:Nat):sr sd (.one i)=vP sd i:=rfl
@[simp]def tgNone_tup (sd:SD)(is:Yj):sr sd (.tup is)=is.all (vP sd):=rfl
@[simp]def noneAt_0 (sd:SD):vP (none::sd) 0=true:=rfl
@[simp]def noneAt_s (o:Option SV)(sd:SD)(i:Nat):vP (o::sd) (i+1)=vP sd i:=rfl
def xt {α:Type}{k:α -> D}{g:α -> D}{xs:List α}(h:∀x∈xs,(yY tg (k x) c).bind f=.ok (g x)):pf tg f c (xs.map k)=.ok (xs.map g):=lG h
def wV {tg:Tg}{f:FE}{c:SD}{lo:Int}{n:Nat}{g:Nat->D}(h:∀i,i<n->(yY tg (.int (lo+i)) c).bind f=.ok (g i)):pf tg f c (zx lo n)=.ok ((List.range n).map g):=lG λi hi=>h i (Z7.mp hi)
@[simp]def ev_compIf (cap:List (Option Nat))(it:FA)(tg:Tg)(c:FT)(f:FE)(sd:SD):xw cap it tg c f sd=(it sd).bind λds=>if sr (sW cap sd) tg=true/\ds.length<sizeLine then(wX tg c f (sW cap sd) ds).bind λys=>.ok (.lst ys) else .no:=rfl
def xT {α:Type}{k:α -> D}{s:α -> SD}{p:α -> Bool}{g:α -> D}{xs:List α}(h1:∀x∈xs,yY tg (k x) sd=.ok (s x))(h2:∀x∈xs,c (s x)=.ok (p x))(h3:∀x∈xs,p x=true->f (s x)=.ok (g x)):
 wX tg c f sd (xs.map k)=.ok ((xs.filter p).map g):=by
 induction xs with
 |nil=>rfl
 |cons x xs ih =>
  have ih:=ih (λy hy=>h1 y (Zqm _ hy)) (λy hy=>h2 y (Zqm _ hy)) (λy hy=>h3 y (Zqm _ hy));rw[Zl,List.filter_cons];unfold wX;rw[h1 x Zqs,Res.bind_ok,h2 x Zqs,Res.bind_ok];cases q:p x with
  |true =>
   rw[Zd rfl,Zd rfl,h3 x Zqs q,Res.bind_ok,ih];rfl
  |false =>
   rw[Ze (by simp),Ze (by simp),ih]
def zo (h:n<=1000):n<sizeLine:=oR h
noncomputable def yj {α:Type}(xs:List α)(lo hi st:Option Int):List α:= (sliceRange (sliceBounds lo hi st xs.length).1 (sliceBounds lo hi st xs.length).2.1 (sliceBounds lo hi st xs.length).2.2).filterMap (xs[·]?)
def lI (its:Yf)(lo hi st:Option Int):slicePick its.toArray lo hi st=(yj its lo hi st).toArray:=by
 unfold slicePick yj;rw[Zm]
 congr 2
 funext i
 simp
def pick_vals {xs:YB}{its:Yf}(r:yt xs its)(lo hi st:Option Int):yt (yj xs lo hi st) (yj its lo hi st):=by
 unfold yj;rw[r.length];generalize sliceRange _ _ _=ix
 induction ix with
 |nil=>exact .nil
 |cons i ix ih =>
  rw[Xc,Xc];cases hx:xs[i]? with
  |none=>rw[r.none_of hx];exact ih
  |some x =>
   refine zc1b (r.get hx) λu hu ru=>?_;rw[hu];exact .cons ru ih
def pick_is {K:W.Frag}{H:Hp}{ds:YD}{xs:YB}(r:zq K H ds xs)(lo hi st:Option Int):zq K H (yj ds lo hi st) (yj xs lo hi st):=by
 unfold yj;rw[r.length];generalize sliceRange _ _ _=ix
 induction ix with
 |nil=>exact .nil
 |cons i ix ih =>
  rw[Xc,Xc];cases hx:ds[i]? with
  |none =>
   have hn:xs[i]? = none:=XQ.mpr (by rw[r.length];exact XQ.mp hx);rw[hn];exact ih
  |some x =>
   refine zc1b (r.get hx) λu hu ru=>?_;rw[hu];exact .mk ru ih
def qI {α β: Type}(f:α -> β)(xs:List α)(lo hi st:Option Int):yj (xs.map f) lo hi st=(yj xs lo hi st).map f:=by
 unfold yj;rw[Zql];generalize sliceRange _ _ _=ix
 induction ix with
 |nil=>rfl
 |cons i ix ih =>
  rw[Xc,Xc,Zv];cases xs[i]? with
  |none=>exact ih
  |some x=>show f x::_=_;rw[ih];rfl
def qQ {α:Type}{xs:List α}{lo hi st:Option Int}{x:α}(h:x∈yj xs lo hi st):x∈xs:=by
 unfold yj at h;refine zc1b (X2.mp h) λi _ hi=>?_;exact ZS hi
def qK {α:Type}(xs:List α)(lo hi st:Option Int):(yj xs lo hi st).length<=xs.length:=by
 have h:=slicePick_size_le (xs.map λ_=>Value.none).toArray lo hi st;rw[lI,Zm,Zm,qI,Zql,Zql] at h;exact h
section
variable {X:Cx}{E:XK}{m:Option Bool}{a b o i e f tg:Expr}{fa fb fo fi fv fe:FE}{fr:FA}{pos pos' apos cpos p p2:Pos}{lo hi st:Option Expr}
abbrev FO:=SD->Res (Option Int)
def tDO (K:W.Frag)(E:XK)(f:FO):TO:=λZ H Q=>∃B F sd,RS K B F H sd Z /\ (f sd).need (λo=>∀F' H',Ext F H F' H'->Q o H') (XW K E F H)
noncomputable def vz:FO:=λ_=>.ok none
def re (f:FE):FO:=λsd=>(f sd).bind λd=>match d with
 | .int i=>.ok (some i)
 |_=>.no
abbrev QO (X:Cx)(E:XK)(e:Option Expr)(f:FO):Prop:=PO X e (tDO X.K E f)
def PO.weak {e:Option Expr}{t t':TO}(h:PO X e t)(w:∀Z H Q,t' Z H Q->t Z H Q):PO X e t':=λY s Z H Q I q=>h Y s Z H Q I (w _ _ _ q)
def qu:QO X E none vz:=PO.weak po_none (by rintro Z H Q ⟨B,F,sd,r,n⟩;exact n F H (.refl r.ext.fh))
def tO (h:QE X E e fe):QO X E (some e) (re fe):=PO.weak (po_some h) λZ H Q zh=>by
 refine zc3b zh λB F sd r n=>?_;refine⟨B,F,sd,r,(Res.need_bind n).mono (λd n1 v F1 H1 e1 i1=>?_) λ_ _ q=>q⟩;cases d with
 |int i=>exact⟨i,IsD.int_iff.mp i1,n1 F1 H1 e1⟩
 |_=>exact n1.elim
def rSl3 (K:W.Frag):V->Option Int->Option Int->Option Int->Hp->VK->Prop:=λx lo hi st H Q=>∃a xs,x=.ref a/\SqL K H a xs/\st≠some 0/\∀p,H p=none->Q (.ref p) (upd H p (.lst (yj xs lo hi st)))
noncomputable def tSl3 (r:V->Option Int->Option Int->Option Int->Hp->VK->Prop)(te:TE)(tl th ts:TO):TE:=λZ H Q=>te Z H λx H1=>tl Z H1 λl H2=>th Z H2 λu H3=>ts Z H3 λc H4=>r x l u c H4 Q
def pe_slice3 {te:TE}{tl th ts:TO}(he:PE X e te)(hl:PO X lo tl)(hu:PO X hi th)(hs:PO X st ts):PE X (.Subscript e (.Slice lo hi st p2) pos) (tSl3 (rSl3 X.K) te tl th ts):=by
 intro Y s Z H Q I h;refine Subscript_ (thn (he Y s Z H _ I h) λv s1 zh=>?_);refine zc2c zh λx H1 I1 r1 q1=>?_;refine wpAny_Slice (thn (hl Y s1 Z H1 _ I1 q1) λvl s2 ⟨l,H2,I2,pl,q2⟩=>thn (hu Y s2 Z H2 _ I2 q2) λvu s3 ⟨u,H3,I3,pu,q3⟩=>thn (hs Y s3 Z H3 _ I3 q3) λvs s4 zh=>?_);refine zc2c zh λc H4 I4 ps q4=>?_;refine zc2d q4 λa xs zr2 hx h0 q=>?_;subst zr2;obtain rfl:v=Value.ref a:=r1;have I5:Inv X Y Z H4 { s4 with heap:=s4.heap.push { cls:=.type "slice",data:=.fields #[vl,vu,vs] } }:=I4.kept (t':=s4.toks) λb ob q=>Zq _ q;refine zc1c (I5.list hx) λits r ht hz=>?_;have hlen:=r.length;show YF X (subscriptTail e (.Slice lo hi st p2) (.ref a) (.ref s4.heap.objs.size)) (EP X Y Z Q) X.xe { s4 with heap:=s4.heap.push { cls:=.type "slice",data:=.fields #[vl,vu,vs] } }
 suffices fin:YF X (getItem (.ref a) (.ref s4.heap.objs.size)) (EP X Y Z Q) X.xe { s4 with heap:=s4.heap.push { cls:=.type "slice",data:=.fields #[vl,vu,vs] } } by
  cases st with
  |none=>exact tail_any (ops:=[.ref s4.heap.objs.size,.ref a]) ht.isList.typeIs slot_list_getitem.lookup fin (by with_unfolding_all rfl)
  |some c=>exact tail_any (ops:=[.ref a,.ref s4.heap.objs.size]) ht.isList.typeIs slot_list_getitem.lookup fin (by with_unfolding_all rfl)
 refine wpAny_getItem_list_slice ht.isList (Heap.IsSliceOf.new ..) pl pu ps h0 ?_ (by rw[Zm]<;>omega);rw[lI];refine⟨.ref _,_,I5.laid (t':=s4.toks) (o:=.lst (yj xs l u c)) (λb ob q=>Zq _ q) (Zf _) ?_,rfl,q _ (I5.hok.fresh (Zf _))⟩;exact⟨Zh (qK xs l u c) hz,_,0,pick_vals r l u c,Zr _ rfl⟩
def gSl:D->Option Int->Option Int->Option Int->YE
 | .lst ds,lo,hi,st=>if st=some 0 then none else some (.lst (yj ds lo hi st))
 | .scr ns,lo,hi,st=>if st=some 0 then none else some (.lst ((yj ns lo hi st).map .int))
 |_,_,_,_=>none
def dSl (fe:FE)(fl fh fs:FO):FE:=λsd=>(fe sd).bind λd=>(fl sd).bind λl=>(fh sd).bind λh=>(fs sd).bind λc=>.ofO (gSl d l h c)
def nP {fl fh fs:FO}(he:QE X E e fe)(hl:QO X E lo fl)(hu:QO X E hi fh)(hs:QO X E st fs):QN X E (.Subscript e (.Slice lo hi st p2) pos) (dSl fe fl fh fs):=PE.weak (pe_slice3 he hl hu hs) λZ H Q zh=>by
 refine zc3b zh λB F sd r n=>?_;refine⟨B,F,sd,r,(Res.need_bind n).mono (λd n1 v F1 H1 e1 i1=>?_) λ_ _ q=>q⟩;refine⟨B,F1,sd,r.step e1,(Res.need_bind n1).mono (λl n2 F2 H2 e2=>?_) λ_ _ q=>q.ext e1⟩;refine⟨B,F2,sd,(r.step e1).step e2,(Res.need_bind n2).mono (λh n3 F3 H3 e3=>?_) λ_ _ q=>q.ext (e1.trans e2)⟩;refine⟨B,F3,sd,((r.step e1).step e2).step e3,(Res.need_bind n3).mono (λc n4 F4 H4 e4=>?_) λ_ _ q=>q.ext ((e1.trans e2).trans e3)⟩;refine zc1b (Res.need_ofO n4) λz hz q=>?_;have e14:=((e2.trans e3).trans e4);have eA:=e1.trans e14;cases d with
 |lst ds =>
  have hz:(if c=some 0 then none else some (D.lst (yj ds l h c)))=some z:=hz
  split at hz
  .exact zqn hz
  .rename_i h0;obtain rfl:=Zqi hz;rw[IsD.lst_iff] at i1;refine zc2c i1 λa xs zr2 h1 h2=>?_;subst zr2;exact⟨a,xs,rfl,((h1.same e14.ff).same e14.fh).sq,h0,λp hp=>q p F4 _ (eA.trans (.keep e4.fh hp _)) (zF eA.hh hp) (zF e4.fh hp) ⟨_,zu,pick_is (zq.same e14.ff _ _ h2) l h c⟩⟩
 |scr ns =>
  have hz:(if c=some 0 then none else some (D.lst ((yj ns l h c).map .int)))=some z:=hz
  split at hz
  .exact zqn hz
  .rename_i h0;obtain rfl:=Zqi hz;rw[IsD.scr_iff] at i1;refine zc1b i1 λa zr1 h1=>?_;subst zr1;refine⟨a,_,rfl,yC.seq e14.fh (yC.seq e14.ff h1),h0,λp hp=>q p F4 _ (eA.trans (.keep e4.fh hp _)) (zF eA.hh hp) (zF e4.fh hp) ⟨_,zu,?_⟩⟩;rw[qI];exact zq.ints _
 |_=>exact zqn hz
@[simp]def ev_sl (fe:FE)(fl fh fs:FO)(sd:SD):dSl fe fl fh fs sd=(fe sd).bind λd=>(fl sd).bind λl=>(fh sd).bind λh=>(fs sd).bind λc=>.ofO (gSl d l h c):=rfl
@[simp]def ev_noPart (sd:SD):vz sd=.ok none:=rfl
noncomputable def ii:D->Res (Option Int)
 | .int i=>.ok (some i)
 |_=>.no
@[simp]def partOf_int (i:Int):ii (.int i)=.ok (some i):=rfl
@[simp]def ev_part (f:FE)(sd:SD):re f sd=(f sd).bind ii:=by
 unfold re;cases f sd with
 |ok d=>cases d<;>rfl
 |ex c fs=>rfl
 |no=>rfl
@[simp]def gSl_lst0 (ds:YD)(lo hi:Option Int):gSl (.lst ds) lo hi none=some (.lst (yj ds lo hi none)):=rfl
def gSl_lst {ds:YD}{lo hi:Option Int}{c:Int}(h:c≠0):gSl (.lst ds) lo hi (some c)=some (.lst (yj ds lo hi (some c))):=Ze λz=>h (Zqi z)
def gSl_scr {ds:Yh}{lo hi:Option Int}{c:Int}(h:c≠0):gSl (.scr ds) lo hi (some c)=some (.lst ((yj ds lo hi (some c)).map .int)):=Ze λz=>h (Zqi z)
def gE (i:Nat)(fk fv:FE):FS:=λsd=>(fv sd).bind λv=>match sd[i]? with
 |some (some (.own false (.lst ds)))=>(fk sd).bind λk=>match k with
  | .int k=>match ixN ds.length k with
   |some j=>.ok (.next (sd.set i (some (.own false (.lst (ds.set j v))))))
   |none=>.no
  |_=>.no
 |_=>.no
def qs_lput {j:Nat}(ho:PE X o (hW j))(hi:QE X E i fi)(hv:QE X E e fv)(ha:∀v,assign (.Subscript o i pos') X.env v=(do
 let ov <- holding [v] (eval o X.env)
 let iv <- holding [v,ov] (eval i X.env)
 standAt pos'
 holding [v,ov,iv] (setItem ov iv v)
 release [v,ov,iv] []):=by intro _;rfl) (hs:swapsWithSole [.Subscript o i pos'] e pos.line X.env=pure false:=by rfl) (hw:swappedStores [.Subscript o i pos'] e X.env=pure none:=by rfl)
 (h1:autoParam ((assignEach [.Subscript o i pos'] X.env).map (·.2)=[assign (.Subscript o i pos') X.env]) zau._auto_1):QS X E m (.Assign [.Subscript o i pos'] e pos) (gE j fi fv):=PS.weak (ps_asg hv (pg_sub ho hi set_list ha) hs hw h1) λT Z H zh=>by
 refine zc3b zh λB F sd r n=>?_;refine⟨B,F,sd,r,(Res.need_bind n).mono (λd n1 v F1 H1 e1 i1=>?_) λ_ _ q=>q.ext r.ext⟩
 split at n1
 .rename_i ds hj;refine zc1e ((r.step e1).own hj) λl h1 h2 h3 zr4 _=>?_;obtain⟨xs,h4,h5⟩:=zr4;refine⟨.ref l,h1,B,F1,sd,r.step e1,(Res.need_bind n1).mono (λk n2 w F2 H2 e2 i2=>?_) λ_ _ q=>q.ext (r.step e1).ext⟩
  split at n2
  .rename_i k
   split at n2
   .rename_i q hk;have hH:=e2.hh _ _ h4;have hl:=h5.length;refine⟨l,xs,k,q,rfl,IsD.int_iff.mp i2,hH,by rw[hl];exact hk,?_⟩;exact n2 Z F2 _ (e1.ff.trans e2.ff) (((r.step e1).step e2).chg hj h1 ⟨_,zu,(zq.same e2.ff _ _ h5).set q (IsD.same e2.ff _ _ i1)⟩)
   .exact n2.elim
  .exact n2.elim
 .exact n1.elim
@[simp]def ev_lput (i:Nat)(fk fv:FE)(sd:SD):gE i fk fv sd=(fv sd).bind λv=>(cw sd[i]?).bind λds=>(fk sd).bind λk=>(ii k).bind λk=>(Res.ofO (ixN ds.length (k.getD 0))).bind λj=>.ok (.next (sd.set i (some (.own false (.lst (ds.set j v)))))):=by
 unfold gE;cases fv sd with
 |ok v =>
  show(match sd[i]? with
   |some (some (.own false (.lst ds)))=>_
   |_=>_)=(cw sd[i]?).bind _
  cases sd[i]? with
  |none=>rfl
  |some o =>
   cases o with
   |none=>rfl
   |some w =>
    cases w with
    |val d=>rfl
    |own p d =>
     cases p with
     |true=>cases d<;>rfl
     |false =>
      cases d with
      |lst ds =>
       show(fk sd).bind _=(fk sd).bind _;cases fk sd with
       |ok k =>
        cases k with
        |int k=>show(match ixN ds.length k with|some j=>_|none=>_)=(Res.ofO (ixN ds.length k)).bind _;cases ixN ds.length k<;>rfl
        |_=>rfl
       |ex c fs=>rfl
       |no=>rfl
      |_=>rfl
 |ex c fs=>rfl
 |no=>rfl
@[simp]def ev_ixOwn (i:Nat)(fb:FE)(sd:SD):qa i fb sd=(cO sd[i]?).bind λd=>(fb sd).bind λy=>.ofO (gIx d y):=by
 unfold qa;cases sd[i]? with
 |none=>rfl
 |some o =>
  cases o with
  |none=>rfl
  |some v=>cases v<;>rfl
@[simp]def gIsN_non (neg:Bool):kE neg .non=some (.bl (!neg)):=rfl
@[simp]def gIsN_int (neg:Bool)(i:Int):kE neg (.int i)=some (.bl neg):=rfl
@[simp]def gIsN_lst (neg:Bool)(i:YD):kE neg (.lst i)=some (.bl neg):=rfl
def yI:YD->YE
 | [.lst ds]=>(xx vJ ds).bind λrs=>if(∀r∈rs,r ≠ [])/\rs.length<1000 then some (.lst ((zT yF rs).map rwD)) else none
 |_=>none
def ul (hu:X.A.units+64<cLine):zB X (.builtin "sorted") (cF X.K yI):=zB.weak (call_sortedRows hu) λxs H Q zh=>by
 refine zc3a zh λF ds z zz=>ng zz λsF id hz q=>?_;unfold yI at hz
 split at hz
 .refine zc1b (Option.bind_eq_some_iff.mp hz) λrs h1 hz=>?_
  split at hz
  .rename_i hc;obtain rfl:=Zqi hz;refine zc1b (xF id) λv zr1 h=>?_;subst zr1;rw[uf h1,IsD.lst_iff] at h;refine zc2c h λa ys zr2 g1 g2=>?_;subst zr2;refine⟨a,ys,rs,rfl,g1.same sF,vg.mp (zq.same sF _ _ g2),hc.1,hc.2,λl ix hl hix he=>?_⟩;have hk:H l=none:=hl;refine q l F _ (.keep sF hl _) hl (zF sF hl) ⟨_,zu,?_⟩;rw[<- he,Zw];have hy:=g2.length;rw[Zql] at hy;clear he
   induction ix with
   |nil=>exact .nil
   |cons i ix ih =>
    rw[Zl,Zl];have hi:=hix i Zqs;refine zc1b (g2.get (i:=i) (d:=rwD (rs.getD i [])) (by rw[Zv,Zqg hi,z4 (Zqg hi)];rfl)) λx hx ixx=>?_;rw[z4 hx];exact .mk ixx (ih λj hj=>hix j (Zqm _ hj))
  .exact zqn hz
 .exact zqn hz
end
end L2.DL
namespace L2
section
variable {X:Cx}
def call_sumL (hc:X.calm=true):zB X (.builtin "sum") (λxs H Q=>∃(a:Addr) (ns:Yh),xs=[.ref a]/\SqL X.K H a (ns.map V.int)/\Q (.int ns.sum) H):=by
 intro Y s Z H xs us Q I r h;refine zc2c h λa ns zr2 hl q=>?_;subst zr2;refine zc1b (wp r) λu zr1 ru=>?_;subst zr1;obtain rfl:u=Value.ref a:=ru;refine zc1c (I.list hl) λits rv p hz=>?_;have hi:IntsAre its ns:=uk rv;obtain⟨ys,e⟩:=hi.allInts.items;have hns:ns=ys.toList.map (·.1):=by
  rw[<- hi.numsOf,<- nums_intItems,<- e]
 have hl':=p.isList;rw[e] at hl';refine sum_intListG (I.ok.hd hc) hl' λh' tk t' hk=>?_;refine⟨.int ns.sum,H,I.kept hk,⟨t',?_⟩,q⟩;rw[preSum_eq,Z3 (by simp),<- hns]
def bools_at {bs:List Bool}{its:Yf}(r:yt (bs.map V.bl) its)(i:Nat)(v:Value)(h:its.toArray[i]? = some v):v=.bool (bs.getD i false):=by
 have h':its[i]? = some v:=by simpa using h
 have hi:i<its.length:=(ZI.mp h').1;have hl:=r.length;rw[Zql] at hl;have hb:bs[i]? = some bs[i]:=Zqg ();refine zc1b (r.get (i:=i) (x:=.bl bs[i]) (by rw[Zv,hb];rfl)) λu hu ru=>?_;rw[h'] at hu;obtain rfl:=Zqi hu;rw[show v=Value.bool bs[i] from ru,ZE,hb];rfl
def range_any (bs:List Bool):(List.range bs.length).any (λi=>bs.getD i false)=bs.any id:=by
 apply Xl.mpr;rw[ZP,ZP];constructor
 .rintro⟨i,hi,h⟩;have hi:=Z7.mp hi;rw[ZE,Zqg hi] at h;exact⟨_,Z9 hi,h⟩
 .rintro⟨b,hb,h⟩;obtain⟨i,hi,rfl⟩:=Xd hb;refine⟨i,Z7.mpr hi,?_⟩;rw[ZE,Zqg hi];exact h
def call_anyL (hc:X.calm=true):zB X (.builtin "any") (λxs H Q=>∃(a:Addr) (bs:List Bool),xs=[.ref a]/\SqL X.K H a (bs.map V.bl)/\Q (.bl (bs.any id)) H):=by
 intro Y s Z H xs us Q I r h;refine zc2c h λa bs zr2 hl q=>?_;subst zr2;refine zc1b (wp r) λu zr1 ru=>?_;subst zr1;obtain rfl:u=Value.ref a:=ru;refine zc1c (I.list hl) λits rv p hz=>?_;have hlt:a<s.heap.objs.size:=by obtain⟨_,e,_⟩:=p.isList;exact Zk e
 have hlen:=rv.length;rw[Zql] at hlen;refine call_any_walk (wpAny_pyIter_list p.isList ⟨_,_,_,_,_,_,λi=>bs.getD i false,rfl,Walks.list (A:=X.A.in1) (I.ok.hd hc) s.heap.objs.size a (Zi hlt) its.toArray,⟨⟨_,Zr _ rfl,rfl,rfl⟩,p.isList.push _⟩,?_,λh' tk hk=>?_⟩)
 .intro i v s' Q' E' hP hQ;have hv:=bools_at rv i v hP;subst hv;exact wpAny_of_eq rfl hQ
 .rw[Zm,<- hlen,range_any];refine⟨.bl _,H,I.kept (t':=tk) λb o e=>hk b o ?_ (Zq _ e),rfl,q⟩;intro hm;have e':=ZC.mp hm;rw[e'] at e;exact Zx _ (Zk e)
end
end L2
namespace L2.DL
noncomputable def cJ:D->Option Bool
 | .bl i=>some i
 |_=>none
def blOf_inv (h:cJ d=some i):d=.bl i:=by
 cases d with
 |bl j=>cases h;rfl
 |_=>exact zqn h
theorem zq.bls_iff {K:W.Frag}{H:Hp}:∀{bs:List Bool} {xs:YB},zq K H (bs.map D.bl) xs->xs=bs.map V.bl
 | [],_,h=>zq.nil_iff.mp h
 |b::bs,_,h=>by
  rw[Zl,zq.cons_iff] at h;obtain⟨x,r,rfl,h1,h2⟩:=h;rw[IsD.bl_iff.mp h1,zq.bls_iff h2];rfl
def gA:D->Option (List Bool)
 | .lst ds=>xx cJ ds
 |_=>none
def blsOf_is {K:W.Frag}{H:Hp}{d:D}{ns:List Bool}{v:V}(h:gA d=some ns)(i:IsD K H d v):∃a,v=.ref a/\lD K H a (ns.map V.bl):=by
 cases d with
 |lst ds =>
  rw[IsD.lst_iff] at i;refine zc2c i λa xs zr2 h1 h2=>?_;subst zr2;rw[wL (λ_ _=>blOf_inv) (show xx cJ ds=some ns from h)] at h2;rw[zq.bls_iff h2] at h1;exact⟨a,rfl,h1⟩
 |_=>exact zqn h
def blsOf_map (ns:List Bool):gA (.lst (ns.map D.bl))=some ns:=by
 have h:=wz (f:=cJ) (g:=D.bl) (k:=λi:Bool=>i) (λ_=>rfl) ns;rw[List.map_id'] at h;exact h
def cf:YD->YE
 | [d]=>(uS d).bind λns=>some (.int ns.sum)
 |_=>none
def cB:YD->YE
 | [d]=>(gA d).bind λns=>some (.bl (ns.any id))
 |_=>none
section
variable {X:Cx}{E:XK}{m:Option Bool}{a b o i e f tg:Expr}{fa fb fo fi fv fe:FE}{fr:FA}{pos pos' apos cpos p p2:Pos}{lo hi st:Option Expr}
def b_sum (hc:X.calm=true):zB X (.builtin "sum") (rDA X.K cf):=zB.weak (call_sumL hc) λxs H Q zh=>by
 refine zc3a zh λF ds z zz=>ng zz λsF id hz q=>?_;unfold cf at hz
 split at hz
 .refine zc1b (Option.bind_eq_some_iff.mp hz) λns h1 hz=>?_;obtain rfl:=Zqi hz;refine zc1b (xF id) λv zr1 h=>?_;subst zr1;refine zc1b (sM h1 h) λa zr1 h2=>?_;subst zr1;exact⟨a,ns,rfl,(h2.same sF).sq,q _ F H (.refl sF) (isI _ F)⟩
 .exact zqn hz
def b_any (hc:X.calm=true):zB X (.builtin "any") (rDA X.K cB):=zB.weak (call_anyL hc) λxs H Q zh=>by
 refine zc3a zh λF ds z zz=>ng zz λsF id hz q=>?_;unfold cB at hz
 split at hz
 .refine zc1b (Option.bind_eq_some_iff.mp hz) λns h1 hz=>?_;obtain rfl:=Zqi hz;refine zc1b (xF id) λv zr1 h=>?_;subst zr1;refine zc1b (blsOf_is h1 h) λa zr1 h2=>?_;subst zr1;exact⟨a,ns,rfl,(h2.same sF).sq,q _ F H (.refl sF) (isB _ F)⟩
 .exact zqn hz
end
@[simp]def gSum_ints (ns:Yh):cf [.lst (ns.map .int)]=some (.int ns.sum):=by
 show(uS _).bind _=_;rw[uG];rfl
def gAny_bls (ns:List Bool):cB [.lst (ns.map .bl)]=some (.bl (ns.any id)):=by
 show(gA _).bind _=_;rw[blsOf_map];rfl
end L2.DL
namespace L2
def bt_any:bootBuiltins "any" = some (.builtin "any"):=boot_any
end L2
namespace L2.DL
end L2.DL
namespace L2
end L2
namespace L2.DL
section
variable {X:Cx}{E:XK}{fr:FA}{p pos tp:Pos}{elts:Ym}
noncomputable def fS:YD->YE
 | [.int i]=>some (.int i)
 | [.bl b]=>some (.int (if b then 1 else 0))
 |_=>none
@[simp]def gInt_bl (b:Bool):fS [.bl b]=some (.int (if b then 1 else 0)):=rfl
noncomputable def IntP (ds:YD)(z:D):Prop:=(∃i,ds=[.int i]/\z=.int i)\/∃b,ds=[.bl b]/\z=.int (if b then 1 else 0)
def gInt_inv (hz:fS ds=some z):IntP ds z:=by
 cases ds with
 |nil=>exact zqn hz
 |cons d ds =>
  cases ds with
  |nil =>
   cases d with
   |int i=>exact .inl ⟨_,rfl,(Zqi hz).symm⟩
   |bl b=>exact .inr ⟨_,rfl,(Zqi hz).symm⟩
   |_=>exact zqn hz
  |cons _ _=>cases d<;>exact zqn hz
def dY:zB X (.type "int") (rDA X.K fS):=zB.weak call_int1 λxs H Q zh=>by
 refine zc3a zh λF ds z zz=>ng zz λsF id hz q=>?_;rcases gInt_inv hz with ⟨i,rfl,rfl⟩|⟨b,rfl,rfl⟩
 .refine zc1b (xF id) λv zr1 h=>?_;subst zr1;exact .inl ⟨_,by rw[IsD.int_iff.mp h],q _ F H (.refl sF) (isI _ F)⟩
 .refine zc1b (xF id) λv zr1 h=>?_;subst zr1;exact .inr ⟨_,by rw[IsD.bl_iff.mp h],q _ F H (.refl sF) (isI _ F)⟩
end
end L2.DL
namespace L2.ST
open PySem
noncomputable def itF:Nat->Nat->Nat
 | 0,z=>z
 |n+1,z=>itF n (5*z+1)
def jj (a b z:Nat):itF (a+b) z=itF b (itF a z):=by
 induction a generalizing z with
 |zero=>rw[Nat.zero_add];rfl
 |succ a ih=>rw[Nat.succ_add];exact ih _
def io (n z d:Nat):itF n (z+d)=itF n z+5 ^ n*d:=by
 induction n generalizing z d with
 |zero=>simp[itF]
 |succ n ih =>
  show itF n (5*(z+d)+1)=itF n (5*z+1)+5 ^ (n+1)*d;have e:5*(z+d)+1=(5*z+1)+5*d:=()
  rw[e,ih,Nat.pow_succ,Nat.mul_assoc]
def pow5 (n:Nat):5 ^ n % 4=1:=by
 induction n with
 |zero=>rfl
 |succ n ih=>rw[Nat.pow_succ];omega
def itF_round (k z:Nat):∃u,itF (2 ^ k) z=z+2 ^ k*(2*u+1):=by
 induction k generalizing z with
 |zero=>exact⟨2*z,by show 5*z+1=z+1*(2*(2*z)+1);omega⟩
 |succ k ih =>
  obtain⟨u,hu⟩:=ih z;have e:2 ^ (k+1)=2 ^ k+2 ^ k:=by rw[Nat.pow_succ];omega
  rw[e,jj,hu,io,hu];have h5:=pow5 (2 ^ k);obtain⟨v,hv⟩:∃v,5 ^ (2 ^ k)=4*v+1:=⟨5 ^ (2 ^ k) / 4,()⟩;rw[hv];generalize 2 ^ k=m;refine⟨2*u*(2*v+1) / 2+v,?_⟩;have:2*u*(2*v+1) / 2=u*(2*v+1):=by rw[Nat.mul_assoc,Nat.mul_div_cancel_left _ ()]
  rw[this]
  grind
def itF_mod (m n z:Nat):itF n z % m=itF n (z % m) % m:=by
 have h:=io n (z % m) (m*(z / m));rw[Nat.mod_add_div] at h;rw[h,<- Nat.mul_assoc,Nat.mul_comm _ m,Nat.mul_assoc,Nat.add_mul_mod_self_left]
theorem sQ:∀(k x y:Nat),y<2 ^ k->∃q,q<2 ^ k/\itF q x % 2 ^ k=y
 | 0,x,y,h=>⟨0,by decide,by rw[Nat.pow_zero] at *;omega⟩
 |k+1,x,y,h=>by
  have e:2 ^ (k+1)=2*2 ^ k:=by rw[Nat.pow_succ];omega
  have hp:0<2 ^ k:=Nat.two_pow_pos k;refine zc1b (sQ k x (y % 2 ^ k) (Nat.mod_lt _ hp)) λq hq hm=>?_;rw[e] at h ⊢;by_cases c:itF q x % (2*2 ^ k)=y
  .exact⟨q,(),c⟩
  .refine⟨q+2 ^ k,(),?_⟩;rw[jj];obtain⟨u,hu⟩:=itF_round k (itF q x);rw[hu];generalize itF q x=w at *;generalize 2 ^ k=m at *;have e2:w+m*(2*u+1)=(w+m)+(2*m)*u:=by grind
   rw[e2,Nat.add_mul_mod_self_left];have d1:=Nat.div_add_mod w m;have d2:=Nat.div_add_mod y m;have d3:=Nat.div_add_mod w (2*m);have l3:=Nat.mod_lt w (show 0<2*m from ());rw[hm] at d1;have r3:w % (2*m) % m=y % m:=by rw[Nat.mod_mul_left_mod];exact hm
   have a1:w % (2*m)<m\/m<=w % (2*m):=()
   have a2:y<m\/m<=y:=()
   have s1:∀t,t<2*m->m<=t->t % m=t-m:=λt h1 h2=>by
    rw[Nat.mod_eq_sub_mod h2,Nat.mod_eq_of_lt ()]
   rw[Nat.add_mod,Nat.mod_eq_of_lt (show m<2*m from ())];generalize w % (2*m)=t at *;rcases a1 with a1|a1<;>rcases a2 with a2|a2
   .rw[Nat.mod_eq_of_lt a1,Nat.mod_eq_of_lt a2] at r3;exact Zn r3 c
   .rw[Nat.mod_eq_of_lt a1,s1 y h a2] at r3;rw[Nat.mod_eq_of_lt ()];omega
   .rw[Nat.mod_eq_of_lt a2,s1 t l3 a1] at r3;rw[Nat.mod_eq_sub_mod (),Nat.mod_eq_of_lt ()];omega
   .rw[s1 t l3 a1,s1 y h a2] at r3;exact Zn () c
noncomputable def z8 (t:YA):Nat->SetTable.Probe->SetTable.Probe
 | 0,p=>p
 |n+1,p=>z8 t n (t.advance p)
def wv (t:YA)(a b:Nat)(p:SetTable.Probe):z8 t (a+b) p=z8 t b (z8 t a p):=by
 induction a generalizing p with
 |zero=>rw[Nat.zero_add];rfl
 |succ a ih=>rw[Nat.succ_add];exact ih _
def stepP_succ (t:YA)(n:Nat)(p:SetTable.Probe):z8 t (n+1) p=t.advance (z8 t n p):=wv t n 1 p
noncomputable def ug (mask i pert:Nat):SetTable.Probe:={ j:=i,more:=SetTable.runEnd mask i-i,i:=i,perturb:=pert,dummy:=none }
noncomputable def rB (mask:Nat):Nat->Nat×Nat->Nat×Nat
 | 0,s=>s
 |n+1,s=>rB mask n (SetTable.leap mask s.1 s.2)
def run_len (mask i:Nat):SetTable.runEnd mask i-i<=9:=by
 unfold SetTable.runEnd
 split<;>omega
def iw (t:YA)(m:Nat):∀(p:SetTable.Probe),p.more=m->p.dummy=none->z8 t (m+1) p=ug t.mask (SetTable.leap t.mask p.i p.perturb).1 (SetTable.leap t.mask p.i p.perturb).2:=by
 induction m with
 |zero =>
  intro p hm hd;show t.advance p=_;unfold SetTable.advance;rw[Ze ()];unfold ug;rw[hd]
 |succ m ih =>
  intro p hm hd;have h:=ih { p with j:=p.j+1,more:=p.more-1 } (by show p.more-1=m;omega) hd;show z8 t (m+1) (t.advance p)=_;have ha:t.advance p={ p with j:=p.j+1,more:=p.more-1 }:=by
   unfold SetTable.advance;rw[Zd ()]
  rw[ha,h]
theorem fq (t:YA):∀(r i pert:Nat),∃n,n<=10*r/\z8 t n (ug t.mask i pert)=ug t.mask (rB t.mask r (i,pert)).1 (rB t.mask r (i,pert)).2
 | 0,i,pert=>⟨0,Zf _,rfl⟩
 |r+1,i,pert=>by
  have h1:=iw t (SetTable.runEnd t.mask i-i) (ug t.mask i pert) rfl rfl;refine zc1b (fq t r (SetTable.leap t.mask i pert).1 (SetTable.leap t.mask i pert).2) λn hn h2=>?_;have hl:=run_len t.mask i;refine⟨(SetTable.runEnd t.mask i-i+1)+n,(),?_⟩;rw[wv,h1];exact h2
def mv (mask a b:Nat)(s:Nat×Nat):rB mask (a+b) s=rB mask b (rB mask a s):=by
 induction a generalizing s with
 |zero=>rw[Nat.zero_add];rfl
 |succ a ih=>rw[Nat.succ_add];exact ih _
theorem sJ (mask:Nat):∀(r:Nat) (s:Nat×Nat),(rB mask r s).2=s.2 / 32 ^ r
 | 0,s=>by show s.2=_;rw[Nat.pow_zero,Nat.div_one]
 |r+1,s=>by
  show(rB mask r (SetTable.leap mask s.1 s.2)).2=_;rw[sJ mask r];show s.2 / 32 / 32 ^ r=_;rw[Nat.div_div_eq_div_mul,Nat.pow_succ,Nat.mul_comm 32]
theorem tV (mask:Nat):∀(r i:Nat),i<mask+1->rB mask r (i,0)=(itF r i % (mask+1),0)
 | 0,i,h=>by
  show(i,0)=(i % (mask+1),0);rw[Nat.mod_eq_of_lt h]
 |r+1,i,h=>by
  show rB mask r ((i*5+1+0 / 32) % (mask+1),0 / 32)=(itF r (5*i+1) % (mask+1),0);rw[Nat.zero_div,Nat.add_zero,tV mask r _ (Nat.mod_lt _ ()),<- itF_mod,Nat.mul_comm i 5]
def jp (mask r:Nat)(s:Nat×Nat)(h:s.1<mask+1):(rB mask r s).1<mask+1:=by
 induction r generalizing s with
 |zero=>exact h
 |succ r ih=>exact ih _ (Nat.mod_lt _ ())
def cover (hk:t.mask+1=2 ^ k)(h:Int)(hy:y<=t.mask):∃n,n<10*SetTable.turns t.mask/\(z8 t n (t.probeStart h)).j=y:=by
 have hs:t.probeStart h=ug t.mask (SetTable.bits h % (t.mask+1)) (SetTable.bits h):=rfl;have hb:SetTable.bits h<2 ^ 64:=by
  unfold SetTable.bits;have:=Int.emod_lt_of_pos h (show(0:Int)<2 ^ 64 by decide);have:=Int.emod_nonneg h (show(2 ^ 64:Int)≠0 by decide);omega
 have hl:=jp t.mask 13 (SetTable.bits h % (t.mask+1),SetTable.bits h) (Nat.mod_lt _ ());have hp:(rB t.mask 13 (SetTable.bits h % (t.mask+1),SetTable.bits h)).2=0:=by
  rw[sJ];exact Nat.div_eq_of_lt (Zg hb (by decide))
 refine zc1b (sQ k (rB t.mask 13 (SetTable.bits h % (t.mask+1),SetTable.bits h)).1 y ()) λq hq e=>?_;have hr:rB t.mask (13+q) (SetTable.bits h % (t.mask+1),SetTable.bits h)=(y,0):=by
  rw[mv];generalize hR:rB t.mask 13 (SetTable.bits h % (t.mask+1),SetTable.bits h)=s at *;obtain⟨s1,s2⟩:=s;simp only at hp hl e;rw[hp,tV t.mask q s1 hl,hk,e]
 refine zc1b (fq t (13+q) (SetTable.bits h % (t.mask+1)) (SetTable.bits h)) λn hn e2=>?_;refine⟨n,by unfold SetTable.turns;omega,?_⟩;rw[hs,e2,hr];rfl
def pg {t:YA}{p:SetTable.Probe}(h:p.dummy=none):(t.advance p).dummy=none:=by
 unfold SetTable.advance
 split
 .exact h
 .exact h
def step_dummy {t:YA}{p:SetTable.Probe}(h:p.dummy=none)(n:Nat):(z8 t n p).dummy=none:=by
 induction n generalizing p with
 |zero=>exact h
 |succ n ih=>exact ih (pg h)
theorem mI {t:YA}{hashAt:Nat->Int}{h:Int}:∀(k fuel:Nat) (p:SetTable.Probe),k<fuel->p.dummy=none->(∀m,m<k->∃i,t.slot (z8 t m p).j=.live i)->t.slot (z8 t k p).j=.empty ->
 (∃m i,m<k/\t.slot (z8 t m p).j=.live i/\hashAt i=h/\SetTable.probe.go t hashAt h fuel p=some (.candidate (z8 t m p).j i (z8 t (m+1) p))/\∀m' i',m'<m->t.slot (z8 t m' p).j=.live i'->hashAt i'≠h) \/
 (SetTable.probe.go t hashAt h fuel p=some (.empty (z8 t k p).j none)/\∀m' i',m'<k->t.slot (z8 t m' p).j=.live i'->hashAt i'≠h)
 | 0,0,p,hf,_,_,_=>Zn hf (Zx _)
 | 0,fuel+1,p,_,hd,_,he=>by
  have he:t.slot p.j=.empty:=he;refine .inr ⟨?_,λm' i' hm=>Zn hm (Z5 _)⟩;unfold SetTable.probe.go;rw[he];show some (SetTable.Met.empty p.j p.dummy)=_;rw[hd];rfl
 |k+1,0,p,hf,_,_,_=>Zn hf (Z5 _)
 |k+1,fuel+1,p,hf,hd,hl,he=>by
  obtain⟨i,hi⟩:=hl 0 (Nat.succ_pos _);have hi:t.slot p.j=.live i:=hi;by_cases c:hashAt i=h
  .refine .inl ⟨0,i,Nat.succ_pos _,hi,c,?_,λm' i' hm=>Zn hm (Z5 _)⟩;unfold SetTable.probe.go;rw[hi];show(if(hashAt i == h)=true then _ else _)=_;rw[Zd (by rw[c];exact beq_self_eq_true h)];rfl
  .have hg:SetTable.probe.go t hashAt h (fuel+1) p=SetTable.probe.go t hashAt h fuel (t.advance p):=by
    rw[SetTable.probe.go];rw[hi];show(if(hashAt i == h)=true then _ else _)=_;rw[Ze (by simpa using c)]
   rcases mI (hashAt:=hashAt) (h:=h) k fuel (t.advance p) () (pg hd) (λm hm=>hl (m+1) ()) he with ⟨m,i2,h1,h2,h3,h4,h5⟩|⟨h1,h2⟩
   .refine .inl ⟨m+1,i2,(),h2,h3,by rw[hg];exact h4,λm' i' hm hs=>?_⟩;cases m' with
    |zero =>
     have hs:t.slot p.j=.live i':=hs;rw[hi] at hs;cases hs;exact c
    |succ m'=>exact h5 m' i' () hs
   .refine .inr ⟨by rw[hg];exact h1,λm' i' hm hs=>?_⟩;cases m' with
    |zero =>
     have hs:t.slot p.j=.live i':=hs;rw[hi] at hs;cases hs;exact c
    |succ m'=>exact h2 m' i' () hs
open PySem
noncomputable def UpA (xs:Yi):Prop:=∀i j,i<j->j<xs.size->xs.getD i 0<xs.getD j 0
def yf {α:Type}{xs:Array α}(h:i<xs.size)(d:α):xs.getD i d=xs[i]:=by
 unfold Array.getD;rw[dif_pos h];rfl
theorem qF (u:UpA xs):∀(fuel lo hi:Nat),hi-lo<=fuel->lo<=hi->hi<=xs.size->(∀i,i<lo->xs.getD i 0<j)->(∀i,hi<=i->i<xs.size->j<=xs.getD i 0) ->
 SetTable.below.go xs j fuel lo hi<=xs.size/\(∀i,i<SetTable.below.go xs j fuel lo hi->xs.getD i 0<j)/\∀i,SetTable.below.go xs j fuel lo hi<=i->i<xs.size->j<=xs.getD i 0
 | 0,lo,hi,hf,hl,hs,h1,h2=>by
  have e:lo=hi:=()
  subst e;unfold SetTable.below.go;exact⟨hs,h1,h2⟩
 |fuel+1,lo,hi,hf,hl,hs,h1,h2=>by
  unfold SetTable.below.go;by_cases c:lo<hi
  .rw[Zd c];refine zc1e (gX (k:=fuel+1) (x:=0) c hf) λm e m1 m2 m3 m4=>?_;have hm:m<xs.size:=Zg m2 hs;have em:xs.getD m j=xs.getD m 0:=by rw[yf hm,yf hm]
   show(if xs.getD ((lo+hi) / 2) j<j then _ else _)<=xs.size/\(∀i,i<(if xs.getD ((lo+hi) / 2) j<j then _ else _)->_)/\∀i,(if xs.getD ((lo+hi) / 2) j<j then _ else _)<=i->_;rw[e];by_cases d:xs.getD m j<j
   .rw[Zd d];rw[em] at d;refine qF u fuel (m+1) hi m4 m2 hs (λi hi'=>?_) h2;by_cases q:i=m
    .rw[q];exact d
    .exact Xj (u i m (Xh (ZX hi') q) hm) d
   .rw[Ze d];rw[em] at d;refine qF u fuel lo m m3 m1 (Zy hm) h1 λi hi' hs'=>?_;by_cases q:i=m
    .rw[q];exact Nat.le_of_not_lt d
    .exact Zy (Xr (Nat.le_of_not_lt d) (u m i (Xh hi' (Ne.symm q)) hs'))
  .rw[Ze c];have e:lo=hi:=()
   subst e;exact⟨hs,h1,h2⟩
def tf (u:UpA xs)(j:Nat):SetTable.below xs j<=xs.size/\(∀i,i<SetTable.below xs j->xs.getD i 0<j)/\∀i,SetTable.below xs j<=i->i<xs.size->j<=xs.getD i 0:=
 qF u xs.size 0 xs.size () () (Zf _) (λi h=>Zn h (Z5 _)) λi h1 h2=>()
def below_eq (u:UpA xs)(hi:i<xs.size):SetTable.below xs (xs.getD i 0)=i:=by
 refine x8 (tf u (xs.getD i 0)) λh1 h2 h3=>?_;generalize SetTable.below xs (xs.getD i 0)=p at *;rcases Xp p i with q|q|q
 .have a:=u p i q hi;have b:=h3 p (Zf _) ();omega
 .exact q
 .have:=h2 i q;omega
noncomputable def occ (t:YA)(j:Nat):Prop:=∃i,i<t.place.size/\t.place.getD i 0=j
def l7 (j:Nat):SetTable.has #[] j=false:=rfl
def oi {t:YA}(u:UpA t.place){i j:Nat}(hi:i<t.place.size)(e:t.place.getD i 0=j):t.slot j=.live i:=by
 unfold SetTable.slot;have hb:SetTable.below t.place j=i:=by rw[<- e];exact below_eq u hi
 show(if(t.place[SetTable.below t.place j]? == some j)=true then SetTable.Slot.live (SetTable.below t.place j) else _)=_;rw[hb];have hg:t.place[i]? = some j:=by
  rw[ZH hi,<- e,yf hi]
 rw[hg,Zd (beq_self_eq_true _)]
def slot_empty (hd:t.dummies = #[])(h:¬occ t j):t.slot j=.empty:=by
 unfold SetTable.slot;show(if(t.place[SetTable.below t.place j]? == some j)=true then _ else _)=_;have hn:¬(t.place[SetTable.below t.place j]? == some j)=true:=by
  intro z;have z:t.place[SetTable.below t.place j]? = some j:=by simpa using z
  obtain⟨h1,h2⟩:=Array.getElem?_eq_some_iff.mp z;exact h ⟨_,h1,by rw[yf h1];exact h2⟩
 rw[Ze hn,hd,l7];rfl
def slot_occ (u:UpA t.place)(h:occ t j):∃i,t.slot j=.live i/\i<t.place.size/\t.place.getD i 0=j:=by
 refine zc1b h λi hi e=>?_;exact⟨i,oi u hi e,hi,e⟩
def adv_congr {t t':YA}(h:t.mask=t'.mask)(p:SetTable.Probe):t.advance p=t'.advance p:=by
 unfold SetTable.advance;rw[h]
def rG {t t':YA}(h:t.mask=t'.mask)(n:Nat)(p:SetTable.Probe):z8 t n p=z8 t' n p:=by
 induction n generalizing p with
 |zero=>rfl
 |succ n ih=>show z8 t n (t.advance p)=z8 t' n (t'.advance p);rw[adv_congr h,ih]
def tT {t t':YA}(h:t.mask=t'.mask)(x:Int):t.probeStart x=t'.probeStart x:=by
 unfold SetTable.probeStart;rw[h]
def Way (t:YA)(o:Nat->Prop)(x:Int)(y:Nat):Prop:=∃n,(z8 t n (t.probeStart x)).j=y/\∀m,m<n->o (z8 t m (t.probeStart x)).j
def Way.mono {t t':YA}{o o':Nat->Prop}{x:Int}{y:Nat}(h:Way t o x y)(hm:t.mask=t'.mask)(ho:∀j,o j->o' j):Way t' o' x y:=by
 refine zc1b h λn h1 h2=>?_;refine⟨n,?_,λm hm'=>?_⟩
 .rw[<- rG hm,<- tT hm];exact h1
 .rw[<- rG hm,<- tT hm];exact ho _ (h2 m hm')
structure TabOk (t:YA)(hs:Array Int):Prop where
 size:t.place.size=hs.size
 up:UpA t.place
 le:∀i,i<t.place.size->t.place.getD i 0<=t.mask
 nod:t.dummies = #[]
 pow:∃k,t.mask+1=2 ^ k
 room:t.place.size<=t.mask
 ways:∀i,i<t.place.size->Way t (occ t) (hs.getD i 0) (t.place.getD i 0)
def free_ex (u:UpA xs)(hs:xs.size<=m):∃y,y<=m/\∀i,i<xs.size->xs.getD i 0≠y:=by
 by_cases h:∀i,i<xs.size->xs.getD i 0=i
 .exact⟨m,Zf _,λi hi e=>by have:=h i hi;omega⟩
 .obtain⟨i,hi,hne,hmin⟩:∃i,i<xs.size/\xs.getD i 0≠i/\∀k,k<i->xs.getD k 0=k:=by
   have key:∀n,n<=xs.size->(∀k,k<n->xs.getD k 0=k)\/∃i,i<xs.size/\xs.getD i 0≠i/\∀k,k<i->xs.getD k 0=k:=by
    intro n
    induction n with
    |zero=>intro _;exact .inl λk hk=>Zn hk (Z5 _)
    |succ n ih =>
     intro hn;rcases ih () with q|q
     .by_cases c:xs.getD n 0=n
      .refine .inl λk hk=>?_;by_cases e:k=n
       .rw[e];exact c
       .exact q k ()
      .exact .inr ⟨n,(),c,q⟩
     .exact .inr q
   rcases key xs.size (Zf _) with q|q
   .exact Zn q h
   .exact q
  refine⟨i,(),λk hk e=>?_⟩;rcases Xp k i with q|q|q
  .have:=hmin k q;omega
  .subst q;exact hne e
  .have a:=u i k q hk;have b:i<=xs.getD i 0:=by
    cases i with
    |zero=>exact Nat.zero_le _
    |succ i =>
     have:=u i (i+1) () hi;have:=hmin i ();omega
   omega
def first_free (T:TabOk t hs)(x:Int):∃n,n<10*SetTable.turns t.mask/\(∀m,m<n->occ t (z8 t m (t.probeStart x)).j)/\¬occ t (z8 t n (t.probeStart x)).j:=by
 obtain⟨k,hk⟩:=T.pow;refine zc1b (free_ex T.up T.room) λy hy hf=>?_;refine zc1b (cover hk x hy) λn hn e=>?_;have hno:¬occ t (z8 t n (t.probeStart x)).j:=by
  rw[e];rintro⟨i,hi,q⟩;exact hf i hi q
 have key:∀d n,n<=d->n<10*SetTable.turns t.mask->¬occ t (z8 t n (t.probeStart x)).j->∃n,n<10*SetTable.turns t.mask/\(∀m,m<n->occ t (z8 t m (t.probeStart x)).j)/\¬occ t (z8 t n (t.probeStart x)).j:=by
  intro d
  induction d with
  |zero =>
   intro n hd hn hno;have:n=0:=()
   subst this;exact⟨0,hn,λm hm=>Zn hm (Z5 _),hno⟩
  |succ d ih =>
   intro n hd hn hno;by_cases c:∀m,m<n->occ t (z8 t m (t.probeStart x)).j
   .exact⟨n,hn,c,hno⟩
   .obtain⟨m,hm⟩:=Classical.not_forall.mp c;obtain⟨h1,h2⟩:=Classical.not_imp.mp hm;exact ih m () () h2
 exact key n n (Zf _) hn hno
def xZ {α:Type}(xs:Array α)(hp:p<=xs.size)(x:α):(SetTable.insertAt xs p x).size=xs.size+1:=by
 unfold SetTable.insertAt;simp;omega
def uL {α:Type}(xs:Array α)(hp:p<=xs.size)(x d:α)(i:Nat):(SetTable.insertAt xs p x).getD i d=if i<p then xs.getD i d else if i=p then x else xs.getD (i-1) d:=by
 unfold SetTable.insertAt;simp only[Z1];rw[Array.getElem?_append,Array.getElem?_push,Array.getElem?_extract,Array.getElem?_extract];simp only[Array.size_push,X3];have e:min p xs.size-0=p:=()
 rw[e];rcases Xp i p with c|c|c
 .have a:i<p+1:=()
  have b:¬i=p:=()
  simp only[a,b,c,if_true,if_false];simp
 .subst c;have a:¬i<i:=Zx _;simp only[Xm,a,if_true,if_false];rfl
 .have a:¬i<p+1:=()
  have b:¬i<p:=()
  have b2:¬i=p:=()
  simp only[a,b,b2,if_false];have ei:p+(i-(p+1))=i-1:=()
  rw[ei];by_cases c3:i-1<xs.size
  .rw[Zd (by simp only[Nat.min_self];omega)]
  .rw[Ze (by simp only[Nat.min_self];omega),Xu ()]
def put_ok (T:TabOk t hs)(hy:y<=t.mask)(hf:¬occ t y)(hw:Way t (occ t) x y)(hr:t.place.size+1<=t.mask):TabOk (t.put y).1 (SetTable.insertAt hs (t.put y).2 x)/\(t.put y).2<=hs.size/\(t.put y).1.mask=t.mask:=by
 refine x8 (tf T.up y) λb1 b2 b3=>?_;have hp:(t.put y).2=SetTable.below t.place y:=rfl;have hpl:(t.put y).1.place=SetTable.insertAt t.place (SetTable.below t.place y) y:=rfl;have hmk:(t.put y).1.mask=t.mask:=rfl;have hdm:(t.put y).1.dummies = #[]:=by
  show(if SetTable.has t.dummies y then SetTable.eraseAt t.dummies (SetTable.below t.dummies y) else t.dummies)=_;rw[T.nod,l7];rfl
 rw[hp];have b4:∀i,SetTable.below t.place y<=i->i<t.place.size->y<t.place.getD i 0:=λi h1 h2=>by
  have:=b3 i h1 h2;have:t.place.getD i 0≠y:=λz=>hf ⟨i,h2,z⟩;omega
 generalize SetTable.below t.place y=p at *;have sz:(SetTable.insertAt t.place p y).size=t.place.size+1:=xZ _ b1 _;have gp:=uL t.place b1 y 0;have oc:∀j,occ t j->occ (t.put y).1 j:=by
  rintro j ⟨i,hi,e⟩;by_cases c:i<p
  .exact⟨i,by rw[hpl,sz];omega,by rw[hpl,gp,Zd c];exact e⟩
  .exact⟨i+1,by rw[hpl,sz];omega,by rw[hpl,gp,Ze (),Ze (),Nat.add_sub_cancel];exact e⟩
 have hsz:=T.size;refine⟨⟨?_,?_,?_,hdm,by rw[hmk];exact T.pow,by rw[hpl,sz,hmk];exact hr,?_⟩,(),hmk⟩
 .rw[hpl,sz,xZ _ ()];omega
 .intro i j hij hj;rw[hpl] at hj ⊢;rw[sz] at hj;rw[gp,gp];by_cases c1:j<p
  .rw[Zd c1,Zd ()];exact T.up i j hij ()
  .rw[Ze c1];by_cases c2:j=p
   .rw[Zd c2,Zd ()];exact b2 i ()
   .rw[Ze c2];by_cases c3:i<p
    .rw[Zd c3];exact T.up i (j-1) () ()
    .rw[Ze c3];by_cases c4:i=p
     .rw[Zd c4];exact b4 (j-1) () ()
     .rw[Ze c4];exact T.up (i-1) (j-1) (Nat.sub_lt_sub_right () (by assumption)) ()
 .intro i hi;rw[hpl] at hi ⊢;rw[sz] at hi;rw[gp,hmk]
  split
  .exact T.le i ()
  .split
   .exact hy
   .exact T.le (i-1) ()
 .intro i hi;rw[hpl] at hi ⊢;rw[sz] at hi;rw[gp,uL hs () x 0];by_cases c1:i<p
  .rw[Zd c1,Zd c1];exact(T.ways i ()).mono hmk.symm oc
  .rw[Ze c1,Ze c1];by_cases c2:i=p
   .rw[Zd c2,Zd c2];exact hw.mono hmk.symm oc
   .rw[Ze c2,Ze c2];exact(T.ways (i-1) ()).mono hmk.symm oc
open PySem
theorem lC (t:YA)(i pert:Nat):∀k,k<=SetTable.runEnd t.mask i-i->z8 t k (ug t.mask i pert)={ j:=i+k,more:=SetTable.runEnd t.mask i-i-k,i:=i,perturb:=pert,dummy:=none }
 | 0,_=>rfl
 |k+1,h=>by
  rw[stepP_succ,lC t i pert k ()];unfold SetTable.advance;rw[Zd (by show SetTable.runEnd t.mask i-i-k > 0;omega)];show SetTable.Probe.mk (i+k+1) (SetTable.runEnd t.mask i-i-k-1) i pert none=_
  congr 1
def sR {mask i:Nat}(h:i<=mask):i<=SetTable.runEnd mask i/\SetTable.runEnd mask i<=mask:=by
 unfold SetTable.runEnd
 split<;>omega
noncomputable def iN (owner:Array (Option Nat))(j:Nat):Prop:=∃i,owner.getD j none=some i
theorem po {t:YA}{owner:Array (Option Nat)}(hs:owner.size=t.mask+1):∀(fuel i pert y:Nat),i<=t.mask->SetTable.layClean.free t.mask owner fuel i pert=some y ->
 y<=t.mask/\owner.getD y none=none/\∃n,(z8 t n (ug t.mask i pert)).j=y/\∀m,m<n->iN owner (z8 t m (ug t.mask i pert)).j
 | 0,i,pert,y,_,h=>by unfold SetTable.layClean.free at h;exact zqn h
 |fuel+1,i,pert,y,hi,h=>by
  have hr:=sR hi;unfold SetTable.layClean.free at h;have kd:∀{k},k<SetTable.runEnd t.mask i+1-i->k<=SetTable.runEnd t.mask i-i:=λhk=>by
   rw[Nat.succ_sub hr.1] at hk;exact ZX hk
  have bd:∀{k},k<SetTable.runEnd t.mask i+1-i->i+k<owner.size:=λhk=>by
   rw[hs];exact Nat.lt_succ_of_le (Zh (Nat.add_le_of_le_sub' hr.1 (kd hk)) hr.2)
  have inb:∀k,k<SetTable.runEnd t.mask i+1-i->owner.getD (i+k) (some 0)=owner.getD (i+k) none:=λk hk=>by
   rw[yf (bd hk),yf (bd hk)]
  have bz:∀k,k<SetTable.runEnd t.mask i+1-i->(!(owner.getD (i+k) (some 0)).isNone)=true->iN owner (i+k):=λk hk hb=>by
   rw[inb k hk] at hb;unfold iN;cases q:owner.getD (i+k) none with
   |none=>rw[q] at hb;exact zqb hb
   |some v=>exact⟨v,rfl⟩
  split at h
  .rename_i k hk;obtain⟨h1,h2,h3⟩:=List.find?_range_eq_some.mp hk;have h2:=Z7.mp h2;obtain rfl:=Zqi h;refine⟨ZX (by have:=bd h2;rwa [hs] at this),?_,k,?_,λm hm=>?_⟩
   .rw[inb k h2] at h1;cases q:owner.getD (i+k) none with
    |none=>rfl
    |some v=>rw[q] at h1;exact zqb h1
   .rw[lC t i pert k (kd h2)]
   .rw[lC t i pert m (kd (Xj hm h2))];exact bz m (Xj hm h2) (h3 m hm)
  .rename_i hk;have h3:=List.find?_range_eq_none.mp hk;have hl:(SetTable.leap t.mask i pert).1<=t.mask:=X5.mp (Nat.mod_lt _ (Nat.succ_pos _));obtain⟨g1,g2,n,g3,g4⟩:=po hs fuel _ _ y hl h;have he:=iw t (SetTable.runEnd t.mask i-i) (ug t.mask i pert) rfl rfl;have he:z8 t (SetTable.runEnd t.mask i-i+1) (ug t.mask i pert)=ug t.mask (SetTable.leap t.mask i pert).1 (SetTable.leap t.mask i pert).2:=he;refine⟨g1,g2,SetTable.runEnd t.mask i-i+1+n,by rw[wv,he];exact g3,λm hm=>?_⟩;by_cases c:m<=SetTable.runEnd t.mask i-i
   .rw[lC t i pert m c];exact bz m () (h3 m ())
   .obtain⟨m',rfl⟩:∃m',m=SetTable.runEnd t.mask i-i+1+m':=⟨m-(SetTable.runEnd t.mask i-i+1),()⟩;rw[wv,he];exact g4 m' ()
theorem pG {mask:Nat}{owner:Array (Option Nat)}(hs:owner.size=mask+1):∀(fuel i pert:Nat),i<=mask->SetTable.layClean.free mask owner fuel i pert=none->∀r,r<fuel->iN owner (rB mask r (i,pert)).1
 | 0,i,pert,_,_,r,hr=>Zn hr (Z5 _)
 |fuel+1,i,pert,hi,h,r,hr=>by
  have hre:=sR hi;unfold SetTable.layClean.free at h
  split at h
  .cases h
  .rename_i hk;have h3:=List.find?_range_eq_none.mp hk;have hl:(SetTable.leap mask i pert).1<=mask:=X5.mp (Nat.mod_lt _ (Nat.succ_pos _));cases r with
   |zero =>
    have h0:=h3 0 ();have e:owner.getD (i+0) (some 0)=owner.getD i none:=by rw[Nat.add_zero,yf (),yf ()]
    rw[e] at h0;show iN owner i;unfold iN;cases q:owner.getD i none with
    |none=>rw[q] at h0;exact zqb h0
    |some v=>exact⟨v,rfl⟩
   |succ r=>exact pG hs fuel _ _ hl h r ()
def cover_run {mask k:Nat}(hk:mask+1=2 ^ k)(h:Int){y:Nat}(hy:y<=mask):∃r,r<SetTable.turns mask/\(rB mask r (SetTable.bits h % (mask+1),SetTable.bits h)).1=y:=by
 have hb:SetTable.bits h<2 ^ 64:=by
  unfold SetTable.bits;have:=Int.emod_lt_of_pos h (show(0:Int)<2 ^ 64 by decide);have:=Int.emod_nonneg h (show(2 ^ 64:Int)≠0 by decide);omega
 have hl:=jp mask 13 (SetTable.bits h % (mask+1),SetTable.bits h) (Nat.mod_lt _ ());have hp:(rB mask 13 (SetTable.bits h % (mask+1),SetTable.bits h)).2=0:=by
  rw[sJ];exact Nat.div_eq_of_lt (Zg hb (by decide))
 refine zc1b (sQ k (rB mask 13 (SetTable.bits h % (mask+1),SetTable.bits h)).1 y ()) λq hq e=>?_;refine⟨13+q,by unfold SetTable.turns;omega,?_⟩;rw[mv];generalize hR:rB mask 13 (SetTable.bits h % (mask+1),SetTable.bits h)=s at *;obtain⟨s1,s2⟩:=s;simp only at hp hl e;rw[hp,tV mask q s1 hl,hk,e]
structure LayOk (t:YA)(owner:Array (Option Nat))(hs:Yh):Prop where
 size:owner.size=t.mask+1
 lt:∀j i,owner.getD j none=some i->i<hs.length
 one:∀j j' i,owner.getD j none=some i->owner.getD j' none=some i->j=j'
 all:∀i,i<hs.length->∃j,j<=t.mask/\owner.getD j none=some i/\Way t (iN owner) (hs.getD i 0) j
def range_map_nodup {f:Nat->Nat}{n:Nat}(h:∀a b,a<n->b<n->f a=f b->a=b):((List.range n).map f).Nodup:=by
 unfold List.Nodup;rw[XU];refine List.Pairwise.imp_of_mem (R:=λa b=>a≠b) (λ{a b} ha hb hn e=>hn (h a b (Z7.mp ha) (Z7.mp hb) e)) ?_;exact List.nodup_range
def lay_free {t:YA}{owner:Array (Option Nat)}{hs:Yh}(L:LayOk t owner hs)(hl:hs.length<=t.mask):∃y,y<=t.mask/\owner.getD y none=none:=by
 apply Classical.byContradiction;intro hno;have al:∀y,y<t.mask+1->∃i,owner.getD y none=some i:=λy hy=>by
  cases q:owner.getD y none with
  |none=>exact Zn ⟨y,(),q⟩ hno
  |some i=>exact⟨i,rfl⟩
 have nd:((List.range (t.mask+1)).map λy=>(owner.getD y none).getD 0).Nodup:=range_map_nodup λa b ha hb e=>by
  obtain⟨i,hi⟩:=al a ha;obtain⟨i',hi'⟩:=al b hb;rw[hi,hi'] at e;have e:i=i':=e;subst e;exact L.one a b i hi hi'
 have sub:((List.range (t.mask+1)).map λy=>(owner.getD y none).getD 0) ⊆ List.range hs.length:=λz hz=>by
  refine zc1b (ZD.mp hz) λy hy zr2=>?_;subst zr2;obtain⟨i,hi⟩:=al y (Z7.mp hy);rw[hi];exact Z7.mpr (L.lt y i hi)
 have:=List.Nodup.length_le_of_subset nd sub;rw[Zql,ZA,ZA] at this;omega
def set_getD {owner:Array (Option Nat)}{y:Nat}(hy:y<owner.size)(v:Option Nat)(j:Nat):(owner.setIfInBounds y v).getD j none=if j=y then v else owner.getD j none:=by
 simp only[Z1];rw[Array.getElem?_setIfInBounds];by_cases c:y=j
 .subst c;rw[Zd rfl,Zd rfl,Zd hy];rfl
 .rw[Ze c,Ze λz=>c z.symm]
def lay_step {t:YA}{owner:Array (Option Nat)}{hs:Yh}(L:LayOk t owner hs)(hl:hs.length<=t.mask)(hp:∃k,t.mask+1=2 ^ k)(h:Int):
 ∃y,SetTable.layClean.free t.mask owner (SetTable.turns t.mask) (SetTable.bits h % (t.mask+1)) (SetTable.bits h)=some y/\LayOk t (owner.setIfInBounds y (some hs.length)) (hs++[h]):=by
 have hi:SetTable.bits h % (t.mask+1)<=t.mask:=X5.mp (Nat.mod_lt _ (Nat.succ_pos _));cases q:SetTable.layClean.free t.mask owner (SetTable.turns t.mask) (SetTable.bits h % (t.mask+1)) (SetTable.bits h) with
 |none =>
  obtain⟨k,hk⟩:=hp;refine zc1b (lay_free L hl) λy hy hf=>?_;refine zc1b (cover_run hk h hy) λr hr e=>?_;obtain⟨i,hz⟩:=pG L.size _ _ _ hi q r hr;rw[e,hf] at hz;exact zqn hz
 |some y =>
  refine x8 (po L.size _ _ _ y hi q) λh1 h2 zz=>zc1b zz λn h3 h4=>?_;have sg:=set_getD (owner:=owner) (y:=y) (by rw[L.size];omega) (some hs.length);have oc:∀j,iN owner j->iN (owner.setIfInBounds y (some hs.length)) j:=by
   rintro j ⟨i,hj⟩;refine⟨i,?_⟩;rw[sg,Ze λz=>by rw[z,h2] at hj;cases hj];exact hj
  refine⟨y,rfl,⟨by rw[Array.size_setIfInBounds];exact L.size,λj i hj=>?_,λj j' i hj hj'=>?_,λi hi'=>?_⟩⟩
  .rw[ZG,Z4];rw[sg] at hj
   split at hj
   .cases hj;omega
   .have:=L.lt j i hj;omega
  .rw[sg] at hj hj'
   split at hj
   .rename_i a;obtain rfl:=Zqi hj
    split at hj'
    .rename_i b;rw[a,b]
    .have:=L.lt j' _ hj';omega
   .split at hj'
    .obtain rfl:=Zqi hj';have:=L.lt j _ hj;omega
    .exact L.one j j' i hj hj'
  .rw[ZG,Z4] at hi';by_cases c:i<hs.length
   .refine zc1c (L.all i c) λj g1 g2 g3=>?_;refine⟨j,g1,?_,?_⟩
    .rw[sg,Ze λz=>by rw[z,h2] at g2;cases g2];exact g2
    .have e:(hs++[h]).getD i 0=hs.getD i 0:=by
      rw[ZE,ZE,Xv c]
     rw[e];exact g3.mono rfl oc
   .have e:i=hs.length:=()
    subst e;refine⟨y,h1,by rw[sg,Zd rfl],?_⟩;have e:(hs++[h]).getD hs.length 0=h:=by
     rw[ZE,Xq (Zf _),Nat.sub_self];rfl
    rw[e];exact⟨n,h3,λm hm=>oc _ (h4 m hm)⟩
theorem lQ {t:YA}(hp:∃k,t.mask+1=2 ^ k):∀(rest:Yh) (hs:Yh) (owner:Array (Option Nat)),LayOk t owner hs->hs.length+rest.length<=t.mask+1 ->
 ∃owner',rest.foldl (init:=some (owner,hs.length)) (λacc h=>do
  let (owner,k) <- acc
  let j <- SetTable.layClean.free t.mask owner (SetTable.turns t.mask) (SetTable.bits h % (t.mask+1)) (SetTable.bits h)
  pure (owner.setIfInBounds j (some k),k+1))=some (owner',hs.length+rest.length)/\LayOk t owner' (hs++rest)
 | [],hs,owner,L,_=>⟨owner,rfl,by rw[Zz];exact L⟩
 |h::rest,hs,owner,L,hl=>by
  rw[Zu] at hl;refine zc1b (lay_step L () hp h) λy e L'=>?_;refine zc1b (lQ hp rest (hs++[h]) _ L' (by rw[ZG,Z4];omega)) λo' e2 L2=>?_;refine⟨o',?_,by rw[ZJ] at L2;exact L2⟩;rw[ZG,Z4] at e2;rw[XF];simp only[Option.bind_eq_bind,Option.bind_some,e];rw[Zu,show hs.length+(rest.length+1)=hs.length+1+rest.length by omega];exact e2
def lay_clean {t:YA}(hp:∃k,t.mask+1=2 ^ k)(hs:Array Int)(hl:hs.size<=t.mask+1):∃owner,SetTable.layClean t.mask hs=some owner/\LayOk t owner hs.toList:=by
 have L0:LayOk t (Array.replicate (t.mask+1) none) []:=by
  have z:∀j i,(Array.replicate (t.mask+1) (none:Option Nat)).getD j none≠some i:=λj i h=>by
   simp only[Z1,Array.getElem?_replicate] at h
   split at h<;>exact zqn h
  exact⟨by simp,λj i h=>Zn h (z j i),λj j' i h=>Zn h (z j i),λi h=>Zn h (Z5 _)⟩
 refine zc1b (lQ hp hs.toList [] _ L0 (by simpa using hl)) λo e L=>?_;refine⟨o,?_,by simpa using L⟩;unfold SetTable.layClean;rw[<- Array.foldl_toList];have e:hs.toList.foldl _ (some (Array.replicate (t.mask+1) none,0))=some (o,[].length+hs.toList.length):=e;rw[e];rfl
open PySem
def owner_in {owner:Array (Option Nat)}{j i:Nat}(h:owner.getD j none=some i):j<owner.size:=by
 apply Classical.byContradiction;intro z;rw[Z1,Xu ()] at h;exact zqn h
noncomputable def tR (mask:Nat)(owner:Array (Option Nat)):List (Nat×Nat):=(List.range (mask+1)).filterMap λj=>(owner.getD j none).map (j,·)
def live_mem:p∈tR mask owner↔p.1<=mask/\owner.getD p.1 none=some p.2:=by
 unfold tR;rw[X2];constructor
 .rintro⟨j,hj,e⟩;refine zc1b (Xf.mp e) λi hi e=>?_;subst e;exact⟨X5.mp (Z7.mp hj),hi⟩
 .rintro⟨h1,h2⟩;exact⟨p.1,Z7.mpr (),by rw[h2];rfl⟩
def live_up (mask:Nat)(owner:Array (Option Nat)):(tR mask owner).Pairwise λa b=>a.1<b.1:=by
 unfold tR;rw[List.pairwise_filterMap];refine List.pairwise_lt_range.imp λ{a b} hab x hx y hy=>?_;refine zc1b (Xf.mp hx) λi _ zr2=>?_;subst zr2;refine zc1b (Xf.mp hy) λi' _ zr2=>?_;subst zr2;exact hab
def tI {α:Type}(l:List α)(i:Nat)(d:α):l.toArray.getD i d=l.getD i d:=by
 rw[Z1,List.getElem?_toArray,ZE]
def qM {α β: Type}(l:List α)(f:α -> β)(i:Nat)(hi:i<l.length)(d:β):(l.map f).getD i d=f l[i]:=by
 rw[ZE,Zv,Zqg hi];rfl
def laid_ok {mask:Nat}(hp:∃k,mask+1=2 ^ k)(hs:Array Int)(hl:hs.size<=mask)(finger moves:Nat)(led plain:Bool):
 ∃t' order,SetTable.laid mask finger moves led plain hs=some (t',order)/\t'.mask=mask/\t'.moves=moves/\t'.led=led/\t'.plain=plain/\t'.finger=finger/\order.size=hs.size/\(∀k,k<order.size->order.getD k 0<hs.size)/\(∀k k',k<order.size->k'<order.size->order.getD k 0=order.getD k' 0->k=k')/\(∀i,i<hs.size->∃k,k<order.size/\order.getD k 0=i)/\TabOk t' (order.map λi=>hs.getD i 0):=by
 let t0:YA:={ mask:=mask,place:=#[],dummies:=#[],finger:=0,led:=false,moves:=0,plain:=true }
 refine zc1b (lay_clean (t:=t0) hp hs (by show hs.size<=mask+1;omega)) λowner e L=>?_;have e:SetTable.layClean mask hs=some owner:=e;have hsz:owner.size=mask+1:=L.size;have mem:=λp=>live_mem (mask:=mask) (owner:=owner) (p:=p);have up:=live_up mask owner;have nd2:((tR mask owner).map (·.2)).Nodup:=by
  unfold List.Nodup;rw[XU];refine List.Pairwise.imp_of_mem (λ{a b} ha hb hab e2=>?_) up;have h1:=((mem a).mp ha).2;have h2:=((mem b).mp hb).2;rw[e2] at h1;have:=L.one _ _ _ h1 h2;omega
 have sub1:((tR mask owner).map (·.2)) ⊆ List.range hs.size:=λz hz=>by
  refine zc1b (ZD.mp hz) λp hp zr2=>?_;subst zr2;have:=L.lt _ _ ((mem p).mp hp).2;exact Z7.mpr (by simpa using this)
 have sub2:List.range hs.size ⊆ ((tR mask owner).map (·.2)):=λi hi=>by
  refine zc1c (L.all i (by simpa using Z7.mp hi)) λj h1 h2 _=>?_;exact ZD.mpr ⟨(j,i),(mem (j,i)).mpr ⟨h1,h2⟩,rfl⟩
 have len:(tR mask owner).length=hs.size:=by
  have a:=List.Nodup.length_le_of_subset nd2 sub1;have b:=List.Nodup.length_le_of_subset List.nodup_range sub2;rw[Zql,ZA] at a b;omega
 have el:SetTable.laid mask finger moves led plain hs=some ({ mask:=mask,place:=((tR mask owner).map (·.1)).toArray,dummies:=#[],finger:=finger,led:=led,moves:=moves,plain:=plain },((tR mask owner).map (·.2)).toArray):=by
  unfold SetTable.laid;rw[e];rfl
 generalize hlv:tR mask owner=lv at *;have gp:∀i (hi:i<lv.length),((lv.map (·.1)).toArray).getD i 0=lv[i].1:=λi hi=>by rw[tI,qM _ _ _ hi]
 have go:∀i (hi:i<lv.length),((lv.map (·.2)).toArray).getD i 0=lv[i].2:=λi hi=>by rw[tI,qM _ _ _ hi]
 have upi:=ZZ.mp up;refine⟨_,_,el,rfl,rfl,rfl,rfl,rfl,by simpa using len,λk hk=>?_,λk k' hk hk' e2=>?_,λi hi=>?_,?_⟩
 .have hk:k<lv.length:=by simpa using hk
  rw[go k hk];have:=L.lt _ _ ((mem lv[k]).mp (Z9 hk)).2;simpa using this
 .have hk:k<lv.length:=by simpa using hk
  have hk':k'<lv.length:=by simpa using hk'
  rw[go k hk,go k' hk'] at e2;have h1:=((mem lv[k]).mp (Z9 hk)).2;have h2:=((mem lv[k']).mp (Z9 hk')).2;rw[e2] at h1;have e3:=L.one _ _ _ h1 h2;rcases Xp k k' with q|q|q
  .have:=upi k k' hk hk' q;omega
  .exact q
  .have:=upi k' k hk' hk q;omega
 .refine zc1b (ZD.mp (sub2 (Z7.mpr hi))) λp hp e2=>?_;obtain⟨k,hk,rfl⟩:=Xd hp;exact⟨k,by simpa using hk,by rw[go k hk];exact e2⟩
 .have oc:∀j,iN owner j->occ { mask:=mask,place:=(lv.map (·.1)).toArray,dummies:=#[],finger:=finger,led:=led,moves:=moves,plain:=plain } j:=by
   rintro j ⟨i,hj⟩;have hin:=owner_in hj;have hm:(j,i)∈lv:=(mem (j,i)).mpr ⟨by show j<=mask;omega,hj⟩;obtain⟨k,hk,e2⟩:=Xd hm;exact⟨k,by simpa using hk,by show((lv.map (·.1)).toArray).getD k 0=j;rw[gp k hk,e2]⟩
  refine⟨by simp,λi j hij hj=>?_,λi hi=>?_,rfl,hp,by show((lv.map (·.1)).toArray).size<=mask;simp;omega,λk hk=>?_⟩
  .have hj:j<lv.length:=by simpa using hj
   show((lv.map (·.1)).toArray).getD i 0<((lv.map (·.1)).toArray).getD j 0;rw[gp i (),gp j hj];exact upi i j () hj hij
  .have hi:i<lv.length:=by simpa using hi
   show((lv.map (·.1)).toArray).getD i 0<=mask;rw[gp i hi];exact((mem lv[i]).mp (Z9 hi)).1
  .have hk:k<lv.length:=by simpa using hk
   have h1:=((mem lv[k]).mp (Z9 hk)).2;have hlt:=L.lt _ _ h1;refine zc1c (L.all lv[k].2 hlt) λj g1 g2 g3=>?_;have ej:=L.one _ _ _ g2 h1;subst ej;have eh:(((lv.map (·.2)).toArray).map λi=>hs.getD i 0).getD k 0=hs.toList.getD lv[k].2 0:=by
    have e4:((lv.map (·.2)).toArray).map (λi=>hs.getD i 0)=((lv.map (·.2)).map λi=>hs.getD i 0).toArray:=by simp
    rw[e4,tI,Zw,qM _ _ _ hk];show hs.getD lv[k].2 0=_;rw[Z1,ZE,Xy]
   rw[eh];show Way _ _ _ (((lv.map (·.1)).toArray).getD k 0);rw[gp k hk];exact g3.mono rfl oc
theorem iu:∀(fuel size n:Nat),(∃k,size=2 ^ k)->n<size*2 ^ fuel->(∃k,SetTable.sizeAbove.go n fuel size=2 ^ k)/\n<SetTable.sizeAbove.go n fuel size
 | 0,size,n,hp,h=>by
  unfold SetTable.sizeAbove.go;exact⟨hp,by simpa using h⟩
 |fuel+1,size,n,⟨k,hk⟩,h=>by
  unfold SetTable.sizeAbove.go
  split
  .exact iu fuel (size*2) n ⟨k+1,by rw[Nat.pow_succ,hk]⟩ (by rw[Nat.mul_assoc,<- Nat.pow_succ'];exact h)
  .exact⟨⟨k,hk⟩,()⟩
def rW (h:n<1000000000):(∃k,SetTable.sizeAbove n=2 ^ k)/\n<SetTable.sizeAbove n:=
 iu 64 8 n ⟨3,rfl⟩ (Zg h (by decide))
theorem rP:∀(fuel size n:Nat),size<=2*n+8->SetTable.sizeAbove.go n fuel size<=2*n+8
 | 0,size,n,h=>by unfold SetTable.sizeAbove.go;exact h
 |fuel+1,size,n,h=>by
  unfold SetTable.sizeAbove.go
  split
  .exact rP fuel (size*2) n ()
  .exact h
def size_above_le (n:Nat):SetTable.sizeAbove n<=2*n+8:=rP 64 8 n ()
def relaid_ok {t:YA}{hs:Array Int}{wanted:Nat}(h1:hs.size<=wanted)(h2:wanted<1000000000):
 ∃t' order,t.relaid hs wanted=some (t',order)/\t'.led=t.led/\t'.plain=t.plain/\t'.mask+1=SetTable.sizeAbove wanted/\order.size=hs.size/\(∀k,k<order.size->order.getD k 0<hs.size)/\(∀k k',k<order.size->k'<order.size->order.getD k 0=order.getD k' 0->k=k')/\(∀i,i<hs.size->∃k,k<order.size/\order.getD k 0=i)/\TabOk t' (order.map λi=>hs.getD i 0):=by
 obtain⟨⟨k,hk⟩,hlt⟩:=rW h2;have hm:SetTable.sizeAbove wanted-1+1=SetTable.sizeAbove wanted:=()
 refine zc2a (laid_ok (mask:=SetTable.sizeAbove wanted-1) ⟨k,by rw[hm];exact hk⟩ hs () t.finger (t.movedTo (SetTable.sizeAbove wanted-1)) t.led t.plain) λt' order zz=>xf zz λe e1 _ e3 zz=>xf zz λe4 _ e6 e7 zz=>x8 zz λe8 e9 e10=>?_;exact⟨t',order,e,e3,e4,by rw[e1];exact hm,e6,e7,e8,e9,e10⟩
open PySem
variable {prog:Program}{w:World}{A:Around}{E:Ya}{s:Shared}
theorem TabOk.fits {t:YA}{es:Array (Int×Value)}(T:TabOk t (es.map (·.1))):t.fits es.size=true:=by
 have h1:=T.size;rw[Z0] at h1;unfold SetTable.fits SetTable.fill;rw[T.nod];simp -iota [h1,show es.size<=t.mask by have:=T.room;omega]
def mW {es:Array (Int×Value)}{i:Nat}(hi:i<es.size):(es.map (·.1)).getD i 0=es[i].1:=by
 rw[yf (by rw[Z0];exact hi)];simp -iota
def nI {es:Array (Int×Value)}{i:Nat}(hi:i<es.size):(es[i]?.map (·.1)).getD 0=es[i].1:=by
 rw[ZH hi];rfl
noncomputable def qU (t:YA)(p:SetTable.Probe):Prop:=p.j+p.more<=t.mask
def o4 (t:YA)(h:i<=t.mask):qU t (ug t.mask i pert):=by
 have:=sR h;show i+(SetTable.runEnd t.mask i-i)<=t.mask;omega
def adv_inTab (h:qU t p):qU t (t.advance p):=by
 unfold qU at h;unfold SetTable.advance
 split
 .show p.j+1+(p.more-1)<=t.mask;omega
 .have hl:(SetTable.leap t.mask p.i p.perturb).1<=t.mask:=X5.mp (Nat.mod_lt _ (Nat.succ_pos _));exact o4 t (pert:=(SetTable.leap t.mask p.i p.perturb).2) hl
def step_inTab (h:qU t p)(n:Nat):qU t (z8 t n p):=by
 induction n generalizing p with
 |zero=>exact h
 |succ n ih=>exact ih (adv_inTab h)
def start_le (t:YA)(h:Int):qU t (t.probeStart h):=o4 t (pert:=SetTable.bits h) (X5.mp (Nat.mod_lt _ (Nat.succ_pos _)))
def step_le (h:qU t p)(n:Nat):(z8 t n p).j<=t.mask:=by
 have:=step_inTab h n;unfold qU at this;omega
theorem tM {a:Addr}{o:Obj}{es:Array (Int×Value)}{ep:Nat}{t:YA}{x:Value}{h:Int}{same:Value->Bool}{Q:SetFound->Yz}{e:Nat}
 (ho:s.heap.get? a=some o) (hd:o.data=.set es ep t) (T:TabOk t (es.map (·.1))) (hodd:t.mask % 2=1)
 (hq:∀i (hi:i<es.size),es[i].1=h->∀Q:Bool->Yz,Q (same es[i].2) s->YG prog w A (eqBool es[i].2 x) Q E s)
 (hr:∀i (hi:i<es.size),∃b,es[i].2=.ref b)
 (hsn:t.led=true\/∀Q:Bool->Yz,Q false s->YG prog w A (searchCouldBeSeen x ((es.filter (·.1 == h)).toList.map (·.2))) Q E s)
 (he:e<10*SetTable.turns t.mask) (hoc:∀m,m<e->occ t (z8 t m (t.probeStart h)).j) (hfr:¬occ t (z8 t e (t.probeStart h)).j)
 (hit:∀i (hi:i<es.size),es[i].1=h->same es[i].2=true->Q (.there none) s)
 (miss:(∀i (hi:i<es.size),es[i].1=h->same es[i].2=false)->Q (.free (z8 t e (t.probeStart h)).j false) s):
 ∀(fuel c:Nat) (st:Option SetTable.Probe),c<=e->e-c<fuel->st.getD (t.probeStart h)=z8 t c (t.probeStart h) ->
  (∀m i (hi:i<es.size),m<c->t.slot (z8 t m (t.probeStart h)).j=.live i->es[i].1=h->same es[i].2=false) ->
  YG prog w A (setSearchFrom a x h true fuel st) Q E s
 | 0,c,st,hc,hf,_,_=>Zn hf (Z5 _)
 |fuel+1,c,st,hc,hf,hst,hno=>by
  have hsz:t.place.size=es.size:=by have:=T.size;rwa [Z0] at this
  show wpAny _ _ (_ >>= _) _ _ _;refine Za (wpAny_setState_of ho hd T.fits ?_);dsimp only;have hg:t.gaveWay=false:=by unfold SetTable.gaveWay;rw[hodd];rfl
  rw[hg];simp -iota only[ZO,if_false];have live:∀m,m<e->∃i,t.slot (z8 t m (t.probeStart h)).j=.live i/\i<es.size/\t.place.getD i 0=(z8 t m (t.probeStart h)).j:=λm hm=>by
   refine zc1c (slot_occ T.up (hoc m hm)) λi h1 h2 h3=>?_;exact⟨i,h1,(),h3⟩
  have step:∀m,z8 t m (z8 t c (t.probeStart h))=z8 t (c+m) (t.probeStart h):=λm=>(wv t c m _).symm;have meets:∀g:Nat->Int,(∀i,g i=(es[i]?.map (·.1)).getD 0)->(∃m i,c<=m/\m<e/\t.slot (z8 t m (t.probeStart h)).j=.live i/\g i=h/\t.probe g h (st.getD (t.probeStart h))=some (.candidate (z8 t m (t.probeStart h)).j i (z8 t (m+1) (t.probeStart h)))/\∀m' i',c<=m'->m'<m->t.slot (z8 t m' (t.probeStart h)).j=.live i'->g i'≠h) \/
   (t.probe g h (st.getD (t.probeStart h))=some (.empty (z8 t e (t.probeStart h)).j none)/\∀m' i',c<=m'->m'<e->t.slot (z8 t m' (t.probeStart h)).j=.live i'->g i'≠h):=λg _=>by
   rw[hst];have sd:(z8 t c (t.probeStart h)).dummy=none:=step_dummy rfl c;have ek:c+(e-c)=e:=()
   rcases mI (t:=t) (hashAt:=g) (h:=h) (e-c) (10*SetTable.turns t.mask) (z8 t c (t.probeStart h)) () sd (λm hm=>by
    rw[step];obtain⟨i,h1,_⟩:=live (c+m) ();exact⟨i,h1⟩) (by rw[step,ek];exact slot_empty T.nod hfr) with ⟨m,i,g1,g2,g3,g4,g5⟩|⟨g1,g2⟩
   .rw[step] at g2 g4;rw[step] at g4;refine .inl ⟨c+m,i,(),(),g2,g3,g4,λm' i' a1 a2 a3=>g5 (m'-c) i' () (by rw[step,show c+(m'-c)=m' by omega];exact a3)⟩
   .rw[step,ek] at g1;exact .inr ⟨g1,λm' i' a1 a2 a3=>g2 (m'-c) i' () (by rw[step,show c+(m'-c)=m' by omega];exact a3)⟩
  generalize hmet:t.probe _ h (st.getD (t.probeStart h))=met;have here:∀i (hi:i<es.size),es[i].1=h->∃m,m<e/\t.slot (z8 t m (t.probeStart h)).j=.live i:=λi hi hh=>by
   refine zc1b (T.ways i ()) λn n1 n2=>?_;rw[mW hi,hh] at n1 n2;refine⟨n,?_,by rw[n1];exact oi T.up () rfl⟩;rcases Xp n e with q|q|q
   .exact q
   .subst q;exact Zn ⟨i,(),n1.symm⟩ hfr
   .exact Zn (n2 e q) hfr
  rcases meets _ (λi=>rfl) with ⟨m,i,c1,c2,c3,c4,c5,c6⟩|⟨c1,c2⟩
  .have em:=hmet.symm.trans c5;subst em;refine zc1c (live m c2) λi2 k1 k2 k3=>?_;rw[c3] at k1;cases k1;have hh:es[i].1=h:=by rw[<- nI k2];exact c4
   dsimp only;have rest:YG prog w A (do
    let some (_,y):=es[i]? | unsupported "internal:set-entry"
    let equal <- holding [y] (eqBool y x)
    let (es',_,t') <- setState a
    if true&&equal then return SetFound.there none
    let some same:=t'.sameMemory t.moves t.mask|unsupported "set.changed-during-lookup:is-the-new-block-at-the-old-address"
    let still <- match (if same then t'.slot (z8 t m (t.probeStart h)).j else .empty) with
     | .live i'=>match es'[i']? with
      |some (_,y')=>do pure (if <- isSame y' y then some i' else none)
      |none=>pure none
     |_=>pure none
    match still with
    |none=>rule "set.search.anew";setSearchFrom a x h true fuel none
    |some i'=>if equal then return .there (some i') else setSearchFrom a x h true fuel (some (z8 t (m+1) (t.probeStart h)))) Q E s:=by
    rw[ZH k2];dsimp only;refine Za (wpAny_holding (hq i k2 hh _ ?_));refine Za (wpAny_setState_of ho hd T.fits ?_);dsimp only;cases hs:same es[i].2 with
    |true =>
     simp -iota only[Bool.and_self,if_true];exact Zb (hit i k2 hh hs)
    |false =>
     simp -iota only[Bool.and_false,ZO,if_false];have hsm:t.sameMemory t.moves t.mask=some true:=by unfold SetTable.sameMemory;rw[Zd (beq_self_eq_true _)]
     rw[hsm];dsimp only;simp -iota only[if_true];rw[c3];dsimp only;rw[ZH k2];dsimp only;obtain⟨b,hb⟩:=hr i k2;have his:∀{Q':Bool->Yz},Q' true s->YG prog w A (isSame es[i].2 es[i].2) Q' E s:=λ{Q'} hq'=>by
      rw[hb];unfold isSame;dsimp only;rw[Zd (beq_self_eq_true _)];exact Zb hq'
     refine Za (his ?_);simp -iota only[if_true];refine Za (Zb ?_);dsimp only;refine tM ho hd T hodd hq hr hsn he hoc hfr hit miss fuel (m+1) _ () () rfl λm' i' hi' hm' hl hh'=>?_;by_cases d1:m'<c
     .exact hno m' i' hi' d1 hl hh'
     .by_cases d2:m'=m
      .subst d2;rw[c3] at hl;cases hl;exact hs
      .exact Zn (by rw[nI hi'];exact hh') (c6 m' i' () () hl)
   cases hld:t.led with
   |true =>
    rw[Ze (by simp -iota)];exact rest
   |false =>
    rw[Zd (by simp -iota)];rcases hsn with z|hsn
    .rw[z] at hld;cases hld
    .refine Za (hsn _ ?_);rw[Ze (by simp -iota)];exact rest
  .have em:=hmet.symm.trans c1;subst em;dsimp only;refine Zb (miss λi hi hh=>?_);refine zc1b (here i hi hh) λm m1 m2=>?_;by_cases d1:m<c
   .exact hno m i hi d1 m2 hh
   .exact Zn (by rw[nI hi];exact hh) (c2 m i () m1 m2)
def search_ok {a:Addr}{o:Obj}{es:Array (Int×Value)}{ep:Nat}{t:YA}{x:Value}{h:Int}{same:Value->Bool}{Q:SetFound->Yz}
 (ho:s.heap.get? a=some o) (hd:o.data=.set es ep t) (T:TabOk t (es.map (·.1))) (hodd:t.mask % 2=1) (hm:t.mask<=9000)
 (hq:∀i (hi:i<es.size),es[i].1=h->∀Q:Bool->Yz,Q (same es[i].2) s->YG prog w A (eqBool es[i].2 x) Q E s)
 (hr:∀i (hi:i<es.size),∃b,es[i].2=.ref b)
 (hsn:t.led=true\/∀Q:Bool->Yz,Q false s->YG prog w A (searchCouldBeSeen x ((es.filter (·.1 == h)).toList.map (·.2))) Q E s)
 (hit:∀i (hi:i<es.size),es[i].1=h->same es[i].2=true->Q (.there none) s)
 (miss:(∀i (hi:i<es.size),es[i].1=h->same es[i].2=false)->∀y,y<=t.mask->¬occ t y->Way t (occ t) h y->Q (.free y false) s):
 YG prog w A (setSearch a x h true) Q E s:=by
 refine zc1c (first_free T h) λe he hoc hfr=>?_;have hj:(z8 t e (t.probeStart h)).j<=t.mask:=step_le (start_le t h) e;unfold setSearch;exact tM ho hd T hodd hq hr hsn he hoc hfr hit (λz=>miss z _ hj hfr ⟨e,rfl,hoc⟩) 100000 0 none (Nat.zero_le _) (by unfold SetTable.turns at he;omega) rfl λm i hi hm'=>Zn hm' (Z5 _)
open PySem
theorem rO:∀(fuel size n:Nat),size<=SetTable.sizeAbove.go n fuel size
 | 0,size,n=>by unfold SetTable.sizeAbove.go;exact Zf _
 |fuel+1,size,n=>by
  unfold SetTable.sizeAbove.go
  split
  .exact Zh () (rO fuel (size*2) n)
  .exact Zf _
def size_above_ge (n:Nat):8<=SetTable.sizeAbove n:=rO 64 8 n
def odd_of {m k:Nat}(h:m+1=2 ^ k)(h7:7<=m):m % 2=1:=by
 cases k with
 |zero=>rw[Nat.pow_zero] at h;omega
 |succ k=>rw[Nat.pow_succ] at h;omega
def order_perm {order:Yi}{n:Nat}(h1:∀k,k<order.size->order.getD k 0<n)(h2:∀k k',k<order.size->k'<order.size->order.getD k 0=order.getD k' 0->k=k')(h3:∀i,i<n->∃k,k<order.size/\order.getD k 0=i):order.toList.Perm (List.range n):=by
 have nd:order.toList.Nodup:=by
  unfold List.Nodup;rw[ZZ];intro i j hi hj hij e;have hi':i<order.size:=by simpa -iota using hi
  have hj':j<order.size:=by simpa -iota using hj
  have:=h2 i j hi' hj' (by rw[yf hi',yf hj'];simpa -iota using e);omega
 refine List.perm_iff_count.mpr λa=>?_;rw[nd.count,List.nodup_range.count];have:a∈order.toList↔a∈List.range n:=by
  rw[Z7];constructor
  .intro h;obtain⟨k,hk,e⟩:=Xd h;have hk':k<order.size:=by simpa -iota using hk
   have:=h1 k hk';rw[yf hk'] at this;have e:order[k]=a:=by simpa -iota using e
   omega
  .intro h;obtain⟨k,hk,e⟩:=h3 a h;rw[yf hk] at e;rw[<- e,XV];exact Array.getElem_mem hk
 simp -iota only[this]
def pick_all {α:Type}{es:Array α}{order:Yi}(d:α)(h1:∀k,k<order.size->order.getD k 0<es.size):(order.filterMap (es[·]?))=order.map λi=>es.getD i d:=by
 apply Array.toList_inj.mp;rw[Array.toList_filterMap,Array.toList_map];have:∀l:Yj,(∀i∈l,i<es.size)->l.filterMap (es[·]?)=l.map λi=>es.getD i d:=by
  intro l
  induction l with
  |nil=>intro _;rfl
  |cons i l ih =>
   intro h;rw[Xc,Zl,ZH (h i Zqs)];dsimp only;rw[ih λj hj=>h j (Zqm _ hj),yf (h i Zqs)]
 refine this _ λi hi=>?_;obtain⟨k,hk,e⟩:=Xd hi;have hk':k<order.size:=by simpa -iota using hk
 have:=h1 k hk';rw[yf hk'] at this;have e:order[k]=i:=by simpa -iota using e
 omega
structure SetIs (hp:Heap)(a:Addr)(es:Array (Int×Value))(t:YA):Prop where
 at_:∃ep,hp.get? a=some { cls:=.type "set",dict:=none,data:=.set es ep t,slots:=#[] }
 tab:TabOk t (es.map (·.1))
 seven:7<=t.mask
 most:t.mask<=8*es.size+7
 room:es.size*5<t.mask*3
 refs:∀i (hi:i<es.size),∃b,es[i].2=.ref b
def SetIs.odd {hp:Heap}{a:Addr}{es:Array (Int×Value)}{t:YA}(S:SetIs hp a es t):t.mask % 2=1:=by
 obtain⟨k,hk⟩:=S.tab.pow;exact odd_of hk S.seven
variable {prog:Program}{w:World}{A:Around}{E:Ya}{s:Shared}
def oS {hp:Heap}{a:Addr}{es es':Array (Int×Value)}{ep:Nat}{t t':YA}(ho:hp.get? a=some { cls:=.type "set",dict:=none,data:=.set es ep t,slots:=#[] }):
 (hp.update a (Obj.putSet es' t')).get? a=some { cls:=.type "set",dict:=none,data:=.set es' (ep+1) t',slots:=#[] }:=by
 have e:=putSet_of (o:={ cls:=.type "set",dict:=none,data:=.set es ep t,slots:=#[] }) es' t' rfl;have:=Heap.get?_update_self (Obj.putSet es' t') ho (by rw[e];rfl);rw[e] at this;exact this
def insertAt_map {α β: Type}(f:α -> β)(xs:Array α)(p:Nat)(x:α):(SetTable.insertAt xs p x).map f=SetTable.insertAt (xs.map f) p (f x):=by
 unfold SetTable.insertAt;simp -iota
def relay_ok {a:Addr}{es:Array (Int×Value)}{ep:Nat}{t:YA}{Q:Unit->Yz}
 (ho:s.heap.get? a=some { cls:=.type "set",dict:=none,data:=.set es ep t,slots:=#[] }) (T:TabOk t (es.map (·.1))) (hn:1<=es.size) (hl:es.size<=1000) (hr:∀i (hi:i<es.size),∃b,es[i].2=.ref b)
 (h:∀es' t',es'.toList.Perm es.toList->t'.led=t.led->t'.plain=t.plain->SetIs (s.heap.update a (Obj.putSet es' t')) a es' t'->Q Yt { s with heap:=s.heap.update a (Obj.putSet es' t') }):
 YG prog w A (setRelay a (SetTable.grown es.size)) Q E s:=by
 have hg:SetTable.grown es.size=es.size*4:=by unfold SetTable.grown;rw[Ze ()]
 have hle:=size_above_le (es.size*4);obtain⟨_,hgt⟩:=rW (n:=es.size*4) ();have hge:=size_above_ge (es.size*4);refine zc2a (relaid_ok (t:=t) (hs:=es.map (·.1)) (wanted:=es.size*4) (by rw[Z0];omega) ()) λt' order zz=>xf zz λe e1 e2 e3 zz=>xf zz λe4 e5 e6 e7 e8=>?_;rw[Z0] at e4 e5 e7;rw[hg];unfold setRelay;refine Za (wpAny_setState_of ho rfl T.fits ?_);dsimp only;rw[Ze (by rw[sizeLine_eq];omega)];rw[e];have pk:=pick_all (es:=es) (0,Value.none) e5;have psz:(order.filterMap (es[·]?)).size=es.size:=by rw[pk,Z0];exact e4
 have pm:(order.filterMap (es[·]?)).toList.Perm es.toList:=by
  rw[Array.toList_filterMap];exact((order_perm e5 e6 e7).filterMap _).trans (by rw[filterMap_getElem?_range])
 have ph:(order.filterMap (es[·]?)).map (·.1)=order.map λi=>(es.map (·.1)).getD i 0:=by
  rw[pk,Array.map_map];apply Array.map_congr_left;intro i hi;obtain⟨k,hk,ek⟩:=Array.getElem_of_mem hi;have:=e5 k hk;rw[yf hk,ek] at this;show(es.getD i (0,Value.none)).1=_;rw[yf this,mW this]
 have T':TabOk t' ((order.filterMap (es[·]?)).map (·.1)):=by rw[ph];exact e8
 have rf:∀i (hi:i<(order.filterMap (es[·]?)).size),∃b,(order.filterMap (es[·]?))[i].2=.ref b:=λi hi=>by
  have hm:(order.filterMap (es[·]?))[i]∈es.toList:=pm.mem_iff.mp (by rw[XV];exact Array.getElem_mem hi);obtain⟨j,hj,ej⟩:=Xd hm;have hj':j<es.size:=by simpa -iota using hj
  obtain⟨b,hb⟩:=hr j hj';refine⟨b,?_⟩;rw[<- ej];simpa -iota using hb
 have hne:¬((order.filterMap (es[·]?)).size != es.size)=true:=by rw[psz];simp -iota
 refine Za (wpAny_of_eq (a:=(order.filterMap (es[·]?),t')) ?_ ?_)
 .show(if((order.filterMap (es[·]?)).size != es.size)=true then _ else _)=_;rw[Ze hne]
 .dsimp only;generalize order.filterMap (es[·]?)=es' at psz pm T' rf ph;refine wpAny_storeSet_of ho rfl ?_ (by rw[sizeLine_eq];omega);refine h es' t' pm e1 e2 ⟨⟨ep+1,?_⟩,T',(),(),(),rf⟩;exact oS ho
def refs_perm {es es':Array (Int×Value)}(hr:∀i (hi:i<es.size),∃b,es[i].2=.ref b){x:Value}{h:Int}{b:Addr}(hx:x=.ref b)(pm:es'.toList.Perm (es.toList++[(h,x)])):∀i (hi:i<es'.size),∃b,es'[i].2=.ref b:=λi hi=>by
 have hm:es'[i]∈es.toList++[(h,x)]:=pm.mem_iff.mp (by rw[XV];exact Array.getElem_mem hi);rcases ZM.mp hm with z|z
 .obtain⟨j,hj,ej⟩:=Xd z;have hj':j<es.size:=by simpa -iota using hj
  obtain⟨b,hb⟩:=hr j hj';refine⟨b,?_⟩;rw[<- ej];simpa -iota using hb
 .rw[ZC.mp z];exact⟨b,hx⟩
def add_ok {a:Addr}{es:Array (Int×Value)}{t:YA}{x:Value}{b:Addr}{h:Int}{same:Value->Bool}{Q:Bool->Yz}
 (S:SetIs s.heap a es t) (hx:x=.ref b) (hl:es.size+1<=1000)
 (hq:∀i (hi:i<es.size),es[i].1=h->∀Q:Bool->Yz,Q (same es[i].2) s->YG prog w A (eqBool es[i].2 x) Q E s)
 (hsn:t.led=true\/∀Q:Bool->Yz,Q false s->YG prog w A (searchCouldBeSeen x ((es.filter (·.1 == h)).toList.map (·.2))) Q E s)
 (hbv:∀Q:Bool->Yz,Q true s->YG prog w A (hashByValue 8 x) Q E s)
 (hit:∀i (hi:i<es.size),es[i].1=h->same es[i].2=true->Q false s)
 (miss:(∀i (hi:i<es.size),es[i].1=h->same es[i].2=false)->∀h' es' t',Heap.SameBut a s.heap h'->SetIs h' a es' t'->es'.toList.Perm (es.toList++[(h,x)])->t'.led=t.led->t'.plain=t.plain->Q true { s with heap:=h' }):
 YG prog w A (setAddHashed a x h) Q E s:=by
 obtain⟨ep,ho⟩:=S.at_;have hm9:t.mask<=9000:=by have:=S.most;omega
 unfold setAddHashed setAddHashedIn;refine wpAny_holding (Za (wpAny_setState_of ho rfl S.tab.fits ?_));dsimp only;have hb:byScan x es=false:=by subst hx;rfl
 rw[hb];simp -iota only[ZO,if_false];refine Za (search_ok ho rfl S.tab S.odd hm9 hq S.refs hsn (λi hi h1 h2=>Zb (hit i hi h1 h2)) λhno y hy hf hw=>?_);dsimp only;refine Za (wpAny_setState_of ho rfl S.tab.fits ?_);dsimp only;have hsz:t.place.size=es.size:=by have:=S.tab.size;rwa [Z0] at this
 have hroom:=S.room;have hseven:=S.seven;refine x8 (put_ok S.tab hy hf hw ()) λT1 hp1 hm1=>?_;rw[Z0] at hp1;have ld1:(t.put y).1.led=t.led:=rfl;have pl1:(t.put y).1.plain=t.plain:=rfl;generalize hput:t.put y=tp at T1 hp1 hm1 ld1 pl1;obtain⟨t1,p⟩:=tp;dsimp only at T1 hp1 hm1 ld1 pl1 ⊢;have em:(SetTable.insertAt es p (h,x)).map (·.1)=SetTable.insertAt (es.map (·.1)) p h:=insertAt_map _ _ _ _;rw[<- em] at T1;have pm:(SetTable.insertAt es p (h,x)).toList.Perm (es.toList++[(h,x)]):=by
  have:=SetTable.insertAt_perm es p (h,x)
  rwa [Array.toList_push] at this
 have sz1:(SetTable.insertAt es p (h,x)).size=es.size+1:=xZ es hp1 _;have rf1:=refs_perm S.refs hx pm;generalize SetTable.insertAt es p (h,x)=es1 at T1 pm sz1 rf1;have tail:YG prog w A (do
  storeSet a es1 t1
  if !false&&t1.tooFull then setRelay a (SetTable.grown (es.size+1))
  return true) Q E s:=by
  refine Za (wpAny_storeSet_of ho rfl ?_ (by rw[sizeLine_eq];omega));have ho1:=oS (es':=es1) (t':=t1) ho;have sb1:=Heap.SameBut.update s.heap a (Obj.putSet es1 t1);by_cases c:t1.tooFull=true
  .rw[Zd (by rw[c];rfl)];rw[<- sz1];refine Za (relay_ok ho1 T1 () () rf1 λes2 t2 pm2 l2 p2 S2=>?_);refine Zb (miss hno _ es2 t2 (sb1.trans (Heap.SameBut.update _ a _)) S2 (pm2.trans pm) (l2.trans ld1) (p2.trans pl1))
  .rw[Ze (by simpa -iota using c)];have hfull:¬(t1.fill*5 ≥ t1.mask*3):=by
    intro z;exact c (by unfold SetTable.tooFull;exact Zp z)
   have hfl:t1.fill=es1.size:=by
    unfold SetTable.fill;have:=T1.size;rw[Z0] at this;rw[this,T1.nod];rfl
   have S1:SetIs (s.heap.update a (Obj.putSet es1 t1)) a es1 t1:=⟨⟨ep+1,ho1⟩,T1,(),by have:=S.most;omega,(),rf1⟩;exact Zb (miss hno _ es1 t1 sb1 S1 pm ld1 pl1)
 split
 .refine Za (hbv _ ?_);simp -iota only[if_true];exact tail
 .refine Za (Zb ?_);simp -iota only[if_true];exact tail
open PySem
variable {prog:Program}{w:World}{A:Around}{E:Ya}{s:Shared}
inductive HashAll (prog:Program)(w:World)(A:Around)(E:Ya)(s:Shared):Yf->List Int->Prop
 |nil:HashAll prog w A E s [] []
 |cons {v:Value} {vs:Yf} {h:Int} {hs:Yh}:(∀(tk:Nat) (Q:Int->Yz),(∀tk',tk<=tk'->Q h { s with toks:=tk' })->YG prog w A (pyHash v) Q E { s with toks:=tk })->HashAll prog w A E s vs hs->HashAll prog w A E s (v::vs) (h::hs)
noncomputable def mf (hs:Yh):Int:=reduceHash (Builtin.Tuple.tupleHashOf hs)
def mQ (ho:s.heap.get? a=some o)(hc:o.cls=.type "tuple")(hd:o.data=.seq items n)(hu:A.units<cLine)
 (H:HashAll prog w A.in1 E s items.toList hs) (h:∀tk,tk0<=tk->Q (mf hs) { s with toks:=tk }):YG prog w A (pyHash (.ref a)) Q E { s with toks:=tk0 }:=by
 have hT:Shared.TypeIs { s with toks:=tk0 } (.ref a) "tuple" := ⟨o,ho,hc⟩;unfold pyHash;refine W.pyHash_slot (T:= "tuple") hT F.slot_tuple_hash F.entry_tuple_hash (F.args_tuple_hash_1 _) (beq_builtin_none _) (.inr hu) ?_;show wpAny _ _ (Builtin.Tuple.tupleItemsOf (.ref a) >>= _) _ _ _;refine Za (wpAny_tupleItemsOf ho hd ?_);refine Za ?_;rw[<- Array.forIn_toList];refine wpAny_forIn_list _ (λrest (b:Array Int) s'=>∃left tk,HashAll prog w A.in1 E s rest left/\b.toList++left=hs/\s'={ s with toks:=tk }/\tk0<=tk) _ ?_ ?_ _ _ ⟨hs,tk0,H,rfl,rfl,Zf _⟩
 .rintro x rest b s' ⟨left,tk,hl,hb,rfl,hle⟩;cases hl with
  |cons h1 hl' =>
   refine Za (h1 tk _ λtk' hle'=>?_);exact Zb ⟨_,tk',hl',by simp -iota [<- hb],rfl,Zh hle hle'⟩
 .rintro b s' ⟨left,tk,hl,hb,rfl,hle⟩;cases hl;rw[Zz] at hb;show wpAny _ _ (retInt (Builtin.Tuple.tupleHashOf b.toList)) _ _ _;rw[hb];exact Za (wpAny_mkInt (Zb ⟨_,_,rfl,h _ (XR hle)⟩))
theorem pM:∀{vs:Yf} {ns:Yh},PyProof.Rows.IntsAre vs ns->HashAll prog w A E s vs (ns.map hashInt)
 |_,_,.nil=>.nil
 |_,_,.cons n t r=>.cons (λtk Q h=>wpAny_pyHash_int (h _ (Nat.le_succ tk))) (pM r)
inductive PlainV (hp:Heap):Nat->Value->Prop
 |int (n:Nat) (i:Int) (t:Tok):PlainV hp n (.int i t)
 |tup {n:Nat} {a:Addr} {o:Obj} {items:Yn} {k:Nat}:hp.get? a=some o->o.cls=.type "tuple" -> o.data=.seq items k->(∀v∈items.toList,PlainV hp n v)->PlainV hp (n+1) (.ref a)
def byValue_plain (p:PlainV s.heap n v):∀(d:Nat) (Q:Bool->Yz),n<=d->Q true s->YG prog w A (hashByValue d v) Q E s:=by
 induction p with
 |int n i t =>
  intro d Q _ h;cases d<;>exact Zb h
 |tup ho hc hd _ ih =>
  intro d Q hn h;cases d with
  |zero=>omega
  |succ d =>
   have hT:Shared.TypeIs s (.ref _) "tuple" := ⟨_,ho,hc⟩;unfold hashByValue;refine Za (wpAny_specialOf hT F.slot_tuple_hash.lookup ?_);dsimp only;refine Za (wpAny_seqItems ho hd ?_);refine Za ?_;show wpAny _ _ (forIn _ _ _) _ _ _;rw[Option.getD_some,<- Array.forIn_toList];refine wpAny_forIn_list _ (λrest r s'=>r.1=none/\s'=s/\∀v∈rest,v∈_) _ ?_ ?_ _ _ ⟨rfl,rfl,λv hv=>hv⟩
   .rintro x rest r s' ⟨hr,rfl,hm⟩;refine Za (ih x (hm x Zqs) d _ () ?_);simp -iota only[XM,ZO,if_false];exact Zb ⟨rfl,rfl,λv hv=>hm v (Zqm _ hv)⟩
   .rintro⟨r1,r2⟩ s' ⟨hr,rfl,_⟩;simp -iota only at hr;subst hr;exact Zb h
def sP (p:PlainV s.heap n v):∀(d:Nat) (Q:Bool->Yz),n<=d->Q true s->YG prog w A (eqIsQuiet d v) Q E s:=by
 induction p with
 |int n i t =>
  intro d Q _ h;exact wpAny_of_eq (eqIsQuiet_byValue d rfl) h
 |tup ho hc hd _ ih =>
  intro d Q hn h;cases d with
  |zero=>omega
  |succ d =>
   have hT:Shared.TypeIs s (.ref _) "tuple" := ⟨_,ho,hc⟩;unfold eqIsQuiet;refine Za (wpAny_specialOf hT F.slot_tuple_eq.lookup ?_);dsimp only;refine Za (wpAny_isInstance hT isSubtype_tuple_tuple ?_);simp -iota only[XM,ZO,if_false];refine Za (wpAny_seqItems ho hd ?_);refine Za ?_;show wpAny _ _ (forIn _ _ _) _ _ _;rw[Option.getD_some,<- Array.forIn_toList];refine wpAny_forIn_list _ (λrest r s'=>r.1=none/\s'=s/\∀v∈rest,v∈_) _ ?_ ?_ _ _ ⟨rfl,rfl,λv hv=>hv⟩
   .rintro x rest r s' ⟨hr,rfl,hm⟩;refine Za (ih x (hm x Zqs) d _ () ?_);simp -iota only[XM,ZO,if_false];exact Zb ⟨rfl,rfl,λv hv=>hm v (Zqm _ hv)⟩
   .rintro⟨r1,r2⟩ s' ⟨hr,rfl,_⟩;simp -iota only at hr;subst hr;exact Zb h
def sw (p:PlainV s.heap n v):∀(d:Nat) (Q:Bool->Yz),n<=d->Q false s->YG prog w A (ofAClassStatement d v) Q E s:=by
 induction p with
 |int n i t =>
  intro d Q _ h;cases d<;>exact Zb h
 |tup ho hc hd _ ih =>
  intro d Q hn h;cases d with
  |zero=>omega
  |succ d =>
   have hT:Shared.TypeIs s (.ref _) "tuple" := ⟨_,ho,hc⟩;unfold ofAClassStatement;refine Za (wpAny_typeOf hT ?_);dsimp only;rw[Zd (by decide)];refine Za (Zb ?_);simp -iota only[XM,ZO,if_false];refine Za (wpAny_seqItems ho hd ?_);dsimp only;refine Za ?_;show wpAny _ _ (forIn _ _ _) _ _ _;rw[<- Array.forIn_toList];refine wpAny_forIn_list _ (λrest r s'=>r.1=none/\s'=s/\∀v∈rest,v∈_) _ ?_ ?_ _ _ ⟨rfl,rfl,λv hv=>hv⟩
   .rintro x rest r s' ⟨hr,rfl,hm⟩;refine Za (ih x (hm x Zqs) d _ () ?_);simp -iota only[ZO,if_false];exact Zb ⟨rfl,rfl,λv hv=>hm v (Zqm _ hv)⟩
   .rintro⟨r1,r2⟩ s' ⟨hr,rfl,_⟩;simp -iota only at hr;subst hr;exact Zb h
def unseen_plain (hn:n<=8)(px:PlainV s.heap n x)(py:∀y∈ys,PlainV s.heap n y)(h:Q false s):YG prog w A (searchCouldBeSeen x ys) Q E s:=by
 unfold searchCouldBeSeen;refine Za ?_;refine wpAny_forIn_list _ (λrest r s'=>r.1=none/\s'=s/\∀v∈rest,v∈ys) _ ?_ ?_ _ _ ⟨rfl,rfl,λv hv=>hv⟩
 .rintro y rest r s' ⟨hr,rfl,hm⟩;have hy:=py y (hm y Zqs);have nx:∀v∈rest,v∈ys:=λv hv=>hm v (Zqm _ hv);dsimp only
  split
  all_goals
   split
   .exact Zb ⟨rfl,rfl,nx⟩
   .refine Za (sP px 8 _ hn ?_);simp -iota only[XM,ZO,if_false];refine Za (sP hy 8 _ hn ?_);simp -iota only[XM,ZO,if_false];refine Za (sw px 8 _ hn ?_);simp -iota only[ZO,if_false];refine Za (sw hy 8 _ hn ?_);simp -iota only[ZO,if_false];exact Zb ⟨rfl,rfl,nx⟩
 .rintro⟨r1,r2⟩ s' ⟨hr,rfl,_⟩;simp -iota only at hr;subst hr;exact Zb h
structure KeyFam (prog:Program)(w:World)(hp:Heap)(PV:Value->Prop)(hsh:Value->Int)(same:Value->Value->Bool):Prop where
 ref:∀v,PV v->∃b,v=.ref b
 plain:∀v,PV v->PlainV hp 8 v
 hash:∀v,PV v->∀(A:Around) (E:Ya) (s:Shared) (Q:Int->Yz),(∀b o,hp.get? b=some o->s.heap.get? b=some o)->A.units+8<cLine->(∀tk,s.toks<=tk->Q (hsh v) { s with toks:=tk })->YG prog w A (pyHash v) Q E s
 eq:∀v u,PV v->PV u->∀(A:Around) (E:Ya) (s:Shared) (Q:Bool->Yz),(∀b o,hp.get? b=some o->s.heap.get? b=some o)->A.units+8<cLine->Q (same v u) s->YG prog w A (eqBool v u) Q E s
 coh:∀v u,PV v->PV u->same v u=true->hsh v=hsh u
def PlainV.keep (k:∀b o,hp.get? b=some o->hp'.get? b=some o)(p:PlainV hp n v):PlainV hp' n v:=by
 induction p with
 |int n i t=>exact .int n i t
 |tup ho hc hd _ ih=>exact .tup (k _ _ ho) hc hd ih
noncomputable def oy (same:Value->Value->Bool)(D:Yf)(v:Value):Yf:=if D.any (same · v) then D else D++[v]
def iM (same:Value->Value->Bool)(val:Nat->Value)(i:Nat):Yf:=((List.range i).map val).foldl (oy same) []
def vA (same:Value->Value->Bool)(val:Nat->Value)(i:Nat):iM same val (i+1)=oy same (iM same val i) (val i):=by
 unfold iM;rw[List.range_succ,ZV,XX];rfl
theorem lL (same:Value->Value->Bool)(val:Nat->Value):∀i,(iM same val i).length<=i
 | 0=>Zf _
 |i+1=>by
  have:=lL same val i;rw[vA];unfold oy
  split
  .omega
  .rw[ZG,Z4];omega
theorem q9 (same:Value->Value->Bool)(val:Nat->Value):∀i v,v∈iM same val i->∃j,j<i/\v=val j
 | 0,v,h=>by cases h
 |i+1,v,h=>by
  rw[vA] at h;unfold oy at h
  split at h
  .refine zc1b (q9 same val i v h) λj hj e=>?_;exact⟨j,(),e⟩
  .rcases ZM.mp h with z|z
   .refine zc1b (q9 same val i v z) λj hj e=>?_;exact⟨j,(),e⟩
   .exact⟨i,(),ZC.mp z⟩
noncomputable def Holds (hsh:Value->Int)(hp:Heap)(S:Addr)(ld:Bool)(D:Yf):Prop:=∃es t,SetIs hp S es t/\es.toList.Perm (D.map λv=>(hsh v,v))/\t.led=ld/\t.plain=true
section
variable {prog:Program}{w:World}{A:Around}{E:Ya}{s:Shared}
def add_holds {hp:Heap}{PV:Value->Prop}{hsh:Value->Int}{same:Value->Value->Bool}(K:KeyFam prog w hp PV hsh same){S:Addr}{ld:Bool}{D:Yf}{x:Value}{Q:Bool->Yz}
 (hk:∀b o,hp.get? b=some o->s.heap.get? b=some o) (hu:A.units+8<cLine) (H:Holds hsh s.heap S ld D) (hD:∀v∈D,PV v) (hx:PV x) (hl:D.length<=999)
 (h:∀h' b,Heap.SameBut S s.heap h'->Holds hsh h' S ld (oy same D x)->Q b { s with heap:=h' }):YG prog w A (setAddHashed S x (hsh x)) Q E s:=by
 refine zc2d H λes t SI pm hld hpl=>?_;obtain⟨b,hb⟩:=K.ref x hx;have hlen:es.size=D.length:=by
  have:=pm.length_eq;rw[Zql,ZN] at this;exact this
 have ent:∀i (hi:i<es.size),es[i].2∈D/\es[i].1=hsh es[i].2:=λi hi=>by
  have hm:es[i]∈D.map λv=>(hsh v,v):=pm.mem_iff.mp (by rw[XV];exact Array.getElem_mem hi);refine zc1b (ZD.mp hm) λv hv e=>?_;rw[<- e];exact⟨hv,rfl⟩
 have back:∀v∈D,∃i,∃hi:i<es.size,es[i]=(hsh v,v):=λv hv=>by
  have hm:(hsh v,v)∈es.toList:=pm.mem_iff.mpr (ZD.mpr ⟨v,hv,rfl⟩);obtain⟨i,hi,e⟩:=Xd hm;exact⟨i,by simpa using hi,by simpa using e⟩
 have px:=(K.plain x hx).keep hk;refine add_ok (same:=λy=>same y x) SI hb () (λi hi _ Q' hq=>K.eq _ _ (hD _ (ent i hi).1) hx A E s Q' hk hu hq) (.inr λQ' hq=>?_) (λQ' hq=>byValue_plain px 8 Q' (Zf _) hq) (λi hi h1 h2=>?_) λhno h' es' t' sb S' pm' l' p'=>?_
 .refine unseen_plain (Zf 8) px (λy hy=>?_) hq;refine zc1b (ZD.mp hy) λe he zr2=>?_;subst zr2;have he:e∈es:=by
   have:=XV.mp he;exact(Array.mem_filter.mp this).1
  obtain⟨i,hi,rfl⟩:=Array.getElem_of_mem he;exact(K.plain _ (hD _ (ent i hi).1)).keep hk
 .have e:oy same D x=D:=Zd (ZP.mpr ⟨_,(ent i hi).1,h2⟩);have:=h s.heap false (Heap.SameBut.refl S s.heap) ⟨es,t,SI,by rw[e];exact pm,hld,hpl⟩;exact this
 .have e:oy same D x=D++[x]:=Ze λz=>by
   refine zc1b (ZP.mp z) λv hv hs=>?_;obtain⟨i,hi,ei⟩:=back v hv;have:=hno i hi (by rw[ei];exact K.coh v x (hD v hv) hx hs);rw[ei] at this;rw[hs] at this;cases this
  refine h h' true sb ⟨es',t',S',?_,l'.trans hld,p'.trans hpl⟩;rw[e,ZV];exact pm'.trans (pm.append_right _)
end
section
variable {prog:Program}{w:World}{A:Around}{R:Result->Yz}{I:Addr}{fp wr:Yl}{G:Array GenState->Array GenState->Prop}{n:Nat}{P:Nat->Value->Prop}{St:Nat->Yz}
def Holds.keep {hsh:Value->Int}{hp hp':Heap}{S:Addr}{ld:Bool}{D:Yf}(H:Holds hsh hp S ld D)(k:∀o,hp.get? S=some o->hp'.get? S=some o):Holds hsh hp' S ld D:=by
 refine zc2b H λes t SI r=>?_;obtain⟨ep,ho⟩:=SI.at_;exact⟨es,t,⟨⟨ep,k _ ho⟩,SI.tab,SI.seven,SI.most,SI.room,SI.refs⟩,r⟩
def set_loop (W:WalksS prog w A.in1 I fp wr G n P St)(S:Addr)(hSf:S∉fp)(hpw:∀b o,hp.get? b=some o->b∉wr/\b≠S)
 {PV:Value->Prop} {hsh:Value->Int} {same:Value->Value->Bool} (K:KeyFam prog w hp PV hsh same) (val:Nat->Value) (hval:∀i v,P i v->v=val i) (hPV:∀i,i<n->PV (val i)) (hn:n<=999) (hu:A.in1.units+8<cLine) (ld:Bool):
 ∀(k i:Nat) (s:Shared),n-i=k->i<=n->St i s->(∀b o,hp.get? b=some o->s.heap.get? b=some o)->Holds hsh s.heap S ld (iM same val i) ->
  (∀s',Moved (S::wr) G s s'->Holds hsh s'.heap S ld (iM same val n)->R (.ok (.ret .none)) s') ->
  codeAny (model prog w) A (.builtin "set.update.loop" ⟨[.ref S,.ref I],[]⟩) R s:=by
 have hSw:S∉wr:=λh=>hSf (W.sub _ h);have hsub:∀b∈wr,b∈S::wr:=λb hb=>Zqm _ hb;intro k
 induction k with
 |zero =>
  intro i s hk hi hst hkp H hR;have hin:i=n:=()
  subst hin;refine codeAny_builtin F.entry_set_update_loop ?_;rw[Around.under_plainId F.plain_set_update_loop _];show wpAny _ A.in1 (pyNext (.ref I) >>= _) _ _ s;refine Za (W.done s _ _ hst λs' hm=>?_);show wpAny _ A.in1 (ret Value.none) _ _ s';exact Zb (hR s' (hm.mono hsub) (H.keep λo e=>hm.heap S _ hSw e))
 |succ k ih =>
  intro i s hk hi hst hkp H hR;have hlt:i<n:=()
  refine codeAny_builtin F.entry_set_update_loop ?_;rw[Around.under_plainId F.plain_set_update_loop _];show wpAny _ A.in1 (pyNext (.ref I) >>= _) _ _ s;refine Za (W.item i s _ _ hlt hst λv s' hP hst' hm=>?_);have ev:=hval i v hP;have H':=H.keep (hp':=s'.heap) λo e=>hm.heap S _ hSw e;have hkp':∀b o,hp.get? b=some o->s'.heap.get? b=some o:=λb o e=>hm.heap b o (hpw b o e).1 (hkp b o e);have hv:PV v:=by rw[ev];exact hPV i hlt
  show wpAny _ A.in1 (holding [v] (setAdd S v) >>= _) _ _ s';refine Za (wpAny_holding ?_);unfold setAdd;refine wpAny_holding ?_;refine Za (K.hash v hv _ _ _ _ hkp' hu λtk htk=>?_);have hl:=lL same val i;refine add_holds K (s:={ s' with toks:=tk }) hkp' hu H' (λu hu'=>?_) hv () λh' b hsb H2=>?_
  .refine zc1b (q9 same val i u hu') λj hj e=>?_;rw[e];exact hPV j ()
  .rw[ev,<- vA] at H2;refine Zb ⟨plainId_quiet F.plain_set_update_loop _,ih (i+1) _ (by rw[Nat.sub_succ,hk];rfl) hlt (W.frame _ s' _ _ hst' ?_ λb hb o e=>?_) (λb o e=>?_) H2 λs'' hm'' H''=>?_⟩
   .exact htk
   .rw[hsb.2 b (λh:b=S=>hSf (by rw[<- h];exact hb))];exact e
   .rw[hsb.2 b (hpw b o e).2];exact hkp' b o e
   .refine hR s'' (Moved.trans W.gtrans ((hm.mono hsub).then_heap ?_ λb o hb e=>?_) hm'') H''
    .exact htk
    .rw[hsb.2 b (λh:b=S=>hb (by rw[h];exact Zqs))];exact e
end
def fresh_tab (led:Bool):TabOk (SetTable.fresh 0 0 led) ((#[]:Array (Int×Value)).map (·.1)):=by
 refine⟨by rw[Z0];rfl,λi j _ h=>Zn h (Z5 _),λi h=>Zn h (Z5 _),rfl,⟨3,rfl⟩,Nat.zero_le _,λi h=>Zn h (Z5 _)⟩
def fresh_holds (ho:hp.get? S=some { cls:=.type "set",dict:=none,data:=.set #[] 0 (.fresh 0 0 led) }):Holds hsh hp S led []:=
 ⟨#[],.fresh 0 0 led,⟨⟨0,ho⟩,fresh_tab led,Zf _,Zf _,(show 0*5<7*3 by decide),λi h=>Zn h (Z5 _)⟩,List.Perm.refl _,rfl,rfl⟩
section
variable {prog:Program}{w:World}{A:Around}{E:Ya}{s:Shared}
noncomputable def eO (w:World):Bool:=!w.params.followText "set-order"
def code_set_led (a:Value)
 (h:Q₁ (.ref s.heap.objs.size) { s with heap:=s.heap.push { cls:=.type "set",dict:=none,data:=.set #[] 0 (.fresh 0 0 (eO w)) } }):
 codeAny (model prog w) A (.call (.builtin "set.__new__") ⟨[.type "set",a],[]⟩) (wants Q₁ E) s:=by
 refine codeAny_of_tree ?_;show wpAny _ A.in1 (do checkBuiltinCall "set.__new__" ⟨[.type "set",a],[]⟩;again (.builtin "set.__new__" ⟨[.type "set",a],[]⟩)) _ _ s;refine Za (wpAny_of_eq (F.newCall_set_1 a) (Zb ⟨plainId_quiet F.plain_set_new _,codeAny_builtin F.entry_set_new ?_⟩));rw[Around.under_plainId F.plain_set_new _];unfold Builtin.«set.__new__» Builtin.Frozenset.newClass;have hsub:=sub_set_self;obtain⟨hp,g,d,tk,os⟩:=s;dsimp only
 wp_walk
 refine wpAny_askSetting (Zb ?_);dsimp only;simp only[newObj];refine Za (wpAny_alloc (Zb ?_));exact Zb h
set_option maxRecDepth 100000 in
set_option maxHeartbeats 3200000 in
def call_set_fam {l:Addr}{items:Yn}{PV:Value->Prop}{hsh:Value->Int}{same:Value->Value->Bool}{Q:Ya}(hh:A.handled=none)(hl:s.heap.IsList l items)(K:KeyFam prog w s.heap PV hsh same)
 (hPV:∀(i:Nat) (v:Value),items[i]? = some v->PV v) (hn:items.size<=999) (hu:A.in1.in1.in1.units+8<cLine)
 (h:∀(h':Heap) (tk:Nat),Holds hsh h' s.heap.objs.size (eO w) (iM same (λi=>items.getD i .none) items.size)->(∀b o,b<s.heap.objs.size->s.heap.get? b=some o->h'.get? b=some o)->Q (.ref s.heap.objs.size) { s with heap:=h',toks:=tk }):
 YG prog w A (call (.type "set") [.ref l]) Q E s:=by
 have cn:=λA:Around=>code_set_led (prog:=prog) (w:=w) (A:=A) (E:=E) (s:=s) (.ref l) (Q₁:=λobj s₁=>obj=.ref s.heap.objs.size/\s₁={ s with heap:=s.heap.push { cls:=.type "set",dict:=none,data:=.set #[] 0 (.fresh 0 0 (eO w)) } }) ⟨rfl,rfl⟩;generalize eO w=led at h cn;refine zc2a F.called_set.mro λc tl hmro=>?_;have hmade:=F.called_set.made;have hsub:=F.called_set.sub;refine wpAny_call (codeAny_of_tree ?_);show wpAny _ _ (callAny (.type "set") _) _ _ _;refine Zb ⟨Code.quiet_builtin _ (by decide +kernel),codeAny_builtin F.entry_type_call ?_⟩;rw[Around.under_plain (weight_type_call_type "set" [.ref l] []) rfl];have h1:=F.called_set.notType;have h2:=F.called_set.canCreate;have hct:=F.typeCall_set_1 (.ref l)
 repeat (any_goals (first|assumption|wp_step))
 refine codeAny_mono (cn _) λr s₁ hr=>?_;cases r with
 |error e=>exact hr
 |ok fl =>
  cases fl with
  |ret obj =>
   obtain⟨rfl,rfl⟩:=hr;generalize hno:({ cls:=.type "set",dict:=none,data:=.set #[] 0 (.fresh 0 0 led) }:Obj)=no at *;have hS:(s.heap.push no).get? s.heap.objs.size=some no:=Zr _ (by rw[<- hno];rfl);have hT:Shared.TypeIs { s with heap:=s.heap.push no } (.ref s.heap.objs.size) "set" := ⟨_,hS,by rw[<- hno]⟩;have hli:=F.called_set.init.lookup;have hbi:=F.called_set.init.bind (.ref s.heap.objs.size)
   repeat (any_goals (first|assumption|wp_step))
   refine codeAny_mono (codeAny_call_builtin (R:=wants (λr s₂=>r=.none/\∃h' tk,s₂={ s with heap:=h',toks:=tk }/\Holds hsh h' s.heap.objs.size led (iM same (λi=>items.getD i .none) items.size) /\
    (∀b o,b<s.heap.objs.size->s.heap.get? b=some o->h'.get? b=some o)) E) F.called_set.init.plain F.entry_set_init (check_set_init_1 hT ?_)) λr₂ s₂ hr₂=>?_
   .refine zc1c hl λol hol hcl zz=>zc1a zz λnl hdl=>?_;obtain⟨ocls,odict,odata,oslots⟩:=ol;simp only at hcl hdl;subst hcl;subst hdl;have hol':(s.heap.push no).get? l=some { cls:=.type "list",dict:=odict,data:=.seq items nl,slots:=oslots }:=Zq _ hol;have hsls:=F.sub_list_set;have hslf:=F.sub_list_frozenset;have hne:(Value.type "list" == Value.type "dict")=false:=by decide
    have hl1:(s.heap.push no).IsList l items:=⟨_,hol',rfl,nl,rfl⟩;subst hno;unfold Builtin.«set.__init__» noKeywords Builtin.Frozenset.updateFrom;generalize hPI:pyIter=PI
    wp_walk
    subst hPI;refine wpAny_pyIter_list hl1 ?_;refine Za (wpAny_runValue ?_);have hlS:l<s.heap.objs.size:=Zk hol;have hh3:A.in1.in1.in1.handled=none:=by simp[hh]
    generalize hno:({ cls:=.type "set",dict:=none,data:=.set #[] 0 (.fresh 0 0 led) }:Obj)=no at *;have szp:(s.heap.push no).objs.size=s.heap.objs.size+1:=Heap.size_push ..;have hneI:l≠(s.heap.push no).objs.size:=by rw[szp];exact Zi (Xa hlS)
    have hSf:s.heap.objs.size ∉ [(s.heap.push no).objs.size,l]:=by
     simp only[ZF,List.not_mem_nil,or_false,not_or];exact⟨by rw[szp];exact Zi (Xm _),Nat.ne_of_gt hlS⟩
    have hw:∀(i:Nat) (v:Value),items[i]? = some v->v=(λi=>items.getD i .none) i:=λi v hv=>by
     show v=items.getD i .none;rw[Z1,hv];rfl
    refine set_loop ((Walks.list hh3 _ l hneI items).toS) s.heap.objs.size hSf (hp:=s.heap) (λb o e=>?_) K (λi=>items.getD i .none) hw (λi hi=>?_) hn (by exact hu) led (items.size-0) 0 _ () (Nat.zero_le _)
     ⟨⟨_,Zr _ rfl,rfl,rfl⟩,(hl1.push _)⟩ (λb o e=>Zq _ (Zq _ e)) (fresh_holds (by rw[hno];exact Zq _ hS)) λs' hm H'=>?_
    .have hb:=Zk e;refine⟨?_,Zi hb⟩;simp only[ZF,List.not_mem_nil,or_false];rw[szp];exact Zi (Xa hb)
    .exact hPV i _ (by show items[i]? = some (items.getD i .none);rw[yf hi,ZH hi])
    .obtain⟨h',g',d',tk',os'⟩:=s';have eg:g'=s.gens:=hm.gens;have ed:d'=s.drawn:=hm.drawn;have eo:os'=s.os:=hm.os;subst eg;subst ed;subst eo;show wpAny _ _ _ _ _ _;refine Zb ?_;show wpAny _ _ (ret Value.none) _ _ _;refine Zb ⟨rfl,h',tk',rfl,H',λb o hb e=>?_⟩;exact hm.heap b o (by simp only[ZF,List.not_mem_nil,or_false,not_or];exact⟨Zi hb,by rw[szp];exact Zi (Xa hb)⟩) (Zq _ (Zq _ e))
   .cases r₂ with
    |error e=>exact hr₂
    |ok fl₂ =>
     cases fl₂ with
     |ret r =>
      refine wx hr₂ λzr0 zz=>zc2c zz λh' tk zr3 hS' hk'=>?_;subst zr0;subst zr3
      repeat (any_goals (first|assumption|wp_step))
      exact h _ _ hS' hk'
     |_=>exact hr₂.elim
  |_=>exact hr.elim
end
noncomputable def tK (p:Int×Int):PyData:=.tuple [.int p.1,.int p.2]
def gQ (r:X6):PyData:=.tuple (r.map tK)
def lV (p:Int×Int):Int:=mf ([p.1,p.2].map hashInt)
def iz (r:X6):Int:=mf (r.map lV)
noncomputable def v8 (hp:Heap)(v:Value)(p:Int×Int):Prop:=∃a o vs n t u,v=.ref a/\hp.get? a=some o/\o.cls=.type "tuple" /\ o.data=.seq vs n/\vs.toList=[.int p.1 t,.int p.2 u]
inductive IsPairs (hp:Heap):Yf->X6->Prop
 |nil:IsPairs hp [] []
 |cons {v vs p r}:v8 hp v p->IsPairs hp vs r->IsPairs hp (v::vs) (p::r)
noncomputable def vk (hp:Heap)(v:Value)(r:X6):Prop:=∃a o vs n,v=.ref a/\hp.get? a=some o/\o.cls=.type "tuple" /\ o.data=.seq vs n/\IsPairs hp vs.toList r
def pair_reads (h:v8 hp v p):Reads hp v (tK p) []:=by
 refine zc4a h λa o vs n zz=>zc2a zz λt u zz=>xf zz λzr6 h1 h2 h3 h4=>?_;subst zr6;refine .tuple h1 h2 h3 ?_;rw[h4];exact .cons (as:=[]) (bs:=[]) (.int _ _) (.cons (as:=[]) (bs:=[]) (.int _ _) .nil)
def pairs_reads:∀{vs:Yf} {r:X6},IsPairs hp vs r->ReadsAll hp vs (r.map tK) []:=λh=>by
 induction h with
 |nil=>exact .nil
 |cons h1 _ ih=>exact .cons (as:=[]) (bs:=[]) (pair_reads h1) ih
def og (h:vk hp v r):Reads hp v (gQ r) []:=by
 refine zc4a h λa o vs n zz=>xf zz λzr4 h1 h2 h3 h4=>?_;subst zr4;exact .tuple h1 h2 h3 (pairs_reads h4)
def v8.keep (k:∀b o,hp.get? b=some o->hp'.get? b=some o)(h:v8 hp v p):v8 hp' v p:=by
 refine zc4a h λa o vs n zz=>zc2c zz λt u e h1 r=>?_;exact⟨a,o,vs,n,t,u,e,k _ _ h1,r⟩
theorem IsPairs.keep (k:∀b o,hp.get? b=some o->hp'.get? b=some o)(h:IsPairs hp vs r):IsPairs hp' vs r:=by
 induction h with
 |nil=>exact .nil
 |cons h1 _ ih=>exact .cons (h1.keep k) ih
theorem vk.keep (k:∀b o,hp.get? b=some o->hp'.get? b=some o)(h:vk hp v r):vk hp' v r:=by
 refine zc4a h λa o vs n zz=>xf zz λe h1 h2 h3 h4=>?_;exact⟨a,o,vs,n,e,k _ _ h1,h2,h3,h4.keep k⟩
def pair_plain (h:v8 hp v p)(n:Nat):PlainV hp (n+1) v:=by
 refine zc4a h λa o vs k zz=>zc2a zz λt u zz=>xf zz λzr6 h1 h2 h3 h4=>?_;subst zr6;refine .tup h1 h2 h3 λx hx=>?_;rw[h4] at hx;rcases ZF.mp hx with e|e
 .rw[e];exact .int _ _ _
 .rw[ZC.mp e];exact .int _ _ _
def row_plain (h:vk hp v r)(n:Nat):PlainV hp (n+2) v:=by
 obtain⟨a,o,vs,k,rfl,h1,h2,h3,h4⟩:=h;refine .tup h1 h2 h3 ?_;generalize vs.toList=l at h4
 induction h4 with
 |nil=>intro x hx;cases hx
 |cons g1 _ ih =>
  intro x hx;rcases ZF.mp hx with e|e
  .rw[e];exact pair_plain g1 n
  .exact ih x e
section
variable {prog:Program}{w:World}{A:Around}{E:Ya}{s:Shared}
def hash_pairs (hu:A.units<cLine):∀{vs:Yf} {r:X6},IsPairs s.heap vs r->HashAll prog w A E s vs (r.map lV):=λh=>by
 induction h with
 |nil=>exact .nil
 |cons h1 _ ih =>
  refine .cons (λtk Q h=>?_) ih;refine zc4a h1 λa o vs n zz=>zc2a zz λt u zz=>xf zz λzr6 g1 g2 g3 g4=>?_;subst zr6;refine mQ g1 g2 g3 hu ?_ h;rw[g4];exact pM (.cons _ _ (.cons _ _ .nil))
def hash_row (hr:vk s.heap v r)(hu:A.units<cLine)(hu1:A.in1.units<cLine)(h:∀tk,s.toks<=tk->Q (iz r) { s with toks:=tk }):YG prog w A (pyHash v) Q E s:=by
 refine zc4a hr λa o vs n zz=>xf zz λzr4 g1 g2 g3 g4=>?_;subst zr4;have e:s={ s with toks:=s.toks }:=by cases s;rfl
 rw[e];exact mQ (tk0:=s.toks) g1 g2 g3 hu (hash_pairs hu1 g4) h
end
def pair_eqv (p q:Int×Int):PyData.eqv (tK p) (tK q)=decide (p=q):=by
 unfold tK PyData.eqv PyData.eqvAll PyData.eqvAll PyData.eqvAll PyData.eqv;obtain⟨a,b⟩:=p;obtain⟨c,d⟩:=q;rw[Xl];simp
theorem oz:∀r q:X6,PyData.eqvAll (r.map tK) (q.map tK)=decide (r=q)
 | [],[]=>by unfold List.map PyData.eqvAll;simp
 | [],_::_=>by rw[Zl,Xt];unfold PyData.eqvAll;simp
 |_::_,[]=>by rw[Zl,Xt];unfold PyData.eqvAll;simp
 |p::r,q::s=>by
  rw[Zl,Zl];unfold PyData.eqvAll;rw[pair_eqv,oz r s,Xl];simp
def row_eqv (r q:X6):PyData.eqv (gQ r) (gQ q)=decide (r=q):=by
 unfold gQ PyData.eqv;exact oz r q
theorem pV:∀r:X6,PyData.canLayAll0 (r.map tK)=true
 | []=>rfl
 |p::r=>by
  rw[Zl];unfold PyData.canLayAll0;rw[pV r];rfl
def iA (r:X6):(gQ r).canLay0=true:=pV r
theorem tS:∀r:X6,PyData.depthAll (r.map tK)<=1
 | []=>Nat.zero_le _
 |p::r=>by
  rw[Zl];unfold PyData.depthAll;have h1:(tK p).depth=1:=rfl;have h2:=tS r;rw[h1];omega
def row_depth (r:X6):(gQ r).depth<=2:=Nat.succ_le_succ (tS r)
def v8.inj (h:v8 hp v p)(h':v8 hp v q):p=q:=by
 refine zc4a h λa o vs n zz=>zc2a zz λt u zz=>xf zz λzr6 h1 h2 h3 h4=>?_;subst zr6;refine zc4a h' λa' o' vs' n' zz=>zc2a zz λt' u' zz=>xf zz λe k1 k2 k3 k4=>?_;cases e;rw[h1] at k1;obtain rfl:=Zqi k1;rw[h3] at k3;cases k3;rw[h4] at k4;simp only[List.cons.injEq,Value.int.injEq,and_true] at k4;exact Prod.ext k4.1.1 k4.2.1
theorem IsPairs.inj:∀{vs:Yf} {r q:X6},IsPairs hp vs r->IsPairs hp vs q->r=q:=λ{vs r q} g h=>by
 induction g generalizing q with
 |nil=>cases h;rfl
 |cons h1 _ ih =>
  cases h with
  |cons k1 k2=>rw[h1.inj k1,ih k2]
theorem vk.inj (h:vk hp v r)(h':vk hp v q):r=q:=by
 refine zc4a h λa o vs n zz=>xf zz λzr4 h1 h2 h3 h4=>?_;subst zr4;refine zc4a h' λa' o' vs' n' zz=>xf zz λe k1 k2 k3 k4=>?_;cases e;rw[h1] at k1;obtain rfl:=Zqi k1;rw[h3] at k3;cases k3;exact h4.inj k4
open Classical in
def gg (hp:Heap)(v:Value):X6:=if h:∃r,vk hp v r then h.choose else[]
def sG (h:vk hp v r):gg hp v=r:=by
 unfold gg;have e:∃r,vk hp v r:=⟨r,h⟩;rw[dif_pos e];exact e.choose_spec.inj h
def rows_fam (prog:Program)(w:World)(hp:Heap):KeyFam prog w hp (λv=>∃r,vk hp v r) (λv=>iz (gg hp v)) (λv u=>decide (gg hp v=gg hp u)) where
 ref:=by
  rintro v ⟨r,a,o,vs,n,e,_⟩;exact⟨a,e⟩
 plain:=by
  rintro v ⟨r,h⟩;exact row_plain h 6
 hash:=by
  rintro v ⟨r,h⟩ A E s Q hk hu hq;rw[sG h] at hq;exact hash_row (h.keep hk) () (show A.units+1<cLine from ()) hq
 eq:=by
  rintro v u ⟨r,h⟩ ⟨q,h'⟩ A E s Q hk hu hq;rw[sG h,sG h',<- row_eqv] at hq;have d1:=row_depth r;exact SeqAt.eqBoolOverData prog w A E s v u (gQ r) (gQ q) [] [] Q (og (h.keep hk)) (og (h'.keep hk)) (iA r) (iA q) () hq
 coh:=by
  intro v u _ _ h;rw[of_decide_eq_true h]
def yz:Slot "set_iterator" "__next__" "set_iterator.__next__" :=
 .of (owner:= "set_iterator") (n:= "__next__") (by rw[typeLookup_type,builtinLookup_eq_fast];kernel_rfl) (by decide +kernel) (by decide +kernel) (by decide +kernel)
  (by first|exact .inl (by decide +kernel)|exact .inr (by decide +kernel)) (by rw[isSubtype_type];kernel_rfl)
def vj:entryFor table "set_iterator.__next__" = some Builtin.«set_iterator.__next__»:=entryFor_of_tree (by kernel_rfl)
def oH:Manifest.owners.lookup (String.ofList ['r','o','t','a','r','e','t','i','_','t','e','s'].reverse)=some Manifest.sig_set_iterator:=by kernel_rfl
def vR (a:Value):argsOk "set_iterator.__next__" ⟨[a],[]⟩:=by
 unfold argsOk;rw[signature?_of (id:= "set_iterator.__next__") (n:=['_','_','t','x','e','n','_','_']) (o:=['r','o','t','a','r','e','t','i','_','t','e','s']) (by kernel_rfl) oH];kernel_rfl
def entry_set_iter:entryFor table "set.__iter__" = some Builtin.«frozenset.__iter__»:=entryFor_alias (id':= "frozenset.__iter__") (by kernel_rfl) rfl (by decide +kernel) (by kernel_rfl)
def vG:Slot "set_iterator" "__iter__" "set_iterator.__iter__" :=
 .of (owner:= "set_iterator") (n:= "__iter__") (by rw[typeLookup_type,builtinLookup_eq_fast];kernel_rfl) (by decide +kernel) (by decide +kernel) (by decide +kernel)
  (by first|exact .inl (by decide +kernel)|exact .inr (by decide +kernel)) (by rw[isSubtype_type];kernel_rfl)
def entry_sit_iter:entryFor table "set_iterator.__iter__" = some Builtin.«dict_keyiterator.__iter__» :=
 entryFor_alias (id':= "dict_keyiterator.__iter__") (by kernel_rfl) (by first|rfl|decide +kernel|(unfold String.splitOn;simp -iota +decide [String.splitOnAux])) (by decide +kernel) (by kernel_rfl)
def args_sit_iter (a:Value):argsOk "set_iterator.__iter__" ⟨[a],[]⟩:=by
 unfold argsOk;rw[signature?_of (id:= "set_iterator.__iter__") (n:=['_','_','r','e','t','i','_','_']) (o:=['r','o','t','a','r','e','t','i','_','t','e','s']) (by kernel_rfl) oH];kernel_rfl
abbrev eF (h:Heap)(it S:Addr)(slot i n ep:Nat):Prop:=h.get? it=some { cls:=.type "set_iterator",dict:=none,data:=.fields #[.int slot 0,.int i 0,.ref S,.int n 0,.int ep 0],slots:=#[] }
abbrev sO (es:Array (Int×Value))(ep:Nat)(t:YA):Obj:={ cls:=.type "set",dict:=none,data:=.set es ep t,slots:=#[] }
noncomputable def vN (w:World)(S ep:Nat)(es:Array (Int×Value)):Array (Int×Value):=if w.params.followText "set-order" then pickOrder (w.params.setOrder S ep) es else es
theorem jz {α:Type}(next:Nat->Nat):∀(fuel k:Nat) (left:List α) (out:Array α),left.length<=fuel->(pickOrder.go next fuel k left out).toList.Perm (out.toList++left)
 | 0,k,left,out,h=>by
  have:left=[]:=ZQ.mp ();subst this;unfold pickOrder.go;rw[Zz]
 |fuel+1,k,left,out,h=>by
  unfold pickOrder.go;cases q:left[next k % left.length]? with
  |none =>
   have hl:left.length=0:=by
    rcases Nat.eq_zero_or_pos left.length with z|z
    .exact z
    .have:=Nat.mod_lt (next k) z;rw[Zqg this] at q;cases q
   have:left=[]:=ZQ.mp hl;subst this;rw[Zz]
  |some x =>
   have hi:=(ZI.mp q).1;have ex:=(ZI.mp q).2;have hl:=List.length_eraseIdx_of_lt hi;refine(jz next fuel (k+1) _ _ ()).trans ?_;rw[Array.toList_push,ZJ];refine List.Perm.append_left _ ?_;have e1:left=left.take (next k % left.length)++x::left.drop (next k % left.length+1):=by
    have:=ZU hi;rw[ex] at this;rw[<- this,Xi]
   rw[List.eraseIdx_eq_take_drop_succ];refine List.Perm.trans ?_ (List.Perm.of_eq e1.symm);exact(List.perm_middle (l₁:=left.take (next k % left.length))).symm
def pick_perm {α:Type}(next:Nat->Nat)(es:Array α):(pickOrder next es).toList.Perm es.toList:=by
 unfold pickOrder;have:=jz next es.size 0 es.toList #[] (by simp -iota);simpa -iota using this
def pL (w:World)(S ep:Nat)(es:Array (Int×Value)):(vN w S ep es).toList.Perm es.toList:=by
 unfold vN
 split
 .exact pick_perm _ _
 .exact List.Perm.refl _
def tQ (w:World)(S ep:Nat)(es:Array (Int×Value)):(vN w S ep es).size=es.size:=by
 have:=(pL w S ep es).length_eq;simpa -iota using this
def below_next (u:UpA xs)(hi:i<xs.size):SetTable.below xs (xs[i]+1)=i+1:=by
 refine x8 (tf u (xs[i]+1)) λh1 h2 h3=>?_;have e:xs.getD i 0=xs[i]:=yf hi 0;rcases Xp (SetTable.below xs (xs[i]+1)) (i+1) with q|q|q
 .have:=h3 i () hi;omega
 .exact q
 .have a:=h2 (i+1) q;have b:=u i (i+1) () ();omega
def below_zero (xs:Yi)(u:UpA xs):SetTable.below xs 0=0:=by
 refine x8 (tf u 0) λh1 h2 h3=>?_;rcases Nat.eq_zero_or_pos (SetTable.below xs 0) with q|q
 .exact q
 .have:=h2 0 q;omega
section
variable {prog:Program}{w:World}{A:Around}{E:Ya}{s:Shared}
def iter_set (ho:s.heap.get? S=some (sO es ep t))(hf:t.fits es.size=true)(hp:t.plain=true)
 (hQ:Q (.ref s.heap.objs.size) { s with heap:=s.heap.push { cls:=.type "set_iterator",data:=.fields #[.int 0 0,.int 0 0,.ref S,.int es.size 0,.int ep 0] } }):YG prog w A (pyIter (.ref S)) Q E s:=by
 have hT:s.TypeIs (.ref S) "set" := ⟨_,ho,rfl⟩;refine wpAny_pyIter_slot hT F.slot_set_iter (wpAny_call_entry F.slot_set_iter hT entry_set_iter ?_ (F.args_set_iter_1 _));unfold Builtin.«frozenset.__iter__» Builtin.Frozenset.slot0 slotArgs;simp only[List.isEmpty_nil,XM,ZO,↓reduceIte,bind_assoc,ZB,bne_self_eq_false];unfold Builtin.Frozenset.addrOf Builtin.Frozenset.sizeOf;refine Za (Zb ?_)
 try dsimp only
 refine Za (Zb ?_);refine Za (Za (wpAny_setEntries_of ho rfl hf (Zb ?_)));have hd:wpAny (model prog w) A.in1 (setDrawn S) (λb s'=>b=false/\s'=s) E s:=by
  unfold setDrawn;refine Za (wpAny_setState_of ho rfl hf ?_);unfold setsByText;refine Za (Za (wpAny_askSetting (Zb ?_)));refine Zb ⟨?_,rfl⟩;obtain⟨mask,place,dummies,finger,led,moves,plain⟩:=t;cases hp;exact Bool.and_false _
 refine Za (Zc hd (λb s' z=>?_) λ_ _ e=>e);obtain⟨rfl,rfl⟩:=z;simp only[ZO,↓reduceIte];refine Za (Zb ?_);unfold setEpoch;refine Za (Za (wpAny_setState_of ho rfl hf (Zb ?_)));unfold newFields;refine Za (wpAny_newObj_type (Zb ⟨_,rfl, "set_iterator",_,⟨_,Zr _ rfl,rfl⟩,yz.lookup,hQ⟩) (by simp only[sizeOk,sizeLine_eq,Zm,Zu,ZB];omega))
def kT (ho:s.heap.get? S=some (sO es ep t))(hf:t.fits es.size=true)(hp:t.plain=true)(hl:t.led=eO w)(hu:UpA t.place)(hz:t.place.size=es.size)
 (hb:w.params.followText "set-order" = false->SetTable.below t.place slot=i)
 (hQ:∀slot',(w.params.followText "set-order" = false->i<es.size->SetTable.below t.place slot'=i+1)->Q (((vN w S ep es)[i]?).map λe=>(e.2,slot')) s):YG prog w A (setNext S slot i ep) Q E s:=by
 unfold setNext;refine Za (wpAny_setState_of ho rfl hf ?_);unfold setsByText;refine Za (Za (wpAny_askSetting (Zb ?_)));cases q:w.params.followText "set-order" with
 |true =>
  have e:({ program:=(model prog w).prog,params:=(model prog w).w.params }:Setting).params.followText "set-order" = true:=q;rw[Zd e];dsimp only;rw[Ze (by simp -iota)];unfold setWalk;refine Za (Za (wpAny_setState_of ho rfl hf ?_));unfold setsByText;refine Za (Za (wpAny_askSetting (Zb ?_)));rw[Zd e];refine Za (wpAny_askSetting (Zb (Zb ?_)));have:=hQ slot λz=>by rw[q] at z;cases z
  unfold vN at this;rw[Zd q] at this;exact this
 |false =>
  have e:¬({ program:=(model prog w).prog,params:=(model prog w).w.params }:Setting).params.followText "set-order" = true:=by
   show ¬w.params.followText "set-order" = true;rw[q];simp -iota
  rw[Ze e];dsimp only;have hw:vN w S ep es=es:=by unfold vN;rw[q];rfl
  rw[hw] at hQ;have hb:=hb q;rw[hb];have hl:t.led=true:=by rw[hl];unfold eO;rw[q];rfl
  obtain⟨mask,place,dummies,finger,led,moves,plain⟩:=t;cases hp;cases hl
  split
  .rename_i z;exact Zn z Zj
  .refine Za ?_;refine Zb (a:=Yt) ?_;refine Zb ?_;by_cases hi:i<es.size
   .have hj:i<place.size:=by rw[show place.size=es.size from hz];exact hi
    have:=hQ (place[i]+1) λ_ _=>below_next hu hj;rw[ZH hi] at this;rw[ZH hi,ZH hj];exact this
   .have:=hQ 0 λ_ z=>Zn z hi;rw[Xu ()] at this;rw[Xu (show es.size<=i from ())];exact this
abbrev jR (w:World)(it S:Addr)(es:Array (Int×Value))(ep:Nat)(t:YA)(i:Nat)(h:Heap):Prop:=(∃slot,eF h it S slot i es.size ep/\(w.params.followText "set-order" = false->i<=es.size->SetTable.below t.place slot=i))/\h.get? S=some (sO es ep t)
structure SetGood (w:World)(es:Array (Int×Value))(t:YA):Prop where
 fits:t.fits es.size=true
 plain:t.plain=true
 led:t.led=eO w
 up:UpA t.place
 size:t.place.size=es.size
def sit_item (G:SetGood w es t)(st:jR w it S es ep t i s.heap)(hi:i<es.size)
 (hQ:∀h' x,(∃k,(vN w S ep es)[i]? = some (k,x))->jR w it S es ep t (i+1) h'->Heap.SameBut it s.heap h'->Q (some x) { s with heap:=h' }):YG prog w A (pyNext (.ref it)) Q E s:=by
 obtain⟨⟨slot,hit,hb⟩,ho⟩:=st;have hT:s.TypeIs (.ref it) "set_iterator" := ⟨_,hit,rfl⟩;have hne:S≠it:=λz=>by
  subst z;unfold eF at hit;rw[ho] at hit;have:=Zt Obj.data (Zqi hit);cases this
 unfold pyNext;refine Za (wpAny_attempt (wpAny_callSpecial?_slot (name:=Str.ofString "__next__") hT yz
  (wpAny_call_entry yz hT vj ?_ (vR _))))
 unfold Builtin.«set_iterator.__next__» slotArgs;simp -iota only[List.isEmpty_nil,XM,ZO,↓reduceIte,bind_assoc,ZB,bne_self_eq_false];refine Za (Zb ?_)
 try dsimp only
 refine Za (wpAny_fieldsOf hit rfl ?_);dsimp only;refine Za (wpAny_setEntries_of ho rfl G.fits ?_);rw[Ze (by simp -iota)];simp -iota only[Int.toNat_natCast];refine Za (kT ho G.fits G.plain G.led G.up G.size (λz=>hb z ()) λslot' hs=>?_);have hw:i<(vN w S ep es).size:=by rw[tQ];exact hi
 rw[ZH hw];dsimp only[Option.map_some];refine Za (wpAny_setField_rec hit (by simp -iota) λh₁ he₁ hs₁=>?_);refine Za (wpAny_setField_rec (s:={ s with heap:=h₁ }) he₁ (by simp -iota) λh₂ he₂ hs₂=>?_);have hs₂:Heap.SameBut it h₁ h₂:=hs₂;have hs₁:Heap.SameBut it s.heap h₁:=hs₁;refine Zb ⟨_,rfl,Zb (hQ h₂ _ ⟨_,by rw[ZH hw]⟩ ⟨⟨slot',?_,λz _=>hs z hi⟩,hs₂.extBut _ _ hne (hs₁.extBut _ _ hne ho)⟩ ⟨hs₂.1.trans hs₁.1,λb hb=>(hs₂.2 b hb).trans (hs₁.2 b hb)⟩)⟩;have e:((i+1:Nat):Int)=(i:Int)+1:=()
 unfold eF;rw[e];simpa -iota [rawInt] using he₂
def sit_end (hh:A.handled=none)(G:SetGood w es t)(st:jR w it S es ep t i s.heap)(hi:i=es.size)
 (hQ:∀h',Heap.ExtBut it s.heap h'->Q none { s with heap:=h' }):YG prog w A (pyNext (.ref it)) Q E s:=by
 obtain⟨⟨slot,hit,hb⟩,ho⟩:=st;have hT:s.TypeIs (.ref it) "set_iterator" := ⟨_,hit,rfl⟩;unfold pyNext;refine Za (wpAny_attempt (wpAny_callSpecial?_slot (name:=Str.ofString "__next__") hT yz
  (wpAny_call_entry yz hT vj ?_ (vR _))))
 unfold Builtin.«set_iterator.__next__» slotArgs;simp -iota only[List.isEmpty_nil,XM,ZO,↓reduceIte,bind_assoc,ZB,bne_self_eq_false];refine Za (Zb ?_)
 try dsimp only
 refine Za (wpAny_fieldsOf hit rfl ?_);dsimp only;refine Za (wpAny_setEntries_of ho rfl G.fits ?_);rw[Ze (by simp -iota)];simp -iota only[Int.toNat_natCast];refine Za (kT ho G.fits G.plain G.led G.up G.size (λz=>hb z ()) λslot' hs=>?_);rw[Xu (by rw[tQ];omega)];dsimp only[Option.map_none];refine Za (wpAny_setField hit rfl (by simp -iota) ?_);show wpAny _ _ (newExc (.type "StopIteration") [] >>= _) _ _ _;refine Za ?_;simp -iota only[newExc,newTuple];refine Za (wpAny_newObj_type ?_ (by size_fits));refine Za (m:=firstArgMember _ _) (wpAny_of_eq (a:=Value.none) (by first|rfl|(simp -iota only[firstArgMember];rfl)) ?_);refine wpAny_newObj_type ?_ (by size_fits);simp -iota only[raiseNew];refine Za (wpAny_handled ?_);rw[show A.in1.handled=none from hh];refine Za (Zb (wpAny_throw ?_));refine Za (wpAny_isInstance (T:= "StopIteration") (b:=true) ⟨_,Zr _ rfl,rfl⟩ isSubtype_stop ?_);exact Zb (hQ _ (((Heap.SameBut.update ..).extBut.push _).push _))
end
def walks_set (hh:A.handled=none)(G:SetGood w es t):WalksS prog w A it [it,S] [it] (λg g'=>g'=g) es.size (λi v=>∃k,(vN w S ep es)[i]? = some (k,v)) (λi s=>jR w it S es ep t i s.heap):=
 (show Walks prog w A it [it,S] [it] es.size (λi v=>∃k,(vN w S ep es)[i]? = some (k,v)) (λi h=>jR w it S es ep t i h) from {
  sub:=λb hb=>by simp -iota at hb;simp -iota [hb]
  frame:=λi h h' st hk=>⟨(let ⟨slot,a,b⟩:=st.1;⟨slot,hk it (by simp -iota) _ a,b⟩),hk S (by simp -iota) _ st.2⟩
  item:=λi s Q E hi st hQ=>sit_item G st hi λh' x hx st' sb=>hQ x h' s.toks hx st' λb o hb e=>sb.extBut b o (λh=>hb (by simp -iota [h])) e
  done:=λs Q E st hQ=>sit_end hh G st rfl λh' eb=>hQ h' s.toks λb o hb e=>eb b o (λh=>hb (by simp -iota [h])) e
  self:=λi s Q E st hQ=>by
   obtain⟨⟨slot,hit,hb⟩,ho⟩:=st;have hT:s.TypeIs (.ref it) "set_iterator" := ⟨_,hit,rfl⟩;refine wpAny_pyIter_slot hT vG (wpAny_call_entry vG hT entry_sit_iter ?_ (args_sit_iter _));show wpAny _ _ (ret (.ref it)) _ _ s;exact Zb ⟨_,rfl, "set_iterator",_,hT,yz.lookup,hQ⟩ }).toS
def set_len:typeLookup (.type "set") "__len__" = pure (some (.builtin "set.__len__")):=by rw[typeLookup_type,builtinLookup_eq_fast];kernel_rfl
section
variable {prog:Program}{w:World}{A:Around}{E:Ya}{s:Shared}
def set_hint (hT:s.TypeIs (.ref r) "set")(h:Q false s):YG prog w A (Builtin.List.listLengthHint (.ref r)) Q E s:=by
 unfold Builtin.List.listLengthHint;refine Za (wpAny_specialOf hT set_len ?_);generalize hid:("set.__len__" : String)=id0
 wp_delta
 rw[show splitId id0=some ("set", "__len__") from by subst hid;decide +kernel];subst hid;refine Za (wpAny_isInstance (T:= "set") (b:=true) hT (by rw[isSubtype_type];kernel_rfl) ?_);refine wpAny_ite_split (λhab=>Zn hab (by decide)) (λ_=>?_);refine wpAny_ite_split (λ_=>?_) (λhab=>Zn (by decide +kernel) hab);refine Za (wpAny_typeOf hT ?_);exact Zb h
def collect_set (hh:A.handled=none)(ho:s.heap.get? S=some (sO es ep t))(G:SetGood w es t)(hn:es.size<=1000)
 (h:∀(h':Heap) (tk:Nat) (vs:Yf),(∀b o,s.heap.get? b=some o->h'.get? b=some o)->vs.Perm (es.toList.map (·.2))->s.heap.objs.size<h'.objs.size->R vs { s with heap:=h',toks:=tk }):YG prog w A (collect (.ref S)) R E s:=by
 have hS:S<s.heap.objs.size:=Zk ho;have hT:s.TypeIs (.ref S) "set" := ⟨_,ho,rfl⟩;unfold collect;refine Za (wpAny_runValue (codeAny_builtin F.entry_proto_collect ?_));rw[Around.under_plainId F.plain_proto_collect _];show wpAny _ A.in1 (newList [] >>= λl=>again (.builtin "list.__iadd__" ⟨[l,.ref S],[]⟩)) _ _ s;refine Za (wpAny_newObj_type ?_);refine Zb ⟨plainId_quiet F.plain_list_iadd _,codeAny_builtin F.entry_list_iadd ?_⟩;rw[Around.under_plainId F.plain_list_iadd _];generalize hno:({ cls:=.type "list",data:=.seq ([]:Yf).toArray }:Obj)=no;have hL₁:(s.heap.push no).get? s.heap.objs.size=some no:=Zr _ (by rw[<- hno];rfl);have ho₁:(s.heap.push no).get? S=some (sO es ep t):=Zq _ ho;have hT₁:Shared.TypeIs { s with heap:=s.heap.push no } (.ref S) "set" := ⟨_,ho₁,rfl⟩;have hSL:S≠s.heap.objs.size:=Zi hS;show wpAny _ A.in1 (Builtin.List.listExtendWith (.ref s.heap.objs.size) (.ref S) (.ref s.heap.objs.size)) _ _ _;unfold Builtin.List.listExtendWith;refine Za (wpAny_typeOf hT₁ ?_);have h1:Builtin.List.listSameRef (.ref s.heap.objs.size) (.ref S)=false:=by simp[Builtin.List.listSameRef,Ne.symm hSL]
 have h2:(Value.type "set" == Value.type "list")=false:=by decide
 have h3:(Value.type "set" == Value.type "tuple")=false:=by decide
 simp only[h1,h2,h3,Bool.or_false,ZO,if_false];refine Za (iter_set (s:={ s with heap:=s.heap.push no }) ho₁ G.fits G.plain ?_);have szp:(s.heap.push no).objs.size=s.heap.objs.size+1:=Heap.size_push ..;generalize hI:(s.heap.push no).objs.size=I at *;generalize hni:({ cls:=.type "set_iterator",data:=.fields #[.int 0 0,.int 0 0,.ref S,.int es.size 0,.int ep 0] }:Obj)=ni;have hS₂:=Zq ni ho₁;have hL₂:=Zq ni hL₁;have hI₂:((s.heap.push no).push ni).get? I=some ni:=by rw[<- hI];exact Zr _ (by rw[<- hni];rfl)
 refine Za (wpAny_holding (set_hint ⟨_,hS₂,rfl⟩ ?_));have hIL:I≠s.heap.objs.size:=()
 have key:∀(R':Result->Yz),(∀(h':Heap) (tk c:Nat) (acc:Yn),(∀b o,s.heap.get? b=some o->h'.get? b=some o)->h'.get? s.heap.objs.size=some { cls:=.type "list",dict:=none,data:=.seq acc c,slots:=#[] }->acc.toList.Perm (es.toList.map (·.2))->R' (.ok (.ret (.ref s.heap.objs.size))) { s with heap:=h',toks:=tk }) ->
  ∀(h:Heap) (c₁ tk:Nat),(∀b o,b≠s.heap.objs.size->((s.heap.push no).push ni).get? b=some o->h.get? b=some o)->h.get? s.heap.objs.size=some { cls:=.type "list",dict:=none,data:=.seq #[] c₁,slots:=#[] } ->
  codeAny (model prog w) A (.builtin "list.extend.loop" ⟨[.ref s.heap.objs.size,.ref I,.ref s.heap.objs.size],[]⟩) R' { s with heap:=h,toks:=tk }:=by
  intro R' hR h₀ c₁ tk hk hL;have hSf:s.heap.objs.size ∉ [I,S]:=by
   simp only[ZF,List.not_mem_nil,or_false,not_or];exact⟨Ne.symm hIL,Ne.symm hSL⟩
  have hIt:h₀.get? I=some ni:=hk I _ hIL hI₂;rw[<- hni] at hIt;refine codeAny_extend_loopS (walks_set (prog:=prog) (w:=w) (A:=A.in1) (it:=I) (S:=S) (ep:=ep) hh G) (Zh hn (by rw[sizeLine_eq];omega)) s.heap.objs.size hSf _ es.size 0 { s with heap:=h₀,toks:=tk } #[] c₁ rfl (Nat.zero_le _)
   ⟨⟨0,hIt,λ_ _=>below_zero _ G.up⟩,hk S _ hSL hS₂⟩ hL (ItemsOf.nil _) λs' acc c hm hL' hacc=>?_
  obtain⟨h',g',d',tk',os'⟩:=s';have eg:g'=s.gens:=hm.gens;have ed:d'=s.drawn:=hm.drawn;have eo:os'=s.os:=hm.os;subst eg;subst ed;subst eo;refine hR h' tk' c acc (λb o e=>?_) hL' ?_
  .have hb:=Zk e;have hbL:b≠s.heap.objs.size:=Zi hb;have hbI:b≠I:=Zi (Zg hb (by rw[szp];exact Nat.le_succ _));exact hm.heap b o (by simp only[ZF,List.not_mem_nil,or_false,not_or];exact⟨hbL,hbI⟩) (hk b o hbL (Zq _ (Zq _ e)))
  .have el:acc.toList=(vN w S ep es).toList.map (·.2):=by
    apply List.ext_getElem?;intro j;rw[Zv];by_cases hj:j<acc.size
    .obtain⟨k,hk⟩:=hacc.2 j acc[j] (ZH hj);have:(vN w S ep es).toList[j]? = some (k,acc[j]):=by simpa using hk
     rw[this];simp[hj]
    .have hw:(vN w S ep es).toList[j]? = none:=List.getElem?_eq_none (by rw[ZN,tQ,<- hacc.1];omega);rw[hw];exact List.getElem?_eq_none (by rw[ZN];omega)
   rw[el];exact(pL w S ep es).map _
 have fin:∀(h':Heap) (tk c:Nat) (acc:Yn),(∀b o,s.heap.get? b=some o->h'.get? b=some o)->h'.get? s.heap.objs.size=some { cls:=.type "list",dict:=none,data:=.seq acc c,slots:=#[] }->acc.toList.Perm (es.toList.map (·.2)) ->
  YG prog w A (do
   let o <- load s.heap.objs.size
   match o.data with
    | .seq xs _=>pure xs.toList
    |_=>unsupported "internal:collect") R E { s with heap:=h',toks:=tk }:=λh' tk c acc kk hl hp=>by
  refine Za (wpAny_load hl ?_);exact Zb (h h' tk acc.toList kk hp (Zk hl))
 have hL₂':((s.heap.push no).push ni).get? s.heap.objs.size=some { cls:=.type "list",dict:=none,data:=.seq #[] 0,slots:=#[] }:=by rw[hL₂,<- hno]
 refine wpAny_ite_split (λ_=>?_) (λ_=>Zb ⟨plainId_quiet F.plain_extend_loop _,key _ (λh' tk c acc kk hl hp=>fin h' tk c acc kk hl hp) _ 0 _ (λb o _ e=>e) hL₂'⟩);refine Za (wpAny_rule ?_);refine Za ?_;show wpAny _ _ (updateSeq s.heap.objs.size (·.push .none) >>= λ_=>updateSeq s.heap.objs.size (·.pop)) _ _ _;refine Za (wpAny_updateSeq hL₂' rfl ?_);have hL₃:=Heap.get?_update_self (Obj.mapSeq (·.push Value.none)) hL₂' rfl;refine wpAny_updateSeq (hz:=by seq_fits) hL₃ rfl ?_;have hL₄:=Heap.get?_update_self (Obj.mapSeq (·.pop)) hL₃ rfl;refine Zb ⟨plainId_quiet F.plain_extend_loop _,key _ (λh' tk c acc kk hl hp=>fin h' tk c acc kk hl hp) _ _ _ (λb o hb e=>?_) hL₄⟩;exact(Heap.get?_update_other _ _ (Ne.symm hb)).trans ((Heap.get?_update_other _ _ (Ne.symm hb)).trans e)
end
theorem tY:∀{us:Yf} {r:X6},v7 h us r->IsPairs h us r
 | [],[],_=>.nil
 | [],_::_,p=>by have:=p.1;simp at this
 |_::_,[],p=>by have:=p.1;simp at this
 |u::us,q::r,p=>by
  refine zc4a (p.2 0 q rfl) λb ob nb t zz=>zc1d zz λv g1 g2 g3 g4=>?_;have g1:some u=some (Value.ref b):=g1;obtain rfl:=Zqi g1;refine .cons ⟨b,ob,_,nb,t,v,rfl,g2,g3,g4,rfl⟩ (tY ⟨by have:=p.1;simpa using this,λi x hx=>p.2 (i+1) x hx⟩)
def row_of_at (R:RowAt h v r a o us n):vk h v r:=
 ⟨a,o,us.toArray,n,R.isv,R.get,R.cls,R.dat,tY R.prs⟩
noncomputable def uu (rs:X7):Nat->List Nat
 | 0=>[]
 |n+1=>if(uu rs n).any (λi=>decide (rs.getD i []=rs.getD n [])) then uu rs n else uu rs n++[n]
def dedI_succ (rs:X7)(n:Nat):uu rs (n+1)=if(uu rs n).any (λi=>decide (rs.getD i []=rs.getD n [])) then uu rs n else uu rs n++[n]:=rfl
def oN (rs:X7):X7:=(uu rs rs.length).map λi=>rs.getD i []
theorem vv (rs:X7):∀n i,i∈uu rs n->i<n
 | 0,i,h=>by cases h
 |n+1,i,h=>by
  unfold uu at h
  split at h
  .have:=vv rs n i h;omega
  .rcases ZM.mp h with q|q
   .have:=vv rs n i q;omega
   .rw[ZC.mp q];omega
theorem qJ (rs:X7):∀n,(uu rs n).length<=n
 | 0=>Zf _
 |n+1=>by
  have:=qJ rs n;unfold uu
  split
  .omega
  .rw[ZG,Z4];omega
theorem qd (rs:X7):∀n,((uu rs n).map λi=>rs.getD i []).Nodup
 | 0=>List.nodup_nil
 |n+1=>by
  have ih:=qd rs n;unfold uu
  split
  .exact ih
  .rename_i h;rw[ZV,List.nodup_append];refine⟨ih,by simp,λx hx y hy=>?_⟩;rw[Zl,Xt,ZC] at hy;subst hy;intro z;subst z;refine zc1b (ZD.mp hx) λi hi e=>?_;exact h (ZP.mpr ⟨i,hi,Zp e⟩)
theorem mt (rs:X7):∀n (r:X6),r∈((uu rs n).map λi=>rs.getD i [])↔∃i,i<n/\rs.getD i []=r
 | 0,r=>by
  constructor
  .intro h;cases h
  .rintro⟨i,hi,_⟩;omega
 |n+1,r=>by
  have ih:=mt rs n;unfold uu
  split
  .rename_i h;refine zc1b (ZP.mp h) λj hj e=>?_;have e:=of_decide_eq_true e;rw[ih];constructor
   .rintro⟨i,hi,z⟩;exact⟨i,(),z⟩
   .rintro⟨i,hi,z⟩;by_cases q:i=n
    .subst q;exact⟨j,vv rs i j hj,by rw[e,z]⟩
    .exact⟨i,(),z⟩
  .rw[ZV,ZM,ih];constructor
   .rintro(⟨i,hi,z⟩|z)
    .exact⟨i,(),z⟩
    .rw[Zl,Xt,ZC] at z;exact⟨n,(),z.symm⟩
   .rintro⟨i,hi,z⟩;by_cases q:i=n
    .subst q;exact .inr (by rw[Zl,Xt,ZC];exact z.symm)
    .exact .inl ⟨i,(),z⟩
def rN (rs:X7):(oN rs).Nodup:=qd rs _
def l5 (rs:X7):(oN rs).length<=rs.length:=by unfold oN;rw[Zql];exact qJ rs _
def qq:r∈oN rs↔r∈rs:=by
 unfold oN;rw[mt];constructor
 .rintro⟨i,hi,z⟩;rw[ZE,Zqg hi] at z;rw[<- z];exact Z9 hi
 .intro h;obtain⟨i,hi,z⟩:=Xd h;exact⟨i,hi,by rw[ZE,Zqg hi,<- z];rfl⟩
theorem gN {same:Value->Value->Bool}{val:Nat->Value}{rs:X7}{n:Nat}(h:∀i j,i<n->j<n->same (val i) (val j)=decide (rs.getD i []=rs.getD j [])):∀k,k<=n->iM same val k=(uu rs k).map val
 | 0,_=>rfl
 |k+1,hk=>by
  rw[vA,gN h k (),dedI_succ];unfold oy;have e:((uu rs k).map val).any (same · (val k))=(uu rs k).any (λi=>decide (rs.getD i []=rs.getD k [])):=by
   rw[List.any_map,Xl,ZP,ZP];constructor
   .rintro⟨i,hi,z⟩;exact⟨i,hi,by rw[<- h i k (by have:=vv rs k i hi;omega) ()];exact z⟩
   .rintro⟨i,hi,z⟩;exact⟨i,hi,by show same (val i) (val k)=true;rw[h i k (by have:=vv rs k i hi;omega) ()];exact z⟩
  rw[e]
  split
  .rfl
  .rw[ZV];rfl
theorem wO {G:Hp}{rs:X7}{ys:YB}(h:zw G (rs.map rD) ys):∀ix:Yj,(∀i∈ix,i<rs.length)->zw G ((ix.map λi=>rs.getD i []).map rD) (ix.map λi=>ys.getD i .non)
 | [],_=>by unfold zw;rfl
 |i::ix,hi=>by
  have hl:=hi i Zqs;refine zc1b (h.get (i:=i) (d:=rD (rs.getD i [])) (by rw[Zv,Zqg hl,z4 (Zqg hl)];rfl)) λx hx hI=>?_;rw[Zl,Zl,Zl];unfold zw;refine⟨x,_,?_,hI,wO h ix λj hj=>hi j (Zqm _ hj)⟩;rw[z4 hx]
noncomputable def eS (w:World)(S:Addr)(ys:YB):HO:=.ext λh=>∃es ep t us,h.get? S=some (sO es ep t)/\SetGood w es t/\es.size<=1000/\(es.toList.map (·.2)).Perm us/\yt ys us
def mK (w:World):YB->Hp->VK->Prop:=λxs H Q=>∃a ys rs,xs=[.ref a]/\Rd H a (.lst ys)/\zw H (rs.map rD) ys/\rs.length<=999/\∀S,H S=none->Q (.ref S) (upd H S (eS w S ((uu rs rs.length).map λi=>ys.getD i .non)))
def lE (w:World):YB->Hp->VK->Prop:=λxs H Q=>∃S ys rs,xs=[.ref S]/\H S=some (eS w S ys)/\zw H (rs.map rD) ys/\(∀r∈rs,r ≠ [])/\rs.length<1000 /\
 ∀l zs,H l=none->(∀G,zw G (rs.map rD) ys->zw G ((zT yF rs).map rD) zs)->Q (.ref l) (upd H l (.lst zs))
def perm_rows (p:us.Perm vs):∀{zs:YB} {rs:X7},yt zs us->zs.length=rs.length->∃(zs2:YB) (rs2:X7),yt zs2 vs/\rs2.Perm rs/\zs2.length=rs2.length/\∀G,zw G (rs.map rD) zs->zw G (rs2.map rD) zs2:=by
 induction p with
 |nil=>exact λ{zs rs} h hl=>⟨zs,rs,h,.refl _,hl,λ_ h=>h⟩
 |cons x _ ih =>
  intro zs rs h hl;cases h with
  |cons r h =>
   cases rs with
   |nil=>simp at hl
   |cons q rs =>
    refine zc2d (ih h (by simpa using hl)) λzs2 rs2 h2 p2 l2 g2=>?_;refine⟨_::zs2,q::rs2,.cons r h2,p2.cons q,by simp[l2],λG hG=>?_⟩;rw[Zl] at hG ⊢;unfold zw at hG ⊢;refine zc2c hG λy w e h3 h4=>?_;cases e;exact⟨_,_,rfl,h3,g2 G h4⟩
 |swap x y l =>
  intro zs rs h hl;cases h with
  |cons r h =>
   cases h with
   |cons r' h =>
    cases rs with
    |nil=>simp at hl
    |cons q rs =>
     cases rs with
     |nil=>simp at hl
     |cons q' rs =>
      refine⟨_,q'::q::rs,.cons r' (.cons r h),.swap _ _ _,by simpa using hl,λG hG=>?_⟩;rw[Zl,Zl] at hG ⊢;unfold zw at hG ⊢;refine zc2c hG λy w e h3 h4=>?_;cases e;unfold zw at h4;refine zc2c h4 λy w e h5 h6=>?_;cases e;refine⟨_,_,rfl,h5,?_⟩;unfold zw;exact⟨_,_,rfl,h3,h6⟩
 |trans _ _ ih1 ih2 =>
  intro zs rs h hl;refine zc2d (ih1 h hl) λzs2 rs2 h2 p2 l2 g2=>?_;refine zc2d (ih2 h2 l2) λzs3 rs3 h3 p3 l3 g3=>?_;exact⟨zs3,rs3,h3,p3.trans p2,l3,λG hG=>g3 G (g2 G hG)⟩
section
variable {X:Cx}
def call_setRows (hc:X.calm=true)(hu:X.A.units+64<cLine):zB X (.type "set") (mK X.w):=by
 intro Y s Z H xs us Q I rv h;refine zc3a h λa ys rs zz=>xf zz λzr3 ha hA hl q=>?_;subst zr3;refine zc1b (wp rv) λu zr1 ru=>?_;subst zr1;obtain rfl:u=Value.ref a:=ru;refine zc1c (I.list (.inl ha)) λits ri pl hz=>?_;have l1:=hA.length;have l2:=ri.length;rw[Zql] at l1;have sz:its.toArray.size=its.length:=Zm;have gd:∀i,its.toArray.getD i .none=its.getD i .none:=λi=>by
  rw[Z1,ZE];simp
 have isr:∀i,i<its.length->vk s.heap (its.getD i .none) (rs.getD i []):=λi hi=>by
  have hr:i<rs.length:=()
  refine zc1b (hA.get (i:=i) (d:=rD (rs.getD i [])) (by rw[Zv,Zqg hr,z4 (Zqg hr)];rfl)) λx hx hI=>?_;refine zc1b (ri.get hx) λv hv rr=>?_;refine zc4a (jW I.hok hI rr) λb o ws n R=>?_;rw[z4 hv];exact row_of_at R
 refine call_set_fam (I.ok.hd hc) pl.isList (rows_fam X.prog X.w s.heap) (λi v hv=>?_) (by rw[sz];omega) (by show X.A.units+1+1+1+8<cLine;omega) λh' tk H' kk=>?_
 .have hi:i<its.length:=by
   have:=(Array.getElem?_eq_some_iff.mp hv).1;omega
  have e:v=its.getD i .none:=by
   rw[<- gd,Z1,hv];rfl
  rw[e];exact⟨_,isr i hi⟩
 .have same:∀i j,i<its.toArray.size->j<its.toArray.size->(λv u=>decide (gg s.heap v=gg s.heap u)) ((λi=>its.toArray.getD i .none) i) ((λi=>its.toArray.getD i .none) j)=decide (rs.getD i []=rs.getD j []):=λi j hi hj=>by
   show decide (gg s.heap (its.toArray.getD i .none)=gg s.heap (its.toArray.getD j .none))=_;rw[gd,gd,sG (isr i ()),sG (isr j ())]
  refine zc2d H' λes t SI pm led plain=>?_;rw[gN same _ (Zf _)] at pm;obtain⟨ep,ho⟩:=SI.at_;have en:its.toArray.size=rs.length:=()
  rw[en] at pm;have pm2:(es.toList.map (·.2)).Perm ((uu rs rs.length).map λi=>its.getD i .none):=by
   have:=pm.map (·.2);rw[Zw,Zw] at this;refine this.trans (List.Perm.of_eq (Xk λi _=>?_));exact gd i
  have vl:yt ((uu rs rs.length).map λi=>ys.getD i .non) ((uu rs rs.length).map λi=>its.getD i .none):=wR λi hi=>by
   have hi:=vv rs _ i hi;obtain⟨x,hx⟩:∃x,ys[i]? = some x:=⟨ys[i]'(),Zqg ()⟩;refine zc1b (ri.get hx) λv hv rr=>?_;rw[z4 hx,z4 hv];exact rr
  have szs:es.size<=1000:=by
   have:=pm2.length_eq;rw[Zql,Zql,ZN] at this;have:=qJ rs rs.length;omega
  have szp:t.place.size=es.size:=by
   have:=SI.tab.size;rw[Z0] at this;exact this
  refine⟨.ref s.heap.objs.size,upd H s.heap.objs.size (eS X.w s.heap.objs.size ((uu rs rs.length).map λi=>ys.getD i .non)),I.laid (t':=tk) (λb o e=>kk b o (Zk e) e) (Zf _) ?_,rfl,q _ (I.hok.fresh (Zf _))⟩;refine⟨⟨es,ep,t,_,ho,⟨SI.tab.fits,plain,led,SI.tab.up,szp⟩,szs,pm2,vl⟩,⟨_,ho⟩,λh1 h2 z kp=>?_⟩;refine zc4a z λes ep t us zz=>wx zz λe r=>?_;exact⟨es,ep,t,us,kp _ e,r⟩
def setO_at (I:Inv X Y Z H s)(h:H S=some (eS X.w S ys)):∃es ep t us,s.heap.get? S=some (sO es ep t)/\SetGood X.w es t/\es.size<=1000/\(es.toList.map (·.2)).Perm us/\yt ys us:=(show yE X.prog X.w H s.heap S (eS X.w S ys) from I.hok S _ h).1
def sorted_of2
 (hc:wpAny (model prog w) A.in1 (collect x) (λvs s1=>∃lt,Wk lt/\vs.length<1000/\(∀h',(∀b o,s1.heap.get? b=some o->h'.get? b=some o)->2<=vs.length->d9 prog w A.in1.in1 { s1 with heap:=h' } vs lt) /\
  ∀jx h' l,Pl vs.length jx vs.length->Up lt jx vs.length->(∀b o,s1.heap.get? b=some o->h'.get? b=some o)->s1.heap.objs.size<=l->(∃e,h'.get? l=some (seqObj "list" (jx.map (xg vs)) e))->Q (.ref l) { s1 with heap:=h' }) E s):
 YG prog w A (call (.builtin "sorted") [x]) Q E s:=by
 refine Calls.call_function_entry kind_sorted plain_sorted entry_sorted (args_sorted1 _) ?_;unfold Builtin.«sorted»;refine Za (m:=checkCount "sorted" 1 1 _) (Zb (Za (Zc hc (λvs s1 z=>?_) λ_ _ e=>e)));refine zc1d z λlt W h64 hk hq=>?_;have gl:(s1.heap.push (seqObj "list" vs.toArray 0)).get? s1.heap.objs.size=some (seqObj "list" vs.toArray 0):=Zr _ rfl;have nl:∀b o,s1.heap.get? b=some o->b≠s1.heap.objs.size:=λb o e=>Zi (Zk e);refine Za (wpAny_newList (Za (wpAny_holding (wpAny_call_entry slot_list_sort ⟨_,gl,rfl⟩ entry_list_sort (qi (s:={ s1 with heap:=s1.heap.push (seqObj "list" vs.toArray 0) }) W gl h64 (λh' kp=>hk h' λb o e=>kp b o (nl b o e) (Zq _ e)) λjx p u=>⟨_,rfl,Zb ⟨_,rfl,?_⟩⟩) (args_list_sort _)))));refine hq jx _ _ p u (λb o e=>?_) (Zf _) (sortedHeap_at gl);rw[sortedHeap_old (nl b o e) (by rw[size_push'];exact Xa (Zk e))];exact Zq _ e
def call_sortedSet (hc:X.calm=true)(hu:X.A.units+64<cLine):zB X (.builtin "sorted") (lE X.w):=by
 intro Y s Z H xs us Q I rv h;refine zc3a h λS ys rs zz=>xf zz λzr3 hS hA hne zz=>wx zz λh64 q=>?_;subst zr3;refine zc1b (wp rv) λu zr1 ru=>?_;subst zr1;obtain rfl:u=Value.ref S:=ru;refine zc4a (setO_at I hS) λes ep t ws zz=>xf zz λho G hsz pm vl=>?_;have l1:=hA.length;rw[Zql] at l1;have hlt:∀vs:Yf,vs.Perm (es.toList.map (·.2))->vs.length=rs.length:=λvs hv=>by
  have a:=hv.length_eq;have b:=pm.length_eq;have c:=vl.length;omega
 refine sorted_of2 (collect_set (A:=X.A.in1) (E:=X.xe) (I.ok.hd hc) ho G hsz λh1 tk vs kk hv hsz1=>?_);refine zc2d (perm_rows (pm.symm.trans hv.symm) vl ()) λys2 rs2 vl2 p2 l2 g2=>?_;have lv:=hlt vs hv;have lr:=p2.length_eq;have A2:=g2 H hA;have ne2:∀r∈rs2,r ≠ []:=λr hr=>hne r (p2.mem_iff.mp hr);refine⟨λi j=>yF (rs2.getD i []) (rs2.getD j []),ya.wk λi=>rs2.getD i [],(),λh' kp h2=>oh (by show X.A.units+1+1+4<cLine;omega) (I.hok.kept λb o e=>kp b o (kk b o e)) A2 vl2 ne2 h2,λjx h' l p u kp hl gl=>?_⟩;obtain⟨e,gl⟩:=gl;have lv2:vs.length=rs2.length:=()
 rw[lv2] at p u;have szl:s.heap.objs.size<=l:=by
  have hl:h1.objs.size<=l:=hl;omega
 have at_:∀i∈jx.toList,∃x v,ys2[i]? = some x/\vs[i]? = some v/\y8 x v:=λi hi=>by
  have hn:=p.mem hi;obtain⟨x,hx⟩:∃x,ys2[i]? = some x:=⟨ys2[i]'(),Zqg ()⟩;refine zc1b (vl2.get hx) λv hv rr=>?_;exact⟨x,v,hx,hv,rr⟩
 have sp:=xQ ya p u;have se:zT yF rs2=zT yF rs:=lN ya (((zv (ltb:=yF) rs2).trans p2).trans (zv (ltb:=yF) rs).symm) (x6 ya rs2) (x6 ya rs);have fin:=q l (jx.toList.map λi=>ys2.getD i .non) (I.hok.fresh szl) λG hG=>by
  have:=wO (g2 G hG) jx.toList λi hi=>p.mem hi;rw[sp,se] at this;exact this
 refine⟨.ref l,upd H l (.lst (jx.toList.map λi=>ys2.getD i .non)),I.laid (a:=l) (o:=.lst (jx.toList.map λi=>ys2.getD i .non)) (t':=tk) (λb o e=>kp b o (kk b o e)) szl ⟨?_,jx.toList.map (xg vs),e,?_,?_⟩,rfl,fin⟩
 .rw[Zql,p.len];exact ua ()
 .refine wR λi hi=>?_;refine zc2c (at_ i hi) λx v hx hv rr=>?_;unfold xg;rw[z4 hx,z4 hv];exact rr
 .rw[gl]
  congr 3
  apply Array.ext';simp
end
end L2.ST
namespace L2.DL
open PySem PySem.Spec PyProof.Rows L2.ST
def vF:YD->YE
 | [.lst ds]=>(xx vJ ds).bind λrs=>if(∀r∈rs,r ≠ [])/\(oN rs).length<1000/\rs.length<=999 then some (.lst ((zT yF (oN rs)).map rwD)) else none
 |_=>none
section
variable {X:Cx}{E:XK}{fr:FA}{es:Ym}{e:Expr}
def q_sortSet (h:∀{ta:TA},PA X es ta->PE X e (tCB (lE X.w) (gC (tCB (mK X.w) ta) c9)))(ha:QA X E es fr):QN X E e (yT vF fr):=PE.weak (h ha) λZ H Q zh=>by
 refine zc3b zh λB F sd r n=>?_;refine⟨B,F,sd,r,(Res.need_bind n).mono (λds n1 vs F1 H1 e1 i1=>?_) λ_ _ q=>q⟩;refine zc1b (Res.need_ofO n1) λz hz q=>?_;unfold vF at hz
 split at hz
 .refine zc1b (Option.bind_eq_some_iff.mp hz) λrs h1 hz=>?_
  split at hz
  .rename_i hc;obtain rfl:=Zqi hz;refine zc1b (xF i1) λv zr1 h=>?_;subst zr1;rw[uf h1,IsD.lst_iff] at h;refine zc2c h λa ys zr2 g1 g2=>?_;subst zr2;refine⟨a,ys,rs,rfl,g1.same e1.fh,vg.mp (zq.same e1.fh _ _ g2),hc.2.2,λS hS=>?_⟩;have sn:=yQ hS (eS X.w S ((uu rs rs.length).map λi=>ys.getD i .non));have pk:∀G,zw G (rs.map rD) ys->zw G ((oN rs).map rD) ((uu rs rs.length).map λi=>ys.getD i .non):=λG hG=>wO hG _ λi hi=>vv rs _ i hi;refine⟨S,_,oN rs,rfl,zu,pk _ (zw.same sn _ _ (vg.mp (zq.same e1.fh _ _ g2))),λr hr=>hc.1 r (qq.mp hr),hc.2.1,λl zs hl hG=>?_⟩;have hlS:l≠S:=λz=>by rw[z,zu] at hl;cases hl
   have hl1:H1 l=none:=by rw[zD hlS] at hl;exact hl
   have ek:Ext F1 H1 F1 (upd H1 S (eS X.w S ((uu rs rs.length).map λi=>ys.getD i .non))):=.keep e1.fh hS _;exact(q.ext e1) l F1 _ (ek.trans (.keep ek.fh hl _)) hl1 (zF e1.fh hl1) ⟨zs,zu,vg.mpr (hG F1 (pk F1 (vg.mp g2)))⟩
  .exact zqn hz
 .exact zqn hz
end
def bt_set:bootBuiltins "set" = some (.type "set"):=by kernel_rfl
def gSortSet_rows (h:∀r∈rs,r ≠ [])(h2:(oN rs).length<1000)(h3:rs.length<=999):vF [.lst (rs.map rwD)]=some (.lst ((zT yF (oN rs)).map rwD)):=by
 show(xx vJ (rs.map rwD)).bind _=_;rw[uI];exact Zd ⟨h,h2,h3⟩
end L2.DL
namespace L2.ST
def llB (a b:X6):Bool:=decide (a.length<b.length)||(decide (a.length=b.length)&&yF a b)
def vy:llB a b=true↔a.length<b.length\/(a.length=b.length/\yF a b=true):=by
 unfold llB;rw[X4,ZR,decide_eq_true_iff,decide_eq_true_iff]
def je:llB a b=false↔b.length<a.length\/(a.length=b.length/\yF a b=false):=by
 cases q:llB a b with
 |true =>
  rw[vy] at q;constructor
  .intro z;cases z
  .rintro(z|⟨z1,z2⟩)
   .rcases q with q|⟨q1,q2⟩<;>omega
   .rcases q with q|⟨q1,q2⟩
    .omega
    .rw[z2] at q2;exact zqb q2
 |false =>
  refine⟨λ_=>?_,λ_=>rfl⟩;have nq:¬(llB a b=true):=by rw[q];simp -iota
  rw[vy] at nq;rcases Xp a.length b.length with z|z|z
  .exact Zn (.inl z) nq
  .refine .inr ⟨z,?_⟩;cases w:yF a b with
   |true=>exact Zn (.inr ⟨z,w⟩) nq
   |false=>rfl
  .exact .inl z
def rT:Tot llB where
 asy:=λa b h=>by
  rw[vy] at h;rw[je];rcases h with h|⟨h1,h2⟩
  .exact .inl h
  .exact .inr ⟨h1.symm,ya.asy _ _ h2⟩
 neg:=λa b c h=>by
  rw[vy] at h;rw[vy,vy];rcases h with h|⟨h1,h2⟩
  .rcases Xp a.length b.length with z|z|z
   .exact .inl (.inl z)
   .exact .inr (.inl ())
   .exact .inr (.inl ())
  .rcases Xp a.length b.length with z|z|z
   .exact .inl (.inl z)
   .rcases ya.neg a b c h2 with y|y
    .exact .inl (.inr ⟨z,y⟩)
    .exact .inr (.inr ⟨(),y⟩)
   .exact .inr (.inl ())
 tot:=λa b h1 h2=>by
  rw[je] at h1 h2;rcases h1 with h1|⟨h1,h3⟩<;>rcases h2 with h2|⟨h2,h4⟩
  .omega
  .omega
  .omega
  .exact ya.tot _ _ h3 h4
def len_places (hs:l.Pairwise λa b=>yF a b=true)(p:Pl l.length jx l.length)(u:Up (λi j=>decide (((l.getD i []).length:Int)<((l.getD j []).length:Int))) jx l.length):jx.toList.map (λi=>l.getD i [])=zT llB l:=by
 refine lN rT ?_ ?_ (x6 rT l)
 .refine List.Perm.trans ?_ (zv (ltb:=llB) l).symm;have q:jx.toList.Perm (List.range l.length):=by
   have:=Array.perm_iff_toList_perm.mp p.perm;simpa -iota using this
  refine(q.map _).trans (List.Perm.of_eq ?_);apply List.ext_getElem
  .simp -iota
  .intro i h1 h2;simp -iota [h2]
 .refine ZZ.mpr λa b ha hb ab=>?_;rw[List.getElem_map,List.getElem_map];have sz:jx.toList.length=l.length:=by rw[ZN,p.size]
  rw[Zql] at ha hb;have ea:jx.toList[a]=gx jx a:=by
   unfold gx;rw[ZH (by rw[p.size];omega)];simp -iota
  have eb:jx.toList[b]=gx jx b:=by
   unfold gx;rw[ZH (by rw[p.size];omega)];simp -iota
  rw[ea,eb];have la:=p.lt (Zf _) (show a<l.length from ());have lb:=p.lt (Zf _) (show b<l.length from ());have bf:=u a b ab ();generalize gx jx a=i at bf la;generalize gx jx b=j at bf lb;show llB (l.getD j []) (l.getD i [])=false;rw[je];rcases bf with bf|⟨bf,ij⟩
  .have:=of_decide_eq_true bf;exact .inl ()
  .have:=of_decide_eq_false bf;rcases Nat.lt_or_ge (l.getD i []).length (l.getD j []).length with z|z
   .exact .inl z
   .refine .inr ⟨(),ya.asy _ _ ?_⟩;have:=ZZ.mp hs i j la lb ij;rw[z4 (Zqg la),z4 (Zqg lb)];exact this
section
variable {prog:Program}{w:World}{A:Around}{E:Ya}{s:Shared}
def keyed_orc (hk:IntsAre keys kz)(hl:kz.length=vs.length):Orc prog w A s oneType' (λi=>(xg keys i,xg vs i)) (λi j=>decide (kz.getD i 0<kz.getD j 0)) vs.length:=by
 have at_:∀{keys:Yf} {kz:Yh},IntsAre keys kz->∀i,i<kz.length->∃t,xg keys i=.int (kz.getD i 0) t:=by
  intro keys kz h
  induction h with
  |nil=>intro i hi;exact Zn hi (Z5 _)
  |cons n t _ ih =>
   intro i hi;cases i with
   |zero=>exact⟨t,rfl⟩
   |succ i=>exact ih i (by simpa -iota using hi)
 intro i j hi hj E Q hq;obtain⟨t,e1⟩:=at_ hk i ();obtain⟨u,e2⟩:=at_ hk j ();show YG prog w A (keyLt' oneType' (xg keys i) (xg keys j)) Q E s;rw[e1,e2];exact W.kat_lt_int hq
def keyed_wk (kz:Yh):Wk λi j=>decide (kz.getD i 0<kz.getD j 0):=
 ⟨λi j h=>by have:=of_decide_eq_true h;exact Zo (),λi j k h=>by
  have:=of_decide_eq_true h;rcases Int.lt_or_le (kz.getD i 0) (kz.getD j 0) with q|q
  .exact .inl (Zp q)
  .exact .inr (Zp ())⟩
def keyed_end (hk:IntsAre keys.toList kz)(hl:kz.length=vs.length)(h64:vs.length<1000)(hka:kS≠a)
 (hK:s.heap.get? kS=some (seqObj "list" keys e)) (hA:s.heap.get? a=some (seqObj "list" #[] e1))
 (h:∀jx h',Pl vs.length jx vs.length->Up (λi j=>decide (kz.getD i 0<kz.getD j 0)) jx vs.length->(∀b o,b≠kS->b≠a->s.heap.get? b=some o->h'.get? b=some o)->(∃c,h'.get? a=some (seqObj "list" (jx.map (xg vs)) c))->P (.done (.ret .none)) { s with heap:=h' }):
 YG prog w A (ksk_end a false vs.toArray e1 (.ref kS) keys) P E s:=by
 have hsz:keys.size=vs.length:=by
  have h1:=hk.length;rw[ZN] at h1;omega
 have kl:keys=keys.toList.toArray:=Array.toArray_toList.symm;have zr:keys.zip vs.toArray=(Array.range vs.length).map λi=>(xg keys.toList i,xg vs i):=by
  apply Array.ext_getElem?;intro k;rw[Xs];by_cases hk':k<vs.length
  .rw[XS,Zd hk'];have e:xg vs k=vs[k]:=by unfold xg;rw[ZE,Zqg hk'];rfl
   have e2:xg keys.toList k=keys[k]'():=by unfold xg;rw[ZE,Zqg (by rw[ZN];omega)];simp -iota
   simp -iota [Array.getElem?_zip_eq_some,hk',hsz,e,e2]
  .rw[XS,Ze hk',Xu (by simp -iota;omega)];rfl
 have tail:∀(st:SortSt) (jx:Yi),arrOf st=jx.map (λi=>(xg keys.toList i,xg vs i))->failedOf st=none->Pl vs.length jx vs.length->Up (λi j=>decide (kz.getD i 0<kz.getD j 0)) jx vs.length->YG prog w A (ksk_tail a false e1 (.ref kS) st) P E s:=by
  intro st jx q1 q2 q3 q4;have ms:(arrOf st).map (·.2)=jx.map (xg vs):=by rw[q1,Array.map_map];rfl
  unfold ksk_tail;dsimp only;rw[ms,q2];obtain⟨c1,g1⟩:∃c1,(s.heap.update kS (Obj.mapSeq λ_ => #[])).get? kS=some (seqObj "list" #[] c1):=⟨_,get?_update_seq hK (λ_ => #[])⟩;have hA1:(s.heap.update kS (Obj.mapSeq λ_ => #[])).get? a=some (seqObj "list" #[] e1):=by rw[Heap.get?_update_ne _ _ _ _ (Ne.symm hka)];exact hA
  refine Za (listUpdate_at hK rfl ?_ (by rw[hsz,sizeLine_eq];omega) (Nat.zero_le _));refine Za (wpAny_letGo ?_);refine Za (seqEpoch_at (s:={ s with heap:=s.heap.update kS (Obj.mapSeq λ_ => #[]) }) hA1 rfl (Za (listUpdate_at (s:={ s with heap:=s.heap.update kS (Obj.mapSeq λ_ => #[]) }) hA1 rfl ?_ (Nat.zero_le _) (by rw[Ze Zj,Z0,q3.size,sizeLine_eq];omega))));simp -iota only[bne_self_eq_false,ZO,if_false];refine Zb (h jx _ q3 q4 (λb o hb hb2 eb=>?_) ?_)
  .show((s.heap.update kS (Obj.mapSeq λ_ => #[])).update a (Obj.mapSeq λ_=>jx.map (xg vs))).get? b=some o;rw[Heap.get?_update_ne _ _ _ _ hb2,Heap.get?_update_ne _ _ _ _ hb];exact eb
  .exact⟨_,get?_update_seq hA1 (λ_=>jx.map (xg vs))⟩
 unfold ksk_end;dsimp only;simp -iota only[ZO,if_false];by_cases h2:vs.toArray.size<2
 .rw[Zd h2,Zd h2];refine Za (Zb ?_);rw[StateT.run_pure];refine Za (Zb ?_);refine tail _ (Array.range vs.length) zr rfl (tz _ _ (Zf _)) λi j ij jn=>?_;rw[Zm] at h2;omega
 .rw[Ze h2,Ze h2];rw[Zm] at h2;rw[ksk_kind hk (by rw[hsz];omega)];refine Za (Zb ?_);refine Za (Zc (kX (keyed_wk kz) (keyed_orc hk hl) (ix:=Array.range vs.length) (st:=SortSt.mk' oneType' (keys.zip vs.toArray) #[] 7 none) (Q:=λ_ st'=>∃jx,arrOf st'=jx.map (λi=>(xg keys.toList i,xg vs i))/\failedOf st'=none/\Pl vs.length jx vs.length/\Up (λi j=>decide (kz.getD i 0<kz.getD j 0)) jx vs.length)
   ⟨zr,rfl,rfl,rfl⟩ (tz _ _ ()) () h64 λjx st' a1 a2 a3 a4=>⟨jx,a1,a2,a3,a4⟩) ?_ λ_ _ e=>e)
  rintro⟨⟨⟩,st'⟩ s' ⟨rfl,jx,q1,q2,q3,q4⟩;exact tail st' jx q1 q2 q3 q4
def keyed_rest {a kS:Addr}{f:Value}{vs:Yf}{kz:Yh}{e1:Nat}{P:PySem.Fin->Yz}(hl:kz.length=vs.length)(h64:vs.length<1000)(hka:kS≠a)
 (hK:s.heap.get? kS=some (seqObj "list" #[] 0)) (hA:s.heap.get? a=some (seqObj "list" #[] e1))
 (turn:∀(i:Nat) (v:Value) (k:Int),vs[i]? = some v->kz[i]? = some k->∀(h:Heap) (tk:Nat),(∀b o,b≠kS->b≠a->s.heap.get? b=some o->h.get? b=some o) ->
  YG prog w A (call f [v]) (λr s'=>∃t tk',r=.int k t/\s'={ s with heap:=h,toks:=tk' }) (λ_ _=>False) { s with heap:=h,toks:=tk })
 (h:∀jx h' tk,Pl vs.length jx vs.length->Up (λi j=>decide (kz.getD i 0<kz.getD j 0)) jx vs.length->(∀b o,b≠kS->b≠a->s.heap.get? b=some o->h'.get? b=some o)->(∃c,h'.get? a=some (seqObj "list" (jx.map (xg vs)) c))->P (.done (.ret .none)) { s with heap:=h',toks:=tk }):
 YG prog w A (ksk_rest a f false vs.toArray e1 (.ref kS)) P E s:=by
 unfold ksk_rest;refine Za (wpAny_rule ?_)
 first
  |rw[List.forIn_toArray]
  | (rw[<- Array.forIn_toList];simp -iota only[List.toList_toArray])
  |rw[<- Array.forIn_toList]
 refine Za (ksk_fold (λi s'=>∃h' tk kA e,s'={ s with heap:=h',toks:=tk }/\(∀b o,b≠kS->s.heap.get? b=some o->h'.get? b=some o)/\h'.get? kS=some (seqObj "list" kA e)/\IntsAre kA.toList (kz.take i)) vs 0 s
  ⟨s.heap,s.toks,#[],0,rfl,λ_ _ _ e=>e,hK,by simpa -iota using IntsAre.nil⟩ ?step ?done)
 case step =>
  rintro j x s' hx ⟨h',tk,kA,e,rfl,kk,hk1,hk⟩;simp -iota only[Nat.zero_add] at hk ⊢;have hj:j<vs.length:=(ZI.mp hx).1;obtain⟨k,hkj⟩:∃k,kz[j]? = some k:=⟨_,Zqg ()⟩;have hz:kA.size<=vs.length:=by
   have h1:=hk.length;rw[ZN,Z2] at h1;omega
  refine Za (wpAny_attempt (Zc (turn j x k hx hkj h' tk λb o hb _ eb=>kk b o hb eb) (λv s'' he=>?_) λ_ _ hF=>hF.elim));refine zc2b he λt2 tk2 zr2 zr3=>?_;subst zr2;subst zr3
  try dsimp only
  obtain⟨c2,hc2⟩:∃c2,(h'.update kS (Obj.mapSeq (·.push (.int k t2)))).get? kS=some (seqObj "list" (kA.push (.int k t2)) c2):=⟨_,get?_update_seq hk1 (·.push (.int k t2))⟩;have ek:kz.take (j+1)=kz.take j++[k]:=by rw[List.take_add_one,hkj];simp -iota
  have ea:(kA.push (Value.int k t2)).toList=kA.toList++[Value.int k t2]:=by simp -iota
  refine Za (listUpdate_at (s:={ s with heap:=h',toks:=tk2 }) hk1 rfl ?_ (by rw[sizeLine_eq];omega) (Zh (XB (Array.size_push ..)) (by rw[sizeLine_eq];omega)));refine Zb ⟨rfl,_,_,kA.push (.int k t2),c2,rfl,λb o hb eb=>?_,hc2,by rw[ea,ek];exact ksk_snoc hk⟩;show(h'.update kS (Obj.mapSeq (·.push (.int k t2)))).get? b=some o;rw[Heap.get?_update_ne _ _ _ _ hb];exact kk b o hb eb
 case done =>
  rintro s' ⟨h',tk,kA,e,rfl,kk,hk1,hk⟩;have hk':IntsAre kA.toList kz:=by
   have e3:kz.take (0+vs.length)=kz:=Z3 ();rw[e3] at hk;exact hk
  try dsimp only
  refine Za (listItems_at (s:={ s with heap:=h',toks:=tk }) hk1 rfl ?_);exact keyed_end (s:={ s with heap:=h',toks:=tk }) hk' hl h64 hka hk1 (kk a _ (Ne.symm hka) hA) λjx h2 p u k2 g=>h jx h2 tk p u (λb o hb hb2 eb=>k2 b o hb hb2 (kk b o hb eb)) g
def keyed_sort {a:Addr}{f:Value}{vs:Yf}{kz:Yh}{n:Nat}{P:PySem.Fin->Yz}(ho:s.heap.get? a=some (seqObj "list" vs.toArray n))(hl:kz.length=vs.length)(h64:vs.length<1000)
 (turn:∀(i:Nat) (v:Value) (k:Int),vs[i]? = some v->kz[i]? = some k->∀(h:Heap) (tk:Nat),(∀b o,b≠a->s.heap.get? b=some o->h.get? b=some o) ->
  YG prog w A (call f [v]) (λr s'=>∃t tk',r=.int k t/\s'={ s with heap:=h,toks:=tk' }) (λ_ _=>False) { s with heap:=h,toks:=tk })
 (h:∀jx h' tk,Pl vs.length jx vs.length->Up (λi j=>decide (kz.getD i 0<kz.getD j 0)) jx vs.length->(∀b o,b≠a->s.heap.get? b=some o->h'.get? b=some o)->(∃c,h'.get? a=some (seqObj "list" (jx.map (xg vs)) c))->P (.done (.ret .none)) { s with heap:=h',toks:=tk }):
 YG prog w A (ksk_tree a f false) P E s:=by
 have la:a<s.heap.objs.size:=Zk ho;obtain⟨e1,ho1⟩:∃e1,(s.heap.update a (Obj.mapSeq λ_=>(#[]:Yn))).get? a=some (seqObj "list" #[] e1):=⟨_,get?_update_seq ho λ_ => #[]⟩;have hkS:((s.heap.update a (Obj.mapSeq λ_=>(#[]:Yn))).push (seqObj "tuple" vs.toArray 0)).objs.size=s.heap.objs.size+1:=by rw[size_push',Heap.size_update]
 unfold ksk_tree;refine Za (listItems_at ho rfl ?_);refine Za (listUpdate_at ho rfl ?_ (by rw[Zm,sizeLine_eq];omega) (Nat.zero_le _));refine Za (seqEpoch_at ho1 rfl ?_);refine Za (wpAny_newTuple ?_ (by show vs.length<=_;rw[sizeLine_eq];omega));refine Za (wpAny_newList ?_ (Nat.zero_le _));refine wpAny_holding ?_;have hlt:∀{b o},s.heap.get? b=some o->b≠s.heap.objs.size/\b≠s.heap.objs.size+1:=λe=>⟨Zi (Zk e),Zi (Xa (Zk e))⟩;have keep:∀b o,b≠a->s.heap.get? b=some o->(((s.heap.update a (Obj.mapSeq λ_=>(#[]:Yn))).push (seqObj "tuple" vs.toArray 0)).push (seqObj "list" #[] 0)).get? b=some o:=λb o hb e=>by
  refine Zq _ (Zq _ ?_);rw[Heap.get?_update_ne _ _ _ _ hb];exact e
 refine keyed_rest (s:={ s with heap:=((s.heap.update a (Obj.mapSeq λ_=>(#[]:Yn))).push (seqObj "tuple" vs.toArray 0)).push (seqObj "list" #[] 0) }) (kS:=((s.heap.update a (Obj.mapSeq λ_=>(#[]:Yn))).push (seqObj "tuple" vs.toArray 0)).objs.size)
  hl h64 (by rw[hkS];exact Nat.ne_of_gt (Xa la)) (Zr _ rfl) (Zq _ (Zq _ ho1))
  (λi v k hv hk h' tk kk=>turn i v k hv hk h' tk λb o hb e=>kk b o (by rw[hkS];exact(hlt e).2) hb (keep b o hb e))
  (λjx h' tk p u kk g=>h jx h' tk p u (λb o hb e=>kk b o (by rw[hkS];exact(hlt e).2) hb (keep b o hb e)) g)
end
section
variable {X:Cx}
def mG:YB->Hp->VK->Prop:=λxs H Q=>∃a ys rs,xs=[.ref a]/\Rd H a (.lst ys)/\zw H (rs.map rD) ys/\rs.Pairwise (λa b=>yF a b=true)/\rs.length<1000/\(∀r∈rs,r.length<=1000) /\
 ∀l zs,H l=none->(∀G,zw G (rs.map rD) ys->zw G ((zT llB rs).map rD) zs)->Q (.ref l) (upd H l (.lst zs))
def sortedLen {Y:Yb}{Z:St}{H:Hp}{s:Shared}{a:Addr}{ys:YB}{rs:X7}{Q:VK}(I:Inv X Y Z H s)(ha:Rd H a (.lst ys))(hA:zw H (rs.map rD) ys)(hs:rs.Pairwise (λa b=>yF a b=true))(h64:rs.length<1000)(hrl:∀r∈rs,r.length<=1000)
 (q:∀l zs,H l=none->(∀G,zw G (rs.map rD) ys->zw G ((zT llB rs).map rD) zs)->Q (.ref l) (upd H l (.lst zs))):
 YF X (call (.builtin "sorted") [.ref a] [(Str.ofString "key",.builtin "len")]) (EP X Y Z Q) X.xe s:=by
 refine zc1c (I.list (.inl ha)) λits ri pl hz=>?_;have l1:=hA.length;have l2:=ri.length;rw[Zql] at l1;have lw:its.length=rs.length:=()
 have hl:=pl.isList;have keep:∀b o,s.heap.get? b=some o->(((s.heap.push (seqObj "list" #[] 0)).update s.heap.objs.size (Obj.mapSeq (· ++ its.toArray))).push (seqObj "list" its.toArray 0)).get? b=some o:=λb o q=>by
  have hlt:b<s.heap.objs.size:=Zk q;refine Zq _ ?_;rw[Heap.get?_update_ne _ _ _ _ (Zi hlt),Heap.get?_push_ne _ _ _ (Zi hlt)];exact q
 have hsz:((s.heap.push (seqObj "list" #[] 0)).update s.heap.objs.size (Obj.mapSeq (· ++ its.toArray))).objs.size=s.heap.objs.size+1:=by
  rw[Heap.size_update,size_push']
 have hoL:(((s.heap.push (seqObj "list" #[] 0)).update s.heap.objs.size (Obj.mapSeq (· ++ its.toArray))).push (seqObj "list" its.toArray 0)).get? (s.heap.objs.size+1)=some (seqObj "list" its.toArray 0):=by
  rw[<- hsz];exact Zr _ rfl
 refine call_function_entry_kw kind_sorted plain_sorted entry_sorted (ksk_s1 _ _) ?_;unfold Builtin.«sorted»;refine Za (m:=checkCount "sorted" 1 1 _) (Zb ?_);refine Za (collect_list hl ?_ (by rw[lw,sizeLine_eq];omega));refine Za (wpAny_newList ?_ (by rw[lw,sizeLine_eq];omega));show wpAny _ _ _ _ _ { s with heap:=((s.heap.push (seqObj "list" #[] 0)).update s.heap.objs.size (Obj.mapSeq (· ++ its.toArray))).push (seqObj "list" its.toArray 0) };rw[hsz];generalize hH:((s.heap.push (seqObj "list" #[] 0)).update s.heap.objs.size (Obj.mapSeq (· ++ its.toArray))).push (seqObj "list" its.toArray 0)=hp at keep hoL;refine Za (wpAny_holding (wpAny_call_entry_kw slot_list_sort ⟨_,hoL,rfl⟩ entry_list_sort ?body (ksk_l1 _ _)))
 case body =>
  show wpAny (model X.prog X.w) X.A.in1.in1 (Builtin.«list.sort» ⟨[.ref (s.heap.objs.size+1)],[(Str.ofString "key",.builtin "len")]⟩) _ _ _;rw[ksk_t4];refine keyed_sort (s:={ s with heap:=hp }) (kz:=rs.map λr=>(r.length:Int)) hoL (by rw[Zql];omega) () (λi v k hv hk h' tk kk=>?_) λjx h' tk p u kk g=>⟨_,rfl,Zb ⟨_,rfl,?_⟩⟩
  .have hi:i<rs.length:=by
    have:=(ZI.mp hk).1
    rwa [Zql] at this
   refine zc1b (hA.get (i:=i) (d:=rD (rs.getD i [])) (by rw[Zv,Zqg hi,z4 (Zqg hi)];rfl)) λx hx hI=>?_;refine zc1b (ri.get hx) λv' hv' rr=>?_;rw[hv] at hv';obtain rfl:=Zqi hv';refine zc4a (jW I.hok hI rr) λb o ws m R=>?_;obtain rfl:v=Value.ref b:=R.isv;have hb:b≠s.heap.objs.size+1:=Zi (Xa (Zk R.get));have ht:IsTup h' b ws.toArray:=⟨o,kk b o hb (keep b o R.get),R.cls,m,R.dat⟩;have lws:ws.length=(rs.getD i []).length:=R.prs.1;have ek:k=((rs.getD i []).length:Int):=by
    rw[Zv,Zqg hi] at hk;rw[z4 (Zqg hi)];exact(Zqi hk).symm
   have lrow:(rs.getD i []).length<=1000:=by
    rw[z4 (Zqg hi)];exact hrl _ (Z9 hi)
   have ev:Value.int ((ws.toArray.size:Nat):Int) (tk+1)=Value.int k (tk+1):=by rw[Zm,lws,ek]
   exact len_tuple (s:={ s with heap:=h',toks:=tk }) ht (by rw[Zm,lws];omega) ⟨tk+1,tk+1+1,ev,rfl⟩
  .obtain⟨c,g⟩:=g;have kk':∀b o,s.heap.get? b=some o->h'.get? b=some o:=λb o e=>kk b o (Zi (Xa (Zk e))) (keep b o e);rw[lw] at p u;have ud:(λi j=>decide ((rs.map λr=>(r.length:Int)).getD i 0<(rs.map λr=>(r.length:Int)).getD j 0))=λi j=>decide (((rs.getD i []).length:Int)<((rs.getD j []).length:Int)):=by
    have e:∀i,(rs.map λr=>(r.length:Int)).getD i 0=((rs.getD i []).length:Int):=λi=>by
     rw[ZE,Zv,ZE];cases rs[i]?<;>rfl
    funext i j
    rw[e,e]
   rw[ud] at u;have sp:=len_places hs p u;have szl:s.heap.objs.size<=s.heap.objs.size+1:=Nat.le_succ _;have at_:∀i∈jx.toList,∃x v,ys[i]? = some x/\its[i]? = some v/\y8 x v:=λi hi=>by
    have hn:=p.mem hi;obtain⟨x,hx⟩:∃x,ys[i]? = some x:=⟨ys[i]'(),Zqg ()⟩;refine zc1b (ri.get hx) λv hv rr=>?_;exact⟨x,v,hx,hv,rr⟩
   have fin:=q (s.heap.objs.size+1) (jx.toList.map λi=>ys.getD i .non) (I.hok.fresh szl) λG hG=>by
    have:=wO hG jx.toList λi hi=>p.mem hi;rw[sp] at this;exact this
   refine⟨.ref (s.heap.objs.size+1),upd H (s.heap.objs.size+1) (.lst (jx.toList.map λi=>ys.getD i .non)),I.laid (a:=s.heap.objs.size+1) (o:=.lst (jx.toList.map λi=>ys.getD i .non)) (t':=tk) kk' szl ⟨?_,jx.toList.map (xg its),c,?_,?_⟩,rfl,fin⟩
   .rw[Zql,p.len];exact ua ()
   .refine wR λi hi=>?_;refine zc2c (at_ i hi) λx v hx hv rr=>?_;unfold xg;rw[z4 hx,z4 hv];exact rr
   .rw[g]
    congr 3
    apply Array.ext';simp -iota
def pe_sortLen (hg:Gl X "sorted")(hm:X.mg "sorted" = none)(hg2:Gl X "len")(hm2:X.mg "len" = none)(ha:PA X [e] t)
 (he:autoParam (backTo pos (starEach [e] X.env)=(false,eval e X.env)::backTo pos (starEach [] X.env)) zau._auto_1) (hpl:autoParam ((backTo pos (starEach [e] X.env)).any (·.1)=false) zau._auto_1):PE X (.Call (.Name "sorted" p) [e] [⟨some "key",.Name "len" lp,kp⟩] pos) (tCB mG t):=by
 intro Y s Z H Q I h;refine wpAny_Call_Name_kw (oB I hg hm (show bootBuiltins "sorted" = some (.builtin "sorted") by kernel_rfl) ?_ (by decide) (by decide));refine callWith_kw (thn (ha pos Y s Z H _ I h) λus s1 ⟨vs,H1,I1,r1,q1⟩=>?_) he hpl;refine kws_cons (oB I1 hg2 hm2 boot_len ?_ (by decide) (by decide));refine kws_nil ?_;refine zc3a q1 λa ys rs zz=>xf zz λzr3 h1 h2 h3 zz=>x8 zz λh4 h5 q=>?_;subst zr3;refine zc1b (wp r1) λu zr1 ru=>?_;subst zr1;obtain rfl:u=Value.ref a:=ru;exact sortedLen I1 h1 h2 h3 h4 h5 q
end
end L2.ST
namespace L2.DL
open PySem PySem.Spec PyProof.Rows L2.ST
def vB:YD->YE
 | [.lst ds]=>(xx vJ ds).bind λrs=>if rs.Pairwise (λa b=>yF a b=true)/\rs.length<1000/\∀r∈rs,r.length<=1000 then some (.lst ((zT llB rs).map rwD)) else none
 |_=>none
section
variable {X:Cx}{E:XK}{fr:FA}{es:Ym}{e:Expr}
def q_sortLen (h:∀{ta:TA},PA X es ta->PE X e (tCB mG ta))(ha:QA X E es fr):QN X E e (yT vB fr):=PE.weak (h ha) λZ H Q zh=>by
 refine zc3b zh λB F sd r n=>?_;refine⟨B,F,sd,r,(Res.need_bind n).mono (λds n1 vs F1 H1 e1 i1=>?_) λ_ _ q=>q⟩;refine zc1b (Res.need_ofO n1) λz hz q=>?_;unfold vB at hz
 split at hz
 .refine zc1b (Option.bind_eq_some_iff.mp hz) λrs h1 hz=>?_
  split at hz
  .rename_i hc;obtain rfl:=Zqi hz;refine zc1b (xF i1) λv zr1 h=>?_;subst zr1;rw[uf h1,IsD.lst_iff] at h;refine zc2c h λa ys zr2 g1 g2=>?_;subst zr2;refine⟨a,ys,rs,rfl,g1.same e1.fh,vg.mp (zq.same e1.fh _ _ g2),hc.1,hc.2.1,hc.2.2,λl zs hl hG=>?_⟩;exact(q.ext e1) l F1 _ (.keep e1.fh hl _) hl (zF e1.fh hl) ⟨zs,zu,vg.mpr (hG F1 (vg.mp g2))⟩
  .exact zqn hz
 .exact zqn hz
end
def gSortLen_rows (h:rs.Pairwise (λa b=>yF a b=true))(h2:rs.length<1000)(h3:∀r∈rs,r.length<=1000):vB [.lst (rs.map rwD)]=some (.lst ((zT llB rs).map rwD)):=by
 show(xx vJ (rs.map rwD)).bind _=_;rw[uI];exact Zd ⟨h,h2,h3⟩
end L2.DL
namespace L2
def yE.has {P:Program}{w:World}{H:Hp}{h:Heap}{a:Addr}{o:HO}(x:yE P w H h a o):∃u,h.get? a=some u:=by
 cases o with
 |lst xs=>obtain⟨_,_,_,_,e⟩:=x;exact⟨_,e⟩
 |tup xs=>obtain⟨_,_,_,o,e,_⟩:=x;exact⟨_,e⟩
 |dK kvs=>obtain⟨_,_,_,_,o,_,_,e,_⟩:=x;exact⟨_,e⟩
 |dT kvs=>obtain⟨_,_,_,_,o,_,_,e,_⟩:=x;exact⟨_,e⟩
 |set S n=>obtain⟨o,_,_,_,e,_⟩:=x;exact⟨_,e⟩
 |ins C dx fs=>obtain⟨_,_,_,e,_⟩:=x;exact⟨_,e⟩
 |own y=>exact x
 |xd fs=>obtain⟨_,⟨_,_,_,e,_⟩,_⟩:=x;exact⟨_,e⟩
 |rng lo hi=>obtain⟨_,_,_,e⟩:=x;exact⟨_,e⟩
 |frz ob u=>exact⟨_,x.1⟩
 |tbl ps=>exact⟨_,show h.get? a=some _ from x⟩
 |met f y=>exact⟨_,show h.get? a=some _ from x⟩
 |ext φ => exact x.2.1
structure FlyAt (l:List Env)(h₀:Heap)(H:Hp)(x C:Addr)(B h:Heap):Prop where
 fly:∃t,Heap.FlyingW B l x (.ref C) (.ref t) h
 trk:∀b o,h.get? b=some o->(H b≠none\/((∃u,h₀.get? b=some u)/\b∉frs l))->B.get? b=some o
def CXE (P:Program)(w:World):CXT:=λouter H s E e s'=>∃H' x C B,e=.ref x/\s'.os=s.os/\AllBare s'.gens/\Un (frs outer) [] H H' s.heap s'.heap/\HOk P w H' s'.heap/\FlyAt outer s.heap H' x C B s'.heap/\E (.ref C) none H'
structure Thrown (X:Cx)(E:XK):Prop where
 on:∀(Y:Yb) (Z:St) (H:Hp) (s:Shared) (h₀:Heap) (x C:Addr) (B:Heap),Inv X Y Z H s->(∀b u,X.s₀.heap.get? b=some u->b∉X.ex->∃u',h₀.get? b=some u')->FlyAt X.stack h₀ H x C B s.heap->E (.ref C) none H->X.xe (.ref x) s
structure Raises (X:Cx)(E:XK):Prop where
 new:∀(Y:Yb) (Z:St) (H:Hp) (s:Shared) (h':Heap) (x C:Addr) (args:Yf),Inv X Y Z H s->Heap.MadeExcOf s.heap h' x (.ref C) args->E (.ref C) none H->X.xe (.ref x) { s with heap:=h' }
def Thrown.passes {X:Cx}{E:XK}(T:Thrown X E):m9 (CXE X.prog X.w) X E:=by
 rintro Y Z H s e s' I ⟨H',x,C,B,h1,os,bare,un,hok,fl,hE⟩;subst h1;have I':=I.call' (s':=s') (ch:=[]) os un hok bare (λb z=>Zn z (by simp));exact T.on Y Z H' s' s.heap x C B I' (λb u e hx=>I.base.there b u e hx) fl hE
section
variable {P:Program}{w:World}{K:W.Frag}{mg:Ye}{base:Heap}{N:Yk}{qual:Str}{scope:Scope}{f:Addr}{cd:Value}{A:Around}{outer:List Env}{s:Shared}{H:Hp}{E:XK}
def pW {Y:Yb}{Z:St}{H':Hp}{s':Shared}{h₀ h'' B:Heap}{x C t:Addr}(I:Inv (rl (CXE P w) P w K mg base N qual scope f cd A outer s H E) Y Z H' s')
 (h0:∀b u,s.heap.get? b=some u->∃u',h₀.get? b=some u') (fl:Heap.FlyingW B outer x (.ref C) (.ref t) h'') (up:s'.heap.UpToSlots h'')
 (trk:∀b o,s'.heap.get? b=some o->(H' b≠none\/((∃u,h₀.get? b=some u)/\b∉frs (envOfC qual scope s.heap.objs.size f cd::outer)))->B.get? b=some o) (hE:E (.ref C) none H'):
 CXE P w outer H s E (.ref x) { s' with heap:=h'' }:=by
 have nst:∀b u,s.heap.get? b=some u->b∉frs outer->b∉frs (envOfC qual scope s.heap.objs.size f cd::outer):=λb u e hb z=>by
  unfold frs at z hb;rw[Xc] at z;have z:b∈s.heap.objs.size::outer.filterMap (·.frame):=z;rcases ZF.mp z with q|q
  .exact Zn (Zk e) (by rw[q];exact Zx _)
  .exact hb q
 have nex:∀b:Addr,b∉(rl (CXE P w) P w K mg base N qual scope f cd A outer s H E).ex:=λb z=>Zn (show b∈([]:Yl) from z) (by simp);have keep:∀b o,s'.heap.get? b=some o->(H' b≠none\/((∃u,s.heap.get? b=some u)/\b∉frs outer))->B.get? b=some o:=λb o e c=>by
  refine trk b o e ?_;rcases c with c|⟨⟨u,hu⟩,hb⟩
  .exact .inl c
  .exact .inr ⟨h0 b u hu,nst b u hu hb⟩
 have slot:∀b o,s.heap.get? b=some o->b∈frs outer->∃sl,h''.get? b=some { o with slots:=sl }:=λb o e hb=>by
  obtain⟨sl,e1⟩:=I.base.slot b o e (I.ok.frf b hb) hb (nex b);refine wx (I.ok.funs.mem hb) λ_ zz=>zc1b zz λo' ho' hd=>?_;have ho':s.heap.get? b=some o':=ho';rw[e] at ho';obtain rfl:=Zqi ho';obtain⟨sl',e2⟩:=up b _ e1 hd;exact⟨sl',e2⟩
 refine⟨H',x,C,B,rfl,I.os,I.bare,⟨λb o e n hb _=>?_,λb o e n hb _=>slot b o e hb,λb o e n _=>I.base.free b o e n (nex b),λb o e _=>?_,I.base.tups,I.base.frzs,I.base.tbls⟩,λb u e=>?_,⟨⟨t,fl⟩,λb o e c=>?_⟩,hE⟩
 .exact fl.1 b o (keep b o (I.base.keep b o e n hb (nex b)) (.inr ⟨⟨o,e⟩,hb⟩))
 .by_cases hb:b∈frs outer
  .obtain⟨sl,q⟩:=slot b o e hb;exact⟨_,q⟩
  .obtain⟨o',e'⟩:=I.base.there b o e (nex b);exact⟨o',fl.1 b o' (keep b o' e' (.inr ⟨⟨o,e⟩,hb⟩))⟩
 .refine(I.hok b u e).stay (λc v hc q=>fl.1 c v (keep c v q (.inl ?_))) (λ_ q=>q) λ_ _ q=>q;rcases hc with z|z
  .rw[z,e];simp
  .rw[z];simp
 .have ex:∃o',s'.heap.get? b=some o':=by
   rcases c with c|⟨⟨u,hu⟩,_⟩
   .cases q:H' b with
    |none=>exact Zn q c
    |some u=>exact(I.hok b u q).has
   .exact I.base.there b u hu (nex b)
  obtain⟨o',e'⟩:=ex;have k:=keep b o' e' c;have:=fl.1 b o' k;have e:h''.get? b=some o:=e;rw[e] at this;obtain rfl:=Zqi this;exact k
def uE:Thrown (rl (CXE P w) P w K mg base N qual scope f cd A outer s H E) E:=by
 refine⟨λY Z H' s' h₀ x C B I h0 fl hE=>?_⟩;obtain⟨⟨t,fly⟩,trk⟩:=fl;have nex:∀b:Addr,b∉(rl (CXE P w) P w K mg base N qual scope f cd A outer s H E).ex:=λb z=>Zn (show b∈([]:Yl) from z) (by simp);exact wpAny_leaves_onW I.ok.frames rfl fly λh' fl up=>pW I (λb u e=>h0 b u e (nex b)) fl up trk hE
def raises_def:Raises (rl (CXE P w) P w K mg base N qual scope f cd A outer s H E) E:=by
 refine⟨λY Z H' s' h' x C args I hx hE=>?_⟩;have st:=I.stack;have fin:∀env∈(envOfC qual scope s.heap.objs.size f cd::outer),∀a,env.frame=some a->a∈frs (envOfC qual scope s.heap.objs.size f cd::outer):=λenv he a ha=>X2.mpr ⟨env,he,ha⟩;have B:=W.hideAll s'.heap (frs (envOfC qual scope s.heap.objs.size f cd::outer));refine wpAny_leaves_madeW (s:={ s' with heap:=h' }) (base:=W.hideAll s'.heap (frs (envOfC qual scope s.heap.objs.size f cd::outer))) (h:=s'.heap) I.ok.frames rfl (λb o e=>W.of_hideAll _ e) (W.funFrames_hide st fin) hx λh'' t fl tup tn up=>?_;refine pW (s':=s') (h₀:=s'.heap) I (λb u e=>I.base.there b u e (by show b∉([]:Yl);simp)) fl ((Heap.UpToSlots.of_keeps hx.keeps).trans up) (λb o e c=>?_) hE;refine W.hideAll_get _ e λz=>?_;rcases c with c|c
 .exact c (I.stkFree b z)
 .exact c.2 z
end
def yu (P:Program)(w:World)(K:W.Frag)(mg:Ye)(base:Heap)(name:Str)(k:Nat)(ps:Yk)(sp:Sp):Prop:=
 ∃f fd,FnOk P w K mg base (CXE P w) k f fd ps sp/\pX K fd ps []/\W.keepIn K (.ref f)=true/\mg name=some (.ref f)
theorem yu.mono {P:Program}{w:World}{K:W.Frag}{mg:Ye}{base:Heap}{name:Str}{j k:Nat}{ps:Yk}{sp:Sp}(c:yu P w K mg base name j ps sp)(h:j<=k):yu P w K mg base name k ps sp:=by
 refine zc2b c λf fd F r=>?_;exact⟨f,fd,F.mono h,r⟩
section
variable {X:Cx}{E:XK}{name:Str}{k:Nat}{ps:Yk}{sp:Sp}{p pos:Pos}{e:Expr}{es:Ym}{t:TA}
def fN (c:yu X.prog X.w X.K X.mg X.base name k ps sp)(T:Thrown X E)(hr:Room k X.A)(hg:Gl X name)(ha:PA X (e::es) t)
 (hdb:autoParam ((name == ("__debug__" : Str))=false) zav._auto_1) (he:starEach (e::es) X.env=(false,eval e X.env)::starEach es X.env:=by rfl) (hpl:(backTo pos (starEach es X.env)).any (·.1)=false:=by rfl):
 PE X (.Call (.Name name p) (e::es) [] pos) (eV sp [] E t):=by
 refine zc2d c λf fd F b hk hm=>?_;exact j6 F hr hg hm hk b .nil T.passes ha hdb he hpl
end
def Fun.okX {P:Program}{w:World}{K:W.Frag}{mg:Ye}{base:Heap}{x qual:Str}{st:Stmt}{f:Addr}{fd:FuncData}{N ps:Yk}{k:Nat}{sp:Sp}(F:Fun K x qual st f fd)(S:FnScope N ps (zi st))(len:∀vs H Q E,sp vs H Q E->vs.length=ps.length)
 (hbody:∀(cdv:Value) (A:Around) (outer:List Env) (s:Shared) (H:Hp) (vs:YB) (Q:VK) (E:XK),Room k (A.deeper (envOfC qual (zi st) s.heap.objs.size f cdv))->sp vs H Q E ->
  ∃t,PSs (rl (CXE P w) P w K mg base N qual (zi st) f cdv A outer s H E) (xb st) t/\t { nx:=λ_ H'=>Q .non H',rt:=Q } (start N vs) H):FnOk P w K mg base (CXE P w) (k+1) f fd ps sp:=by
 refine zc4a F.ex λoc od kV doc zz=>zc4a zz λpm an cdv ct zz=>zc1c zz λosl zr9 lk hcd=>?_;subst zr9;exact dX lk hcd S len λA outer s H vs Q E hr hsp=>hbody cdv A outer s H vs Q E hr hsp
end L2
namespace L2.DL
def iQ (K:W.Frag)(Fn:YD->Res D):Sp:=λvs H Q E=>∃F ds,yC F H/\zq K F ds vs/\(Fn ds).need (OkD K F H Q) (XW K E F H)
def iH (K:W.Frag)(Fn:YD->Res D):Sp:=λvs H Q E=>∃F ds,yC F H/\zq K F ds vs/\(Fn ds).need (OkN K F H Q) (XW K E F H)
noncomputable def Res.strict {α:Type}:Res α -> Res α
 | .ok a=>.ok a
 |_=>.no
@[simp]def Res.strict_ok {α:Type}(a:α):(Res.ok a).strict=.ok a:=rfl
def Res.need_strict {α:Type}{r:Res α}{p:α -> Prop}{q q':Str->YD->Prop}(h:r.strict.need p q):r.need p q':=by
 cases r with
 |ok a=>exact h
 |ex c fs=>exact h.elim
 |no=>exact h
def vE (Fn:YD->Res D)(fr:FA):FE:=λsd=>(fr sd).bind λds=>(Fn ds).strict
@[simp]def ev_call0 (Fn:YD->Res D)(fr:FA)(sd:SD):vE Fn fr sd=(fr sd).bind λds=>(Fn ds).strict:=rfl
section
variable {X:Cx}{E:XK}{name:Str}{k:Nat}{ps:Yk}{Fn:YD->Res D}{p pos:Pos}{e:Expr}{es:Ym}{fr:FA}
def q_fnX (c:yu X.prog X.w X.K X.mg X.base name k ps (iQ X.K Fn))(T:Thrown X E)(hr:Room k X.A)(hg:Gl X name)(ha:QA X E (e::es) fr)
 (hdb:autoParam ((name == ("__debug__" : Str))=false) zav._auto_1) (he:starEach (e::es) X.env=(false,eval e X.env)::starEach es X.env:=by rfl) (hpl:(backTo pos (starEach es X.env)).any (·.1)=false:=by rfl):
 QE X E (.Call (.Name name p) (e::es) [] pos) (zt Fn fr):=PE.weak (fN c T hr hg ha hdb he hpl) λZ H Q zh=>by
 refine zc3b zh λB F sd r n=>?_;refine⟨B,F,sd,r,(Res.need_bind n).mono (λxs n1 vs F1 H1 e1 i1=>?_) λ_ _ q=>q⟩;show iQ X.K Fn (vs++[]) H1 Q E;rw[Zz];exact⟨F1,xs,e1.fh,i1,dk n1 e1⟩
def gJ (c:yu X.prog X.w X.K X.mg X.base name k ps (iH X.K Fn))(T:Thrown X E)(hr:Room k X.A)(hg:Gl X name)(ha:QA X E (e::es) fr)
 (hdb:autoParam ((name == ("__debug__" : Str))=false) zav._auto_1) (he:starEach (e::es) X.env=(false,eval e X.env)::starEach es X.env:=by rfl) (hpl:(backTo pos (starEach es X.env)).any (·.1)=false:=by rfl):
 QN X E (.Call (.Name name p) (e::es) [] pos) (zt Fn fr):=PE.weak (fN c T hr hg ha hdb he hpl) λZ H Q zh=>by
 obtain⟨B,F,sd,r,n⟩:=zh;refine⟨B,F,sd,r,(Res.need_bind n).mono (λxs n1 vs F1 H1 e1 i1=>?_) λ_ _ q=>q⟩;show iH X.K Fn (vs++[]) H1 Q E;rw[Zz];exact⟨F1,xs,e1.fh,i1,eP n1 e1⟩
def oE (c:zp X.prog X.w X.K X.mg X.base name k ps (SpN X.K Fn))(hr:Room k X.A)(hg:Gl X name)(ha:QA X E (e::es) fr)
 (hdb:autoParam ((name == ("__debug__" : Str))=false) zav._auto_1) (he:starEach (e::es) X.env=(false,eval e X.env)::starEach es X.env:=by rfl) (hpl:(backTo pos (starEach es X.env)).any (·.1)=false:=by rfl):
 QN X E (.Call (.Name name p) (e::es) [] pos) (vE Fn fr):=PE.weak (fY c hr hg ha hdb he hpl) λZ H Q zh=>by
 refine zc3b zh λB F sd r n=>?_;refine⟨B,F,sd,r,(Res.need_bind n).mono (λxs n1 vs F1 H1 e1 i1=>?_) λ_ _ q=>q⟩;show SpN X.K Fn (vs++[]) H1 Q E0;rw[Zz];exact⟨F1,xs,e1.fh,i1,Res.need_strict (eP n1 e1)⟩
end
section
variable {P:Program}{w:World}{K:W.Frag}{mg:Ye}{base:Heap}{x qual:Str}{f:Addr}{fd:FuncData}{N ps:Yk}{k:Nat}{st:Stmt}
def fn_dX {g:FS}(F:Fun K x qual st f fd)(S:FnScope N ps (zi st))
 (hb:∀(cdv:Value) (A:Around) (outer:List Env) (s:Shared) (H:Hp) (E:XK),Room k (A.deeper (envOfC qual (zi st) s.heap.objs.size f cdv))->QSs (rl (CXE P w) P w K mg base N qual (zi st) f cdv A outer s H E) E false (xb st) g):
 FnOk P w K mg base (CXE P w) (k+1) f fd ps (iQ K (ve N.length ps.length g)):=by
 refine F.okX S (λvs H Q E ⟨F,ds,_,h,n⟩=>?_) λcdv A outer s H vs Q E hr ⟨F,ds,hs,h,n⟩=>⟨_,hb cdv A outer s H E hr,?_⟩
 .unfold ve at n
  split at n
  .rw[h.length];assumption
  .exact n.elim
 .unfold ve at n
  split at n
  .refine⟨⟨F,H,λ_=>none⟩,F,_,RS.start hs h,(Res.need_bind n).mono (λo n1=>?_) λ_ _ q=>q⟩;cases o with
   |next sd=>exact λZ F' H' _ r=>n1 .non F' H' r.ext (IsD.non_iff.mpr rfl)
   |ret d=>exact n1
   |brk sd=>exact n1.elim
   |cont sd=>exact n1.elim
  .exact n.elim
def cp {g:FS}(F:Fun K x qual st f fd)(S:FnScope N ps (zi st))
 (hb:∀(cdv:Value) (A:Around) (outer:List Env) (s:Shared) (H:Hp) (E:XK),Room k (A.deeper (envOfC qual (zi st) s.heap.objs.size f cdv))->QSs (rl (CXE P w) P w K mg base N qual (zi st) f cdv A outer s H E) E true (xb st) g):
 FnOk P w K mg base (CXE P w) (k+1) f fd ps (iH K (uc N.length ps.length g)):=by
 refine F.okX S (λvs H Q E ⟨F,ds,_,h,n⟩=>?_) λcdv A outer s H vs Q E hr ⟨F,ds,hs,h,n⟩=>⟨_,hb cdv A outer s H E hr,?_⟩
 .unfold uc at n
  split at n
  .rw[h.length];assumption
  .exact n.elim
 .unfold uc at n
  split at n
  .refine⟨⟨F,H,λ_=>none⟩,F,_,RS.start hs h,(Res.need_bind n).mono (λo n1=>?_) λ_ _ q=>q⟩;cases o with
   |next sd=>exact n1.elim
   |ret d=>exact n1
   |brk sd=>exact n1.elim
   |cont sd=>exact n1.elim
  .exact n.elim
end
end L2.DL
namespace L2
def log2_small (h:n<1000000):n.log2<20:=by
 by_cases z:n=0
 .subst z;decide
 .exact(Nat.log2_lt z).mpr (Zg h (by decide))
section
variable {X:Cx}{x:Str}{v e:Expr}{tv:TE}{t:TA}{p1 p2 np cpos pos:Pos}{k}
noncomputable def tFmt (x:Str)(tv:TE):TE:=λZ H Q=>tv Z H λy H1=>∃a:Int,y=.int a/\a.natAbs<1000000/\Q (.str (Str.empty++x++Str.ofString (toString a))) H1
def pe_fmt (hx:x.length<=1000)(hv:PE X v tv):PE X (.JoinedStr [.Constant (.str x) k p1,.FormattedValue v (-1) none p2] pos) (tFmt x tv):=by
 intro Y s Z H Q I h;refine wpAny_JoinedStr ?_;have z0:(Str.empty:Str).length=0:=rfl;have sl:sizeLine=_:=sizeLine_eq;show wpAny _ _ (eval (.Constant (.str x) k p1) X.env) _ _ s;refine thn (pe_str Y s Z H (λy H1=>y=.str x/\H1=H) I ⟨rfl,rfl⟩) λu s1 zh=>?_;refine zc2d zh λy H1 I1 r1 e1 e2=>?_;subst e1 e2;obtain⟨t1,rfl⟩:=r1;refine⟨x,t1,rfl,by rw[strLen_append,z0,sizeLine_eq];omega,?_⟩;show wpAny _ _ (eval (.FormattedValue v (-1) none p2) X.env) _ _ s1;refine wpAny_FormattedValue_plain (thn (hv Y s1 Z H1 _ I1 h) λu s2 zh=>?_);refine zc2c zh λy H2 I2 r2 zz=>zc1c zz λa e1 ha q=>?_;subst e1;obtain⟨t2,rfl⟩:=r2;have lg:=log2_small ha;have ln:=int_text_length_le (a:=a) (k:=20) (by decide) lg;have lx:(Str.empty++x++Str.ofString (toString a)).length<=sizeLine:=by rw[strLen_append,strLen_append,z0,PySem.ofString_length,sizeLine_eq];omega
 refine wpAny_formatField_int () ⟨_,_,rfl,lx,lx,?_⟩;exact⟨.str (Str.empty++x++Str.ofString (toString a)),H2,I2.tok _,⟨_,rfl⟩,q⟩
structure Exc (K:W.Frag)(mg:Ye)(c:Str)(C:Addr):Prop where
 ns:W.nsIn K mainGlobals c=some (some (.ref C))
 mgc:mg c=some (.ref C)
 exc:W.excIn K C [.type "ValueError",.type "Exception",.type "BaseException",.type "object"] "ValueError.__new__" = true
noncomputable def ExcP (m:Yf)(l:List Yg)(g:Addr->List Value->Option Value->Option Value->Option Value->Option Value->String->Option Value->Bool):Prop:=
 ∃C bm k0 k1 k2 k3 n k5,m=.ref C::bm/\l=[k0,k1,k2,k3,some (.builtin n),k5]/\g C bm k0 k1 k2 k3 n k5=true
def exc_inner
 (q:W.excIn.match_1 (λ_ _=>Bool) m l g (λ_ _=>false)=true):ExcP m l g:=by
 cases m with
 |nil=>exact zqb q
 |cons v bm =>
  cases v with
  |ref C =>
   cases l with
   |nil=>exact zqb q
   |cons k0 l =>
    cases l with
    |nil=>exact zqb q
    |cons k1 l =>
     cases l with
     |nil=>exact zqb q
     |cons k2 l =>
      cases l with
      |nil=>exact zqb q
      |cons k3 l =>
       cases l with
       |nil=>exact zqb q
       |cons k4 l =>
        cases k4 with
        |none=>exact zqb q
        |some u =>
         cases u with
         |builtin n =>
          cases l with
          |nil=>exact zqb q
          |cons k5 l =>
           cases l with
           |nil=>exact⟨_,_,_,_,_,_,_,_,rfl,rfl,q⟩
           |cons _ _=>exact zqb q
         |_=>exact zqb q
  |_=>exact zqb q
def kN {K:W.Frag}{h:Heap}{C:Addr}{bmB:Yf}{newId:String}{P:Prop}(KI:K.In h)(q:W.excIn K C bmB newId=true)
 (k:∀bm N nm qn bs hdct sn sub ab col dd k0 k1 k2 k3 k5 mN,h.get? C=some (excClassObj nm qn C N bs bm hdct sn sub ab col dd k0 k1 k2 k3 k5 newId)->h.Ns N mN->mN "__init__" = none->OwnTail h bmB bm->P):P:=by
 unfold W.excIn at q
 split at q
 .rename_i dd cd sl ho;obtain⟨C',bm,k0,k1,k2,k3,n,k5,hm,hs,q⟩:=exc_inner q;simp only[ZR,Ys,Bool.not_eq_true'] at q;obtain⟨⟨⟨⟨⟨z1,z2⟩,hdel⟩,ht⟩,hok⟩,hni⟩:=q;subst z1 z2;have hc:=KI _ _ ho;obtain⟨nm,bs,mro,ns,qn,hd,sn,sub,ab,col,del⟩:=cd;dsimp only at hm hdel hok hni hc;subst hm hdel;have hsl:sl = #[k0,k1,k2,k3,some (.builtin n),k5]:=by
   obtain⟨l⟩:=sl;exact Zt Array.mk hs
  subst hsl;exact k bm ns nm qn bs hd sn sub ab col dd k0 k1 k2 k3 k5 _ hc (.of_isNs (W.isNs_of_in KI hok)) (W.nsMap_none_of_in KI hok hni) (W.tail_of_in KI ht)
 .exact zqb q
noncomputable def tRaise (C:Addr)(E:XK)(t:TA):TS:=λ_ Z H=>t Z H λvs H1=>vs.length<=1000/\E (.ref C) none H1
def ps_raise {E:XK}{c:Str}{C:Addr}(R:Raises X E)(ex:Exc X.K X.mg c C)(hc:X.calm=true)(hg:Gl X c)(ha:PA X [e] t)(hd:autoParam ((c == ("__debug__" : Str))=false) zav._auto_1)
 (he:autoParam (starEach [e] X.env=(false,eval e X.env)::starEach [] X.env) zau._auto_1):PS X (.Raise (some (.Call (.Name c np) [e] [] cpos)) none pos) (tRaise C E t):=by
 intro Y s Z H D I h;refine kN (h:=X.base) I.mod.kin ex.exc λtl N nm q bs hdct sn sub ab col dd k0 k1 k2 k3 k5 mN hC hN hni T=>?_;refine wpAny_Raise_call_subU (C:=C) (nm:=nm) (q:=q) (N:=N) (bs:=bs) (bm:=tl) (hdct:=hdct) (sn:=sn) (sub:=sub) (ab:=ab) (col:=col) (dd:=dd) (k0:=k0) (k1:=k1) (k2:=k2) (k3:=k3) (k5:=k5)
  PySem.F.excBase_ValueError (by decide +kernel) PySem.F.excBase_ValueError (mN:=mN) (T.hasType PySem.F.excBase_ValueError.hasBase) (I.ok.hd hc) (by rw[he];rfl) hni (qV I hg ex.mgc ⟨rfl,?_⟩ hd)
 have hA:=ha cpos Y s Z H _ I h;rw[he] at hA ⊢;refine Calls.evalArgs_plain (Zc hA (λvs s2 ⟨ws,H2,I2,r2,hl,hE⟩=>?_) λ_ _ y=>y);have lw:=r2.length;refine⟨rfl,ua (by show vs.length<=1000;omega),I2.bk _ _ hC,hN.keeps I2.bk,T.keeps I2.bk,λh' x hx=>R.new Y Z H2 s2 h' x C _ I2 hx hE⟩
end
end L2
namespace L2.DL
noncomputable def cD (x:Str):D->YE
 | .int a=>if Nat.ble a.natAbs 999999=true then some (.str (Str.empty++x++Str.ofString (toString a))) else none
 |_=>none
def gFmt_int (h0: -999999<=a)(h1:a<=999999):∃z,cD x (.int a)=some (.str z):=⟨_,Zd (Nat.ble_eq.mpr ())⟩
def mz (c:Str)(f:FE):FS:=λsd=>(f sd).bind λ_=>.ex c []
@[simp]def ev_raise (c:Str)(f:FE)(sd:SD):mz c f sd=(f sd).bind λ_=>.ex c []:=rfl
section
variable {X:Cx}{E:XK}{m:Option Bool}{x:Str}{v e:Expr}{fv fe:FE}{p1 p2 np cpos pos:Pos}{k}
def q_fmt (hx:x.length<=1000)(hv:QE X E v fv):QE X E (.JoinedStr [.Constant (.str x) k p1,.FormattedValue v (-1) none p2] pos) (dUn (cD x) fv):=
 PE.weak (pe_fmt hx hv) λZ H Q zh=>by
  refine zc3b zh λB F sd r n=>?_;refine⟨B,F,sd,r,(Res.need_bind n).mono (λd n1 y F1 H1 e1 i1=>?_) λ_ _ q=>q⟩;refine zc1b (Res.need_ofO n1) λz hz q=>?_;unfold cD at hz
  split at hz
  .rename_i a
   split at hz
   .rename_i hc;obtain rfl:=Zqi hz;exact⟨a,IsD.int_iff.mp i1,by have:=Nat.ble_eq.mp hc;omega,q _ F1 H1 e1 (IsD.str_iff.mpr rfl)⟩
   .exact zqn hz
  .exact zqn hz
def qs_raise (R:Raises X E)(ex:Exc X.K X.mg c C)(hc:X.calm=true)(hg:Gl X c)(he:QE X E e fe)(hd:autoParam ((c == ("__debug__" : Str))=false) zav._auto_1)
 (hst:autoParam (starEach [e] X.env=(false,eval e X.env)::starEach [] X.env) zau._auto_1):QS X E m (.Raise (some (.Call (.Name c np) [e] [] cpos)) none pos) (mz c fe):=
 PS.weak (ps_raise R ex hc hg (za he zd hst) hd hst) λT Z H zh=>by
  refine zc3b zh λB F sd r n=>?_;have n0:(zb fe zn sd).need (λds=>ds.length=1/\XW X.K E B.F0 B.H0 c []) (XW X.K E F H):=by
   unfold mz at n;unfold zb zn;cases hf:fe sd with
   |ok d=>rw[hf] at n;exact⟨rfl,n⟩
   |ex c' fs=>rw[hf] at n;exact XW.ext (n:XW X.K E B.F0 B.H0 c' fs) r.ext
   |no=>rw[hf] at n;exact n
  refine⟨B,F,sd,r,n0.mono (λds n1 vs F1 H1 e1 i1=>?_) λ_ _ q=>q⟩;have:=i1.length;exact⟨(),n1.2 (.ref C) none F1 H1 (r.ext.trans e1) ⟨C,rfl,ex.ns,.inl rfl⟩⟩
end
end L2.DL
namespace L2
noncomputable def mj (X:Cx)(Y:Yb)(Z:St)(E:XK)(e:Value)(s':Shared):Prop:=
 ∃H' h₀ x C B,e=.ref x/\Inv X Y Z H' s'/\(∀b u,X.s₀.heap.get? b=some u->b∉X.ex->∃u',h₀.get? b=some u')/\(∀p∈X.pn++Y,∃u,h₀.get? p.1=some u)/\FlyAt X.stack h₀ H' x C B s'.heap/\E (.ref C) none H'
section
variable {X:Cx}{Y:Yb}{Z:St}{H:Hp}{s:Shared}{E:XK}
def run_fn_here (F:FnOk X.prog X.w X.K X.mg X.base (CXE X.prog X.w) k f fd ps sp)(hr:Room k X.A)(hb:pX X.K fd ps [])
 (I:Inv X Y Z H s) (r:yt vs us) (h:sp vs H Q E):YF X (call (.ref f) us) (EP X Y Z Q) (mj X Y Z E) s:=by
 have hl:(us++[]).length=ps.length:=by rw[Zz,<- r.length];exact F.len _ _ _ _ h
 have hbb:=hb s us I.kIn hl;rw[Zz] at hbb;refine wpAny_call (codeAny_mono (F.run X.A X.stack s H ⟨us,[]⟩ us vs Q E hr I.env0 hbb r h) λr s' hq=>?_);cases r with
 |error e =>
  refine zc4a hq λH' x C B zz=>xf zz λh1 os bare un zz=>x8 zz λhok fl hE=>?_;subst h1;exact⟨H',s.heap,x,C,B,rfl,I.call' (s':=s') (ch:=[]) os un hok bare (λb z=>Zn z (by simp)),λb u e hx=>I.base.there b u e hx,λp hp=>⟨_,(I.pin p hp).1⟩,fl,hE⟩
 |ok fl =>
  cases fl with
  |ret u=>exact I.after hq
  |next=>exact False.elim hq
  |brk=>exact False.elim hq
  |cont=>exact False.elim hq
def ev_call_here (c:yu X.prog X.w X.K X.mg X.base name k ps sp)(hr:Room k X.A)(hg:Gl X name)(ha:PA X.nox (e::es) t)
 (hdb:(name == ("__debug__" : Str))=false) (he:starEach (e::es) X.env=(false,eval e X.env)::starEach es X.env) (hpl:(backTo pos (starEach es X.env)).any (·.1)=false)
 (I:Inv X Y Z H s) (h:t Z H λvs H1=>sp vs H1 Q E):YF X (eval (.Call (.Name name p) (e::es) [] pos) X.env) (EP X Y Z Q) (mj X Y Z E) s:=by
 refine zc2d c λf fd F b hk hm=>?_;refine wpAny_Call_Name_kw (qV I hg hm ?_ hdb);refine W.callWith_K (h₀:=X.base) I.ok.mod.kin hk (Zc (ha pos Y s Z H _ (I.wish _) h) (λus s1 ⟨vs,H1,I1,r,q⟩=>⟨I1.kIn,?_⟩) λ_ _ z=>z.elim) he hpl;exact run_fn_here F hr b I1.unwish r q
def Inv.flown {h₀ h' B:Heap}{x C t:Addr}(I:Inv X Y Z H s)(h0:∀b u,X.s₀.heap.get? b=some u->b∉X.ex->∃u',h₀.get? b=some u')(hp:∀p∈X.pn++Y,∃u,h₀.get? p.1=some u)
 (trk:∀b o,s.heap.get? b=some o->(H b≠none\/((∃u,h₀.get? b=some u)/\b∉frs X.stack))->B.get? b=some o) (fl:Heap.FlyingW B X.stack x (.ref C) (.ref t) h') (up:s.heap.UpToSlots h'):Inv X Y Z H { s with heap:=h' }:=by
 have nst:∀b u,X.s₀.heap.get? b=some u->b∉X.fs->b∉frs X.stack:=λb u e hb z=>by
  rcases ZF.mp (I.stkSub b z) with q|q
  .exact Zn (Zk e) (by rw[q];exact Nat.not_lt.mpr I.ok.above)
  .exact hb q
 have slot:∀b o,X.s₀.heap.get? b=some o->b∈X.fs->b∉X.ex->∃sl,h'.get? b=some { o with slots:=sl }:=λb o e hb hx=>by
  obtain⟨sl,e1⟩:=I.base.slot b o e (I.ok.frf b hb) hb hx;refine wx (I.ok.funs.mem hb) λ_ zz=>zc1b zz λo' ho' hd=>?_;rw[e] at ho';obtain rfl:=Zqi ho';obtain⟨sl',e2⟩:=up b _ e1 hd;exact⟨sl',e2⟩
 have cell:∀c v,s.heap.IsCell c v->h'.IsCell c v:=λc v zh=>by
  refine zc1b zh λo ho hd=>?_;obtain⟨sl,e⟩:=up c o ho λvs q=>by rw[hd] at q;cases q
  exact⟨_,e,hd⟩
 refine zc1b (id I.loc) λm hn hl=>?_;refine⟨I.ok,I.os,I.bare,⟨λb o e n hb hx=>?_,λb o e n hb hx=>slot b o e hb hx,λb o e n hx=>I.base.free b o e n hx,λb o e hx=>?_,I.base.tups,I.base.frzs,I.base.tbls⟩,⟨m,up.ns hn,λi y v h1 h2 h3=>?_⟩,λy c e=>?_,I.free,I.freeC,λp hpp=>?_,λb u e=>?_,I.len⟩
 .exact fl.1 b o (trk b o (I.base.keep b o e n hb hx) (.inr ⟨h0 b o e hx,nst b o e hb⟩))
 .by_cases hb:b∈X.fs
  .obtain⟨sl,q⟩:=slot b o e hb hx;exact⟨_,q⟩
  .obtain⟨o',e'⟩:=I.base.there b o e hx;exact⟨o',fl.1 b o' (trk b o' e' (.inr ⟨h0 b o e hx,nst b o e hb⟩))⟩
 .refine zc1b (hl i y v h1 h2 h3) λu r l=>?_;refine⟨u,r,?_⟩;rcases l with l|⟨k,c,e,z⟩
  .exact .inl l
  .exact .inr ⟨k,c,e,cell c _ z⟩
 .obtain⟨v,q⟩:=I.cell y c e;exact⟨v,cell c v q⟩
 .refine xf (I.pin p hpp) λq1 q2 q3 q4 q5=>?_;refine⟨fl.1 _ _ (trk _ _ q1 (.inr ⟨hp p hpp,λz=>?_⟩)),q2,q3,q4,q5⟩;rcases ZF.mp (I.stkSub _ z) with q|q
  .exact q3 q
  .exact q4 q
 .refine(I.hok b u e).stay (λc v hc q=>fl.1 c v (trk c v q (.inl ?_))) (λ_ q=>q) λ_ _ q=>q;rcases hc with z|z
  .rw[z,e];simp
  .rw[z];simp
abbrev Cx.inSuite (X:Cx)(x:Addr):Cx:={ X with A:=X.A.mark (some (.ref x)),calm:=false,xe:=λ_ _=>False }
def Inv.suite (I:Inv X Y Z H s)(x:Addr):Inv (X.inSuite x) Y Z H s:=
 ⟨⟨I.ok.mod,I.ok.kind,I.ok.glob,I.ok.blt,I.ok.above,I.ok.inj,I.ok.has,I.ok.cab,(λz=>by exact zqb z),I.ok.frames,I.ok.stk,I.ok.exf,I.ok.bs,I.ok.bsz,I.ok.noex,I.ok.exfs,I.ok.funs,I.ok.frf⟩,I.os,I.bare,I.base,I.loc,I.cell,I.free,I.freeC,I.pin,I.hok,I.len⟩
def Inv.unsuite (I:Inv (X.inSuite x) Y Z H s)(ok:X.Ok):Inv X Y Z H s:=⟨ok,I.os,I.bare,I.base,I.loc,I.cell,I.free,I.freeC,I.pin,I.hok,I.len⟩
theorem SP.unsuite (h:SP (X.inSuite x) Y D f s')(ok:X.Ok):SP X Y D f s':=by
 cases f with
 |next=>obtain⟨Z',H',I,q⟩:=h;exact⟨Z',H',I.unsuite ok,q⟩
 |brk=>obtain⟨Z',H',I,q⟩:=h;exact⟨Z',H',I.unsuite ok,q⟩
 |cont=>obtain⟨Z',H',I,q⟩:=h;exact⟨Z',H',I.unsuite ok,q⟩
 |ret u=>obtain⟨v,Z',H',I,r,q⟩:=h;exact⟨v,Z',H',I.unsuite ok,r,q⟩
def handled_here {Ex:Ya}{c:Str}{C:Addr}{b₀:Stmt}{suite:List Stmt}{np hpos:Pos}{ts:TS}{D:Ends}{e:Value}(hst:X.stack=X.env::X.outer)(hfr:X.env.frame=some X.env.locals)(ex:Exc X.K X.mg c C)(hg:Gl X c)
 (hs:∀x,PSs (X.inSuite x) (b₀::suite) ts) (fl:mj X Y Z (λcv _ H2=>cv=.ref C/\ts D Z H2) e s) (hd:(c == ("__debug__" : Str))=false):
 YF X (noteFrame e X.env) (λ_ s₂=>YF X (setFlight e none) (λ_ s₃=>YF X (handleBy e X.env [.ExceptHandler (some (.Name c np)) none (b₀::suite) hpos]) (SP X Y D) Ex s₃) Ex s₂) Ex s:=by
 refine zc4a fl λH' h₀ x C' zz=>zc1a zz λB zz=>xf zz λzr5 I h0 hp zz=>x8 zz λzr9 hC' hts=>?_;subst zr5;obtain⟨⟨t,fly⟩,trk⟩:=zr9;cases hC';have fly':=fly;rw[hst] at fly';refine wpAny_looks_onW (I.ok.frames.trans (by rw[hst])) hfr fly' λh₄ held₄ up₄=>?_;refine wpAny_landsW held₄ λh₅ fl₅ up₅=>?_;have fl5:=fl₅;rw[<- hst] at fl5;have up5:=up₄.trans up₅;have I5:=I.flown h0 hp trk fl5 up5;refine wpAny_handleBy_cons (codeAny_handlers_test (qV (X:=X.inSuite x) (I5.suite x) hg ex.mgc ?_ hd)) (by intro q;cases q);refine kN (h:=h₅) I5.kIn ex.exc λtl N nm q bs hdct sn sub ab col dd k0 k1 k2 k3 k5 mN hC hN hni T=>?_;obtain⟨ob,hob,hobc⟩:=fl₅.there;refine wpAny_excMatches_sub_self hC hob hobc (T.hasType PySem.F.excBase_ValueError.hasBase) (codeAny_handlers_suite ?_);refine lands_againW fl₅ λh₆ fl₆ up₆=>?_;rw[<- hst] at fl₆;have I6:=I.flown h0 hp trk fl₆ (up5.trans up₆);exact Zc (hs x Y _ Z H' D (I6.suite x) hts) (λf s2 q=>q.unsuite I.ok) λ_ _ z=>z.elim
noncomputable def b6 (i:Nat)(C:Addr)(sp:Sp)(t:TA)(ts:TS):TS:=λD Z H=>t Z H λvs H1=>sp vs H1 (λv H2=>D.nx (Z.set i (some v)) H2) (λcv _ H2=>cv=.ref C/\ts D Z H2)
def ps_try (hst:X.stack=X.env::X.outer)(hfr:X.env.frame=some X.env.locals)
 (hN:X.N.Nodup) (hi:X.N[i]? = some y) (hx:Loc X.env.scope y) (cc:yu X.prog X.w X.K X.mg X.base name k ps sp) (hr:Room k X.A) (hg:Gl X name) (ha:PA X.nox (e::es) t) (ex:Exc X.K X.mg c C) (hgc:Gl X c) (hs:∀x,PSs (X.inSuite x) (b₀::suite) ts)
 (hdb:autoParam ((name == ("__debug__" : Str))=false) zav._auto_1) (he:starEach (e::es) X.env=(false,eval e X.env)::starEach es X.env:=by rfl) (hpl:(backTo cpos (starEach es X.env)).any (·.1)=false:=by rfl) (hd:(c == ("__debug__" : Str))=false:=by decide)
 (hsw:autoParam (swapsWith (.Call (.Name name p) (e::es) [] cpos) (some (.Name y py)) apos.line X.env=pure false) zau._auto_1) (hf:X.fn y=true\/X.env.scope.names.lookup y=some .local:=by trivial):
 PS X (.Try [.Assign [.Name y py] (.Call (.Name name p) (e::es) [] cpos) apos] [.ExceptHandler (some (.Name c np)) none (b₀::suite) hpos] [] [] pos) (b6 i C sp t ts):=by
 intro Y s Z H D I h;rw[arm_exec_Try];refine Za (wpAny_standAt (wpAny_tryStmt_except (wpAny_execs_cons (wpAny_Assign_Name (Zc (ev_call_here (Q:=λv H2=>D.nx (Z.set i (some v)) H2) (E:=λcv _ H2=>cv=.ref C/\ts D Z H2) cc hr hg ha hdb he hpl I h) (λv s1 q=>?_) λe s1 fl=>handled_here hst hfr ex hgc hs fl hd) hsw))));obtain⟨z,H1,I1,r1,q1⟩:=q;exact tu I1 hN hi hx r1 (λs2 I2=>wpAny_execs_nil (wpAny_execs_nil ⟨_,H1,I2,q1⟩)) hf
end
end L2
namespace L2.DL
def ci (i:Nat)(c:Str)(gs:FS)(sd:SD):Res D->Res Out
 | .ok d=>.ok (.next (sd.set i (some (.val d))))
 | .ex c' [] => @ite _ (c'=c) (Classical.propDecidable _) (gs sd).strict .no
 |_=>.no
@[simp]def tryK_ok (i:Nat)(c:Str)(gs:FS)(sd:SD)(d:D):ci i c gs sd (.ok d)=.ok (.next (sd.set i (some (.val d)))):=rfl
@[simp]def tryK_ex (i:Nat)(c:Str)(gs:FS)(sd:SD):ci i c gs sd (.ex c [])=(gs sd).strict:=@if_pos _ (Classical.propDecidable _) rfl _ _ _
def dA (i:Nat)(c:Str)(Fn:YD->Res D)(fr:FA)(gs:FS):FS:=λsd=>(fr sd).strict.bind λds=>ci i c gs sd (Fn ds)
@[simp]def ev_try (i:Nat)(c:Str)(Fn:YD->Res D)(fr:FA)(gs:FS)(sd:SD):dA i c Fn fr gs sd=(fr sd).strict.bind λds=>ci i c gs sd (Fn ds):=rfl
section
variable {X:Cx}{E:XK}{m:Option Bool}
def tD_try (ex:Exc X.K X.mg c C)(h:tDS X.K E m (dA i c Fn fr gs) T Z H):
 b6 i C (iQ X.K Fn) (tDA X.K E0 fr) (tDS X.K E0 m gs) T Z H:=by
 obtain⟨B,F,sd,r,n⟩:=h;refine⟨B,F,sd,r,?_⟩;unfold dA at n;cases hf:fr sd with
 |ex c' fs=>rw[hf] at n;exact n.elim
 |no=>rw[hf] at n;exact n.elim
 |ok ds =>
  rw[hf] at n;have n:(ci i c gs sd (Fn ds)).need (tX X.K m B F T) (XW X.K E B.F0 B.H0):=n;show OkA X.K F H _ ds;intro vs F1 H1 e1 i1;refine⟨F1,ds,e1.fh,i1,?_⟩;cases hq:Fn ds with
  |ok d =>
   rw[hq] at n;exact λv F2 H2 e2 i2=>n _ F2 H2 (e1.ff.trans e2.ff) (((r.step e1).step e2).setVal i2)
  |no=>rw[hq] at n;exact n.elim
  |ex c' fs =>
   rw[hq] at n;cases fs with
   |cons d r=>exact n.elim
   |nil =>
    by_cases hc:c'=c
    .subst hc;rw[tryK_ex] at n;rintro cv a F2 H2 e2 ⟨C',h1,h2,_⟩;rw[ex.ns] at h2;cases h2;refine⟨h1,B,F2,sd,(r.step e1).step e2,?_⟩;exact(Res.need_strict n).mono (λo (q:tX X.K m B F T o)=>q.mono (e1.ff.trans e2.ff)) λ_ _ q=>q
    .have n:(@ite _ (c'=c) (Classical.propDecidable _) (gs sd).strict Res.no).need (tX X.K m B F T) (XW X.K E B.F0 B.H0):=n;rw[@if_neg _ (Classical.propDecidable _) hc] at n;exact n.elim
def iH.d {K:W.Frag}{Fn:YD->Res D}{vs:YB}{H:Hp}{Q:VK}{E:XK}(h:iQ K Fn vs H Q E):iH K Fn vs H Q E:=by
 refine zc2c h λF ds h1 h2 n=>?_;exact⟨F,ds,h1,h2,n.mono (λ_ q=>q.new) λ_ _ q=>q⟩
theorem yu.d {P:Program}{w:World}{K:W.Frag}{mg:Ye}{base:Heap}{name:Str}{k:Nat}{ps:Yk}{Fn:YD->Res D}(c:yu P w K mg base name k ps (iH K Fn)):yu P w K mg base name k ps (iQ K Fn):=by
 refine zc2b c λf fd F r=>?_;exact⟨f,fd,F.imp λ_ _ _ _ h=>iH.d h,r⟩
def qs_try (hst:X.stack=X.env::X.outer)(hfr:X.env.frame=some X.env.locals)
 (hN:X.N.Nodup) (hi:X.N[i]? = some y) (hx:Loc X.env.scope y) (cc:yu X.prog X.w X.K X.mg X.base name k ps (iQ X.K Fn)) (hr:Room k X.A) (hg:Gl X name) (ha:QA X.nox E0 (e::es) fr) (ex:Exc X.K X.mg c C) (hgc:Gl X c) (hs:∀x,QSs (X.inSuite x) E0 m (b₀::suite) gs)
 (hdb:autoParam ((name == ("__debug__" : Str))=false) zav._auto_1) (he:starEach (e::es) X.env=(false,eval e X.env)::starEach es X.env:=by rfl) (hpl:(backTo cpos (starEach es X.env)).any (·.1)=false:=by rfl) (hd:(c == ("__debug__" : Str))=false:=by decide)
 (hsw:autoParam (swapsWith (.Call (.Name name p) (e::es) [] cpos) (some (.Name y py)) apos.line X.env=pure false) zau._auto_1) (hf:X.fn y=true\/X.env.scope.names.lookup y=some .local:=by trivial):
 QS X E m (.Try [.Assign [.Name y py] (.Call (.Name name p) (e::es) [] cpos) apos] [.ExceptHandler (some (.Name c np)) none (b₀::suite) hpos] [] [] pos) (dA i c Fn fr gs):=
 PS.weak (ps_try hst hfr hN hi hx cc hr hg ha ex hgc hs hdb he hpl hd hsw hf) λT Z H h=>tD_try ex h
end
end L2.DL
namespace L2
def passes_def {P:Program}{w:World}{K:W.Frag}{mg:Ye}{base:Heap}{N:Yk}{qual:Str}{scope:Scope}{f:Addr}{cd:Value}{A:Around}{outer:List Env}{s:Shared}{H:Hp}{E:XK} :
 PassesOwn (model (rl (CXE P w) P w K mg base N qual scope f cd A outer s H E).prog (rl (CXE P w) P w K mg base N qual scope f cd A outer s H E).w) (rl (CXE P w) P w K mg base N qual scope f cd A outer s H E).A (rl (CXE P w) P w K mg base N qual scope f cd A outer s H E).env (rl (CXE P w) P w K mg base N qual scope f cd A outer s H E).xe:=
 PassesOwn.leaving (Q₁:=λe s''=>CXE P w outer H s E e s'')
section
variable {X:Cx}
def jv:YB->Hp->VK->Prop:=λxs H Q=>∃j:Int,xs=[.int j]/\∀r,H r=none->Q (.ref r) (upd H r (.rng 0 j))
def lc:YB->Hp->VK->Prop:=λxs H Q=>∃r n,xs=[.ref r]/\H r=some (.rng 0 (n:Nat))/\n<=1000/\∀l,H l=none->Q (.ref l) (upd H l (.lst ((List.range n).map λi:Nat=>.int (i:Int))))
def call_range1:zB X (.type "range") jv:=by
 intro Y s Z H xs us Q I r h;obtain⟨j,rfl,q⟩:=h;obtain⟨u,rfl,t,rfl⟩:=wp r;refine call_range_1 ⟨.ref s.heap.objs.size,_,I.laid (t':=s.toks+1+1) (λb o e=>Zq _ e) (Zf _) ?_,rfl,q _ (I.hok.fresh (Zf _))⟩;exact⟨_,_,_,Zr _ rfl⟩
def vals_rng (h:ItemsOf (λi v=>∃t,v=.int (0+(i:Int)*1) t) acc n):yt ((List.range n).map λi:Nat=>V.int (i:Int)) acc.toList:=by
 obtain⟨h1,h2⟩:=h;have key:∀(k:Nat) (l:Yf) (lo:Nat),l.length=k->(∀(j:Nat) (v:Value),l[j]? = some v->∃t,v=Value.int ((lo+j:Nat):Int) t)->yt ((List.range' lo k).map λi:Nat=>V.int (i:Int)) l:=by
  intro k
  induction k with
  |zero =>
   intro l lo hl _;rw[ZQ.mp hl];exact .nil
  |succ k ih =>
   intro l lo hl hv;cases l with
   |nil=>cases hl
   |cons v l =>
    rw[List.range'_succ,Zl];refine .cons ?_ (ih l (lo+1) (by simpa using hl) λj w hw=>?_)
    .obtain⟨t,e⟩:=hv 0 v rfl;exact⟨t,by rw[e,Nat.add_zero]⟩
    .obtain⟨t,e⟩:=hv (j+1) w hw;exact⟨t,by rw[e];congr 1;omega⟩
 rw[List.range_eq_range'];refine key n acc.toList 0 (by rw[ZN];exact h1) λj v hj=>?_;rw[Xy] at hj;obtain⟨t,e⟩:=h2 j v hj;exact⟨t,by rw[e];congr 1;omega⟩
def call_listRng (hc:X.calm=true):zB X (.type "list") lc:=by
 intro Y s Z H xs us Q I r h;obtain⟨a,n,rfl,ha,hn,q⟩:=h;obtain⟨u,rfl,rx⟩:=wp r;cases rx;obtain⟨t,u,v,e⟩:=(show yE X.prog X.w H s.heap a (.rng 0 (n:Nat)) from I.hok a _ ha);have rs:Builtin.Range.rangeSize 0 (n:Int) 1=(n:Int):=by rw[rangeSize_one];split<;>omega
 refine call_list_range (I.ok.hd hc) e (small_one () () () ()) rs (Zh hn (by decide)) λh' tk acc c kp hS hacc=>?_;exact⟨.ref s.heap.objs.size,_,I.laid (t':=tk) kp (Zf _) (show yE X.prog X.w _ h' _ (.lst _) from ⟨by rw[Zql,ZA];exact ua hn,acc.toList,c,vals_rng hacc,hS⟩),rfl,q _ (I.hok.fresh (Zf _))⟩
end
end L2
namespace L2.DL
def wQ:YD->YE
 | [.int j]=>if Nat.ble j.natAbs 1000&&Nat.ble 0 j.toNat&&decide (0<=j) then some (.lst (zx 0 j.toNat)) else none
 |_=>none
def gListRng_int (h0:0<=j)(h1:j<=1000):wQ [.int j]=some (.lst (zx 0 j.toNat)):=Zd (by
 rw[ZR,ZR,Nat.ble_eq,Nat.ble_eq,decide_eq_true_iff];omega)
def zq.rng {K:W.Frag}{H:Hp}(n:Nat):zq K H (zx 0 n) ((List.range n).map λi:Nat=>.int (i:Int)):=by
 have e:zx 0 n=((List.range n).map λi:Nat=>(i:Int)).map D.int:=by
  unfold zx;rw[Zw];exact Xk λi _=>by show D.int (0+(i:Int))=D.int (i:Int);rw[Int.zero_add]
 have e2:((List.range n).map λi:Nat=>V.int (i:Int))=((List.range n).map λi:Nat=>(i:Int)).map V.int:=by rw[Zw];rfl
 rw[e,e2];exact zq.ints _
section
variable {X:Cx}{E:XK}{fr:FA}{es:Ym}{e:Expr}
def q_listRng (h:∀{ta:TA},PA X es ta->PE X e (tCB lc (gC (tCB jv ta) c9)))(ha:QA X E es fr):QN X E e (yT wQ fr):=PE.weak (h ha) λZ H Q zh=>by
 obtain⟨B,F,sd,r,n⟩:=zh;refine⟨B,F,sd,r,(Res.need_bind n).mono (λds n1 vs F1 H1 e1 i1=>?_) λ_ _ q=>q⟩;obtain⟨z,hz,q⟩:=Res.need_ofO n1;unfold wQ at hz
 split at hz
 .rename_i j
  split at hz
  .rename_i hc;rw[ZR,ZR,Nat.ble_eq,Nat.ble_eq,decide_eq_true_iff] at hc;obtain rfl:=Zqi hz;obtain⟨v,rfl,hv⟩:=xF i1;rw[IsD.int_iff] at hv;subst hv;have ej:j=((j.toNat:Nat):Int):=()
   refine⟨j,rfl,λp hp=>⟨p,j.toNat,rfl,by rw[zu,<- ej],(),λl hl=>?_⟩⟩;have hlp:l≠p:=λz=>by rw[z,zu] at hl;cases hl
   have hl1:H1 l=none:=by rw[zD hlp] at hl;exact hl
   have ek:Ext F1 H1 F1 (upd H1 p (.rng 0 j)):=.keep e1.fh hp _;exact(q.ext e1) l F1 _ (ek.trans (.keep ek.fh hl _)) hl1 (zF e1.fh hl1) ⟨_,zu,zq.rng _⟩
  .exact zqn hz
 .exact zqn hz
end
def for_rule_ex (R:Res Out->Prop)(P:Nat->SD->Prop)(h0:P 0 sd)(he:∀sd,P ds.length sd->R (.ok (.next sd)))
 (hs:∀(i:Nat) (x:D) (sd:SD),ds[i]? = some x->P i sd->(∃sd',(yY tg x sd).bind b=.ok (.next sd')/\P (i+1) sd')\/∃c es,(yY tg x sd).bind b=.ex c es/\R (.ex c es)):R (ja tg b ds sd):=by
 have key:∀(k i:Nat) (sd:SD),ds.length-i=k->i<=ds.length->P i sd->R (ja tg b (ds.drop i) sd):=by
  intro k
  induction k with
  |zero =>
   intro i sd e hi p;have:i=ds.length:=()
   subst this;rw[XO];exact he sd p
  |succ k ih =>
   intro i sd e hi p;have hlt:i<ds.length:=()
   rw[ZU hlt];unfold ja iO;rcases hs i ds[i] sd (Zqg hlt) p with ⟨sd',h1,h2⟩|⟨c,es,h1,h2⟩
   .rw[h1];exact ih (i+1) sd' () hlt h2
   .rw[h1];exact h2
 have:=key ds.length 0 sd () (Nat.zero_le _) h0
 rwa [List.drop_zero] at this
section
variable {X:Cx}{pos:Pos}
noncomputable def fV:D->D->YE
 | .lst a,.lst b=>if a.length+b.length<=sizeLine then some (.lst (a++b)) else none
 |_,_=>none
def o_addL:br X (binaryOp .Add) fV:=OpR.weak iD λx y H Q zh=>by
 refine zc4a zh λF d e z zz=>xf zz λsF id ie hz q=>?_;cases d with
 |lst a =>
  cases e with
  |lst b =>
   have hz:(if a.length+b.length<=sizeLine then some (D.lst (a++b)) else none)=some z:=hz
   split at hz
   .rename_i hl;obtain rfl:=Zqi hz;rw[IsD.lst_iff] at id ie;refine zc2c id λl xs zr2 h1 h2=>?_;subst zr2;refine zc2c ie λl' ys zr2 h3 h4=>?_;subst zr2;have l1:=h2.length;have l2:=h4.length;exact⟨l,l',xs,ys,rfl,rfl,h1.same sF,h3.same sF,(),λp hp=>q p F _ (.keep sF hp _) hp (zF sF hp) ⟨_,zu,h2.append h4⟩⟩
   .exact zqn hz
  |_=>exact zqn hz
 |_=>exact zqn hz
@[simp]def gAddL_lst (a b:YD):fV (.lst a) (.lst b)=if a.length+b.length<=sizeLine then some (.lst (a++b)) else none:=rfl
end
end L2.DL
namespace L2
noncomputable def yh (K:W.Frag)(x:Str)(st:Stmt):Prop:=∃f fd,W.nsIn K mainGlobals x=some (some (.ref f))/\Fun K x x st f fd
def yh.callee {P:Program}{w:World}{K:W.Frag}{h base:Heap}{mg:Ye}{x:Str}{st:Stmt}{k:Nat}{ps:Yk}{sp:Sp}(X:K.In h)(G:h.Ns mainGlobals mg)(d:yh K x st)
 (ok:∀{f:Addr} {fd:FuncData},Fun K x x st f fd->FnOk P w K mg base CX0 k f fd ps sp)
 (hb:∀(kV doc pm:Value) (an:Option Addr) (cdv ct:Value) (us:Yf),us.length=ps.length->bindArgs (W.fnOf x x (ur st) (xb st) (zi st) .none kV doc pm an cdv ct) ⟨us,[]⟩=pure (ps.zip us)):zp P w K mg base x k ps sp:=by
 refine zc2b d λf fd a F=>?_;exact⟨f,fd,ok F,F.binds hb,F.kp,W.mg_of X G a⟩
def yh.calleeX {P:Program}{w:World}{K:W.Frag}{h base:Heap}{mg:Ye}{x:Str}{st:Stmt}{k:Nat}{ps:Yk}{sp:Sp}(X:K.In h)(G:h.Ns mainGlobals mg)(d:yh K x st)
 (ok:∀{f:Addr} {fd:FuncData},Fun K x x st f fd->FnOk P w K mg base (CXE P w) k f fd ps sp)
 (hb:∀(kV doc pm:Value) (an:Option Addr) (cdv ct:Value) (us:Yf),us.length=ps.length->bindArgs (W.fnOf x x (ur st) (xb st) (zi st) .none kV doc pm an cdv ct) ⟨us,[]⟩=pure (ps.zip us)):yu P w K mg base x k ps sp:=by
 refine zc2b d λf fd a F=>?_;exact⟨f,fd,ok F,F.binds hb,F.kp,W.mg_of X G a⟩
open PySem
def yq (a:autoParam (sc.kind=.function) zau._auto_1)(b:autoParam (sc.isCoroutine=false) zau._auto_1)(c:autoParam (sc.isGenerator=false) zau._auto_1)(d:N.Nodup:=by decide +kernel)(e:N.take P.length=P:=by rfl)
 (f:∀x∈P,sc.names.lookup x=some .local\/sc.names.lookup x=some .cell:=by decide +kernel) (g:∀y∈sc.names,y.2 ≠ .free:=by decide +kernel):FnScope N P sc:=⟨a,b,c,d,e,f,g⟩
def xk (N:Yk)(h:N.Nodup:=by decide +kernel):N.Nodup:=h
def pgn (i:Nat)(hN:X.N.Nodup)(hi:autoParam (X.N[i]? = some x) zau._auto_1)(hx:Loc X.env.scope x:=by trivial)(hf:X.fn x=true\/X.env.scope.names.lookup x=some .local:=by trivial):PG X (.Name x pos) (qB i):=zK hN hi hx hf
section
variable {p:Yf->Prop}
def us1 (h:∀a,p [a]):∀us:Yf,us.length=1->p us:=λus e=>by
 obtain⟨a,rfl⟩:=List.length_eq_one_iff.mp e;exact h a
def us2 (h:∀a b,p [a,b]):∀us:Yf,us.length=2->p us:=λus e=>by
 cases us with
 |nil=>exact Zn e (by decide)
 |cons a us=>exact us1 (p:=λus=>p (a::us)) (λb=>h a b) us (Nat.succ.inj e)
def us3 (h:∀a b c,p [a,b,c]):∀us:Yf,us.length=3->p us:=λus e=>by
 cases us with
 |nil=>exact Zn e (by decide)
 |cons a us=>exact us2 (p:=λus=>p (a::us)) (λb c=>h a b c) us (Nat.succ.inj e)
def us4 (h:∀a b c d,p [a,b,c,d]):∀us:Yf,us.length=4->p us:=λus e=>by
 cases us with
 |nil=>exact Zn e (by decide)
 |cons a us=>exact us3 (p:=λus=>p (a::us)) (λb c d=>h a b c d) us (Nat.succ.inj e)
end
noncomputable def zR (l:Yh):X6:=l.map λt=>(t,(0:Int))
end L2
namespace L2.DL
noncomputable def itD (l:Yh):D:=.tup (l.map .int)
end L2.DL
local macro_rules | `(tactic| omega) => `(tactic| lia)
namespace My
open PySem L2 L2.DL
@[simp high] def gt1 {α:Type}(a0 a1:α)(l:List α):(a0::a1::l)[1]? = some a1:=rfl
@[simp high] def se1 {α:Type}(a0 a1 v:α)(l:List α):(a0::a1::l).set 1 v=a0::v::l:=rfl
@[simp high] def gt2 {α:Type}(a0 a1 a2:α)(l:List α):(a0::a1::a2::l)[2]? = some a2:=rfl
@[simp high] def se2 {α:Type}(a0 a1 a2 v:α)(l:List α):(a0::a1::a2::l).set 2 v=a0::a1::v::l:=rfl
@[simp high] def gt3 {α:Type}(a0 a1 a2 a3:α)(l:List α):(a0::a1::a2::a3::l)[3]? = some a3:=rfl
@[simp high] def se3 {α:Type}(a0 a1 a2 a3 v:α)(l:List α):(a0::a1::a2::a3::l).set 3 v=a0::a1::a2::v::l:=rfl
@[simp high] def gt4 {α:Type}(a0 a1 a2 a3 a4:α)(l:List α):(a0::a1::a2::a3::a4::l)[4]? = some a4:=rfl
@[simp high] def se4 {α:Type}(a0 a1 a2 a3 a4 v:α)(l:List α):(a0::a1::a2::a3::a4::l).set 4 v=a0::a1::a2::a3::v::l:=rfl
@[simp high] def gt5 {α:Type}(a0 a1 a2 a3 a4 a5:α)(l:List α):(a0::a1::a2::a3::a4::a5::l)[5]? = some a5:=rfl
@[simp high] def se5 {α:Type}(a0 a1 a2 a3 a4 a5 v:α)(l:List α):(a0::a1::a2::a3::a4::a5::l).set 5 v=a0::a1::a2::a3::a4::v::l:=rfl
@[simp high] def gt6 {α:Type}(a0 a1 a2 a3 a4 a5 a6:α)(l:List α):(a0::a1::a2::a3::a4::a5::a6::l)[6]? = some a6:=rfl
@[simp high] def se6 {α:Type}(a0 a1 a2 a3 a4 a5 a6 v:α)(l:List α):(a0::a1::a2::a3::a4::a5::a6::l).set 6 v=a0::a1::a2::a3::a4::a5::v::l:=rfl
@[simp high] def gt7 {α:Type}(a0 a1 a2 a3 a4 a5 a6 a7:α)(l:List α):(a0::a1::a2::a3::a4::a5::a6::a7::l)[7]? = some a7:=rfl
@[simp high] def se7 {α:Type}(a0 a1 a2 a3 a4 a5 a6 a7 v:α)(l:List α):(a0::a1::a2::a3::a4::a5::a6::a7::l).set 7 v=a0::a1::a2::a3::a4::a5::a6::v::l:=rfl
noncomputable def uW (cell salt:Int):Int:=((cell % 2147483647+salt)*48271 % 2147483647)*((cell % 2147483647+salt)*48271 % 2147483647) % 2147483629
noncomputable def uV (ns:Yh)(k:Int):Int:=ns.getD k.toNat 0
noncomputable def yr (hs:Yh)(t:Int):Int:=hs.getD t.toNat 0
def z9 (r:X6)(hs:Yh):Int:=ue (r.map λp=>yr hs p.1+p.2)
def lX (r:X6):plN 12 (rwD r)=true:=by
 show(r.map prD).all (plN 11)=true;rw[XI,Xe];exact λp _=>rfl
def wj:plN 12 (.lst [])=true:=rfl
def qL (r:X6):plN 12 (.lst (r.map prD))=true:=by
 show(r.map prD).all (plN 11)=true;rw[XI,Xe];exact λp _=>rfl
def nH (r:X7):plN 12 (.lst (r.map rwD))=true:=by
 show(r.map rwD).all (plN 11)=true;rw[XI,Xe];intro x _;show(x.map prD).all (plN 10)=true;rw[XI,Xe];exact λp _=>rfl
def yw {α:Type}(f:α -> D)(l:List α):zW (.lst (l.map f)) (.lst [])=l.isEmpty:=by
 cases l with
 |nil=>exact zC _
 |cons x r=>exact xY.mpr λh=>by injection h with h;(first|exact zqn h|exact zqb h|(obtain rfl:=Zqi h)|cases h)
def rwD_inj {r s:X6}(h:rwD r=rwD s):r=s:=by
 have:=Zt vJ h;rw[vX,vX] at this;exact Zqi this
def lu (r s:X6):zW (rwD r) (rwD s)=decide (r=s):=by
 by_cases h:r=s
 .rw[h,zC,Zp rfl]
 .rw[Zo h];exact xY.mpr λz=>h (rwD_inj z)
def vo {α:Type}{l:List α}{k:Nat}(h:k<l.length):atI l (k:Int)=l[k]?:= by
 unfold atI ixN;rw[Zd (),Zd (),Int.toNat_natCast];rfl
def maxI_snoc {l:Yh}(h:l ≠ [])(x:Int):ue (l++[x])=if ue l<x then x else ue l:=by
 obtain⟨h1,h2⟩:=yK h;refine(nB ?_ λy hy=>?_).symm
 .split
  .exact ZL _ Zqs
  .exact Z8 _ h1
 .rcases ZM.mp hy with q|q
  .have:=h2 y q
   split<;>omega
  .rw[ZC.mp q]
   split<;>omega
def maxI_one (x:Int):ue [x]=x:=rfl
def xm {hs:Yh}{t:Int}(h0:0<=t)(h1:t<(hs.length:Int)):atI (hs.map D.int) t=some (.int (yr hs t)):=by
 have e:ixN hs.length t=some t.toNat:=by unfold ixN;rw[Zd h0,Zd h1]
 have hl:t.toNat<hs.length:=()
 unfold atI yr;rw[Zql,e];show(hs.map D.int)[t.toNat]? = _;rw[Zv,Zqg hl,ZE,Zqg hl];rfl
def wn {α:Type}{f:α -> D}{l:List α}{i:Nat}{x:D}(h:(l.map f)[i]? = some x):∃p,l[i]? = some p/\x=f p:=by
 rw[Zv] at h;cases q:l[i]? with
 |none=>rw[q] at h;(first|exact zqn h|exact zqb h|(obtain rfl:=Zqi h)|cases h)
 |some p=>rw[q] at h;exact⟨p,rfl,(Zqi h).symm⟩
noncomputable def kq (m:Int):Nat->Int
 | 0=>m
 |i+1=>kq m i / 2
def qY (m:Int)(w:Nat->Int):Nat->X6
 | 0=>[]
 |i+1=>if kq m i % 2=1 then qY m w i++[((i:Int),w i)] else qY m w i
theorem vT (m:Int)(w:Nat->Int):∀(i:Nat) (p:Int×Int),p∈qY m w i->0<=p.1/\p.1<(i:Int)
 | 0,p,h=>by first|exact zqn h|exact zqb h|(obtain rfl:=Zqi h)|cases h
 |i+1,p,h=>by
  unfold qY at h
  split at h
  .rcases ZM.mp h with q|q
   .have z:=vT m w i p q;omega
   .have e:=ZC.mp q;subst e;show(0:Int)<=(i:Int)/\(i:Int)<((i+1:Nat):Int);omega
  .have z:=vT m w i p h;omega
theorem qv (m:Int)(w:Nat->Int):∀i:Nat,(qY m w i).length<=i
 | 0=>Zf _
 |i+1=>by
  have z:=qv m w i;unfold qY
  split
  .rw[ZG,Z4];omega
  .omega
theorem oW (m:Int)(w:Nat->Int):∀i:Nat,yH (qY m w i)
 | 0=>List.nodup_nil
 |i+1=>by
  have ih:=oW m w i;unfold qY
  split
  .exact pj ih λp hp=>(vT m w i p hp).2
  .exact ih
structure RowOk (n:Int)(r:X6):Prop where
 ne:r ≠ []
 once:yH r
 mem:∀p∈r,0<=p.1/\p.1<n
 len:r.length<=12
def dv (m:Int)(w:Nat->Int)(c wl n:Int):X6:=if qY m w n.toNat=[] then[(c % n,wl)] else qY m w n.toNat
def rowG_ok {m:Int}{w:Nat->Int}{c wl n:Int}(h1:1<=n)(h2:n<=12):RowOk n (dv m w c wl n):=by
 unfold dv
 split
 .refine⟨by simp,by unfold yH;simp,λp h=>?_,Nat.le_of_ble_eq_true rfl⟩;have e:=ZC.mp h;subst e;exact⟨Int.emod_nonneg _ (),Int.emod_lt_of_pos _ ()⟩
 .rename_i h;have hl:=qv m w n.toNat;refine⟨h,oW m w _,λp hp=>?_,()⟩;have:=vT m w _ p hp;omega
def wm (r:X6)(f:Nat->Option Int->Option Int)(i:Nat):X6:=match f i (zj r i) with
 |some w=>[((i:Int),w)]
 |none=>[]
def xV (r:X6)(f:Nat->Option Int->Option Int):Nat->X6
 | 0=>[]
 |i+1=>xV r f i++wm r f i
def wA (r:X6)(f:Nat->Option Int->Option Int)(n:Int):X6:=if xV r f n.toNat=[] then r else xV r f n.toNat
def x5 (r:X6)(f:Nat->Option Int->Option Int)(i:Nat):wm r f i=[]\/∃w,wm r f i=[((i:Int),w)]:=by
 unfold wm;cases f i (zj r i) with
 |some w=>exact .inr ⟨_,rfl⟩
 |none=>exact .inl rfl
theorem vL (r:X6)(f:Nat->Option Int->Option Int):∀(i:Nat) (p:Int×Int),p∈xV r f i->0<=p.1/\p.1<(i:Int)
 | 0,p,h=>by first|exact zqn h|exact zqb h|(obtain rfl:=Zqi h)|cases h
 |i+1,p,h=>by
  unfold xV at h;rcases ZM.mp h with q|q
  .have z:=vL r f i p q;omega
  .rcases x5 r f i with e|⟨w,e⟩
   .rw[e] at q;(first|exact zqn q|exact zqb q|(obtain rfl:=Zqi q)|cases q)
   .rw[e] at q;have e:=ZC.mp q;subst e;show(0:Int)<=(i:Int)/\(i:Int)<((i+1:Nat):Int);omega
theorem rF (r:X6)(f:Nat->Option Int->Option Int):∀i:Nat,yH (xV r f i)
 | 0=>List.nodup_nil
 |i+1=>by
  have ih:=rF r f i;unfold xV;rcases x5 r f i with e|⟨w,e⟩
  .rw[e,Zz];exact ih
  .rw[e];exact pj ih λp hp=>(vL r f i p hp).2
theorem tL (r:X6)(f:Nat->Option Int->Option Int):∀i:Nat,(xV r f i).length<=i
 | 0=>Zf _
 |i+1=>by
  have ih:=tL r f i;unfold xV;rw[ZG];rcases x5 r f i with e|⟨w,e⟩<;>rw[e]<;>simp<;>omega
def variedG_ok {r:X6}{f:Nat->Option Int->Option Int}{n:Int}(h:RowOk n r)(h1:0<=n)(h2:n<=12):RowOk n (wA r f n):=by
 unfold wA
 split
 .exact h
 .rename_i q;have hl:=tL r f n.toNat;refine⟨q,rF r f _,λp hp=>?_,()⟩;have:=vL r f _ p hp;omega
def gIn_rows (neg:Bool)(r:X6)(ls:X7):gIn neg (rwD r) (.lst (ls.map rwD))=some (.bl (if neg then !decide (r∈ls) else decide (r∈ls))):=by
 have ha:(ls.map rwD).all (plN 12)=true:=by
  rw[XI,Xe];exact λx _=>lX x
 have e:(ls.map rwD).any (λe=>zW e (rwD r))=decide (r∈ls):=by
  rw[List.any_map];by_cases h:r∈ls
  .rw[Zp h];exact ZP.mpr ⟨r,h,by show zW (rwD r) (rwD r)=true;exact zC _⟩
  .rw[Zo h];refine XT.mpr λx hx=>?_;show ¬zW (rwD x) (rwD r)=true;rw[lu,decide_eq_true_iff];exact λz=>h (z ▸ hx)
 show(if plN 12 (rwD r)&&(ls.map rwD).all (plN 12) then some (D.bl (if neg then !(ls.map rwD).any (λe=>zW e (rwD r)) else(ls.map rwD).any λe=>zW e (rwD r))) else none)=_;rw[lX,ha,e];rfl
def xC {ls:X7}(h:∀r∈ls,r ≠ [])(hl:ls.length<1000):yI [.lst (ls.map rwD)]=some (.lst ((zT yF ls).map rwD)):=by
 show(xx vJ (ls.map rwD)).bind _=_;rw[uI];exact Zd ⟨h,hl⟩
def frD (f:X7):D:=.lst (f.map rwD)
def uo (all:X7)(row:X6):Bool:=(all.filter λone => !decide (one=row)&&zm one row).isEmpty
def x4 (all least:X7)(row:X6):X7:=if uo all row=true/\row∉least then least++[row] else least
def ye (all rs:X7):X7:=rs.foldl (x4 all) []
def zV (rs:X7):X7:=zT yF (ye rs rs)
theorem yR (all:X7):∀(rs least:X7),(rs.foldl (x4 all) least).length<=least.length+rs.length/\(∀r,r∈rs.foldl (x4 all) least↔r∈least\/(r∈rs/\uo all r=true))/\(least.Nodup->(rs.foldl (x4 all) least).Nodup)
 | [],least=>⟨Zf _,λr=>by simp,id⟩
 |row::rs,least=>by
  rw[XF];refine x8 (yR all rs (x4 all least row)) λh1 h2 h3=>?_;unfold x4 at h1 h2 h3 ⊢;by_cases c:uo all row=true/\row∉least
  .rw[Zd c] at h1 h2 h3 ⊢;refine⟨by rw[ZG] at h1;simp only[Zu,ZB] at h1 ⊢;omega,λr=>?_,λhn=>h3 ?_⟩
   .rw[h2,ZM,ZC,ZF];constructor
    .rintro((h|h)|⟨h,hq⟩)
     .exact .inl h
     .exact .inr ⟨.inl h,h ▸ c.1⟩
     .exact .inr ⟨.inr h,hq⟩
    .rintro(h|⟨h|h,hq⟩)
     .exact .inl (.inl h)
     .exact .inl (.inr h)
     .exact .inr ⟨h,hq⟩
   .rw[List.nodup_append];exact⟨hn,by simp,λa ha b hb=>by rw[ZC] at hb;subst hb;exact λz=>c.2 (z ▸ ha)⟩
  .rw[Ze c] at h1 h2 h3 ⊢;refine⟨by rw[Zu];omega,λr=>?_,h3⟩;rw[h2,ZF];constructor
   .rintro(h|⟨h,hq⟩)
    .exact .inl h
    .exact .inr ⟨.inr h,hq⟩
   .rintro(h|⟨h|h,hq⟩)
    .exact .inl h
    .by_cases hm:row∈least
     .exact .inl (h ▸ hm)
     .exact Zn ⟨h ▸ hq,hm⟩ c
    .exact .inr ⟨h,hq⟩
def zA {rs:X7}{r:X6}:r∈zV rs↔r∈rs/\uo rs r=true:=by
 unfold zV ye;rw[(zv (ltb:=yF) _).mem_iff,(yR rs rs []).2.1];simp
def vH (rs:X7):(zV rs).length<=rs.length:=by
 unfold zV ye;rw[(zv (ltb:=yF) _).length_eq];have:=(yR rs rs []).1;simpa using this
def z7 (f:X7)(hs:Yh):Int:=nN (f.map λr=>z9 r hs)
def set_last {α:Type}(l:List α)(x y:α):(l++[x]).set l.length y=l++[y]:=by
 induction l with
 |nil=>rfl
 |cons a l ih=>show a::(l++[x]).set l.length y=_;rw[ih];rfl
def at_last {α:Type}(l:List α)(x:α):atI (l++[x]) (l.length:Int)=some x:=by
 rw[vo (by simp)];simp
def ix_last {α:Type}(l:List α)(x:α):ixN (l++[x]).length (l.length:Int)=some l.length:=by
 unfold ixN;rw[Zd (),Zd (by rw[ZG,Z4];omega),Int.toNat_natCast]
noncomputable def pY (n:Int)(k:Nat)(t:X7):X7:=if t=[] then[[((k:Int) % n,0)]] else t
def vb (n many:Int)(rs:X7)(i:Nat):List (X7):=(List.range i).map λk=>pY n k (zV (yj rs (some (k:Int)) none (some many)))
@[simp]def gList_fr (f:X7):gList [frD f]=some (frD f):=rfl
@[simp]def walkS_fr (f:X7):nu (frD f)=some (f.map rwD):=rfl
@[simp]def walkS_rw (r:X6):nu (rwD r)=some (r.map prD):=rfl
@[simp]def gLen_fr (f:X7):nJ [frD f]=some (.int f.length):=by show some (D.int (f.map rwD).length)=_;rw[Zql]
@[simp]def isi_fr_list (f:X7):cY [frD f,.ty "list"]=some (.bl true):=rfl
@[simp]def isi_rw_tuple (f:X6):cY [rwD f,.ty "tuple"]=some (.bl true):=rfl
@[simp]def isi_pr_tuple (p:Int×Int):cY [prD p,.ty "tuple"]=some (.bl true):=rfl
@[simp]def gLen_pr (p:Int×Int):nJ [prD p]=some (.int 2):=rfl
@[simp]def gIx_pr0 (p:Int×Int):gIx (prD p) (.int 0)=some (.int p.1):=rfl
@[simp]def gIx_pr1 (p:Int×Int):gIx (prD p) (.int 1)=some (.int p.2):=rfl
structure FormOk (n:Int)(f:X7):Prop where
 ne:f ≠ []
 rows:∀r∈f,RowOk n r
 len:f.length<=100
def lT {l:Yh}(h:l ≠ [])(w:Int):nN (l.map (· + w))=nN l+w:=by
 obtain⟨h1,h2⟩:=vC h;refine(kK (ZD.mpr ⟨_,h1,rfl⟩) λy hy=>?_).symm;obtain⟨z,hz,rfl⟩:=ZD.mp hy;have:=h2 z hz;show nN l+w<=z+w;omega
def maxI_add {l:Yh}(h:l ≠ [])(w:Int):ue (l.map (· + w))=ue l+w:=by
 obtain⟨h1,h2⟩:=yK h;refine(nB (ZD.mpr ⟨_,h1,rfl⟩) λy hy=>?_).symm;obtain⟨z,hz,rfl⟩:=ZD.mp hy;have:=h2 z hz;show z+w<=ue l+w;omega
noncomputable def xP (r:X6):Prop:=(r.map (·.1)).Pairwise (· < ·)
def qC:xP []:=List.Pairwise.nil
def l9 (p:Int×Int):xP [p]:=Xn _ _
def ox {r:X6}{t w:Int}(h:xP r)(hm:∀p∈r,p.1<t):xP (r++[(t,w)]):=by
 unfold xP at *;rw[ZV,Xg];refine⟨h,Xn _ _,λa ha b hb=>?_⟩;refine zc1b (ZD.mp ha) λp hp zr2=>?_;subst zr2;have:b=t:=by simpa using hb
 rw[this];exact hm p hp
theorem oA (m:Int)(w:Nat->Int):∀i:Nat,xP (qY m w i)
 | 0=>qC
 |i+1=>by
  have ih:=oA m w i;unfold qY
  split
  .exact ox ih λp hp=>(vT m w i p hp).2
  .exact ih
def rowG_rise (m:Int)(w:Nat->Int)(c wl n:Int):xP (dv m w c wl n):=by
 unfold dv
 split
 .exact l9 _
 .exact oA m w _
theorem qp (r:X6)(f:Nat->Option Int->Option Int):∀i:Nat,xP (xV r f i)
 | 0=>qC
 |i+1=>by
  have ih:=qp r f i;unfold xV;rcases x5 r f i with e|⟨w,e⟩
  .rw[e,Zz];exact ih
  .rw[e];exact ox ih λp hp=>(vL r f i p hp).2
def variedG_rise {r:X6}{f:Nat->Option Int->Option Int}{n:Int}(h:xP r):xP (wA r f n):=by
 unfold wA
 split
 .exact h
 .exact qp r f _
def m8 {r:X6}(h:xP r):r.Pairwise λx y=>wK x y=true:=by
 unfold xP at h;rw[XU] at h;refine h.imp λ{a b} z=>?_;unfold wK;simp;omega
def yo {r o:X6}:zm r o=true↔∀p∈r,∃w,zj o p.1=some w/\p.2<=w:=by
 unfold zm;rw[Xe];refine forall_congr' λp=>forall_congr' λ_=>?_;unfold nk;cases zj o p.1 with
 |none=>simp
 |some w=>simp
def zH {a b c:X6}(h1:zm a b=true)(h2:zm b c=true):zm a c=true:=by
 rw[yo] at *;intro p hp;refine zc1b (h1 p hp) λw h3 h4=>?_;refine zc1b (h2 _ (zy h3)) λv h5 h6=>?_;exact⟨v,h5,Int.le_trans h4 h6⟩
def pE {a b:X6}(oa:yH a)(h1:zm a b=true)(h2:zm b a=true):∀p∈a,p∈b:=by
 rw[yo] at *;intro p hp;refine zc1b (h1 p hp) λw h3 h4=>?_;have hb:=zy h3;refine zc1b (h2 _ hb) λv h5 h6=>?_;have h5:zj a p.1=some v:=h5;rw[oa.look (t:=p.1) (w:=p.2) hp] at h5
 first|exact zqn h5|exact zqb h5|(obtain rfl:=Zqi h5)|cases h5
 have h6:w<=p.2:=h6;have:w=p.2:=()
 rw[this] at hb;exact hb
def rC {a b:X6}(oa:yH a)(ob:yH b)(ra:xP a)(rb:xP b)(h1:zm a b=true)(h2:zm b a=true):a=b:=
 wS xS (m8 ra) (m8 rb) λp=>⟨pE oa h1 h2 p,pE ob h2 h1 p⟩
theorem my:∀{rs:X7},rs ≠ []->(∀r∈rs,yH r/\xP r)->∃m∈rs,∀o∈rs,zm o m=true->o=m
 | [],h,_=>Zn rfl h
 |x::rs,_,ok=>by
  by_cases q:rs=[]
  .subst q;exact⟨x,Zqs,λo ho _=>ZC.mp ho⟩
  .refine zc1b (my q λr hr=>ok r (Zqm _ hr)) λm hm hl=>?_;have okm:=ok m (Zqm _ hm);have okx:=ok x Zqs;by_cases c:zm x m=true
   .refine⟨x,Zqs,λo ho hu=>?_⟩;rcases ZF.mp ho with e|e
    .exact e
    .have e2:=hl o e (zH hu c);subst e2;exact rC okm.1 okx.1 okm.2 okx.2 hu c
   .refine⟨m,Zqm _ hm,λo ho hu=>?_⟩;rcases ZF.mp ho with e|e
    .exact Zn (e ▸ hu) c
    .exact hl o e hu
def wB {rs:X7}{m:X6}:uo rs m=true↔∀o∈rs,zm o m=true->o=m:=by
 unfold uo;rw[List.isEmpty_iff,List.filter_eq_nil_iff];refine forall_congr' λo=>forall_congr' λ_=>?_;by_cases h:o=m
 .simp[h]
 .simp[h]
structure Good (n:Int)(f:X7):Prop where
 ne:f ≠ []
 rows:∀r∈f,RowOk n r
 rise:∀r∈f,xP r
 len:f.length<=40
 anti:∀r∈f,∀s∈f,zm r s=true->r=s
 srt:f.Pairwise λa b=>yF a b=true
def thin_good {n:Int}{rs:X7}(ok:∀r∈rs,RowOk n r)(ri:∀r∈rs,xP r)(hl:rs.length<=40)(hn:rs ≠ []):Good n (zV rs):=by
 refine⟨λz=>?_,λr hr=>ok r (zA.mp hr).1,λr hr=>ri r (zA.mp hr).1,Zh (vH rs) hl,λr hr s hs hu=>?_,?_⟩
 .refine zc1b (my hn λr hr=>⟨(ok r hr).once,ri r hr⟩) λm hm h=>?_;have:m∈zV rs:=zA.mpr ⟨hm,wB.mpr h⟩;rw[z] at this
  first|exact zqn this|exact zqb this|(obtain rfl:=Zqi this)|cases this
 .exact wB.mp (zA.mp hs).2 r (zA.mp hr).1 hu
 .have hp:=zv (ltb:=yF) (ye rs rs);have nd:(zT yF (ye rs rs)).Nodup:=hp.nodup_iff.mpr ((yR rs rs []).2.2 List.nodup_nil);have sd:=x6 ya (ye rs rs);have both:(zT yF (ye rs rs)).Pairwise λx y=>yF y x=false/\x≠y:=List.Pairwise.and sd nd;refine both.imp λ{x y} z=>?_;cases q:yF x y with
  |true=>rfl
  |false=>exact Zn (ya.tot _ _ q z.1) z.2
def good_one {n:Int}{r:X6}(ok:RowOk n r)(ri:xP r):Good n [r]:=
 ⟨by simp,λs hs=>by rw[ZC.mp hs];exact ok,λs hs=>by rw[ZC.mp hs];exact ri,by simp,λs hs t ht _=>by rw[ZC.mp hs,ZC.mp ht],Xn _ _⟩
def min_cast (j n:Nat):min (j:Int) (n:Int)=((min j n:Nat):Int):=by
 rcases Nat.le_total j n with h|h
 .rw[XL h,Int.min_eq_left (Int.ofNat_le.mpr h)]
 .rw[Nat.min_eq_right h,Int.min_eq_right (Int.ofNat_le.mpr h)]
def pick_from {α:Type}(l:List α){k:Int}(h0:0<=k):yj l (some k) none none=l.drop k.toNat:=by
 have e:sliceBounds (some k) none none l.length=(((min k.toNat l.length:Nat):Int),(l.length:Int),1):=by
  obtain⟨j,rfl⟩:=Int.eq_ofNat_of_zero_le h0;unfold sliceBounds;simp only[Option.getD_none];simp;rw[Ze (Int.not_lt.mpr h0),min_cast];exact Int.max_eq_right (Int.natCast_nonneg _)
 unfold yj;rw[e];show(sliceRange _ _ 1).filterMap _=_;have p:=pick_run l.toArray (min k.toNat l.length) (l.length-min k.toNat l.length);rw[sliceRange_one];have ep:(λx:Nat=>l[x]?)=λx:Nat=>l.toArray[x]?:= by funext x;simp
 rw[ep,p];simp;by_cases c:k.toNat<=l.length
 .rw[XL c,Z3 (by simp)]
 .rw[Nat.min_eq_right (),XC (Zf _),XC ()];exact List.take_nil
structure ThingsOk (ts:Yh):Prop where
 ne:ts ≠ []
 len:ts.length<=4
 rng:∀t∈ts,0<=t/\t<12
 up:ts.Pairwise (· < ·)
def xN {r:X6}(h:xP r):yH r:=by
 unfold xP at h;unfold yH List.Nodup;exact h.imp λh e=>()
def tU {r:X6}(h:yH r){p q:Int×Int}(hp:p∈r)(hq:q∈r)(e:p.1=q.1):p=q:=by
 induction r with
 |nil=>first|exact zqn hp|exact zqb hp|(obtain rfl:=Zqi hp)|cases hp
 |cons a r ih =>
  unfold yH at h;rw[Zl,List.nodup_cons] at h;rcases ZF.mp hp with z|z
  .rcases ZF.mp hq with y|y
   .rw[z,y]
   .exact Zn (ZD.mpr ⟨q,y,by rw[<- e,z]⟩) h.1
  .rcases ZF.mp hq with y|y
   .exact Zn (ZD.mpr ⟨p,z,by rw[e,y]⟩) h.1
   .exact ih h.2 z y
def vn (hs:Yh)(t m:Int):Yh:=(List.range hs.length).map λk:Nat=>yr hs k+m*(if t=k then 1 else 0)
def iq (hs:Yh)(t m:Int):(vn hs t m).length=hs.length:=by unfold vn;simp
def m6 {hs:Yh}{t m x:Int}(h0:0<=x)(h1:x<(hs.length:Int)):yr (vn hs t m) x=yr hs x+(if t=x then m else 0):=by
 have hl:x.toNat<hs.length:=()
 have e:((x.toNat:Nat):Int)=x:=()
 unfold yr vn;rw[ZE,Zv,XY hl];show yr hs (x.toNat:Int)+m*(if t=((x.toNat:Nat):Int) then 1 else 0)=_;rw[e];unfold yr
 split
 .omega
 .omega
def vq {r:X6}{hs:Yh}{p:Int×Int}(hp:p∈r):yr hs p.1+p.2<=z9 r hs:=
 (yK (l:=r.map λp=>yr hs p.1+p.2) (λz=>by rw[ZT] at z;subst z;(first|exact zqn hp|exact zqb hp|(obtain rfl:=Zqi hp)|cases hp))).2 _ (ZD.mpr ⟨p,hp,rfl⟩)
def jN {r:X6}{hs:Yh}(hr:r ≠ []):∃p∈r,z9 r hs=yr hs p.1+p.2:=by
 refine zc1b (ZD.mp (yK (l:=r.map λp=>yr hs p.1+p.2) (λz=>hr (ZT.mp z))).1) λp hp e=>?_;exact⟨p,hp,e.symm⟩
def tG {r:X6}{hs:Yh}{x:Int}(hr:r ≠ []):z9 r hs<=x↔∀p∈r,yr hs p.1+p.2<=x:=by
 constructor
 .intro h p hp;exact Int.le_trans (vq hp) h
 .intro h;refine zc1b (jN (hs:=hs) hr) λp hp e=>?_;rw[e];exact h p hp
def tj {f:X7}{hs:Yh}{r:X6}(hr:r∈f):z7 f hs<=z9 r hs:=
 (vC (l:=f.map λr=>z9 r hs) (λz=>by rw[ZT] at z;subst z;(first|exact zqn hr|exact zqb hr|(obtain rfl:=Zqi hr)|cases hr))).2 _ (ZD.mpr ⟨r,hr,rfl⟩)
def qG {f:X7}{hs:Yh}(hf:f ≠ []):∃r∈f,z7 f hs=z9 r hs:=by
 refine zc1b (ZD.mp (vC (l:=f.map λr=>z9 r hs) (λz=>hf (ZT.mp z))).1) λp hp e=>?_;exact⟨p,hp,e.symm⟩
structure Over (f:X7)(hs:Yh):Prop where
 ne:f ≠ []
 rne:∀r∈f,r ≠ []
 once:∀r∈f,yH r
 bnd:∀r∈f,∀p∈r,0<=p.1/\p.1<(hs.length:Int)
def Over.mov {f:X7}{hs:Yh}(o:Over f hs)(t m:Int):Over f (vn hs t m):=⟨o.ne,o.rne,o.once,by rw[iq];exact o.bnd⟩
def jQ {r:X6}{hs:Yh}{t m:Int}(hr:r ≠ [])(hb:∀p∈r,0<=p.1/\p.1<(hs.length:Int))(hm:0<=m):z9 r hs<=z9 r (vn hs t m):=by
 rw[tG hr];intro p hp;refine Int.le_trans ?_ (vq hp);rw[m6 (hb p hp).1 (hb p hp).2]
 split<;>omega
def fdF (f:X7)(hs:Yh):X7:=f.filter λr=>decide (z9 r hs=z7 f hs)
def yP {f:X7}{hs:Yh}{r:X6}:r∈fdF f hs↔r∈f/\z9 r hs=z7 f hs:=by
 unfold fdF;rw[ZK,decide_eq_true_iff]
def ou {f:X7}{hs:Yh}(hf:f ≠ []):fdF f hs ≠ []:=λz=>by
 refine zc1b (qG (hs:=hs) hf) λr hr e=>?_;have:r∈fdF f hs:=yP.mpr ⟨hr,e.symm⟩;rw[z] at this
 first|exact zqn this|exact zqb this|(obtain rfl:=Zqi this)|cases this
def uH (f:X7)(hs:Yh)(t:Int)(r:X6):Int:=z7 f hs-yr hs t-(zj r t).getD 0
def tm {r:X6}{t:Int}(h:(zj r t).isSome=true):∃w,zj r t=some w/\(t,w)∈r:=by
 cases q:zj r t with
 |none=>rw[q] at h;(first|exact zqn h|exact zqb h|(obtain rfl:=Zqi h)|cases h)
 |some w=>exact⟨w,rfl,zy q⟩
def slack_some {f:X7}{hs:Yh}{t:Int}(o:Over f hs)(t0:0<=t)(t1:t<(hs.length:Int))(h:∀r∈fdF f hs,(zj r t).isSome=true):0<=ue ((fdF f hs).map (uH f hs t))/\z7 f (vn hs t (ue ((fdF f hs).map (uH f hs t))))=z7 f hs/\z7 f hs<z7 f (vn hs t (ue ((fdF f hs).map (uH f hs t))+1)):=by
 have ne:(fdF f hs).map (uH f hs t) ≠ []:=λz=>ou o.ne (ZT.mp z);obtain⟨hm,hle⟩:=yK ne;generalize ue ((fdF f hs).map (uH f hs t))=s at hm hle;obtain⟨r,hr,es⟩:=ZD.mp hm;obtain⟨w,hw,hwm⟩:=tm (h r hr);obtain⟨hrf,he⟩:=yP.mp hr;unfold uH at es;rw[hw] at es;have es:z7 f hs-yr hs t-w=s:=es;have g:=vq (hs:=hs) hwm;rw[he] at g;have g:yr hs t+w<=z7 f hs:=g;have s0:0<=s:=()
 refine⟨s0,Int.le_antisymm ?_ ?_,?_⟩
 .refine Int.le_trans (tj hrf) ((tG (o.rne r hrf)).mpr λp hp=>?_);rw[m6 (o.bnd r hrf p hp).1 (o.bnd r hrf p hp).2]
  split
  .rename_i z;have e2:p=(t,w):=tU (o.once r hrf) hp hwm z.symm;rw[e2];show yr hs t+s+w<=_;omega
  .have:=vq (hs:=hs) hp;rw[he] at this;omega
 .obtain⟨q,hq,e⟩:=qG (hs:=vn hs t s) o.ne;rw[e];exact Int.le_trans (tj hq) (jQ (o.rne q hq) (o.bnd q hq) s0)
 .obtain⟨q,hq,e⟩:=qG (hs:=vn hs t (s+1)) o.ne;rw[e];have up:=jQ (t:=t) (m:=s+1) (o.rne q hq) (o.bnd q hq) ();have lo:=tj (hs:=hs) hq;by_cases z:z9 q hs=z7 f hs
  .have hqf:=yP.mpr ⟨hq,z⟩;obtain⟨w2,hw2,hm2⟩:=tm (h q hqf);have l2:=hle _ (ZD.mpr ⟨q,hqf,rfl⟩);unfold uH at l2;rw[hw2] at l2;have l2:z7 f hs-yr hs t-w2<=s:=l2;have g2:=vq (hs:=vn hs t (s+1)) hm2;have g2:yr (vn hs t (s+1)) t+w2<=z9 q (vn hs t (s+1)):=g2;rw[m6 t0 t1,Zd rfl] at g2;omega
  .omega
noncomputable def yD (t:Int)(r:X6):X6:=r.filter λp => !decide (p.1=t)
def lP {t:Int}{r:X6}{p:Int×Int}:p∈yD t r↔p∈r/\p.1≠t:=by
 unfold yD;rw[ZK];simp
structure RoundOk (n:Int)(fs:List (X7)):Prop where
 len:(fs.length:Int)=n
 low:1<=n
 most:n<=12
 forms:∀f∈fs,FormOk n f
def RoundOk.over {n:Int}{fs:List (X7)}(R:RoundOk n fs){hs:Yh}(h:hs.length=fs.length):∀f∈fs,Over f hs:=λf hf=>⟨(R.forms f hf).ne,λr hr=>((R.forms f hf).rows r hr).ne,λr hr=>((R.forms f hf).rows r hr).once,λr hr p hp=>by
 have:=((R.forms f hf).rows r hr).mem p hp;have:=R.len;omega⟩
def rdD (fs:List (X7)):D:=.lst (fs.map frD)
@[simp]def walkS_rd (fs:List (X7)):nu (rdD fs)=some (fs.map frD):=rfl
open L2.ST
theorem me:∀{ys xs:Yh},xs.Pairwise (· < ·)->ys.Pairwise (· < ·)->(∀x∈xs,x∈ys)->xs.length<=ys.length/\(xs.length=ys.length->xs=ys)
 | [],xs,_,_,h=>by
  cases xs with
  |nil=>exact⟨Zf _,λ_=>rfl⟩
  |cons x xs=>cases h x Zqs
 |y::ys,[],_,_,_=>⟨Nat.zero_le _,λe=>by simp at e⟩
 |y::ys,x::xs,hx,hy,h=>by
  rw[Z6] at hx hy;rcases ZF.mp (h x Zqs) with q|q
  .subst q;obtain⟨h1,h2⟩:=me (ys:=ys) hx.2 hy.2 λz hz=>by
    rcases ZF.mp (h z (Zqm _ hz)) with w|w
    .have:=hx.1 z hz;omega
    .exact w
   refine⟨by rw[Zu,Zu];omega,λe=>?_⟩;rw[Zu,Zu] at e;rw[h2 ()]
  .have hyx:=hy.1 x q;obtain⟨h1,_⟩:=me (ys:=ys) (xs:=x::xs) (Z6.mpr hx) hy.2 λz hz=>by
    rcases ZF.mp (h z hz) with w|w
    .rcases ZF.mp hz with v|v
     .omega
     .have:=hx.1 z v;omega
    .exact w
   refine⟨by rw[Zu (as:=ys)];omega,λe=>?_⟩;rw[Zu (as:=ys)] at e;omega
theorem fz:∀{a b:X6},a.map (·.1)=b.map (·.1)->(∀(i:Nat) p q,a[i]? = some p->b[i]? = some q->p.2<=q.2)->a≠b->yF a b=true
 | [],[],_,_,h=>Zn rfl h
 | [],_::_,e,_,_=>by simp at e
 |_::_,[],e,_,_=>by simp at e
 |p::a,q::b,e,hw,hn=>by
  rw[Zl,Zl] at e;have e1:p.1=q.1:=(List.cons.inj e).1;have e2:=(List.cons.inj e).2;have w0:=hw 0 p q rfl rfl;rw[xr];by_cases z:p=q
  .rw[Zd z];refine fz e2 (λi p q hp hq=>hw (i+1) p q hp hq) λy=>hn (by rw[z,y])
  .rw[Ze z,xj];refine .inr ⟨e1,?_⟩;rcases Int.lt_or_eq_of_le w0 with y|y
   .exact y
   .exact Zn (Prod.ext e1 y) z
def under_ll {a b:X6}(ra:xP a)(rb:xP b)(h:zm a b=true)(hn:a≠b):llB a b=true:=by
 have u:=yo.mp h;have ob:=xN rb;obtain⟨h1,h2⟩:=me ra rb λx hx=>by
  refine zc1b (ZD.mp hx) λp hp zr2=>?_;subst zr2;refine zc1b (u p hp) λw hw _=>?_;exact ZD.mpr ⟨(p.1,w),zy hw,rfl⟩
 rw[Zql,Zql] at h1 h2;rw[vy];rcases Nat.lt_or_eq_of_le h1 with q|q
 .exact .inl q
 .have e:=h2 q;refine .inr ⟨q,fz e (λi p r hp hr=>?_) hn⟩;refine zc1b (u p (ZS hp)) λw hw hle=>?_;have e1:p.1=r.1:=by
   have a1:(a.map (·.1))[i]? = some p.1:=by rw[Zv,hp];rfl
   have a2:(b.map (·.1))[i]? = some r.1:=by rw[Zv,hr];rfl
   rw[e,a2] at a1;exact(Zqi a1).symm
  have:=tU ob (ZS hr) (zy hw) e1.symm;rw[this];exact hle
def xu {α:Type}{ltb:α -> α -> Bool}(T:Tot ltb){l:List α}(hn:l.Nodup):(zT ltb l).Pairwise λa b=>ltb a b=true:=by
 have hn':(zT ltb l).Nodup:=(zv (ltb:=ltb) l).nodup_iff.mpr hn;have hs:=x6 T l;generalize zT ltb l=s at hn' hs;unfold Sd at hs;unfold List.Nodup at hn';refine List.Pairwise.imp ?_ (hs.and hn');rintro a b ⟨h1,h2⟩;cases q:ltb a b with
 |true=>rfl
 |false=>exact Zn (T.tot _ _ q h1) h2
def nc (rs:X7):X7:=zT llB (zT yF (oN rs))
def vZ {rs:X7}{r:X6}:r∈nc rs↔r∈rs:=by
 unfold nc;rw[(zv (ltb:=llB) _).mem_iff,(zv (ltb:=yF) _).mem_iff,qq]
def sB (rs:X7):(nc rs).Pairwise λa b=>llB a b=true:=xu rT ((zv (ltb:=yF) _).nodup_iff.mpr (rN rs))
def t9 (rs:X7):(nc rs).length<=rs.length:=by
 unfold nc;rw[(zv (ltb:=llB) _).length_eq,(zv (ltb:=yF) _).length_eq];exact l5 rs
def dz (kept:X7)(r:X6):X7:=if kept.any (λo=>zm o r)=true then kept else kept++[r]
def rg (rs:X7):X7:=(nc rs).filter (uo rs)
theorem lJ {rs:X7}(hr:∀r∈rs,xP r):∀i,i<=(nc rs).length->((nc rs).take i).foldl dz []=((nc rs).take i).filter (uo rs)
 | 0,_=>by simp
 |i+1,hi=>by
  have ih:=lJ hr i ();have st:=sB rs;have hm:∀r,r∈nc rs↔r∈rs:=λr=>vZ;generalize nc rs=L at hi ih st hm;have hlt:i<L.length:=()
  rw[zL (Zqg hlt),XX,List.filter_append,ih];have bef:∀o∈L.take i,llB o L[i]=true:=λo ho=>by
   obtain⟨j,hj,rfl⟩:=Xd ho;rw[Z2] at hj;rw[List.getElem_take];exact ZZ.mp st j i () hlt ()
  have hin:=(hm L[i]).mp (Z9 hlt);show dz ((L.take i).filter (uo rs)) L[i]=_;unfold dz;cases q:uo rs L[i] with
  |true =>
   have low:=wB.mp q;rw[Ze,X0 q,List.filter_nil];intro z;refine zc1b (ZP.mp z) λo ho hu=>?_;have ho:=(ZK.mp ho).1;have e:=low o ((hm o).mp (List.mem_of_mem_take ho)) hu;have b:=bef o ho;rw[e] at b;have:=rT.asy _ _ b;rw[b] at this
   first|exact zqn this|exact zqb this|(obtain rfl:=Zqi this)|cases this
  |false =>
   have nl:¬ ∀o∈rs,zm o L[i]=true->o=L[i]:=λz=>by rw[wB.mpr z] at q;(first|exact zqn q|exact zqb q|(obtain rfl:=Zqi q)|cases q)
   obtain⟨o,ho,hu,hne⟩:∃o∈rs,zm o L[i]=true/\o≠L[i]:=by
    apply Classical.byContradiction;intro z;exact nl λo ho hu=>Classical.byContradiction λy=>z ⟨o,ho,hu,y⟩
   obtain⟨mn,hm1,hm2⟩:=my (rs:=rs.filter λo=>zm o L[i]) (λz=>by
    have:o∈rs.filter λo=>zm o L[i]:=ZK.mpr ⟨ho,hu⟩;rw[z] at this
    (first|exact zqn this|exact zqb this|(obtain rfl:=Zqi this)|cases this)) λr h=>⟨xN (hr r (ZK.mp h).1),hr r (ZK.mp h).1⟩
   obtain⟨mr,mu⟩:=ZK.mp hm1;have mlow:uo rs mn=true:=wB.mpr λx hx hxu=>hm2 x (ZK.mpr ⟨hx,zH hxu mu⟩) hxu;have mne:mn≠L[i]:=λz=>hne (by
    have:=hm2 o (ZK.mpr ⟨ho,hu⟩) (by rw[z];exact hu);rw[this,z])
   have mll:=under_ll (hr mn mr) (hr _ hin) mu mne;have mtake:mn∈L.take i:=by
    obtain⟨j,hj,ej⟩:=Xd ((hm mn).mpr mr);rcases Xp j i with w|w|w
    .rw[<- ej,List.mem_take_iff_getElem];exact⟨j,(),rfl⟩
    .subst w;exact Zn ej.symm mne
    .have b:=ZZ.mp st i j hlt hj w;rw[ej] at b;have:=rT.asy _ _ b;rw[mll] at this
     first|exact zqn this|exact zqb this|(obtain rfl:=Zqi this)|cases this
   rw[Zd (ZP.mpr ⟨mn,ZK.mpr ⟨mtake,mlow⟩,mu⟩),X1 (by rw[q];simp),List.filter_nil,Zz]
def sH (rs:X7):zT yF (rg rs)=zV rs:=by
 have n1:(rg rs).Nodup:=by
  have:(nc rs).Nodup:=by
   unfold List.Nodup;refine(sB rs).imp λ{a b} h e=>?_;subst e;have:=rT.asy _ _ h;rw[h] at this
   first|exact zqn this|exact zqb this|(obtain rfl:=Zqi this)|cases this
  exact List.Pairwise.sublist (List.filter_sublist) this
 have n2:(ye rs rs).Nodup:=(yR rs rs []).2.2 List.nodup_nil;refine wS ya (xu ya n1) (xu ya n2) λr=>?_;rw[(zv (ltb:=yF) _).mem_iff];show r∈rg rs↔r∈zV rs;rw[zA];unfold rg;rw[ZK,vZ]
structure PairsOk (ts:Yh)(r:X6):Prop where
 ne:r ≠ []
 len:r.length<=4
 mem:∀p∈r,p.1∈ts
 up:r.Pairwise λp q=>p.1<q.1
def up_once {r:X6}(h:r.Pairwise λp q=>p.1<q.1):yH r:=by
 unfold yH List.Nodup;rw[XU];exact h.imp λh e=>()
def PairsOk.row {ts:Yh}{r:X6}(T:ThingsOk ts)(P:PairsOk ts r):RowOk 12 r:=⟨P.ne,up_once P.up,λp hp=>T.rng _ (P.mem p hp),Zh P.len ()⟩
def wC {rs:X7}(ok:∀r∈rs,yH r/\xP r){r:X6}(hr:r∈rs):∃s∈zV rs,zm s r=true:=by
 have rr:zm r r=true:=yo.mpr λp hp=>⟨p.2,(ok r hr).1.look (t:=p.1) (w:=p.2) hp,Int.le_refl _⟩;have ne:rs.filter (λo=>zm o r) ≠ []:=λz=>by
  have:r∈rs.filter λo=>zm o r:=ZK.mpr ⟨hr,rr⟩;rw[z] at this
  first|exact zqn this|exact zqb this|(obtain rfl:=Zqi this)|cases this
 refine zc1b (my ne λo ho=>ok o (ZK.mp ho).1) λm hm h=>?_;obtain⟨hm1,hm2⟩:=ZK.mp hm;exact⟨m,zA.mpr ⟨hm1,wB.mpr λo ho hu=>h o (ZK.mpr ⟨ho,zH hu hm2⟩) hu⟩,hm2⟩
def wf (rs:X7):(zV rs).Pairwise λa b=>yF a b=true:=xu ya ((yR rs rs []).2.2 List.nodup_nil)
structure JRow (r:X6):Prop where
 ne:r ≠ []
 rise:xP r
 bnd:∀p∈r,0<=p.1/\p.1<12
def JRow.once {r:X6}(h:JRow r):yH r:=xN h.rise
def JRow.len {r:X6}(h:JRow r):r.length<=12:=by
 have up:(r.map (·.1)).Pairwise (· < ·):=h.rise;have key:∀(l:Yh) (a:Int),l.Pairwise (· < ·)->(∀x∈l,a<=x/\x<12)->(l.length:Int)<=max 0 (12-a):=by
  intro l
  induction l with
  |nil=>intro a _ _;simp;omega
  |cons x l ih =>
   intro a hp hb;rw[Z6] at hp;have h1:=hb x Zqs;have:=ih (x+1) hp.2 λy hy=>⟨by have:=hp.1 y hy;omega,(hb y (Zqm _ hy)).2⟩;rw[Zu];omega
 have:=key _ 0 up λx hx=>by
  refine zc1b (ZD.mp hx) λp hp zr2=>?_;subst zr2;exact h.bnd p hp
 rw[Zql] at this;omega
theorem pJ {α:Type}:∀{l m:List α},l.Nodup->(∀x∈l,x∈m)->l.length<=m.length
 | [],m,_,_=>Nat.zero_le _
 |x::l,m,h,s=>by
  refine zc2a (List.append_of_mem (s x Zqs)) λa b zr2=>?_;subst zr2;obtain⟨h1,h2⟩:=List.nodup_cons.mp h;have ih:=pJ (l:=l) (m:=a++b) h2 λy hy=>by
   rcases ZM.mp (s y (Zqm _ hy)) with z|z
   .exact Z8 _ z
   .rcases ZF.mp z with z|z
    .rw[z] at hy;exact Zn hy h1
    .exact ZL _ z
  rw[ZG] at ih;rw[ZG,Zu,Zu];omega
structure Fm (n:Int)(U:X7)(f:X7):Prop where
 good:Good n f
 sub:∀r∈f,r∈U
def good_nodup {n:Int}{f:X7}(G:Good n f):f.Nodup:=G.srt.imp λ{a b} h e=>by
 subst e;have:=ya.asy _ _ h;rw[h] at this
 first|exact zqn this|exact zqb this|(obtain rfl:=Zqi this)|cases this
def Fm.len {n:Int}{U f:X7}(F:Fm n U f)(h:U.length<=28):f.length<=28:=Zh (pJ (good_nodup F.good) F.sub) h
def any_int (k:Int)(ts:Yh):(ts.map D.int).any (λe=>zW e (.int k))=decide (k∈ts):=by
 rw[List.any_map,Xl,ZP,decide_eq_true_eq];constructor
 .rintro⟨x,hx,e⟩;have e:=w6.mp e;injection e with e
  rw[<- e];exact hx
 .intro h;exact⟨k,h,zC _⟩
def dF (neg:Bool)(k:Int)(ts:Yh):gIn neg (.int k) (.lst (ts.map .int))=some (.bl (if neg then !decide (k∈ts) else decide (k∈ts))):=by
 have ha:(ts.map D.int).all (plN 12)=true:=by rw[XI,Xe];exact λ_ _=>rfl
 show(if plN 12 (.int k)&&(ts.map D.int).all (plN 12) then some (D.bl (if neg then !(ts.map D.int).any (λe=>zW e (.int k)) else(ts.map D.int).any λe=>zW e (.int k))) else none)=_;rw[ha,any_int];rfl
def gIn_T (neg:Bool)(k:Int)(ts:Yh):gIn neg (.int k) (itD ts)=some (.bl (if neg then !decide (k∈ts) else decide (k∈ts))):=dF neg k ts
noncomputable def thR (r:X6):Yh:=r.map (·.1)
def lq (l:Yh):thR (zR l)=l:=by
 unfold thR zR;rw[Zw];exact List.map_id l
def wF (f:X7)(hs:Yh):X7:=(fdF f hs).map λr=>zR (thR r)
def xi (f:X7)(hs:Yh):List Yh:=(zV (wF f hs)).map thR
def qx (r:X6)(hs:Yh):Yh:=(r.filter λp=>decide (yr hs p.1+p.2=z9 r hs)).map (·.1)
def y4 (hs:Yh)(r:X6):X7:=(qx r hs).map λt=>zR [t]
def vK {r:X6}{hs:Yh}{t:Int}:t∈qx r hs↔∃p∈r,p.1=t/\yr hs p.1+p.2=z9 r hs:=by
 unfold qx;rw[ZD];constructor
 .rintro⟨p,hp,e⟩;obtain⟨h1,h2⟩:=ZK.mp hp;exact⟨p,h1,e,of_decide_eq_true h2⟩
 .rintro⟨p,hp,e,h⟩;exact⟨p,ZK.mpr ⟨hp,Zp h⟩,e⟩
def last_ne {r:X6}{hs:Yh}(hr:r ≠ []):qx r hs ≠ []:=λz=>by
 refine zc1b (jN (hs:=hs) hr) λp hp e=>?_;have:p.1∈qx r hs:=vK.mpr ⟨p,hp,rfl,e.symm⟩;rw[z] at this
 first|exact zqn this|exact zqb this|(obtain rfl:=Zqi this)|cases this
def z_one {t:Int}(t0:0<=t)(t1:t<12):JRow (zR [t]):=⟨by simp[zR],Xn _ _,λp hp=>by
 rw[ZC.mp hp];exact⟨t0,t1⟩⟩
def last_rows {n:Nat}{r:X6}{hs:Yh}(n12:n<=12)(ok:RowOk (n:Int) r):∀q∈y4 hs r,JRow q:=λq hq=>by
 obtain⟨t,ht,rfl⟩:=ZD.mp hq;obtain⟨p,hp,rfl,_⟩:=vK.mp ht;have:=ok.mem p hp;exact z_one this.1 ()
def last_len {r:X6}{hs:Yh}:(y4 hs r).length<=r.length:=by
 unfold y4 qx;rw[Zql,Zql];exact ZW _ _
def kM (f:X7)(hs:Yh)(t:Int):Prop:=∀r∈fdF f hs,t∈qx r hs
def lW {l:Yh}{c:Int}(hn:l ≠ [])(h:∀x∈l,x=c):ue l=c:=h _ (yK hn).1
def slack_zero {f:X7}{hs:Yh}{t:Int}(o:Over f hs)(h:∀r∈fdF f hs,(zj r t).isSome=true):ue ((fdF f hs).map (uH f hs t))=0↔kM f hs t:=by
 have ne:(fdF f hs).map (uH f hs t) ≠ []:=λz=>ou o.ne (ZT.mp z);have pos:∀r∈fdF f hs,∃w,zj r t=some w/\(t,w)∈r/\uH f hs t r=z7 f hs-yr hs t-w/\0<=uH f hs t r:=λr hr=>by
  obtain⟨w,hw,hm⟩:=tm (h r hr);have g:=vq (hs:=hs) hm;rw[(yP.mp hr).2] at g;have e:uH f hs t r=z7 f hs-yr hs t-w:=by unfold uH;rw[hw];rfl
  exact⟨w,hw,hm,e,by rw[e];have g:yr hs t+w<=z7 f hs:=g;omega⟩
 constructor
 .intro z r hr;obtain⟨w,_,hm,e,p⟩:=pos r hr;have l:=(yK ne).2 _ (ZD.mpr ⟨r,hr,rfl⟩);rw[z] at l;refine vK.mpr ⟨(t,w),hm,rfl,?_⟩;rw[(yP.mp hr).2];show yr hs t+w=_;omega
 .intro b;refine lW ne λx hx=>?_;obtain⟨r,hr,rfl⟩:=ZD.mp hx;obtain⟨w,_,hm,e,p⟩:=pos r hr;obtain⟨q,hq,e1,e2⟩:=vK.mp (b r hr);have eq:q=(t,w):=tU (o.once r (yP.mp hr).1) hq hm e1;rw[eq,(yP.mp hr).2] at e2;have e2:yr hs t+w=z7 f hs:=e2;omega
def lastB_some {f:X7}{hs:Yh}{t:Int}(o:Over f hs)(b:kM f hs t):∀r∈fdF f hs,(zj r t).isSome=true:=λr hr=>by
 obtain⟨q,hq,e1,_⟩:=vK.mp (b r hr);have:=(o.once r (yP.mp hr).1).look (t:=q.1) (w:=q.2) hq;rw[<- e1,this];rfl
def slack_after {f:X7}{hs:Yh}{t s:Int}(o:Over f hs)(t0:0<=t)(t1:t<(hs.length:Int))(h:∀r∈fdF f hs,(zj r t).isSome=true)(es:ue ((fdF f hs).map (uH f hs t))=s):
 z7 f (vn hs t s)=z7 f hs/\(∀r∈fdF f (vn hs t s),(zj r t).isSome=true)/\ue ((fdF f (vn hs t s)).map (uH f (vn hs t s) t))=0:=by
 obtain⟨s0,ec,_⟩:=slack_some o t0 t1 h;have ne:(fdF f hs).map (uH f hs t) ≠ []:=λz=>ou o.ne (ZT.mp z);have top:=(yK ne).2;rw[es] at s0 ec top;have o':=o.mov t s;have sub:∀r∈fdF f (vn hs t s),r∈fdF f hs:=λr hr=>by
  obtain⟨h1,h2⟩:=yP.mp hr;have u:=jQ (t:=t) (m:=s) (o.rne r h1) (o.bnd r h1) s0;have l:=tj (hs:=hs) h1;exact yP.mpr ⟨h1,()⟩
 have al:∀r∈fdF f (vn hs t s),(zj r t).isSome=true:=λr hr=>h r (sub r hr);refine⟨ec,al,lW (λz=>ou o'.ne (ZT.mp z)) λx hx=>?_⟩;obtain⟨r,hr,rfl⟩:=ZD.mp hx;obtain⟨w,hw,hm⟩:=tm (al r hr);have l:=top _ (ZD.mpr ⟨r,sub r hr,rfl⟩);have g:=vq (hs:=vn hs t s) hm;rw[(yP.mp hr).2] at g;have g:yr (vn hs t s) t+w<=z7 f (vn hs t s):=g;have e1:uH f hs t r=z7 f hs-yr hs t-w:=by unfold uH;rw[hw];rfl
 have e2:uH f (vn hs t s) t r=z7 f (vn hs t s)-yr (vn hs t s) t-w:=by unfold uH;rw[hw];rfl
 have m:=m6 (hs:=hs) (t:=t) (m:=s) t0 t1;rw[Zd rfl] at m;rw[e2];omega
def jt (G:Good (n:Int) f):∀q∈wF f hs,yH q/\xP q:=λq hq=>by
 obtain⟨r,hr,rfl⟩:=ZD.mp hq;have ri:=G.rise r (yP.mp hr).1;have ri:xP (zR (thR r)):=by
  show((zR (thR r)).map (·.1)).Pairwise (· < ·);rw[show(zR (thR r)).map (·.1)=thR r from lq _];exact ri
 exact⟨xN ri,ri⟩
def j7 {r:X6}{t:Int}(o:yH r):zj r t=none↔t∉thR r:=by
 constructor
 .intro h ht;obtain⟨p,hp,e⟩:=ZD.mp ht;have:=o.look (t:=p.1) (w:=p.2) hp;have e:p.1=t:=e;rw[e,h] at this
  first|exact zqn this|exact zqb this|(obtain rfl:=Zqi this)|cases this
 .intro h;cases q:zj r t with
  |none=>rfl
  |some w=>exact Zn (ZD.mpr ⟨(t,w),zy q,rfl⟩) h
def ways_thing {n:Nat}{f:X7}{hs:Yh}{t:Int}(G:Good (n:Int) f):(∃w∈xi f hs,t∉w)↔∃r∈fdF f hs,zj r t=none:=by
 unfold xi;constructor
 .rintro⟨w,hw,ht⟩;obtain⟨q,hq,rfl⟩:=ZD.mp hw;obtain⟨r,hr,rfl⟩:=ZD.mp (zA.mp hq).1;rw[lq] at ht;exact⟨r,hr,(j7 (G.rows r (yP.mp hr).1).once).mpr ht⟩
 .rintro⟨r,hr,h⟩;obtain⟨s,hs',hu⟩:=wC (jt G) (ZD.mpr ⟨r,hr,rfl⟩);refine⟨thR s,ZD.mpr ⟨s,hs',rfl⟩,λz=>?_⟩;obtain⟨p,hp,e⟩:=ZD.mp z;have e:p.1=t:=e;obtain⟨w,hw,_⟩:=yo.mp hu p hp;have this:p.1∈thR (zR (thR r)):=ZD.mpr ⟨(p.1,w),zy hw,rfl⟩;rw[lq,e] at this;exact(j7 (G.rows r (yP.mp hr).1).once).mp h this
def rp (hs:Yh)(m:Int):Yh:=(List.range hs.length).map λk:Nat=>yr hs k+m
def movA_len (hs:Yh)(m:Int):(rp hs m).length=hs.length:=by unfold rp;simp
def n9 {hs:Yh}{m x:Int}(h0:0<=x)(h1:x<(hs.length:Int)):yr (rp hs m) x=yr hs x+m:=by
 have hl:x.toNat<hs.length:=()
 have e:((x.toNat:Nat):Int)=x:=()
 unfold yr rp;rw[ZE,Zv,XY hl];show yr hs (x.toNat:Int)+m=_;rw[e];rfl
section
variable {f:X7}{hs:Yh}{m:Int}(o:Over f hs)
include o
theorem vY {r:X6}(hr:r ≠ [])(hb:∀p∈r,0<=p.1/\p.1<(hs.length:Int)):z9 r (rp hs m)=z9 r hs+m:=by
 unfold z9;rw[<- maxI_add (λz=>hr (ZT.mp z)),Zw]
 congr 1
 refine Xk λp hp=>?_;rw[n9 (hb p hp).1 (hb p hp).2];show _=yr hs p.1+p.2+m;omega
theorem ut:z7 f (rp hs m)=z7 f hs+m:=by
 unfold z7;rw[<- lT (λz=>o.ne (ZT.mp z)),Zw]
 congr 1
 refine Xk λr hr=>?_;exact vY o (o.rne r hr) (o.bnd r hr)
theorem mh:fdF f (rp hs m)=fdF f hs:=by
 unfold fdF;refine List.filter_congr λr hr=>?_;rw[vY o (o.rne r hr) (o.bnd r hr),ut o];exact decide_eq_decide.mpr ⟨λh=>(),λh=>()⟩
theorem pK {r:X6}(hr:r∈f):y4 (rp hs m) r=y4 hs r:=by
 unfold y4 qx
 congr 2
 refine List.filter_congr λp hp=>?_;rw[vY o (o.rne r hr) (o.bnd r hr),n9 (o.bnd r hr p hp).1 (o.bnd r hr p hp).2];exact decide_eq_decide.mpr ⟨λh=>(),λh=>()⟩
theorem slk_movA {t:Int}(t0:0<=t)(t1:t<(hs.length:Int)):uH f (rp hs m) t=uH f hs t:=by
 funext r
 unfold uH;rw[ut o,n9 t0 t1];omega
end
def kU:FS:=(zO (sIf (z3 (dOp gLt (ze 1) (yT nJ (zb (ze 0) zn)))) (yS (dOp gIx (ze 0) (ze 1))) y9) (yS (dC (.int 0))))
def wZ:YD->Res D:=ve 2 2 kU
def gf (ns:Yh)(k:Nat):wZ [.scr ns,.int k]=.ok (.int (uV ns k)):=by
 unfold uV;rw[Int.toNat_natCast];by_cases h:k<ns.length
 .have e:atI ns (k:Int)=some ns[k]:=by rw[vo h];exact Zqg h
  have e2:ns.getD k 0=ns[k]:=by rw[ZE,Zqg h];rfl
  rw[e2];simp[wZ,kU,h,e]
 .have e2:ns.getD k 0=0:=by rw[ZE,List.getElem?_eq_none ()];rfl
  rw[e2];simp[wZ,kU,h]
def hV:FS:=(zO (xy 2 (dOp rq (dOp gH (dOp u8 (dOp rq (ze 0) (dC (.int 2147483647))) (ze 1)) (dC (.int 48271))) (dC (.int 2147483647)))) (yS (dOp rq (dOp gH (ze 2) (ze 2)) (dC (.int 2147483629)))))
def uZ:YD->Res D:=ve 3 2 hV
@[simp]def f_z19 (c s:Int):uZ [.int c,.int s]=.ok (.int (uW c s)):=by
 have h1:sT (c % 2147483647+s) 48271=true:=uj () ();have h2:sT ((c % 2147483647+s)*48271 % 2147483647) ((c % 2147483647+s)*48271 % 2147483647)=true:=uj () ();simp[uZ,hV,vm h1,vm h2,uW]
def ku:FS:=(zO (xy 2 (zt uZ (zb (ze 0) (zb (ze 1) zn)))) (zO (sIf (z3 (dOp gGt (dOp rq (ze 2) (dC (.int 4))) (dC (.int 0)))) (yS (dOp ki (dOp rq (dOp pQ (ze 2) (dC (.int 4))) (dC (.int 7))) (dC (.int 3)))) y9) (zO (xy 3 (dOp rq (dOp gH (dOp pQ (ze 0) (dC (.int 5))) (dOp u8 (ze 1) (dC (.int 3)))) (dOp cT (dC (.int 10)) (dC (.int 60))))) (zO (sIf (z3 (dOp gEq (dOp rq (dOp pQ (ze 2) (dC (.int 28))) (dC (.int 2))) (dC (.int 0)))) (yS (ze 3)) y9) (yS (dUn cG (ze 3)))))))
def uh:YD->Res D:=ve 4 2 ku
def kG (c s:Int):Int:=
 if 0<uW c s % 4 then uW c s / 4 % 7-3
 else if uW c s / 28 % 2=0 then c / 5*(s+3) % (10:Int) ^ (60:Nat) else -(c / 5*(s+3) % (10:Int) ^ (60:Nat))
def g7 {c s:Int}(h1: -1000000<=s)(h2:s<=1000000):uh [.int c,.int s]=.ok (.int (kG c s)):=by
 have h3:sT (c / 5) (s+3)=true:=uj () ();have h4:cT (.int 10) (.int 60)=some (.int (10 ^ 60)):=rfl;unfold kG;by_cases c1:0<uW c s % 4
 .simp[uh,ku,c1]
 .by_cases c2:uW c s / 28 % 2=0
  .simp[uh,ku,c1,c2,vm h3,h4]
  .simp[uh,ku,c1,c2,vm h3,h4]
def iP:FS:=(zO (xy 2 (zt uZ (zb (ze 0) (zb (dC (.int 7)) zn)))) (zO (nV 3 (sC zn)) (zO (sV (iR1 (zb (ze 1) zn)) (.one 4) (zO (sIf (z3 (dOp gEq (dOp rq (ze 2) (dC (.int 2))) (dC (.int 1)))) (zX 3 (pc (zb (ze 4) (zb (zt uh (zb (ze 0) (zb (dOp u8 (dC (.int 13)) (ze 4)) zn))) zn)))) y9) (xy 2 (dOp pQ (ze 2) (dC (.int 2)))))) (zO (sIf (kr [3] (z3 (dOp gEq (ze 3) (sC zn)))) (zX 3 (pc (zb (dOp rq (ze 0) (ze 1)) (zb (zt uh (zb (ze 0) (zb (dC (.int 31)) zn))) zn)))) y9) (λsd=>(yS (yT vh (zb (ze 3) zn))) (qZ [3] sd))))))
def kZ:YD->Res D:=ve 5 2 iP
def cq (c n:Int):X6:=dv (uW c 7) (λi=>kG c (13+i)) c (kG c 31) n
def f_z22 {c n:Int}(h1:1<=n)(h2:n<=12):kZ [.int c,.int n]=.ok (rwD (cq c n)):=by
 have r1:xz [.int n]=.ok (zx 0 n.toNat):=yi () ();simp[kZ,iP,r1];generalize hb:zO (sIf _ _ _) (xy 2 _)=b;obtain⟨sd',e,u,rfl⟩:=xc (tg:=.one 4) (b:=b) (ds:=zx 0 n.toNat) (sd:=[some (.val (.int c)),some (.val (.int n)),some (.val (.int (uW c 7))),some (.own false (.lst [])),none])
  (P:=λi sd=>∃u,sd=[some (.val (.int c)),some (.val (.int n)),some (.val (.int (kq (uW c 7) i))),some (.own false (.lst ((qY (uW c 7) (λi=>kG c (13+i)) i).map prD))),u]) ⟨none,rfl⟩ (by
   rintro i x sd hx ⟨u,rfl⟩;obtain⟨rfl,hi⟩:=we hx;have hw:=g7 (c:=c) (s:=13+i) () ();have hl:=qv (uW c 7) (λi=>kG c (13+i)) i;subst hb;by_cases q:kq (uW c 7) i % 2=1
   .simp[q,hw,zo (show(qY (uW c 7) (λi=>kG c (13+i)) i).length<=1000 by omega),qY,kq,prD]
   .simp[q,qY,kq])
 rw[e];have hp:=xM (qL (qY (uW c 7) (λi=>kG c (13+i)) n.toNat)) wj;have hw:=g7 (c:=c) (s:=31) () ();rw[yJ];unfold cq dv;by_cases q:qY (uW c 7) (λi=>kG c (13+i)) n.toNat=[]
 .simp[q,hw,xM wj wj,zC,show 0<n by omega,zo (show 0<=1000 from ()),rwD,prD]
 .simp[q,hp,yw,rwD]
def gh:FS:=(zO (xy 3 (yT vS (zb (ze 0) zn))) (zO (nV 4 (sC zn)) (zO (sV (iR1 (zb (ze 2) zn)) (.one 5) (zO (xy 6 (zt uZ (zb (ze 1) (zb (dOp u8 (dC (.int 43)) (ze 5)) zn)))) (zO (sIf (qW (z3 (dOp (gIn false) (ze 5) (ze 3))) (z3 (dOp gGt (dOp rq (ze 6) (dC (.int 6))) (dC (.int 0))))) (zX 4 (pc (zb (ze 5) (zb (dOp u8 (dOp gIx (ze 3) (ze 5)) (dOp gIx (sC (zb (dC (.int 0)) (zb (dC (.int 0)) (zb (dC (.int 1)) (zb (dUn cG (dC (.int 1))) zn))))) (dOp rq (dOp pQ (ze 6) (dC (.int 6))) (dC (.int 4))))) zn)))) y9) (sIf (qW (z3 (dOp (gIn true) (ze 5) (ze 3))) (z3 (dOp gEq (dOp rq (ze 6) (dC (.int 5))) (dC (.int 0))))) (zX 4 (pc (zb (ze 5) (zb (zt uh (zb (ze 1) (zb (dOp u8 (dC (.int 67)) (ze 5)) zn))) zn)))) y9)))) (zO (sIf (kr [4] (z3 (dOp gEq (ze 4) (sC zn)))) (yS (ze 0)) y9) (λsd=>(yS (yT vh (zb (ze 4) zn))) (qZ [4] sd))))))
def ik:YD->Res D:=ve 7 3 gh
noncomputable def hJ:Yh:=[0,0,1,-1]
def oX (c:Int)(i:Nat):Option Int->Option Int
 |some w=>if 0<uW c (43+i) % 6 then some (w+yr hJ (uW c (43+i) / 6 % 4)) else none
 |none=>if uW c (43+i) % 5=0 then some (kG c (67+i)) else none
def f_z23 {r:X6}{c n:Int}(o:yH r)(hl:r.length<=100)(h1:0<=n)(h2:n<=12):ik [rwD r,.int c,.int n]=.ok (rwD (wA r (oX c) n)):=by
 have r1:xz [.int n]=.ok (zx 0 n.toNat):=yi () ();have hd:=wJ hl o;simp[ik,gh,r1,hd];generalize hB:zO (xy 6 _) _=b;obtain⟨sd',e,u,v,hsd⟩:=xc (tg:=.one 5) (b:=b) (ds:=zx 0 n.toNat) (sd:=[some (.val (rwD r)),some (.val (.int c)),some (.val (.int n)),some (.val (dcR r)),some (.own false (.lst [])),none,none])
  (P:=λi sd=>∃u v,sd=[some (.val (rwD r)),some (.val (.int c)),some (.val (.int n)),some (.val (dcR r)),some (.own false (.lst ((xV r (oX c) i).map prD))),u,v]) ⟨none,none,rfl⟩ (by
   rintro i x sd hx ⟨u,v,rfl⟩;obtain⟨rfl,hi⟩:=we hx;have hw:=g7 (c:=c) (s:=67+i) () ();have hl:=tL r (oX c) i;have hz:=zo (show(xV r (oX c) i).length<=1000 by omega);have hv:=xR o (i:Int);have hm:atI [D.int 0,D.int 0,D.int 1,D.int (-1)] (uW c (43+i) / 6 % 4)=some (.int (yr hJ (uW c (43+i) / 6 % 4))):=xm (hs:=hJ) () (by show _<(4:Int);omega);subst hB;cases q:zj r i with
   |some w =>
    rw[q] at hv;by_cases c1:0<uW c (43+i) % 6
    .have es:wm r (oX c) i=[((i:Int),w+yr hJ (uW c (43+i) / 6 % 4))]:=by unfold wm oX;rw[q];simp[c1]
     simp[dcR,hv,c1,hm,hz,xV,es,prD]
    .have es:wm r (oX c) i=[]:=by unfold wm oX;rw[q];simp[c1]
     simp[dcR,hv,c1,hz,xV,es,prD]
   |none =>
    rw[q] at hv;by_cases c1:uW c (43+i) % 5=0
    .have es:wm r (oX c) i=[((i:Int),kG c (67+i))]:=by unfold wm oX;rw[q];simp[c1]
     simp[dcR,hv,c1,hw,hz,xV,es,prD]
    .have es:wm r (oX c) i=[]:=by unfold wm oX;rw[q];simp[c1]
     simp[dcR,hv,c1,hz,xV,es,prD])
 rw[e];subst hsd;have hp:=xM (qL (xV r (oX c) n.toNat)) wj;rw[yJ];unfold wA;by_cases q:xV r (oX c) n.toNat=[]
 .simp[q,xM wj wj,zC]
 .simp[q,hp,yw,rwD]
def gb:FS:=(zO (nV 2 (sC zn)) (zO (sV (iS (ze 0)) (.one 3) (sIf (qW (kr [2] (z3 (dOp gNe (ze 2) (sC zn)))) (z3 (dOp gGt (dOp rq (ze 3) (dC (.int 3))) (dC (.int 0))))) (zX 2 (zt ik (zb (qa 2 (dOp rq (dOp pQ (ze 3) (dC (.int 3))) (kH [2] (yT nJ (zb (ze 2) zn))))) (zb (ze 3) (zb (ze 1) zn))))) (zX 2 (zt kZ (zb (ze 3) (zb (ze 1) zn)))))) (xq 2)))
def jZ:YD->Res D:=uc 4 2 gb
def yk (n:Int)(rs:X7)(c:Int):X7:=if rs ≠ []/\0<c % 3 then rs++[wA (rs.getD (c / 3 % (rs.length:Int)).toNat []) (oX c) n] else rs++[cq c n]
def wI (n:Int)(cs:Yh):X7:=cs.foldl (yk n) []
def listStep_len (n:Int)(rs:X7)(c:Int):(yk n rs c).length=rs.length+1:=by
 unfold yk
 split<;>simp
theorem vD (n:Int):∀(cs:Yh) (rs:X7),(cs.foldl (yk n) rs).length=rs.length+cs.length
 | [],rs=>rfl
 |c::cs,rs=>by rw[XF,vD n cs,listStep_len,Zu];omega
def so (n:Int)(cs:Yh):(wI n cs).length=cs.length:=by
 have:=vD n cs [];unfold wI;rw[this];exact Nat.zero_add _
def listStep_ok {n:Int}{rs:X7}{c:Int}(h1:1<=n)(h2:n<=12)(h:∀r∈rs,RowOk n r):∀r∈yk n rs c,RowOk n r:=by
 intro r hr;unfold yk at hr
 split at hr
 .rename_i q;rcases ZM.mp hr with z|z
  .exact h r z
  .rw[ZC.mp z];have hp:0<rs.length:=XD.mpr q.1;have hi:(c / 3 % (rs.length:Int)).toNat<rs.length:=by
    have a:=Int.emod_nonneg (c / 3) (show(rs.length:Int)≠0 by omega);have b:=Int.emod_lt_of_pos (c / 3) (show(0:Int)<rs.length by omega);omega
   have e:rs.getD (c / 3 % (rs.length:Int)).toNat []=rs[(c / 3 % (rs.length:Int)).toNat]:=by rw[ZE,Zqg hi];rfl
   rw[e];exact variedG_ok (h _ (Z9 hi)) () h2
 .rcases ZM.mp hr with z|z
  .exact h r z
  .rw[ZC.mp z];exact rowG_ok h1 h2
theorem uP {n:Int}(h1:1<=n)(h2:n<=12):∀(cs:Yh) (rs:X7),(∀r∈rs,RowOk n r)->∀r∈cs.foldl (yk n) rs,RowOk n r
 | [],rs,h=>h
 |c::cs,rs,h=>by rw[XF];exact uP h1 h2 cs _ (listStep_ok h1 h2 h)
def qR {n:Int}(h1:1<=n)(h2:n<=12)(cs:Yh):∀r∈wI n cs,RowOk n r:=uP h1 h2 cs [] λ_ h=>nomatch h
def f_z24 {cs:Yh}{n:Int}(h1:1<=n)(h2:n<=12)(hl:cs.length<=100):jZ [.lst (cs.map .int),.int n]=.ok (.lst ((wI n cs).map rwD)):=by
 simp[jZ,gb];generalize hB:sIf _ _ _=b;obtain⟨sd',e,u,hsd⟩:=xc (tg:=.one 3) (b:=b) (ds:=cs.map .int) (sd:=[some (.val (.lst (cs.map .int))),some (.val (.int n)),some (.own false (.lst [])),none])
  (P:=λi sd=>∃u,sd=[some (.val (.lst (cs.map .int))),some (.val (.int n)),some (.own false (.lst ((wI n (cs.take i)).map rwD))),u]) ⟨none,rfl⟩ (by
   rintro i x sd hx ⟨u,rfl⟩;refine zc1b (wn hx) λc hc zr2=>?_;subst zr2;have hi:=(ZI.mp hc).1;have et:wI n (cs.take (i+1))=yk n (wI n (cs.take i)) c:=by
    unfold wI;rw[zL hc,XX];rfl
   have hlen:=so n (cs.take i);rw[Z2] at hlen;have ok:=qR h1 h2 (cs.take i);generalize wI n (cs.take i)=rs at et hlen ok;have hz:=zo (show rs.length<=1000 from ());rw[et];have hr:=f_z22 (c:=c) h1 h2;subst hB;by_cases q:rs=[]
   .have es:yk n rs c=rs++[cq c n]:=Ze λz=>z.1 q;rw[es];simp[q,pr wj wj,zC,hr,zo (show 0<=1000 from ())]
   .have hn:=pr (nH rs) wj;by_cases c3:0<c % 3
    .have es:yk n rs c=rs++[wA (rs.getD (c / 3 % (rs.length:Int)).toNat []) (oX c) n]:=Zd ⟨q,c3⟩;have hp:0<rs.length:=XD.mpr q;have a:=Int.emod_nonneg (c / 3) (show(rs.length:Int)≠0 by omega);have b:=Int.emod_lt_of_pos (c / 3) (show(0:Int)<rs.length by omega);have hj:(c / 3 % (rs.length:Int)).toNat<rs.length:=()
     have eg:rs.getD (c / 3 % (rs.length:Int)).toNat []=rs[(c / 3 % (rs.length:Int)).toNat]:=by rw[ZE,Zqg hj];rfl
     have ea:atI (rs.map rwD) (c / 3 % (rs.length:Int))=some (rwD rs[(c / 3 % (rs.length:Int)).toNat]):=by
      have e1:ixN rs.length (c / 3 % (rs.length:Int))=some (c / 3 % (rs.length:Int)).toNat:=by unfold ixN;rw[Zd a,Zd b]
      unfold atI;rw[Zql,e1];show(rs.map rwD)[_]? = _;rw[Zv,Zqg hj];rfl
     rw[es,eg];have okr:RowOk n rs[(c / 3 % (rs.length:Int)).toNat]:=ok _ (Z9 hj);generalize rs[(c / 3 % (rs.length:Int)).toNat]=r0 at ea okr;have hv:=f_z23 (c:=c) okr.once (show r0.length<=100 by have:=okr.len;omega) (show 0<=n from ()) h2;have hmod:=jh (i:=c / 3) (show(0:Int)<rs.length by omega);simp[q,hn,yw,c3,hmod,ea,hv,hz]
    .have es:yk n rs c=rs++[cq c n]:=Ze λz=>c3 z.2;rw[es];simp[q,hn,yw,c3,hr,hz])
 rw[e];subst hsd;simp
def gu:FS:=(zO (xy 2 (yT vS (zb (ze 1) zn))) (zO (sV (iS (ze 0)) (.one 3) (sIf (dB (z3 (dOp (gIn true) (dOp gIx (ze 3) (dC (.int 0))) (ze 2))) (z3 (dOp gGt (dOp gIx (ze 3) (dC (.int 1))) (dOp gIx (ze 2) (dOp gIx (ze 3) (dC (.int 0))))))) (yS (dC (.bl false))) y9)) (yS (dC (.bl true)))))
def ke:YD->Res D:=ve 4 2 gu
def f_z25 {r o:X6}(ho:yH o)(hl:o.length<=100):ke [rwD r,rwD o]=.ok (.bl (zm r o)):=by
 have hd:vS [.tup (o.map prD)]=some (dcR o):=wJ hl ho;simp[ke,gu,hd,rwD];refine wP (R:=λz=>(z.bind (mU (yS (dC (.bl true))))).bind mR=.ok (.bl (zm r o))) (P:=λi sd=>(∃u,sd=[some (.val (.tup (r.map prD))),some (.val (.tup (o.map prD))),some (.val (dcR o)),u])/\zm (r.take i) o=true) ⟨⟨none,rfl⟩,rfl⟩ ?_ ?_
 .rintro sd ⟨⟨u,rfl⟩,hu⟩;rw[Zql,Xz] at hu;simp[hu]
 .rintro i x sd hx ⟨⟨u,rfl⟩,hu⟩;refine zc1b (wn hx) λp hp zr2=>?_;subst zr2;have hv:=xR ho p.1;have a0:atI [D.int p.1,D.int p.2] 0=some (.int p.1):=rfl;have a1:atI [D.int p.1,D.int p.2] 1=some (.int p.2):=rfl;cases q:zj o p.1 with
  |none =>
   rw[q] at hv;have z:nk o p=false:=by unfold nk;rw[q]
   rw[wb hp z];exact .inr (.inr ⟨.bl false,by simp[prD,dcR,a0,hv],by simp⟩)
  |some w =>
   rw[q] at hv;by_cases c:w<p.2
   .have z:nk o p=false:=by unfold nk;rw[q];exact Zo ()
    rw[wb hp z];exact .inr (.inr ⟨.bl false,by simp[prD,dcR,a0,a1,hv,c],by simp⟩)
   .have z:nk o p=true:=by unfold nk;rw[q];exact Zp ()
    exact .inl ⟨[some (.val (.tup (r.map prD))),some (.val (.tup (o.map prD))),some (.val (dcR o)),some (.val (prD p))],.inl (by simp[prD,dcR,a0,a1,hv,c]),⟨_,rfl⟩,rK hp hu z⟩
def gr:FS:=(zO (nV 1 (sC zn)) (zO (sV (iS (ze 0)) (.one 2) (zO (xy 3 (xw [none,some 2] (iS (ze 0)) (.one 0) (qW (z3 (dOp gNe (ze 0) (ze 1))) (z3 (zt ke (zb (ze 0) (zb (ze 1) zn))))) (ze 0))) (sIf (qW (z3 (dOp gEq (ze 3) (sC zn))) (kr [1] (z3 (dOp (gIn true) (ze 2) (ze 1))))) (zX 1 (ze 2)) y9))) (λsd=>(yS (yT yI (zb (ze 1) zn))) (qZ [1] sd))))
def jc:YD->Res D:=uc 4 1 gr
def f_z26 {rs:X7}(hne:∀r∈rs,r ≠ [])(ho:∀r∈rs,yH r)(hl:∀r∈rs,r.length<=100)(hn:rs.length<1000):jc [frD rs]=.ok (frD (zV rs)):=by
 simp[jc,gr,frD];generalize hB:zO (xy 3 _) _=b;obtain⟨sd',e,u,v,hsd⟩:=xc (tg:=.one 2) (b:=b) (ds:=rs.map rwD) (sd:=[some (.val (.lst (rs.map rwD))),some (.own false (.lst [])),none,none])
  (P:=λi sd=>∃u v,sd=[some (.val (.lst (rs.map rwD))),some (.own false (.lst ((ye rs (rs.take i)).map rwD))),u,v]) ⟨none,none,rfl⟩ (by
   rintro i x sd hx ⟨u,v,rfl⟩;refine zc1b (wn hx) λrow hr zr2=>?_;subst zr2;have hm:=ZS hr;have hi:=(ZI.mp hr).1;have et:ye rs (rs.take (i+1))=x4 rs (ye rs (rs.take i)) row:=by
    unfold ye;rw[zL hr,XX];rfl
   have hlen:=(yR rs (rs.take i) []).1;have hz:(ye rs (rs.take i)).length<sizeLine:=zo (by unfold ye;rw[Z2] at hlen;simp only[ZB] at hlen;omega);have key:wX (.one 0) (qW (z3 (dOp gNe (ze 0) (ze 1))) (z3 (zt ke (zb (ze 0) (zb (ze 1) zn))))) (ze 0) [none,some (.val (rwD row))] (rs.map rwD)=.ok ((rs.filter λone => !decide (one=row)&&zm one row).map rwD):=
    xT (s:=λo=>[some (.val (rwD o)),some (.val (rwD row))]) (λo _=>rfl) (λo ho'=>by
     have hq:=pr (lX o) (lX row);rw[lu] at hq;by_cases z:o=row
     .subst z;simp[hq]
     .simp[hq,z,f_z25 (r:=o) (ho row hm) (hl row hm)]) (λo _ _=>by simp)
   have hq:=xM (nH (rs.filter λone => !decide (one=row)&&zm one row)) wj;have lz:=zo (show rs.length<=1000 from ());have hin:=gIn_rows true row (ye rs (rs.take i));generalize ye rs (rs.take i)=least at et hz hin;rw[et];unfold x4;have eq:uo rs row=(rs.filter λone => !decide (one=row)&&zm one row).isEmpty:=rfl;rw[yw,<- eq] at hq;subst hB;cases q:uo rs row with
   |false=>rw[q] at hq;simp[key,lz,hq,q]
   |true =>
    rw[q] at hq;by_cases w:row∈least
    .simp[key,lz,hq,q,hin,w]
    .simp[key,lz,hq,q,hin,w,hz])
 rw[e];subst hsd;have hs:=xC (ls:=ye rs rs) (λr hr=>hne r (by have:=(yR rs rs []).2.1 r;unfold ye at hr;rw[this] at hr;simp at hr;exact hr.1)) (by have:=(yR rs rs []).1;unfold ye;simp only[ZB] at this;omega);simp[hs,zV]
def iV:FS:=(zO (xy 3 (zt jZ (zb (ze 0) (zb (ze 2) zn)))) (zO (nV 4 (sC zn)) (zO (sV (iR1 (zb (ze 1) zn)) (.one 5) (zO (zX 4 (zt jc (zb (dSl (ze 3) (re (ze 5)) vz (re (ze 1))) zn))) (sIf (z3 (dOp gEq (qa 4 (ze 5)) (sC zn))) (gE 4 (ze 5) (sC (zb (pc (zb (pc (zb (dOp rq (ze 5) (ze 2)) (zb (dC (.int 0)) zn))) zn)) zn))) y9))) (xq 4))))
def ka:YD->Res D:=uc 6 3 iV
def f_z27 {cs:Yh}{many n:Int}(h1:1<=n)(h2:n<=12)(hl:cs.length<=63)(m1:1<=many)(m2:many<=60):ka [.lst (cs.map .int),.int many,.int n]=.ok (.lst ((vb n many (wI n cs) many.toNat).map frD)):=by
 have r1:xz [.int many]=.ok (zx 0 many.toNat):=yi () ();have fl:=f_z24 (cs:=cs) h1 h2 ();have ok:=qR h1 h2 cs;have ll:=so n cs;simp[ka,iV,r1,fl];generalize wI n cs=rs at ok ll;generalize hB:zO (zX 4 _) _=b;obtain⟨sd',e,u,hsd⟩:=xc (tg:=.one 5) (b:=b) (ds:=zx 0 many.toNat) (sd:=[some (.val (.lst (cs.map .int))),some (.val (.int many)),some (.val (.int n)),some (.val (.lst (rs.map rwD))),some (.own false (.lst [])),none])
  (P:=λi sd=>∃u,sd=[some (.val (.lst (cs.map .int))),some (.val (.int many)),some (.val (.int n)),some (.val (.lst (rs.map rwD))),some (.own false (.lst ((vb n many rs i).map frD))),u]) ⟨none,rfl⟩ (by
   rintro i x sd hx ⟨u,rfl⟩;obtain⟨rfl,hi⟩:=we hx;have gs:gSl (.lst (rs.map rwD)) (some (i:Int)) none (some many)=some (frD (yj rs (some (i:Int)) none (some many))):=by
    rw[gSl_lst (),qI];rfl
   have pk:∀r∈yj rs (some (i:Int)) none (some many),RowOk n r:=λr hr=>ok r (qQ hr);have pl:=qK rs (some (i:Int)) none (some many);have ft:=f_z26 (rs:=yj rs (some (i:Int)) none (some many)) (λr hr=>(pk r hr).ne) (λr hr=>(pk r hr).once) (λr hr=>by have:=(pk r hr).len;omega) ();have et:vb n many rs (i+1)=vb n many rs i++[pY n i (zV (yj rs (some (i:Int)) none (some many)))]:=by
    unfold vb;rw[List.range_succ,ZV];rfl
   have lf:(vb n many rs i).length=i:=by unfold vb;rw[Zql,ZA]
   have hz:(vb n many rs i).length<sizeLine:=zo ();generalize zV (yj rs (some (i:Int)) none (some many))=t at ft et;generalize vb n many rs i=fs at et lf hz;have lm:(fs.map frD).length=i:=by rw[Zql];exact lf
   have ha:atI (fs.map frD++[frD t]) (i:Int)=some (frD t):=by have:=at_last (fs.map frD) (frD t);rw[lm] at this;exact this
   have hx2:ixN (fs.length+1) (i:Int)=some i:=by have:=ix_last (fs.map frD) (frD t);rw[lm,ZG,Zql] at this;exact this
   have hset:∀y,(fs.map frD++[frD t]).set i y=fs.map frD++[y]:=λy=>by have:=set_last (fs.map frD) (frD t) y;rw[lm] at this;exact this
   have hq:gEq (frD t) (.lst [])=some (.bl t.isEmpty):=by
    have:=xM (nH t) wj;rw[yw] at this;exact this
   have hmod:=jh (i:=(i:Int)) (show 0<n from ());rw[et];unfold pY;subst hB;by_cases q:t=[]
   .subst q;simp[gs,ft,hz,ha,hq,hmod,hx2,hset];rfl
   .simp[gs,ft,hz,ha,hq,q])
 rw[e];subst hsd;simp[yJ]
def c0:FS:=(zO (sV (iS (ze 0)) (.tup [2,3]) (sIf (dB (z3 (dOp (gIn true) (ze 2) (ze 1))) (z3 (dOp gGt (ze 3) (dOp gIx (ze 1) (ze 2))))) (yS (dC (.bl false))) y9)) (yS (dC (.bl true))))
def cm:YD->Res D:=ve 4 2 c0
def f_z1 {r o:X6}(ho:yH o):cm [rwD r,dcR o]=.ok (.bl (zm r o)):=by
 simp[cm,c0];refine wP (R:=λz=>(z.bind (mU (yS (dC (.bl true))))).bind mR=.ok (.bl (zm r o))) (P:=λi sd=>(∃u v,sd=[some (.val (rwD r)),some (.val (dcR o)),u,v])/\zm (r.take i) o=true) ⟨⟨none,none,rfl⟩,rfl⟩ ?_ ?_
 .rintro sd ⟨⟨u,v,rfl⟩,hu⟩;rw[Zql,Xz] at hu;simp[hu]
 .rintro i x sd hx ⟨⟨u,v,rfl⟩,hu⟩;refine zc1b (wn hx) λp hp zr2=>?_;subst zr2;have hv:=xR ho p.1;cases q:zj o p.1 with
  |none =>
   rw[q] at hv;have z:nk o p=false:=by unfold nk;rw[q]
   rw[wb hp z];exact .inr (.inr ⟨.bl false,by simp[dcR,hv],by simp⟩)
  |some w =>
   rw[q] at hv;by_cases c:w<p.2
   .have z:nk o p=false:=by unfold nk;rw[q];exact Zo ()
    rw[wb hp z];exact .inr (.inr ⟨.bl false,by simp[dcR,hv,c],by simp⟩)
   .have z:nk o p=true:=by unfold nk;rw[q];exact Zp ()
    exact .inl ⟨[some (.val (rwD r)),some (.val (dcR o)),some (.val (.int p.1)),some (.val (.int p.2))],.inl (by simp[dcR,hv,c]),⟨_,_,rfl⟩,rK hp hu z⟩
def cH:FS:=(zO (xy 2 (yT vS (zb (ze 0) zn))) (zO (sV (iS (ze 1)) (.one 3) (sIf (z3 (zt cm (zb (ze 3) (zb (ze 2) zn)))) (yS (dC (.bl true))) y9)) (yS (dC (.bl false)))))
def oY:YD->Res D:=ve 4 2 cH
def b7 {r:X6}{ks:X7}(ho:yH r)(hl:r.length<=100):oY [rwD r,frD ks]=.ok (.bl (ks.any λo=>zm o r)):=by
 have hd:=wJ hl ho;simp[oY,cH,hd];refine wP (R:=λz=>(z.bind (mU (yS (dC (.bl false))))).bind mR=.ok (.bl (ks.any λo=>zm o r))) (P:=λi sd=>(∃u,sd=[some (.val (rwD r)),some (.val (frD ks)),some (.val (dcR r)),u])/\∀o∈ks.take i,zm o r=false) ⟨⟨none,rfl⟩,λ_ h=>by simp at h⟩ ?_ ?_
 .rintro sd ⟨⟨u,rfl⟩,hu⟩;rw[Zql,Xz] at hu;have e:ks.any (λo=>zm o r)=false:=XT.mpr λo h=>by rw[hu o h];simp
  rw[e];simp
 .rintro i x sd hx ⟨⟨u,rfl⟩,hu⟩;refine zc1b (wn hx) λo hp zr2=>?_;subst zr2;have ff:=f_z1 (r:=o) ho;cases q:zm o r with
  |true =>
   rw[q] at ff;have e:ks.any (λo=>zm o r)=true:=ZP.mpr ⟨o,ZS hp,q⟩;rw[e];exact .inr (.inr ⟨.bl true,by simp[ff],by simp⟩)
  |false =>
   rw[q] at ff;refine .inl ⟨[some (.val (rwD r)),some (.val (frD ks)),some (.val (dcR r)),some (.val (rwD o))],.inl (by simp[ff]),⟨_,rfl⟩,λy hy=>?_⟩;rw[zL hp] at hy;rcases ZM.mp hy with z|z
   .exact hu y z
   .rw[ZC.mp z];exact q
def cE:FS:=(zO (nV 2 (yT vS (zb (ze 0) zn))) (zO (sV (iS (ze 1)) (.tup [3,4]) (jC 2 (ze 3) (yT jd (zb (ze 4) (zb (kH [2] (kt (ze 2) (ze 3) (ze 4))) zn))))) (λsd=>(yS (yT vh (zb (ui (ze 2)) zn))) (qZ [2] sd))))
def eD:YD->Res D:=ve 5 2 cE
def xD (r o:X6):X6:=zT wK (yG r o)
def f_z2 {r o:X6}(hr:r ≠ [])(or:yH r)(oo:yH o)(lr:r.length<=20)(lo:o.length<=20):eD [rwD r,rwD o]=.ok (rwD (xD r o)):=by
 have hd:vS [.tup (r.map prD)]=some (dcR r):=wJ (show r.length<=100 from ()) or;simp[eD,cE,hd,rwD];generalize hB:jC 2 _ _=b;obtain⟨sd',e,u,v,hsd⟩:=xc (tg:=.tup [3,4]) (b:=b) (ds:=o.map prD) (sd:=[some (.val (.tup (r.map prD))),some (.val (.tup (o.map prD))),some (.own false (dcR r)),none,none])
  (P:=λi sd=>∃u v,sd=[some (.val (.tup (r.map prD))),some (.val (.tup (o.map prD))),some (.own false (dcR (yG r (o.take i)))),u,v]) ⟨none,none,rfl⟩ (by
   rintro i x sd hx ⟨u,v,rfl⟩;refine zc1b (wn hx) λp hp zr2=>?_;subst zr2;have et:yG r (o.take (i+1))=xh (yG r (o.take i)) p:=by
    rw[zL hp];unfold yG;rw[XX];rfl
   have hl:=tN (o.take i) r;have ht:(o.take i).length<=o.length:=by rw[Z2];omega
   have hz:=zo (show(yG r (o.take i)).length<=1000 by omega);have hv:=xR (wW (o.take i) r or) p.1;have hput:=put_dcR (yG r (o.take i)) p.1 (if(zj (yG r (o.take i)) p.1).getD p.2 > p.2 then(zj (yG r (o.take i)) p.1).getD p.2 else p.2);have hg:((zj (yG r (o.take i)) p.1).map D.int).getD (.int p.2)=.int ((zj (yG r (o.take i)) p.1).getD p.2):=by cases zj (yG r (o.take i)) p.1<;>rfl
   subst hB;have es:xh (yG r (o.take i)) p=pe (yG r (o.take i)) p.1 (if(zj (yG r (o.take i)) p.1).getD p.2 > p.2 then(zj (yG r (o.take i)) p.1).getD p.2 else p.2):=rfl;rw[et,es,<- hput];simp[dcR,hv,hg,hz])
 rw[e];subst hsd;have hl:=tN o r;have hs:=gSortItems_dcR (r:=yG r o) (l6 hr oo) ();simp[hs,xD]
def cA:FS:=(zO (nV 2 (dOp fV (xw [none,some 1] (iS (ze 0)) (.one 0) (z3 (zt oY (zb (ze 0) (zb (ze 1) zn)))) (ze 0)) (xw [none,some 0] (iS (ze 1)) (.one 0) (z3 (zt oY (zb (ze 0) (zb (ze 1) zn)))) (ze 0)))) (zO (xy 3 (xw [none,some 0] (iS (ze 1)) (.one 0) (sZ (z3 (zt oY (zb (ze 0) (zb (ze 1) zn))))) (ze 0))) (zO (sV (iS (ze 0)) (.one 4) (sIf (sZ (z3 (zt oY (zb (ze 4) (zb (ze 1) zn))))) (u9 2 (xO [none,some 4] (iS (ze 3)) (.one 0) (zt eD (zb (ze 1) (zb (ze 0) zn))))) y9)) (xq 2))))
def dy:YD->Res D:=uc 5 2 cA
def rj (f g:X7):X7:=f.flatMap λr=>g.map (xD r)
def yZ {f g:X7}{q:X6}:q∈rj f g↔∃r∈f,∃o∈g,xD r o=q:=by
 unfold rj;rw[List.mem_flatMap];refine exists_congr λr=>and_congr_right λ_=>?_;rw[ZD]
def eachJ_len (f g:X7):(rj f g).length=f.length*g.length:=by
 unfold rj
 induction f with
 |nil=>simp
 |cons r f ih=>rw[List.flatMap_cons,ZG,ih,Zql,Zu,Nat.succ_mul,Nat.add_comm]
def look_perm {a b:X6}(oa:yH a)(p:b.Perm a)(t:Int):zj b t=zj a t:=by
 have ob:yH b:=((p.map λz:Int×Int=>z.1).nodup_iff).mpr oa;cases h:zj a t with
 |some w=>exact(m7 ob).mp (p.mem_iff.mpr (zy h))
 |none =>
  cases h2:zj b t with
  |none=>rfl
  |some w =>
   have:=(m7 oa).mp (p.mem_iff.mp (zy h2));rw[h] at this
   first|exact zqn this|exact zqb this|(obtain rfl:=Zqi this)|cases this
def uz {r o:X6}(or:yH r)(oo:yH o)(t:Int):zj (xD r o) t=jw (zj r t) (zj o t):=by
 rw[<- wT t o r oo];exact look_perm (wW o r or) (zv (ltb:=wK) _) t
def vV {r o:X6}(hr:JRow r)(ho:JRow o):JRow (xD r o):=by
 have nj:yG r o ≠ []:=l6 hr.ne ho.once;have oj:=wW o r hr.once;refine⟨λz=>nj ?_,?_,λp hp=>?_⟩
 .have:=(zv (ltb:=wK) (yG r o)).length_eq;unfold xD at z;rw[z,ZB] at this;exact ZQ.mp this.symm
 .unfold xP xD;have st:=strict_sortB oj;have od:(zT wK (yG r o)).Pairwise λx y=>x.1≠y.1:=by
   have:yH (zT wK (yG r o)):=(((zv (ltb:=wK) (yG r o)).map λz:Int×Int=>z.1).nodup_iff).mpr oj;unfold yH List.Nodup at this;rw[XU] at this;exact this
  rw[XU];refine(List.Pairwise.and st od).imp λ{x y} h=>?_;have h1:=h.1;rw[xj] at h1;have h2:=h.2;omega
 .have hp':=(zv (ltb:=wK) (yG r o)).mem_iff.mp hp;have hl:=oj.look (t:=p.1) (w:=p.2) hp';rw[wT p.1 o r ho.once] at hl;cases q1:zj r p.1 with
  |some w=>exact hr.bnd (p.1,w) (zy q1)
  |none =>
   cases q2:zj o p.1 with
   |some w=>exact ho.bnd (p.1,w) (zy q2)
   |none=>rw[q1,q2] at hl;(first|exact zqn hl|exact zqb hl|(obtain rfl:=Zqi hl)|cases hl)
def tJ {r o:X6}(hr:JRow r)(ho:JRow o):zm r (xD r o)=true:=by
 rw[yo];intro p hp;have h1:=hr.once.look (t:=p.1) (w:=p.2) hp;rw[uz hr.once ho.once,h1];cases zj o p.1 with
 |none=>exact⟨p.2,rfl,Int.le_refl _⟩
 |some y=>exact⟨_,rfl,by split<;>omega⟩
def sL {r o:X6}(hr:JRow r)(ho:JRow o):zm o (xD r o)=true:=by
 rw[yo];intro p hp;have h1:=ho.once.look (t:=p.1) (w:=p.2) hp;rw[uz hr.once ho.once,h1];cases zj r p.1 with
 |none=>exact⟨p.2,rfl,Int.le_refl _⟩
 |some y=>exact⟨_,rfl,by split<;>omega⟩
def uv {r o q:X6}(hr:JRow r)(ho:JRow o)(h1:zm r q=true)(h2:zm o q=true):zm (xD r o) q=true:=by
 rw[yo] at h1 h2 ⊢;intro p hp;have hl:=(vV hr ho).once.look (t:=p.1) (w:=p.2) hp;rw[uz hr.once ho.once] at hl;cases q1:zj r p.1 with
 |none =>
  rw[q1] at hl;exact h2 p (zy hl)
 |some x =>
  cases q2:zj o p.1 with
  |none =>
   rw[q1,q2] at hl
   first|exact zqn hl|exact zqb hl|(obtain rfl:=Zqi hl)|cases hl
   exact h1 (p.1,p.2) (zy q1)
  |some y =>
   rw[q1,q2] at hl;refine zc1b (h1 (p.1,x) (zy q1)) λw hw a=>?_;refine zc1b (h2 (p.1,y) (zy q2)) λw' hw' b=>?_;have hw:zj q p.1=some w:=hw;rw[hw] at hw'
   first|exact zqn hw'|exact zqb hw'|(obtain rfl:=Zqi hw')|cases hw'
   have e:(if x > y then x else y)=p.2:=Zqi hl;have a:x<=w:=a;have b:y<=w:=b;exact⟨w,hw,by rw[<- e];split<;>omega⟩
def wg (g:X7)(r:X6):Bool:=g.any λo=>zm o r
def ju {g:X7}{r:X6}:wg g r=true↔∃o∈g,zm o r=true:=ZP
def yX (f g:X7)(l:X7):X7:=(l.filter λr => !wg g r).flatMap λr=>(g.filter λo => !wg f o).map (xD r)
def vQ (f g:X7):X7:=(f.filter (wg g)++g.filter (wg f))++yX f g f
def qf (f g l:X7):(yX f g l).length=(l.filter λr => !wg g r).length*(g.filter λo => !wg f o).length:=by
 unfold yX;generalize l.filter (λr => !wg g r)=a
 induction a with
 |nil=>simp
 |cons r a ih=>rw[List.flatMap_cons,ZG,ih,Zql,Zu,Nat.succ_mul,Nat.add_comm]
theorem t5 {α:Type}(p:α -> Bool):∀l:List α,(l.filter p).length+(l.filter λx => !p x).length=l.length
 | []=>rfl
 |x::l=>by
  have:=t5 p l;cases h:p x with
  |true=>rw[X0 h,X1 (by rw[h];simp),Zu,Zu];omega
  |false=>rw[X1 (by rw[h];simp),X0 (by rw[h];rfl),Zu,Zu];omega
def rR {f g:X7}(hf:∀r∈f,JRow r)(hg:∀r∈g,JRow r):∀q∈vQ f g,JRow q:=λq hq=>by
 unfold vQ yX at hq;rcases ZM.mp hq with hq|hq
 .rcases ZM.mp hq with hq|hq
  .exact hf q (ZK.mp hq).1
  .exact hg q (ZK.mp hq).1
 .refine zc1b (List.mem_flatMap.mp hq) λr hr hq=>?_;refine zc1b (ZD.mp hq) λo ho zr2=>?_;subst zr2;exact vV (hf r (ZK.mp hr).1) (hg o (ZK.mp ho).1)
def eachK_up {f g:X7}(hf:∀r∈f,JRow r)(hg:∀r∈g,JRow r)(q:X6):(∃x∈vQ f g,zm x q=true)↔(∃x∈rj f g,zm x q=true):=by
 constructor
 .rintro⟨x,hx,hu⟩;unfold vQ yX at hx;rcases ZM.mp hx with hx|hx
  .rcases ZM.mp hx with hx|hx
   .obtain⟨hx,hc⟩:=ZK.mp hx;refine zc1b (ju.mp hc) λo ho hou=>?_;exact⟨xD x o,yZ.mpr ⟨x,hx,o,ho,rfl⟩,uv (hf x hx) (hg o ho) hu (zH hou hu)⟩
   .obtain⟨hx,hc⟩:=ZK.mp hx;refine zc1b (ju.mp hc) λo ho hou=>?_;exact⟨xD o x,yZ.mpr ⟨o,ho,x,hx,rfl⟩,uv (hf o ho) (hg x hx) (zH hou hu) hu⟩
  .refine zc1b (List.mem_flatMap.mp hx) λr hr hx=>?_;refine zc1b (ZD.mp hx) λo ho zr2=>?_;subst zr2;exact⟨_,yZ.mpr ⟨r,(ZK.mp hr).1,o,(ZK.mp ho).1,rfl⟩,hu⟩
 .rintro⟨x,hx,hu⟩;refine zc1b (yZ.mp hx) λr hr zz=>zc1b zz λo ho zr4=>?_;subst zr4;have u1:=zH (tJ (hf r hr) (hg o ho)) hu;have u2:=zH (sL (hf r hr) (hg o ho)) hu;unfold vQ yX;cases c1:wg g r with
  |true=>exact⟨r,Z8 _ (Z8 _ (ZK.mpr ⟨hr,c1⟩)),u1⟩
  |false =>
   cases c2:wg f o with
   |true=>exact⟨o,Z8 _ (ZL _ (ZK.mpr ⟨ho,c2⟩)),u2⟩
   |false=>exact⟨xD r o,ZL _ (List.mem_flatMap.mpr ⟨r,ZK.mpr ⟨hr,by rw[c1];rfl⟩,ZD.mpr ⟨o,ZK.mpr ⟨ho,by rw[c2];rfl⟩,rfl⟩⟩),hu⟩
def f_z8 {f g:X7}(hf:∀r∈f,JRow r)(hg:∀r∈g,JRow r)(l1:f.length+g.length+f.length*g.length<=1000):dy [frD f,frD g]=.ok (frD (vQ f g)):=by
 have cv:∀(ks:X7) (r:X6),JRow r->oY [rwD r,frD ks]=.ok (.bl (wg ks r)):=λks r h=>b7 h.once (by have:=h.len;omega);have m1:wX (.one 0) (z3 (zt oY (zb (ze 0) (zb (ze 1) zn)))) (ze 0) [none,some (.val (frD g))] (f.map rwD)=.ok ((f.filter (wg g)).map rwD):=
  xT (s:=λr=>[some (.val (rwD r)),some (.val (frD g))]) (λr _=>rfl) (λr hr=>by simp[cv g r (hf r hr)]) (λr _ _=>by simp)
 have m2:wX (.one 0) (z3 (zt oY (zb (ze 0) (zb (ze 1) zn)))) (ze 0) [none,some (.val (frD f))] (g.map rwD)=.ok ((g.filter (wg f)).map rwD):=
  xT (s:=λr=>[some (.val (rwD r)),some (.val (frD f))]) (λr _=>rfl) (λr hr=>by simp[cv f r (hg r hr)]) (λr _ _=>by simp)
 have m3:wX (.one 0) (sZ (z3 (zt oY (zb (ze 0) (zb (ze 1) zn))))) (ze 0) [none,some (.val (frD f))] (g.map rwD)=.ok ((g.filter λo => !wg f o).map rwD):=
  xT (s:=λr=>[some (.val (rwD r)),some (.val (frD f))]) (λr _=>rfl) (λr hr=>by simp[cv f r (hg r hr)]) (λr _ _=>by simp)
 have la:=t5 (wg g) f;have lb:=t5 (wg f) g;have hrest:∀o∈g.filter (λo => !wg f o),JRow o:=λo ho=>hg o (ZK.mp ho).1;have ek:vQ f g=(f.filter (wg g)++g.filter (wg f))++yX f g f:=rfl;have bl:∀i,(yX f g (f.take i)).length<=min i f.length*g.length:=λi=>by
  rw[qf];refine Nat.mul_le_mul ?_ (ZW _ _);have:=ZW (λr => !wg g r) (f.take i);rw[Z2] at this;exact this
 have cs:∀(i:Nat) (r:X6),f[i]? = some r->yX f g (f.take (i+1))=yX f g (f.take i)++(if wg g r=true then[] else(g.filter λo => !wg f o).map (xD r)):=λi r hr=>by
  unfold yX;rw[zL hr,List.filter_append,List.flatMap_append];cases c:wg g r with
  |true=>rw[X1 (by rw[c];simp),Zd rfl];rfl
  |false=>rw[X0 (by rw[c];rfl),Ze Zj];simp
 generalize hR:(g.filter λo => !wg f o)=rest at m3 hrest cs lb;have lr:rest.length<=g.length:=()
 generalize hA:f.filter (wg g)++g.filter (wg f)=A at ek;have lA:A.length<=f.length+g.length:=by rw[<- hA,ZG];omega
 have sA:(f.filter (wg g)).length+(g.filter (wg f)).length<=sizeLine:=ua ();have eA:(f.filter (wg g)).map rwD++(g.filter (wg f)).map rwD=A.map rwD:=by rw[<- hA,ZV]
 obtain⟨sd',e,u4,hsd⟩:=xc (tg:=.one 4) (b:=(sIf (sZ (z3 (zt oY (zb (ze 4) (zb (ze 1) zn))))) (u9 2 (xO [none,some 4] (iS (ze 3)) (.one 0) (zt eD (zb (ze 1) (zb (ze 0) zn))))) y9)) (ds:=f.map rwD) (sd:=[some (.val (frD f)),some (.val (frD g)),some (.own false (.lst (A.map rwD))),some (.val (.lst (rest.map rwD))),none])
  (P:=λi sd=>∃(u4:Option SV),sd=[some (.val (frD f)),some (.val (frD g)),some (.own false (.lst ((A++yX f g (f.take i)).map rwD))),some (.val (.lst (rest.map rwD))),u4]) ⟨none,by rw[List.take_zero];simp[yX]⟩ (by
   rintro i x sd hx ⟨u4,rfl⟩;refine zc1b (wn hx) λr hr zr2=>?_;subst zr2;have hi:=(ZI.mp hr).1;have hm:=ZS hr;have c1:=cv g r (hf r hm);have b0:=bl i;have b1:(min i f.length+1)*g.length<=f.length*g.length:=Nat.mul_le_mul () (Zf _);rw[Nat.succ_mul] at b1;rw[cs i r hr];cases c:wg g r with
   |true =>
    rw[c] at c1;rw[Zd rfl,Zz];exact⟨[some (.val (frD f)),some (.val (frD g)),some (.own false (.lst ((A++yX f g (f.take i)).map rwD))),some (.val (.lst (rest.map rwD))),some (.val (rwD r))],by simp[c1],_,rfl⟩
   |false =>
    rw[c] at c1;rw[Ze Zj];have key:pf (.one 0) (zt eD (zb (ze 1) (zb (ze 0) zn))) [none,some (.val (rwD r))] (rest.map rwD)=.ok (rest.map λo=>rwD (xD r o)):=xt λo ho=>by
     have l1:=(hf r hm).len;have l2:=(hrest o ho).len;simp[f_z2 (hf r hm).ne (hf r hm).once (hrest o ho).once () ()]
    have em:(rest.map (xD r)).map rwD=rest.map λo=>rwD (xD r o):=by rw[Zw];rfl
    have sz:(A++yX f g (f.take i)).length+rest.length<=sizeLine:=ua (by rw[ZG];omega);have lz:=zo (show rest.length<=1000 from ());refine⟨[some (.val (frD f)),some (.val (frD g)),some (.own false (.lst ((A++(yX f g (f.take i)++rest.map (xD r))).map rwD))),some (.val (.lst (rest.map rwD))),some (.val (rwD r))],?_,_,rfl⟩;rw[<- ZJ];generalize A++yX f g (f.take i)=acc at sz ⊢;rw[ZV,em];simp[c1,key,lz,sz])
 subst hsd;rw[Zql,Xz] at e;have z1:=zo (show f.length<=1000 from ());have z2:=zo (show g.length<=1000 from ());rw[ek];simp[frD] at m1 m2 m3 e ⊢;simp[dy,cA,m1,m2,m3,z1,z2,sA,eA,e]
def cK:FS:=(zO (nV 2 (sC zn)) (zO (sV (iS (yT vB (zb (yT vF (zb (ze 0) zn)) zn))) (.one 3) (zO (sIf (z3 (dOp gEq (kH [2] (yT nJ (zb (ze 2) zn))) (ze 1))) cQ y9) (sIf (sZ (z3 (kH [2] (zt oY (zb (ze 3) (zb (ze 2) zn)))))) (zX 2 (ze 3)) y9))) (xq 2)))
def fF:YD->Res D:=uc 4 2 cK
def sort_ded_strict (rs:X7):(zT yF (oN rs)).Pairwise λa b=>yF a b=true:=xu ya (rN rs)
def uT {rs:X7}{en:Int}(ne:∀r∈rs,r ≠ [])(ri:∀r∈rs,xP r)(hl:∀r∈rs,r.length<=100)(h64:rs.length<1000)(h0:0<=en):fF [frD rs,.int en]=.ok (frD ((rg rs).take en.toNat)):=by
 have dl:=l5 rs;have s1:vF [frD rs]=some (.lst ((zT yF (oN rs)).map rwD)):=gSortSet_rows ne () ();have sl:(zT yF (oN rs)).length=(oN rs).length:=(zv (ltb:=yF) _).length_eq;have s2:vB [.lst ((zT yF (oN rs)).map rwD)]=some (.lst ((nc rs).map rwD)):=gSortLen_rows (sort_ded_strict rs) () λr hr=>by
  have:=hl r (qq.mp ((zv (ltb:=yF) _).mem_iff.mp hr));omega
 have fold:=lJ ri;have om:∀r,r∈nc rs->r∈rs:=λr h=>vZ.mp h;have ol:=t9 rs;have eL:rg rs=(nc rs).filter (uo rs):=rfl;rw[eL];simp[fF,cK,s1,s2];generalize nc rs=L at fold om ol;refine wP (R:=λz=>(z.bind (mU (xq 2))).bind fP=.ok (frD ((L.filter (uo rs)).take en.toNat))) (P:=λi sd=>i<=L.length/\(((L.take i).filter (uo rs)).length:Int)<=en/\∃u,sd=[some (.val (frD rs)),some (.val (.int en)),some (.own false (.lst (((L.take i).filter (uo rs)).map rwD))),u]) ⟨Nat.zero_le _,by simpa using h0,none,rfl⟩ ?_ ?_
 .rintro sd ⟨_,le,u,rfl⟩;rw[Zql,Xz] at le ⊢;rw[Z3 ()];simp[frD]
 .rintro i x sd hx ⟨_,le,u,rfl⟩;refine zc1b (wn hx) λr hp zr2=>?_;subst zr2;have hi:=(ZI.mp hp).1;have f1:=fold (i+1) ();rw[zL hp,XX,fold i (),<- zL hp] at f1;have f1:dz ((L.take i).filter (uo rs)) r=(L.take (i+1)).filter (uo rs):=f1;have kl:((L.take i).filter (uo rs)).length<=i:=by
   have a:=ZW (uo rs) (L.take i);rw[Z2] at a;omega
  rw[<- f1];have hm:=om r (ZS hp);have fc:=b7 (r:=r) (ks:=(L.take i).filter (uo rs)) (xN (ri r hm)) (hl r hm);have whole:L.filter (uo rs)=(L.take i).filter (uo rs)++(L.drop i).filter (uo rs):=by rw[<- List.filter_append,Xi]
  generalize (L.take i).filter (uo rs)=ks at kl fc le whole;have fc:oY [rwD r,.lst (ks.map rwD)]=.ok (.bl (ks.any λo=>zm o r)):=fc;have hz:=zo (show ks.length<=1000 from ());by_cases hne:(ks.length:Int)=en
  .have ek:(L.filter (uo rs)).take en.toNat=ks:=by
    rw[whole,List.take_left' ()]
   refine .inr (.inl ⟨[some (.val (frD rs)),some (.val (.int en)),some (.own false (.lst (ks.map rwD))),some (.val (rwD r))],by simp[hne],?_⟩);rw[ek];simp[frD]
  .have ls:∀b,(ks.any λo=>zm o r)=b->dz ks r=if b=true then ks else ks++[r]:=λb hb=>by unfold dz;rw[hb]
   cases q:ks.any λo=>zm o r with
   |true =>
    rw[q] at fc;rw[ls true q,Zd rfl];exact .inl ⟨[some (.val (frD rs)),some (.val (.int en)),some (.own false (.lst (ks.map rwD))),some (.val (rwD r))],.inl (by simp[hne,fc]),(),le,_,rfl⟩
   |false =>
    rw[q] at fc;rw[ls false q,Ze Zj];exact .inl ⟨[some (.val (frD rs)),some (.val (.int en)),some (.own false (.lst ((ks++[r]).map rwD))),some (.val (rwD r))],.inl (by simp[hne,fc,hz]),(),(by rw[ZG,Z4];omega),_,rfl⟩
def f_z4 {rs:X7}{en:Int}(ne:∀r∈rs,r ≠ [])(ri:∀r∈rs,xP r)(hl:∀r∈rs,r.length<=100)(h64:rs.length<1000)(hen:(rs.length:Int)<=en):fF [frD rs,.int en]=.ok (frD (rg rs)):=by
 rw[uT ne ri hl h64 ()];have a:(rg rs).length<=rs.length:=Zh (ZW _ _) (t9 rs);rw[Z3 ()]
def dM:FS:=(zO (xy 2 (vE fF (zb (ze 0) (zb (dOp u8 (ze 1) (dC (.int 1))) zn)))) (zO (sIf (z3 (dOp gGt (yT nJ (zb (ze 2) zn)) (ze 1))) (mz "TooMany" (dUn (cD "more than ") (ze 1))) y9) (yS (yT yI (zb (ze 2) zn)))))
def kD:YD->Res D:=uc 3 2 dM
def lowL_len (rs:X7):(rg rs).length=(zV rs).length:=by
 rw[<- sH,(zv (ltb:=yF) _).length_eq]
noncomputable def ig (most:Int)(t:X7):Option (X7):=if(t.length:Int)<=most then some t else none
def di:Option (X7)->Res D
 |some t=>.ok (frD t)
 |none=>.ex "TooMany" []
def xG {rs:X7}{most:Int}(ne:∀r∈rs,r ≠ [])(ri:∀r∈rs,xP r)(hl:∀r∈rs,r.length<=100)(h64:rs.length<1000)(h0:0<=most)(hm2:most<=1000):kD [frD rs,.int most]=di (ig most (zV rs)):=by
 have fl:=uT (en:=most+1) ne ri hl h64 ();have ll:(rg rs).length<=rs.length:=Zh (ZW _ _) (t9 rs);have l2:=lowL_len rs;have glen:∀k:X7,nJ [frD k]=some (.int k.length):=λk=>by
  show some (D.int (k.map rwD).length)=_;rw[Zql]
 unfold ig;by_cases c:((zV rs).length:Int)<=most
 .rw[Zd c];rw[Z3 ()] at fl;have gs:yI [frD (rg rs)]=some (.lst ((zT yF (rg rs)).map rwD)):=xC (λr hr=>ne r (vZ.mp (ZK.mp hr).1)) ();rw[sH] at gs;have gs:yI [frD (rg rs)]=some (frD (zV rs)):=gs;have gl:=glen (rg rs);have nl:¬most<((rg rs).length:Int):=()
  show _=Res.ok (frD (zV rs));simp[kD,dM,fl,gl,nl,gs]
 .rw[Ze c];have gl:=glen ((rg rs).take (most+1).toNat);have nl:most<(((rg rs).take (most+1).toNat).length:Int):=by
   rw[Z2];omega
  generalize (rg rs).take (most+1).toNat=k at fl gl nl;obtain⟨z,hz⟩:=gFmt_int (x:= "more than ") (a:=most) () ();show _=Res.ex "TooMany" [];simp[kD,dM,fl,gl,nl,hz]
def dQ:FS:=(zO (xy 2 (zt kD (zb (dOp gIx (ze 0) (dC (.int 0))) (zb (ze 1) zn)))) (zO (sV (iS (dSl (ze 0) (re (dC (.int 1))) vz vz)) (.one 3) (xy 2 (zt kD (zb (vE dy (zb (ze 2) (zb (ze 3) zn))) (zb (ze 1) zn))))) (yS (ze 2))))
def gw:YD->Res D:=ve 4 2 dQ
def nv (t f:X7):X7:=zV (rj t f)
structure AllOk (fs:List (X7))(t:X7):Prop where
 row:∀r∈t,JRow r
 abv:∀r∈t,∀f∈fs,∃s∈f,zm s r=true
 least:∀q:X6,(∀f∈fs,∃s∈f,zm s q=true)->∃r∈t,zm r q=true
 anti:∀r∈t,∀s∈t,zm r s=true->r=s
 strict:t.Pairwise λa b=>yF a b=true
def wN {r:X6}(o:yH r):zm r r=true:=yo.mpr λp hp=>⟨p.2,o.look (t:=p.1) (w:=p.2) hp,Int.le_refl _⟩
def o0 {rs:X7}:∀r∈zV rs,∀s∈zV rs,zm r s=true->r=s:=λr hr s hs hu=>wB.mp (zA.mp hs).2 r (zA.mp hr).1 hu
def oV {f:X7}(h:∀r∈f,JRow r):AllOk [f] (zV f):=by
 refine⟨λr hr=>h r (zA.mp hr).1,λr hr g hg=>?_,λq hq=>?_,o0,wf f⟩
 .rw[ZC.mp hg];exact⟨r,(zA.mp hr).1,wN (h r (zA.mp hr).1).once⟩
 .refine zc1b (hq f (ZC.mpr rfl)) λs hs hu=>?_;refine zc1b (wC (λr hr=>⟨(h r hr).once,(h r hr).rise⟩) hs) λr hr hr2=>?_;exact⟨r,hr,zH hr2 hu⟩
def rZ {fs:List (X7)}{t f:X7}(A:AllOk fs t)(h:∀r∈f,JRow r):AllOk (fs++[f]) (nv t f):=by
 have rows:∀q∈rj t f,JRow q:=λq hq=>by
  refine zc1b (yZ.mp hq) λr hr zz=>zc1b zz λo ho zr4=>?_;subst zr4;exact vV (A.row r hr) (h o ho)
 refine⟨λr hr=>rows r (zA.mp hr).1,λq hq g hg=>?_,λq hq=>?_,o0,wf _⟩
 .refine zc1b (yZ.mp (zA.mp hq).1) λr hr zz=>zc1b zz λo ho zr4=>?_;subst zr4;rcases ZM.mp hg with z|z
  .refine zc1b (A.abv r hr g z) λs hs hu=>?_;exact⟨s,hs,zH hu (tJ (A.row r hr) (h o ho))⟩
  .rw[ZC.mp z];exact⟨o,ho,sL (A.row r hr) (h o ho)⟩
 .refine zc1b (A.least q λg hg=>hq g (Z8 _ hg)) λr hr hu=>?_;refine zc1b (hq f (ZL _ (ZC.mpr rfl))) λo ho hu2=>?_;have hj:xD r o∈rj t f:=yZ.mpr ⟨r,hr,o,ho,rfl⟩;refine zc1b (wC (λr hr=>⟨(rows r hr).once,(rows r hr).rise⟩) hj) λs hs hs2=>?_;exact⟨s,hs,zH hs2 (uv (A.row r hr) (h o ho) hu hu2)⟩
def jL {rs:X7}(h:∀r∈rs,JRow r)(hn:rs ≠ []):zV rs ≠ []:=λz=>by
 cases rs with
 |nil=>exact hn rfl
 |cons r rs =>
  refine zc1b (wC (λr hr=>⟨(h r hr).once,(h r hr).rise⟩) (Zqs (a:=r) (l:=rs))) λs hs _=>?_;rw[z] at hs
  first|exact zqn hs|exact zqb hs|(obtain rfl:=Zqi hs)|cases hs
def eachJ_ne {f g:X7}(hf:f ≠ [])(hg:g ≠ []):rj f g ≠ []:=λz=>by
 have:=eachJ_len f g;rw[z,ZB] at this;have a:=XD.mpr hf;have b:=XD.mpr hg;have:=Nat.mul_pos a b;omega
def thin_up {a b:X7}(ha:∀r∈a,JRow r)(hb:∀r∈b,JRow r)(h:∀q,(∃x∈a,zm x q=true)↔∃x∈b,zm x q=true):zV a=zV b:=by
 have half:∀{a b:X7},(∀r∈a,JRow r)->(∀r∈b,JRow r)->(∀q,(∃x∈a,zm x q=true)↔∃x∈b,zm x q=true)->∀r,r∈zV a->r∈zV b:=by
  intro a b ha hb h r hr;obtain⟨h1,h2⟩:=zA.mp hr;refine zc1b ((h r).mp ⟨r,h1,wN (ha r h1).once⟩) λy hy hu=>?_;refine zc1b (wC (λr hr=>⟨(hb r hr).once,(hb r hr).rise⟩) hy) λy' hy' hu'=>?_;have hyb:=(zA.mp hy').1;have u1:=zH hu' hu;refine zc1b ((h y').mpr ⟨y',hyb,wN (hb y' hyb).once⟩) λx hx hxu=>?_;have e:=wB.mp h2 x hx (zH hxu u1);rw[e] at hxu;rw[rC (ha r h1).once (hb y' hyb).once (ha r h1).rise (hb y' hyb).rise hxu u1];exact hy'
 exact wS ya (wf a) (wf b) λr=>⟨half ha hb h r,half hb ha (λq=>(h q).symm) r⟩
def rH {f g:X7}(hf:∀r∈f,JRow r)(hg:∀r∈g,JRow r):∀q∈rj f g,JRow q:=λq hq=>by
 refine zc1b (yZ.mp hq) λr hr zz=>zc1b zz λo ho zr4=>?_;subst zr4;exact vV (hf r hr) (hg o ho)
def stepK_eq {t g:X7}(ht:∀r∈t,JRow r)(hg:∀r∈g,JRow r):zV (vQ t g)=nv t g:=thin_up (rR ht hg) (rH ht hg) (eachK_up ht hg)
def kC (most:Int):X7->List (X7)->Option (X7)
 |t,[]=>some t
 |t,g::gs=>(ig most (nv t g)).bind λt'=>kC most t' gs
def allQ_cons (most:Int)(t g:X7)(gs:List (X7)):kC most t (g::gs)=(ig most (nv t g)).bind λt'=>kC most t' gs:=rfl
def gk (most:Int)(f:X7)(fs:List (X7)):Option (X7):=(ig most (zV f)).bind λt=>kC most t fs
def t8 {most:Int}{t t':X7}(h:ig most t=some t'):t'=t/\(t.length:Int)<=most:=by
 unfold ig at h
 split at h
 .rename_i c
  first|exact zqn h|exact zqb h|(obtain rfl:=Zqi h)|cases h
  exact⟨rfl,c⟩
 .first|exact zqn h|exact zqb h|(obtain rfl:=Zqi h)|cases h
def stepJ_ne {t g:X7}(ht:∀r∈t,JRow r)(hg:∀r∈g,JRow r)(tn:t ≠ [])(gn:g ≠ []):nv t g ≠ []:=jL (rH ht hg) (eachJ_ne tn gn)
theorem jS {most:Int}:∀{gs fs:List (X7)} {t t':X7},AllOk fs t->(t.length:Int)<=most->t ≠ []->(∀g∈gs,g ≠ []/\∀r∈g,JRow r)->kC most t gs=some t'->AllOk (fs++gs) t'/\(t'.length:Int)<=most/\t' ≠ []
 | [],fs,t,t',A,hl,hn,_,h=>by
  first|exact zqn h|exact zqb h|(obtain rfl:=Zqi h)|cases h
  rw[Zz];exact⟨A,hl,hn⟩
 |g::gs,fs,t,t',A,hl,hn,hg,h=>by
  unfold kC at h;cases q:ig most (nv t g) with
  |none=>rw[q] at h;(first|exact zqn h|exact zqb h|(obtain rfl:=Zqi h)|cases h)
  |some t1 =>
   rw[q] at h;obtain⟨e,l1⟩:=t8 q;have h1:=hg g Zqs;have:=jS (rZ A h1.2) l1 (stepJ_ne A.row h1.2 hn h1.1) (λx hx=>hg x (Zqm _ hx)) (t':=t') (by rw[<- e];exact h);rw[ZJ] at this;exact this
def allP_ok {most:Int}{f:X7}{fs:List (X7)}{t:X7}(hf:f ≠ []/\∀r∈f,JRow r)(hfs:∀g∈fs,g ≠ []/\∀r∈g,JRow r)(h:gk most f fs=some t):AllOk (f::fs) t/\(t.length:Int)<=most/\t ≠ []:=by
 unfold gk at h;cases q:ig most (zV f) with
 |none=>rw[q] at h;(first|exact zqn h|exact zqb h|(obtain rfl:=Zqi h)|cases h)
 |some t1 =>
  rw[q] at h;obtain⟨e,l1⟩:=t8 q;exact jS (fs:=[f]) (oV hf.2) l1 (jL hf.2 hf.1) hfs (by rw[<- e];exact h)
def f_all_of_any {f:X7}{fs:List (X7)}{most:Int}(hf:f ≠ []/\∀r∈f,JRow r)(hfs:∀g∈fs,g ≠ []/\∀r∈g,JRow r)(l1:f.length<1000)(m1:0<=most)(m2:most<=1000)(l2:fs.length<=900)
 (sz:∀(i:Nat) (t g:X7),AllOk (f::fs.take i) t->(t.length:Int)<=most->fs[i]? = some g->(vQ t g).length<1000/\t.length+g.length+t.length*g.length<=1000):
 gw [.lst ((f::fs).map frD),.int most]=di (gk most f fs):=by
 have w1:=xG (rs:=f) (most:=most) (λr hr=>(hf.2 r hr).ne) (λr hr=>(hf.2 r hr).rise) (λr hr=>by have:=(hf.2 r hr).len;omega) l1 m1 m2;have a0:atI ((f::fs).map frD) 0=some (frD f):=by
  rw[show((0:Int))=((0:Nat):Int) from rfl,vo (by simp)];rfl
 have sl:yj (frD f::fs.map frD) (some 1) none none=fs.map frD:=by
  rw[pick_from _ ()];rfl
 unfold gk;cases q:ig most (zV f) with
 |none =>
  rw[q] at w1;have w1:kD [frD f,.int most]=.ex "TooMany" []:=w1;show _=Res.ex "TooMany" [];simp[gw,dQ] at a0 ⊢;simp[a0,w1]
 |some t0 =>
  rw[q] at w1;obtain⟨e0,l0⟩:=t8 q;have w1:kD [frD f,.int most]=.ok (frD t0):=w1;show _=di (kC most t0 fs);have A0:AllOk [f] t0:=by rw[e0];exact oV hf.2
  have key:((ja (.one 3) (xy 2 (zt kD (zb (vE dy (zb (ze 2) (zb (ze 3) zn))) (zb (ze 1) zn)))) (fs.map frD) [some (.val (.lst ((f::fs).map frD))),some (.val (.int most)),some (.val (frD t0)),none]).bind (mU (yS (ze 2)))).bind mR=di (kC most t0 fs):=by
   refine for_rule_ex (R:=λz=>(z.bind (mU (yS (ze 2)))).bind mR=di (kC most t0 fs)) (P:=λi sd=>∃(t:X7) (u3:Option SV),sd=[some (.val (.lst ((f::fs).map frD))),some (.val (.int most)),some (.val (frD t)),u3]/\AllOk (f::fs.take i) t/\(t.length:Int)<=most/\kC most t (fs.drop i)=kC most t0 fs) ⟨t0,none,rfl,A0,by rw[e0];exact l0,rfl⟩ ?_ ?_
   .rintro sd ⟨t,u3,rfl,A,lt,hq⟩;rw[Zql,XO] at hq;rw[<- hq];simp[di,kC]
   .rintro i x sd hx ⟨t,u3,rfl,A,lt,hq⟩;refine zc1b (wn hx) λg hg zr2=>?_;subst zr2;have hi:=(ZI.mp hg).1;have hm:=ZS hg;obtain⟨s1,s2⟩:=sz i t g A lt hg;have fj:=f_z8 (f:=t) (g:=g) A.row (hfs g hm).2 s2;have rows:=rR A.row (hfs g hm).2;have fw:=xG (rs:=vQ t g) (most:=most) (λr hr=>(rows r hr).ne) (λr hr=>(rows r hr).rise) (λr hr=>by have:=(rows r hr).len;omega) s1 m1 m2;rw[stepK_eq A.row (hfs g hm).2] at fw;have ed:fs.drop i=g::fs.drop (i+1):=by
     rw[ZU hi];rw[Zqg hi] at hg;rw[Zqi hg]
    rw[ed,allQ_cons] at hq;cases y:ig most (nv t g) with
    |none =>
     rw[y] at fw hq;have fw:kD [frD (vQ t g),.int most]=.ex "TooMany" []:=fw;refine .inr ⟨"TooMany",[],by simp[fj,fw],?_⟩;rw[<- hq];rfl
    |some t1 =>
     rw[y] at fw hq;obtain⟨e1,l1⟩:=t8 y;have fw:kD [frD (vQ t g),.int most]=.ok (frD t1):=fw;refine .inl ⟨[some (.val (.lst ((f::fs).map frD))),some (.val (.int most)),some (.val (frD t1)),some (.val (frD g))],by simp[fj,fw],t1,_,rfl,?_,by rw[e1];exact l1,hq⟩;rw[zL hg,e1];exact rZ A (hfs g hm).2
  simp[gw,dQ] at a0 key ⊢;simp[a0,w1,sl,key]
def eachK_le {f g:X7}(hg:g ≠ []):(vQ f g).length<=f.length*g.length+g.length:=by
 unfold vQ;rw[ZG,ZG,qf];have a:=t5 (wg g) f;have b:=ZW (wg f) g;have c:=ZW (λo => !wg f o) g;have p:0<g.length:=XD.mpr hg;have d:=Nat.mul_le_mul (Zf (f.filter λr => !wg g r).length) c;have e:=Nat.le_mul_of_pos_right (f.filter (wg g)).length p;have h:f.length*g.length=(f.filter (wg g)).length*g.length+(f.filter λr => !wg g r).length*g.length:=by rw[<- Nat.add_mul,a]
 omega
def dW:FS:=(yS (yT pH (zb (xO [none,none,some 1] (iS (ze 0)) (.tup [0,1]) (dOp u8 (dOp gIx (ze 2) (ze 0)) (ze 1))) zn)))
def nO:YD->Res D:=ve 2 2 dW
def cV {r:X6}{hs:Yh}(hne:r ≠ [])(hl:r.length<=1000)(hb:∀p∈r,0<=p.1/\p.1<(hs.length:Int)):nO [rwD r,.lst (hs.map .int)]=.ok (.int (z9 r hs)):=by
 have key:pf (.tup [0,1]) (dOp u8 (dOp gIx (ze 2) (ze 0)) (ze 1)) [none,none,some (.val (.lst (hs.map .int)))] (r.map prD)=.ok (r.map λp=>.int (yr hs p.1+p.2)):=xt λp hp=>by
  simp[xm (hb p hp).1 (hb p hp).2]
 have e:r.map (λp=>D.int (yr hs p.1+p.2))=(r.map λp=>yr hs p.1+p.2).map .int:=by rw[Zw];rfl
 have hm:=uA (ns:=r.map λp=>yr hs p.1+p.2) (λz=>hne (ZT.mp z));rw[<- e] at hm;simp[nO,dW,rwD,key,zo hl,hm,z9]
def c8:FS:=(yS (yT qX (zb (xO [none,some 1] (iS (ze 0)) (.one 0) (zt nO (zb (ze 0) (zb (ze 1) zn)))) zn)))
def jH:YD->Res D:=ve 2 2 c8
def bg {f:X7}{hs:Yh}(hf:f ≠ [])(hl:f.length<=1000)(hne:∀r∈f,r ≠ [])(hr:∀r∈f,r.length<=1000)(hb:∀r∈f,∀p∈r,0<=p.1/\p.1<(hs.length:Int)):jH [frD f,.lst (hs.map .int)]=.ok (.int (z7 f hs)):=by
 have key:pf (.one 0) (zt nO (zb (ze 0) (zb (ze 1) zn))) [none,some (.val (.lst (hs.map .int)))] (f.map rwD)=.ok (f.map λr=>.int (z9 r hs)):=xt λr h=>by
  simp[cV (hne r h) (hr r h) (hb r h)]
 have e:f.map (λr=>D.int (z9 r hs))=(f.map λr=>z9 r hs).map .int:=by rw[Zw];rfl
 have hm:=uB (ns:=f.map λr=>z9 r hs) (λz=>hf (ZT.mp z));rw[<- e] at hm;simp[jH,c8,frD,key,zo hl,hm,z7]
def hX:FS:=(zO (xy 2 (zt jH (zb (ze 0) (zb (ze 1) zn)))) (yS (xw [none,some 1,some 2] (iS (ze 0)) (.one 0) (z3 (dOp gEq (zt nO (zb (ze 0) (zb (ze 1) zn))) (ze 2))) (ze 0))))
def rm:YD->Res D:=uc 3 2 hX
def eI {f:X7}{hs:Yh}(o:Over f hs)(hl:f.length<=1000)(hr:∀r∈f,r.length<=1000):rm [frD f,.lst (hs.map .int)]=.ok (frD (fdF f hs)):=by
 have fh:=bg o.ne hl o.rne hr o.bnd;have key:wX (.one 0) (z3 (dOp gEq (zt nO (zb (ze 0) (zb (ze 1) zn))) (ze 2))) (ze 0) [none,some (.val (.lst (hs.map .int))),some (.val (.int (z7 f hs)))] (f.map rwD)=.ok ((f.filter λr=>decide (z9 r hs=z7 f hs)).map rwD):=
  xT (s:=λr=>[some (.val (rwD r)),some (.val (.lst (hs.map .int))),some (.val (.int (z7 f hs)))]) (λr _=>rfl) (λr h=>by
   simp[cV (o.rne r h) (hr r h) (o.bnd r h)]) (λr _ _=>by simp)
 simp[rm,hX,fh,key,zo hl,fdF];rfl
def gv:FS:=(zO (xy 2 (zt nO (zb (ze 0) (zb (ze 1) zn)))) (yS (xw [none,none,some 1,some 2] (iS (ze 0)) (.tup [0,1]) (z3 (dOp gEq (dOp u8 (dOp gIx (ze 2) (ze 0)) (ze 1)) (ze 3))) (pc (zb (pc (zb (ze 0) (zb (dC (.int 0)) zn))) zn)))))
def kc:YD->Res D:=uc 3 2 gv
def f_z15 {r:X6}{hs:Yh}(hne:r ≠ [])(hl:r.length<=1000)(hb:∀p∈r,0<=p.1/\p.1<(hs.length:Int)):kc [rwD r,.lst (hs.map .int)]=.ok (frD (y4 hs r)):=by
 have fr:=cV hne hl hb;have key:wX (.tup [0,1]) (z3 (dOp gEq (dOp u8 (dOp gIx (ze 2) (ze 0)) (ze 1)) (ze 3))) (pc (zb (pc (zb (ze 0) (zb (dC (.int 0)) zn))) zn)) [none,none,some (.val (.lst (hs.map .int))),some (.val (.int (z9 r hs)))] (r.map prD)=.ok ((r.filter λp=>decide (yr hs p.1+p.2=z9 r hs)).map λp=>rwD (zR [p.1])):=
  xT (s:=λp=>[some (.val (.int p.1)),some (.val (.int p.2)),some (.val (.lst (hs.map .int))),some (.val (.int (z9 r hs)))]) (λp _=>by simp) (λp hp=>by
   have ea:=xm (hs:=hs) (hb p hp).1 (hb p hp).2;simp[ea]) (λp _ _=>by simp[rwD,zR,prD])
 have e:(y4 hs r).map rwD=(r.filter λp=>decide (yr hs p.1+p.2=z9 r hs)).map λp=>rwD (zR [p.1]):=by
  unfold y4 qx;rw[Zw,Zw];rfl
 rw[<- e] at key;have hz:=zo hl;have fb:D.lst ((y4 hs r).map rwD)=frD (y4 hs r):=rfl;generalize (y4 hs r).map rwD=q at key fb;generalize hs.map D.int=q3 at fr key ⊢;simp[kc,gv,fr,hz,key,fb]
def gB:FS:=(yS (xO [none] (iS (ze 0)) (.one 0) (yT vh (zb (xO [none,none] (iS (ze 0)) (.tup [0,1]) (ze 0)) zn))))
def nt:YD->Res D:=uc 1 1 gB
def dN {rs:X7}(hl:rs.length<=1000)(hr:∀r∈rs,r.length<=1000):nt [frD rs]=.ok (.lst ((rs.map thR).map itD)):=by
 have key:pf (.one 0) (yT vh (zb (xO [none,none] (iS (ze 0)) (.tup [0,1]) (ze 0)) zn)) [none] (rs.map rwD)=.ok ((rs.map thR).map itD):=by
  rw[Zw];refine xt λr h=>?_;have k1:pf (.tup [0,1]) (ze 0) [none,none] (r.map prD)=.ok ((thR r).map .int):=by
   unfold thR;rw[Zw];exact xt λp _=>by simp
  have hz:=zo (hr r h);generalize hq:(thR r).map D.int=q at k1;have e:itD (thR r)=.tup q:=by unfold itD;rw[hq]
  show _=Res.ok (itD (thR r));rw[e];simp[k1,hz]
 have hz:=zo hl;generalize (rs.map thR).map itD=q at key ⊢;simp[nt,gB,key,hz]
def i9:FS:=(zO (xy 3 (xO [none,some 1] (iS (vE rm (zb (ze 0) (zb (ze 1) zn)))) (.one 0) (vE kc (zb (ze 0) (zb (ze 1) zn))))) (yS (vE nt (zb (zt gw (zb (ze 3) (zb (ze 2) zn))) zn))))
def oQ:YD->Res D:=uc 4 3 i9
def bN:Option (X7)->Res D
 |some t=>.ok (.lst ((t.map thR).map itD))
 |none=>.ex "TooMany" []
def wa (f:X7)(hs:Yh):Option (X7):=match fdF f hs with
 | []=>none
 |r::rs=>gk 12 (y4 hs r) (rs.map (y4 hs))
def mH {n:Nat}{f:X7}{hs:Yh}(G:Good (n:Int) f)(n12:n<=12):∀g∈(fdF f hs).map (y4 hs),g ≠ []/\∀r∈g,JRow r:=λg hg=>by
 obtain⟨r,hr,rfl⟩:=ZD.mp hg;have ok:=G.rows r (yP.mp hr).1;exact⟨λz=>last_ne ok.ne (ZT.mp z),last_rows n12 ok⟩
def lR {n:Nat}{f:X7}{hs:Yh}{T:X7}(G:Good (n:Int) f)(n12:n<=12)(h:wa f hs=some T):AllOk ((fdF f hs).map (y4 hs)) T/\(T.length:Int)<=12:=by
 have al:=mH (hs:=hs) G n12;unfold wa at h;cases e:fdF f hs with
 |nil=>exact Zn e (ou G.ne)
 |cons r rs =>
  rw[e] at h al;obtain⟨a,b,_⟩:=allP_ok (al _ Zqs) (λg hg=>al g (Zqm _ hg)) h;exact⟨a,b⟩
def f_z13 {n:Nat}{f:X7}{hs:Yh}(G:Good (n:Int) f)(hn:hs.length=n)(n12:n<=12):oQ [frD f,.lst (hs.map .int),.int 12]=bN (wa f hs):=by
 have o:Over f hs:=⟨G.ne,λr hr=>(G.rows r hr).ne,λr hr=>(G.rows r hr).once,λr hr p hp=>by rw[hn];exact(G.rows r hr).mem p hp⟩;have fl:=G.len;have fd:=eI o () (λr hr=>by have:=(G.rows r hr).len;omega);have al:=mH (hs:=hs) G n12;have ok:∀T,wa f hs=some T->AllOk ((fdF f hs).map (y4 hs)) T/\(T.length:Int)<=12:=λT h=>lR G n12 h;unfold wa at ok ⊢;cases e:fdF f hs with
 |nil=>exact Zn e (ou G.ne)
 |cons r rs =>
  rw[e] at fd al ok;have mem:∀q∈r::rs,q∈f:=λq hq=>(yP.mp (by rw[e];exact hq)).1;have lr:(r::rs).length<=40:=by rw[<- e];exact Zh (ZW _ _) fl
  have key:pf (.one 0) (vE kc (zb (ze 0) (zb (ze 1) zn))) [none,some (.val (.lst (hs.map .int)))] ((r::rs).map rwD)=.ok (((r::rs).map (y4 hs)).map frD):=by
   rw[Zw];refine xt λq hq=>?_;have:=f_z15 (hs:=hs) (G.rows q (mem q hq)).ne (by have:=(G.rows q (mem q hq)).len;omega) λp hp=>o.bnd q (mem q hq) p hp;simp[this]
  have l12:∀q∈r::rs,(y4 hs q).length<=12:=λq hq=>Zh last_len (G.rows q (mem q hq)).len;have fa:=f_all_of_any (f:=y4 hs r) (fs:=rs.map (y4 hs)) (most:=12) (al _ Zqs) (λg hg=>al g (Zqm _ hg)) (by have:=l12 r Zqs;omega) () () (by rw[Zql];rw[Zu] at lr;omega) (λi t g A lt hg=>by
   rw[Zv] at hg;refine zc1b (Xf.mp hg) λq hq zr2=>?_;subst zr2;have qm:q∈r::rs:=Zqm _ (ZS hq);have lg:=l12 q qm;have lt:t.length<=12:=()
   have mu:t.length*(y4 hs q).length<=12*12:=Nat.mul_le_mul lt lg;have le:=eachK_le (f:=t) (g:=y4 hs q) (al _ (ZD.mpr ⟨q,qm,rfl⟩)).1;omega)
  have hz:=zo (show(r::rs).length<=1000 by omega);have fa:gw [.lst (((r::rs).map (y4 hs)).map frD),.int 12]=di (gk 12 (y4 hs r) (rs.map (y4 hs))):=fa;have hz2:((r::rs).map rwD).length<sizeLine:=by rw[Zql];exact hz
  have fd:rm [frD f,.lst (hs.map .int)]=.ok (.lst ((r::rs).map rwD)):=fd;generalize ((r::rs).map (y4 hs)).map frD=q1 at key fa;generalize (r::rs).map rwD=q2 at key fd hz2;show _=bN (gk 12 (y4 hs r) (rs.map (y4 hs)));cases q:gk 12 (y4 hs r) (rs.map (y4 hs)) with
  |none =>
   rw[q] at fa;have fa:gw [.lst q1,.int 12]=.ex "TooMany" []:=fa;show _=Res.ex "TooMany" [];generalize hs.map D.int=q3 at fd key ⊢;simp[oQ,i9,fd,hz2,key,fa]
  |some t =>
   rw[q] at fa;have fa:gw [.lst q1,.int 12]=.ok (frD t):=fa;obtain⟨A,lt⟩:=ok t q;have ft:=dN (rs:=t) () λq hq=>by have:=(A.row q hq).len;omega
   show _=Res.ok (D.lst ((t.map thR).map itD));generalize (t.map thR).map itD=q4 at ft ⊢;generalize hs.map D.int=q3 at fd key ⊢;simp[oQ,i9,fd,hz2,key,fa,ft]
def held_thing {f:X7}{hs:Yh}{t:Int}{T:X7}(A:AllOk ((fdF f hs).map (y4 hs)) T)(hn:fdF f hs ≠ []): [t]∈T.map thR↔kM f hs t:=by
 constructor
 .intro h r hr;obtain⟨q,hq,e⟩:=ZD.mp h;obtain⟨s,hs',hu⟩:=A.abv q hq _ (ZD.mpr ⟨r,hr,rfl⟩);obtain⟨x,hx,rfl⟩:=ZD.mp hs';obtain⟨w,hw,_⟩:=yo.mp hu (x,0) (ZC.mpr rfl);have:x∈thR q:=ZD.mpr ⟨(x,w),zy hw,rfl⟩;rw[e] at this;rw[ZC.mp this] at hx;exact hx
 .intro b;obtain⟨q,hq,hu⟩:=A.least (zR [t]) λg hg=>by
   obtain⟨r,hr,rfl⟩:=ZD.mp hg;exact⟨zR [t],ZD.mpr ⟨t,b r hr,rfl⟩,wN (xN (Xn _ _))⟩
  have J:=A.row q hq;have al:∀p∈q,p.1=t:=λp hp=>by
   obtain⟨w,hw,_⟩:=yo.mp hu p hp;have:=ZC.mp (zy hw);exact Zt Prod.fst this
  refine ZD.mpr ⟨q,hq,?_⟩;cases q with
  |nil=>exact Zn rfl J.ne
  |cons p r =>
   cases r with
   |nil=>show[p.1]=[t];rw[al p Zqs]
   |cons p2 r =>
    exfalso;have ri:((p::p2::r).map (·.1)).Pairwise (· < ·):=J.rise;have this:p.1<p2.1:=(Z6.mp ri).1 p2.1 (Zqs);rw[al p Zqs,al p2 (Zqm _ Zqs)] at this;omega
def iI:FS:=(zO (xy 2 (dC .non)) (zO (dA 2 "TooMany" oQ (zb (ze 0) (zb (ze 1) (zb (dC (.int 12)) zn))) (xy 2 (dC .non))) (yS (ze 2))))
def k9:YD->Res D:=ve 3 2 iI
def kh:Option (X7)->D
 |some t=>.lst ((t.map thR).map itD)
 |none=>.non
def f_z34 {n:Nat}{f:X7}{hs:Yh}(G:Good (n:Int) f)(hn:hs.length=n)(n12:n<=12):k9 [frD f,.lst (hs.map .int)]=.ok (kh (wa f hs)):=by
 have fh:=f_z13 G hn n12;cases q:wa f hs with
 |none =>
  rw[q] at fh;have fh:oQ [frD f,.lst (hs.map .int),.int 12]=.ex "TooMany" []:=fh;show _=Res.ok D.non;generalize hs.map D.int=q3 at fh ⊢;simp[k9,iI,fh,Res.strict]
 |some t =>
  rw[q] at fh;have fh:oQ [frD f,.lst (hs.map .int),.int 12]=.ok (.lst ((t.map thR).map itD)):=fh;show _=Res.ok (D.lst ((t.map thR).map itD));generalize (t.map thR).map itD=q4 at fh ⊢;generalize hs.map D.int=q3 at fh ⊢;simp[k9,iI,fh,Res.strict]
def iR:FS:=(zO (nV 3 (sC zn)) (zO (sV (iS (ze 0)) (.one 4) (zO (xy 5 (xw [none,some 2] (iS (ze 4)) (.one 0) (z3 (dOp gNe (dOp gIx (ze 0) (dC (.int 0))) (ze 1))) (ze 0))) (zO (sIf (z3 (dOp gEq (ze 5) (sC zn))) (yS (dC .non)) y9) (zX 3 (zt nO (zb (ze 5) (zb (ze 1) zn))))))) (yS (dOp ki (zt jH (zb (ze 0) (zb (ze 1) zn))) (kH [3] (yT qX (zb (ze 3) zn)))))))
def qS:YD->Res D:=ve 6 3 iR
def f_row_hourL {r:X6}{hs:Yh}(hne:r ≠ [])(hl:r.length<=1000)(hb:∀p∈r,0<=p.1/\p.1<(hs.length:Int)):nO [.lst (r.map prD),.lst (hs.map .int)]=.ok (.int (z9 r hs)):=by
 have key:pf (.tup [0,1]) (dOp u8 (dOp gIx (ze 2) (ze 0)) (ze 1)) [none,none,some (.val (.lst (hs.map .int)))] (r.map prD)=.ok (r.map λp=>.int (yr hs p.1+p.2)):=xt λp hp=>by
  simp[xm (hb p hp).1 (hb p hp).2]
 have e:r.map (λp=>D.int (yr hs p.1+p.2))=(r.map λp=>yr hs p.1+p.2).map .int:=by rw[Zw];rfl
 have hm:=uA (ns:=r.map λp=>yr hs p.1+p.2) (λz=>hne (ZT.mp z));rw[<- e] at hm;simp[nO,dW,key,zo hl,hm,z9]
def f_z11 {f:X7}{hs:Yh}{t:Int}(o:Over f hs)(hl:f.length<=1000)(hr:∀r∈f,r.length<=100)(t0:0<=t)(t1:t<(hs.length:Int)):
 ((∃r∈f,yD t r=[])/\qS [frD f,.lst (hs.map .int),.int t]=.ok .non)\/((∀r∈f,yD t r ≠ [])/\qS [frD f,.lst (hs.map .int),.int t]=.ok (.int (z7 f hs-nN (f.map λr=>z9 (yD t r) hs)))):=by
 have fh:=bg o.ne hl o.rne (λr h=>by have:=hr r h;omega) o.bnd;simp[qS,iR];refine wP (R:=λz=>((∃r∈f,yD t r=[])/\(z.bind (mU (yS (dOp ki (zt jH (zb (ze 0) (zb (ze 1) zn))) (kH [3] (yT qX (zb (ze 3) zn))))))).bind mR=.ok .non)\/((∀r∈f,yD t r ≠ [])/\(z.bind (mU (yS (dOp ki (zt jH (zb (ze 0) (zb (ze 1) zn))) (kH [3] (yT qX (zb (ze 3) zn))))))).bind mR=.ok (.int (z7 f hs-nN (f.map λr=>z9 (yD t r) hs)))))
  (P:=λi sd=>(∃u v,sd=[some (.val (frD f)),some (.val (.lst (hs.map .int))),some (.val (.int t)),some (.own false (.lst (((f.take i).map λr=>z9 (yD t r) hs).map .int))),u,v])/\∀r∈f.take i,yD t r ≠ []) ⟨⟨none,none,rfl⟩,λ_ h=>by simp at h⟩ ?_ ?_
 .rintro sd ⟨⟨u,v,rfl⟩,ha⟩;rw[Zql,Xz] at ha;refine .inr ⟨ha,?_⟩;have hm:=uB (ns:=f.map λr=>z9 (yD t r) hs) (λz=>o.ne (ZT.mp z));rw[Zql,Xz];generalize (f.map λr=>z9 (yD t r) hs)=ls at hm;simp[hm,fh]
 .rintro i x sd hx ⟨⟨u,v,rfl⟩,ha⟩;obtain⟨r,hp,rfl⟩:=wn hx;have hm:=ZS hp;have hi:=(ZI.mp hp).1;have key:wX (.one 0) (z3 (dOp gNe (dOp gIx (ze 0) (dC (.int 0))) (ze 1))) (ze 0) [none,some (.val (.int t))] (r.map prD)=.ok ((yD t r).map prD):=
   xT (s:=λp=>[some (.val (prD p)),some (.val (.int t))]) (λp _=>rfl) (λp _=>by simp) (λp _ _=>by simp)
  have lr:=zo (show r.length<=1000 by have:=hr r hm;omega);have ge:=xM (qL (yD t r)) wj;rw[yw] at ge;by_cases q:yD t r=[]
  .rw[q] at ge key;have ge:gEq (.lst []) (.lst [])=some (.bl true):=ge;exact .inr (.inr ⟨.non,by simp[key,lr,ge],.inl ⟨⟨r,hm,q⟩,by simp⟩⟩)
  .have hz:((f.take i).map λr=>z9 (yD t r) hs).length<sizeLine:=zo (by rw[Zql,Z2];omega);have es:(f.take (i+1)).map (λr=>z9 (yD t r) hs)=(f.take i).map (λr=>z9 (yD t r) hs)++[z9 (yD t r) hs]:=by
    rw[zL hp,ZV,Zl,Xt]
   have rh:=f_row_hourL (r:=yD t r) (hs:=hs) q (Zh (ZW _ _) (by have:=hr r hm;omega)) λp hp=>o.bnd r hm p (lP.mp hp).1;have q':(yD t r).isEmpty=false:=by
    cases z:yD t r with
    |nil=>exact Zn z q
    |cons _ _=>rfl
   rw[q'] at ge;refine .inl ⟨[some (.val (frD f)),some (.val (.lst (hs.map .int))),some (.val (.int t)),some (.own false (.lst (((f.take (i+1)).map λr=>z9 (yD t r) hs).map .int))),some (.val (rwD r)),some (.val (.lst ((yD t r).map prD)))],.inl ?_,⟨_,_,rfl⟩,λy hy=>?_⟩
   .rw[es];generalize (f.take i).map (λr=>z9 (yD t r) hs)=ls at hz;simp[key,lr,ge,rh,hz]
   .rw[zL hp] at hy;rcases ZM.mp hy with z|z
    .exact ha y z
    .rw[ZC.mp z];exact q
def iU:FS:=(zO (xy 3 (zt jH (zb (ze 0) (zb (ze 1) zn)))) (zO (nV 4 (sC zn)) (zO (sV (iS (zt rm (zb (ze 0) (zb (ze 1) zn)))) (.one 5) (zO (xy 6 (yT vS (zb (ze 5) zn))) (zO (sIf (z3 (dOp (gIn true) (ze 2) (ze 6))) (yS (dC .non)) y9) (zX 4 (dOp ki (dOp ki (ze 3) (dOp gIx (ze 1) (ze 2))) (dOp gIx (ze 6) (ze 2))))))) (yS (kH [4] (yT pH (zb (ze 4) zn)))))))
def uX:YD->Res D:=ve 7 3 iU
def dP {f:X7}{hs:Yh}{t:Int}(o:Over f hs)(hl:f.length<=1000)(hr:∀r∈f,r.length<=100)(t0:0<=t)(t1:t<(hs.length:Int)):
 ((∃r∈fdF f hs,zj r t=none)/\uX [frD f,.lst (hs.map .int),.int t]=.ok .non)\/((∀r∈fdF f hs,(zj r t).isSome=true)/\uX [frD f,.lst (hs.map .int),.int t]=.ok (.int (ue ((fdF f hs).map (uH f hs t))))):=by
 have fh:=bg o.ne hl o.rne (λr h=>by have:=hr r h;omega) o.bnd;have fd:=eI o hl (λr h=>by have:=hr r h;omega);have lfd:(fdF f hs).length<=1000:=Zh (ZW _ _) hl;have nfd:=ou (hs:=hs) o.ne;have sub:∀r∈fdF f hs,r∈f:=λr h=>(yP.mp h).1;have ea:=xm t0 t1;have eu:uH f hs t=λr=>z7 f hs-yr hs t-(zj r t).getD 0:=rfl;rw[eu];simp[uX,iU,fh,fd];generalize z7 f hs=c;generalize fdF f hs=ds at lfd nfd sub;refine wP (R:=λz=>((∃r∈ds,zj r t=none)/\(z.bind (mU (yS (kH [4] (yT pH (zb (ze 4) zn)))))).bind mR=.ok .non)\/((∀r∈ds,(zj r t).isSome=true)/\(z.bind (mU (yS (kH [4] (yT pH (zb (ze 4) zn)))))).bind mR=.ok (.int (ue (ds.map λr=>c-yr hs t-(zj r t).getD 0)))))
  (P:=λi sd=>(∃u v,sd=[some (.val (frD f)),some (.val (.lst (hs.map .int))),some (.val (.int t)),some (.val (.int c)),some (.own false (.lst (((ds.take i).map λr=>c-yr hs t-(zj r t).getD 0).map .int))),u,v])/\∀r∈ds.take i,(zj r t).isSome=true) ⟨⟨none,none,rfl⟩,λ_ h=>by simp at h⟩ ?_ ?_
 .rintro sd ⟨⟨u,v,rfl⟩,ha⟩;rw[Zql,Xz] at ha;refine .inr ⟨ha,?_⟩;have hm:=uA (ns:=ds.map λr=>c-yr hs t-(zj r t).getD 0) (λz=>nfd (ZT.mp z));rw[Zql,Xz];generalize (ds.map λr=>c-yr hs t-(zj r t).getD 0)=ls at hm;simp[hm]
 .rintro i x sd hx ⟨⟨u,v,rfl⟩,ha⟩;obtain⟨r,hp,rfl⟩:=wn hx;have hm:=ZS hp;have hi:=(ZI.mp hp).1;have hd:=wJ (hr r (sub r hm)) (o.once r (sub r hm));have hv:=xR (o.once r (sub r hm)) t;cases q:zj r t with
  |none =>
   rw[q] at hv;exact .inr (.inr ⟨.non,by simp[hd,dcR,hv],.inl ⟨⟨r,hm,q⟩,by simp⟩⟩)
  |some w =>
   rw[q] at hv;have hz:((ds.take i).map λr=>c-yr hs t-(zj r t).getD 0).length<sizeLine:=zo (by rw[Zql,Z2];omega);have es:(ds.take (i+1)).map (λr=>c-yr hs t-(zj r t).getD 0)=(ds.take i).map (λr=>c-yr hs t-(zj r t).getD 0)++[c-yr hs t-w]:=by
    rw[zL hp,ZV,Zl,Xt,q];rfl
   refine .inl ⟨[some (.val (frD f)),some (.val (.lst (hs.map .int))),some (.val (.int t)),some (.val (.int c)),some (.own false (.lst (((ds.take (i+1)).map λr=>c-yr hs t-(zj r t).getD 0).map .int))),some (.val (rwD r)),some (.val (dcR r))],.inl ?_,⟨_,_,rfl⟩,λy hy=>?_⟩
   .rw[es];generalize (ds.take i).map (λr=>c-yr hs t-(zj r t).getD 0)=ls at hz;simp[hd,dcR,hv,ea,hz]
   .rw[zL hp] at hy;rcases ZM.mp hy with z|z
    .exact ha y z
    .rw[ZC.mp z,q];rfl
def c7:FS:=(yS (yT yI (zb (zt fF (zb (ze 0) (zb (yT nJ (zb (ze 0) zn)) zn))) zn)))
def cx:YD->Res D:=uc 1 1 c7
def f_z3 {rs:X7}(ne:∀r∈rs,r ≠ [])(ri:∀r∈rs,xP r)(hl:∀r∈rs,r.length<=100)(h64:rs.length<1000):cx [frD rs]=.ok (frD (zV rs)):=by
 have fl:=f_z4 (en:=(rs.length:Int)) ne ri hl h64 (Int.le_refl _);have ll:(rg rs).length<=rs.length:=Zh (ZW _ _) (t9 rs);have gs:yI [frD (rg rs)]=some (.lst ((zT yF (rg rs)).map rwD)):=xC (λr hr=>ne r (vZ.mp (ZK.mp hr).1)) ();rw[sH] at gs;simp[cx,c7,fl,gs];rfl
def gD:FS:=(zO (xy 2 (xO [none] (iS (zt rm (zb (ze 0) (zb (ze 1) zn)))) (.one 0) (yT vh (zb (xO [none,none] (iS (ze 0)) (.tup [0,1]) (pc (zb (ze 0) (zb (dC (.int 0)) zn)))) zn)))) (yS (zt nt (zb (zt cx (zb (ze 2) zn)) zn))))
def iE:YD->Res D:=uc 3 2 gD
def f_z12 {n:Nat}{f:X7}{hs:Yh}(G:Good (n:Int) f)(hn:hs.length=n)(h40:f.length<=40):iE [frD f,.lst (hs.map .int)]=.ok (.lst ((xi f hs).map itD)):=by
 have o:Over f hs:=⟨G.ne,λr hr=>(G.rows r hr).ne,λr hr=>(G.rows r hr).once,λr hr p hp=>by rw[hn];exact(G.rows r hr).mem p hp⟩;have fd:=eI o () (λr hr=>by have:=(G.rows r hr).len;omega);have lf:(fdF f hs).length<=40:=Zh (ZW _ _) h40;have mem:∀r∈fdF f hs,r∈f:=λr hr=>(yP.mp hr).1;have key:pf (.one 0) (yT vh (zb (xO [none,none] (iS (ze 0)) (.tup [0,1]) (pc (zb (ze 0) (zb (dC (.int 0)) zn)))) zn)) [none] ((fdF f hs).map rwD)=.ok ((wF f hs).map rwD):=by
  unfold wF;rw[Zw];refine xt λr h=>?_;have k1:pf (.tup [0,1]) (pc (zb (ze 0) (zb (dC (.int 0)) zn))) [none,none] (r.map prD)=.ok ((zR (thR r)).map prD):=by
   unfold zR thR;rw[Zw,Zw];exact xt λp _=>by simp[prD]
  have hz:=zo (show r.length<=1000 by have:=(G.rows r (mem r h)).len;omega);generalize hq:(zR (thR r)).map prD=q at k1;have e:rwD (zR (thR r))=.tup q:=by unfold rwD;rw[hq]
  show _=Res.ok (rwD (zR (thR r)));rw[e];simp[k1,hz]
 have bm:∀q∈wF f hs,∃r∈f,q=zR (thR r):=λq hq=>by
  refine zc1b (ZD.mp hq) λr hr e=>?_;exact⟨r,mem r hr,e.symm⟩
 have lb:(wF f hs).length<=40:=by unfold wF;rw[Zql];exact lf
 have zl:∀r:X6,(zR (thR r)).length=r.length:=λr=>by unfold zR thR;rw[Zql,Zql]
 have ft:=f_z3 (rs:=wF f hs) (λq hq z=>by
  refine zc1b (bm q hq) λr hr e=>?_;have:=Zt List.length (e.symm.trans z);rw[zl] at this;exact(G.rows r hr).ne (ZQ.mp this)) (λq hq=>by
  refine zc1b (bm q hq) λr hr zr2=>?_;subst zr2;show((zR (thR r)).map (·.1)).Pairwise (· < ·);rw[show(zR (thR r)).map (·.1)=thR r from lq _];exact G.rise r hr) (λq hq=>by
  refine zc1b (bm q hq) λr hr zr2=>?_;subst zr2;have:=(G.rows r hr).len;rw[zl];omega) ()
 have tl:=vH (wF f hs);have fe:=dN (rs:=zV (wF f hs)) () (λq hq=>by
  refine zc1b (bm q (zA.mp hq).1) λr hr zr2=>?_;subst zr2;have:=(G.rows r hr).len;rw[zl];omega)
 have hz:=zo (show(fdF f hs).length<=1000 by omega);have fb:D.lst ((wF f hs).map rwD)=frD (wF f hs):=rfl;show _=Res.ok (D.lst (((zV (wF f hs)).map thR).map itD));generalize ((zV (wF f hs)).map thR).map itD=q at fe ⊢;generalize (wF f hs).map rwD=q1 at key fb;simp[iE,gD,fd,key,hz,fb,ft,fe]
def iZ:FS:=(zO (nV 3 (sC (zb (zt iE (zb (ze 0) (zb (ze 1) zn))) (zb (zt k9 (zb (ze 0) (zb (ze 1) zn))) zn)))) (zO (sV (iR1 (zb (ze 2) zn)) (.one 4) (zX 3 (pc (zb (zt uX (zb (ze 0) (zb (ze 1) (zb (ze 4) zn)))) (zb (zt qS (zb (ze 0) (zb (ze 1) (zb (ze 4) zn)))) zn))))) (xq 3)))
def pi:YD->Res D:=uc 5 3 iZ
def va (f:X7)(hs:Yh)(t:Int):D:=if(fdF f hs).any (λr=>(zj r t).isNone)=true then .non else .int (ue ((fdF f hs).map (uH f hs t)))
def qr (f:X7)(hs:Yh)(t:Int):D:=if f.any (λr=>(yD t r).isEmpty)=true then .non else .int (z7 f hs-nN (f.map λr=>z9 (yD t r) hs))
def mD {f:X7}{hs:Yh}{t:Int}(o:Over f hs)(hl:f.length<=1000)(hr:∀r∈f,r.length<=100)(t0:0<=t)(t1:t<(hs.length:Int)):uX [frD f,.lst (hs.map .int),.int t]=.ok (va f hs t):=by
 unfold va;rcases dP o hl hr t0 t1 with ⟨⟨r,h1,h2⟩,e⟩|⟨h,e⟩
 .rw[e,Zd (ZP.mpr ⟨r,h1,by rw[h2];rfl⟩)]
 .rw[e,Ze];intro z;obtain⟨r,h1,h2⟩:=ZP.mp z;have:=h r h1;cases q:zj r t with
  |none=>rw[q] at this;(first|exact zqn this|exact zqb this|(obtain rfl:=Zqi this)|cases this)
  |some w=>rw[q] at h2;(first|exact zqn h2|exact zqb h2|(obtain rfl:=Zqi h2)|cases h2)
def f_gainD {f:X7}{hs:Yh}{t:Int}(o:Over f hs)(hl:f.length<=1000)(hr:∀r∈f,r.length<=100)(t0:0<=t)(t1:t<(hs.length:Int)):qS [frD f,.lst (hs.map .int),.int t]=.ok (qr f hs t):=by
 unfold qr;rcases f_z11 o hl hr t0 t1 with ⟨⟨r,h1,h2⟩,e⟩|⟨h,e⟩
 .rw[e,Zd (ZP.mpr ⟨r,h1,by rw[h2];rfl⟩)]
 .rw[e,Ze];intro z;obtain⟨r,h1,h2⟩:=ZP.mp z;exact h r h1 (List.isEmpty_iff.mp h2)
def oP (f:X7)(hs:Yh)(t:Int):D:=.tup [va f hs t,qr f hs t]
def zU (f:X7)(hs:Yh)(n:Nat):YD:=.lst ((xi f hs).map itD)::kh (wa f hs)::(List.range n).map λt:Nat=>oP f hs t
def nZ {n:Nat}{f:X7}{hs:Yh}(G:Good (n:Int) f)(hn:hs.length=n):Over f hs:=⟨G.ne,λr hr=>(G.rows r hr).ne,λr hr=>(G.rows r hr).once,λr hr p hp=>by rw[hn];exact(G.rows r hr).mem p hp⟩
def cg {n:Nat}{f:X7}{hs:Yh}(G:Good (n:Int) f)(hn:hs.length=n)(n12:n<=12):pi [frD f,.lst (hs.map .int),.int n]=.ok (.lst (zU f hs n)):=by
 have o:=nZ G hn;have fl:=G.len;have fr:∀r∈f,r.length<=100:=λr hr=>by have:=(G.rows r hr).len;omega
 have fw:=f_z12 G hn fl;have fh:=f_z34 G hn n12;have r0:xz [.int n]=.ok (zx 0 n):=by rw[yi () (),Int.toNat_natCast]
 have fs:∀i:Nat,i<n->uX [frD f,.lst (hs.map .int),.int i]=.ok (va f hs i):=λi hi=>mD o () fr () ();have fg:∀i:Nat,i<n->qS [frD f,.lst (hs.map .int),.int i]=.ok (qr f hs i):=λi hi=>f_gainD o () fr () ();unfold zU oP;generalize D.lst ((xi f hs).map itD)=q1 at fw ⊢;generalize kh (wa f hs)=q2 at fh ⊢;generalize va f hs=sl at fs ⊢;generalize qr f hs=ga at fg ⊢;generalize hs.map D.int=q3 at fw fh fs fg ⊢;obtain⟨sd1,e1,u,hsd1⟩:=xc (tg:=.one 4) (b:=(zX 3 (pc (zb (zt uX (zb (ze 0) (zb (ze 1) (zb (ze 4) zn)))) (zb (zt qS (zb (ze 0) (zb (ze 1) (zb (ze 4) zn)))) zn))))) (ds:=zx 0 n)
  (sd:=[some (.val (frD f)),some (.val (.lst q3)),some (.val (.int n)),some (.own false (.lst [q1,q2])),none])
  (P:=λi sd=>∃u:Option SV,sd=[some (.val (frD f)),some (.val (.lst q3)),some (.val (.int n)),some (.own false (.lst (q1::q2::(List.range i).map λt:Nat=>D.tup [sl t,ga t]))),u]) ⟨none,rfl⟩ (by
   rintro i x sd hx ⟨u,rfl⟩;obtain⟨rfl,hi⟩:=we hx;have hz:(q1::q2::(List.range i).map λt:Nat=>D.tup [sl t,ga t]).length<sizeLine:=zo (by simp;omega);refine⟨[some (.val (frD f)),some (.val (.lst q3)),some (.val (.int n)),some (.own false (.lst (q1::q2::(List.range (i+1)).map λt:Nat=>D.tup [sl t,ga t]))),some (.val (.int (i:Int)))],?_,_,rfl⟩;have es:(q1::q2::(List.range (i+1)).map λt:Nat=>D.tup [sl t,ga t])=(q1::q2::(List.range i).map λt:Nat=>D.tup [sl t,ga t])++[D.tup [sl i,ga i]]:=by
    rw[List.range_succ,ZV];rfl
   rw[es];generalize (q1::q2::(List.range i).map λt:Nat=>D.tup [sl t,ga t])=ls at hz;simp[fs i hi,fg i hi,hz])
 rw[yJ] at hsd1;subst hsd1;simp[pi,iZ,fw,fh,r0,e1]
def kW:FS:=(yS (xO [none,some 0,some 1,some 2] (iR1 (zb (yT nJ (zb (ze 0) zn)) zn)) (.one 0) (dOp u8 (dOp gIx (ze 1) (ze 0)) (dOp gH (ze 3) (yT fS (zb (dOp (gIn false) (ze 0) (ze 2)) zn))))))
def sY:YD->Res D:=uc 3 3 kW
def gIn_one (k t:Int):gIn false (.int k) (.lst [.int t])=some (.bl (decide (t=k))):=by
 have ha: [D.int t].all (plN 12)=true:=rfl;have e: [D.int t].any (λe=>zW e (.int k))=decide (t=k):=by
  rw[List.any_cons,List.any_nil,Bool.or_false];by_cases h:t=k
  .rw[h,zC,Zp rfl]
  .rw[Zo h];exact xY.mpr λz=>h (by injection z)
 show(if plN 12 (.int k)&&[D.int t].all (plN 12) then some (D.bl (if false then !([D.int t]).any (λe=>zW e (.int k)) else([D.int t]).any λe=>zW e (.int k))) else none)=_;rw[ha,e];rfl
def f_z31 {hs:Yh}(t m:Int)(hl:hs.length<=1000):sY [.lst (hs.map .int),.lst [.int t],.int m]=.ok (.lst ((vn hs t m).map .int)):=by
 have r1:xz [.int hs.length]=.ok (zx 0 hs.length):=by rw[yi () (),Int.toNat_natCast]
 have key:pf (.one 0) (dOp u8 (dOp gIx (ze 1) (ze 0)) (dOp gH (ze 3) (yT fS (zb (dOp (gIn false) (ze 0) (ze 2)) zn)))) [none,some (.val (.lst (hs.map .int))),some (.val (.lst [.int t])),some (.val (.int m))] (zx 0 hs.length)=.ok ((List.range hs.length).map λk:Nat=>.int (yr hs k+m*(if t=k then 1 else 0))):=wV λi hi=>by
  have ea:=xm (hs:=hs) (t:=(i:Int)) () ();have gi:=gIn_one (i:Int) t;by_cases q:t=(i:Int)
  .have mu:=vm (uj (i:=m) (j:=1) () ());rw[Zp q] at gi;rw[Zd q];simp[ea,gi,mu]
  .have mu:=vm (uj (i:=m) (j:=0) () ());rw[Zo q] at gi;rw[Ze q];simp[ea,gi,mu]
 have e:(vn hs t m).map D.int=(List.range hs.length).map λk:Nat=>.int (yr hs k+m*(if t=k then 1 else 0)):=by unfold vn;rw[Zw];rfl
 rw[e];simp[sY,kW,r1,key,yJ,zo hl]
def il:FS:=(zO (nV 4 (sC zn)) (zO (sV (iR1 (zb (ze 2) zn)) (.one 5) (zX 4 (dOp rq (zt uZ (zb (zt wZ (zb (ze 0) (zb (dOp u8 (ze 1) (ze 5)) zn))) (zb (dOp u8 (dC (.int 131)) (ze 5)) zn))) (dC (.int 3))))) (zO (sIf (z3 (dOp gEq (dOp rq (zt wZ (zb (ze 0) (zb (ze 1) zn))) (dC (.int 3))) (dC (.int 1)))) (λsd=>(nV 4 (xO [none,some 3,some 4] (iR1 (zb (ze 2) zn)) (.one 0) (dOp ki (dOp gIx (ze 2) (ze 0)) (kt (yT vS (zb (dOp gIx (ze 1) (dC (.int 0))) zn)) (ze 0) (dC (.int 0)))))) (qZ [4] sd)) y9) (xq 4))))
def nW:YD->Res D:=uc 6 4 il
def f_z33 {ns:Yh}{st n:Nat}{f:X7}(hs':st<=100)(n1:1<=n)(n2:n<=12)(hf:f ≠ [])(hr:∀r∈f,r.length<=100)(ho:∀r∈f,yH r):∃hs:Yh,nW [.scr ns,.int st,.int n,frD f]=.ok (.lst (hs.map .int))/\hs.length=n:=by
 have r0:xz [.int n]=.ok (zx 0 n):=by rw[yi () (),Int.toNat_natCast]
 obtain⟨sd1,e1,hs,u5,hsd1,hl⟩:=xc (tg:=.one 5) (b:=(zX 4 (dOp rq (zt uZ (zb (zt wZ (zb (ze 0) (zb (dOp u8 (ze 1) (ze 5)) zn))) (zb (dOp u8 (dC (.int 131)) (ze 5)) zn))) (dC (.int 3))))) (ds:=zx 0 n)
  (sd:=[some (.val (.scr ns)),some (.val (.int st)),some (.val (.int n)),some (.val (frD f)),some (.own false (.lst [])),none])
  (P:=λi sd=>∃(hs:Yh) (u5:Option SV),sd=[some (.val (.scr ns)),some (.val (.int st)),some (.val (.int n)),some (.val (frD f)),some (.own false (.lst (hs.map .int))),u5]/\hs.length=i) ⟨[],none,rfl,rfl⟩ (by
   rintro i x sd hx ⟨hs,u5,rfl,hl⟩;obtain⟨rfl,hi⟩:=we hx;have fc:wZ [.scr ns,.int ((st:Int)+(i:Int))]=.ok (.int (uV ns (st+i:Nat))):=by rw[<- gf ns (st+i)];congr 3
   have hz:=zo (show hs.length<=1000 from ());refine⟨[some (.val (.scr ns)),some (.val (.int st)),some (.val (.int n)),some (.val (frD f)),some (.own false (.lst ((hs++[uW (uV ns (st+i:Nat)) (131+(i:Int)) % 3]).map .int))),some (.val (.int (i:Int)))],?_,_,_,rfl,by simp[hl]⟩;simp at fc;simp[fc,hz])
 rw[yJ] at hl;subst hsd1;have fc:wZ [.scr ns,.int (st:Int)]=.ok (.int (uV ns st)):=gf ns st;by_cases c:uV ns st % 3=1
 .obtain⟨r,f',rfl⟩:∃r f',f=r::f':=by
   cases f with
   |nil=>exact Zn rfl hf
   |cons r f'=>exact⟨r,f',rfl⟩
  have a0:atI ((r::f').map rwD) 0=some (rwD r):=by
   rw[show((0:Int))=((0:Nat):Int) from rfl,vo (by simp)];rfl
  have i0:gIx (frD (r::f')) (.int 0)=some (rwD r):=a0;have o1:=ho r Zqs;have gd:vS [rwD r]=some (dcR r):=by
   show(vJ (rwD r)).bind _=_;rw[vX];refine(Zd (hr r Zqs)).trans ?_;rw[rQ o1]
  have key:pf (.one 0) (dOp ki (dOp gIx (ze 2) (ze 0)) (kt (yT vS (zb (dOp gIx (ze 1) (dC (.int 0))) zn)) (ze 0) (dC (.int 0)))) [none,some (.val (frD (r::f'))),some (.val (.lst (hs.map .int)))] (zx 0 n)=.ok (((List.range n).map λk:Nat=>yr hs k-(zj r (k:Int)).getD 0).map .int):=by
   rw[Zw];refine wV λi hi=>?_;have ea:=xm (hs:=hs) (t:=(i:Int)) () ();have vd:=xR o1 (i:Int);have dd:eE (dcR r)=.ok (r.map λp=>.inl p.1,r.map λp=>.int p.2):=rfl;cases q:zj r (i:Int) with
   |none =>
    rw[q] at vd;simp[i0,gd,ea,dd,vd,q]
   |some w =>
    rw[q] at vd;simp[i0,gd,ea,dd,vd,q]
  refine⟨(List.range n).map λk:Nat=>yr hs k-(zj r (k:Int)).getD 0,?_,by simp⟩;have hz:(zx 0 n).length<sizeLine:=zo (by rw[yJ];omega);generalize ((List.range n).map λk:Nat=>yr hs k-(zj r (k:Int)).getD 0).map D.int=q1 at key ⊢;simp[nW,il,r0,e1,fc,c,hz,key]
 .refine⟨hs,?_,hl⟩;simp[nW,il,r0,e1,fc,c]
def iY:FS:=(zO (xy 2 (dC .non)) (zO (sV (iS (ze 0)) (.tup [3,4]) (sIf (dB (z3 (dUn (kE false) (ze 2))) (z3 (dOp gGt (dOp u8 (dOp gIx (ze 1) (ze 3)) (ze 4)) (ze 2)))) (xy 2 (dOp u8 (dOp gIx (ze 1) (ze 3)) (ze 4))) y9)) (yS (ze 2))))
def ko:YD->Res D:=ve 5 2 iY
def f_z28 {r:X6}{hs:Yh}(hne:r ≠ [])(hb:∀p∈r,0<=p.1/\p.1<(hs.length:Int)):ko [rwD r,.lst (hs.map .int)]=.ok (.int (z9 r hs)):=by
 simp[ko,iY,rwD];generalize hB:sIf _ _ y9=b;obtain⟨sd',e,u,v,hsd⟩:=xc (tg:=.tup [3,4]) (b:=b) (ds:=r.map prD) (sd:=[some (.val (.tup (r.map prD))),some (.val (.lst (hs.map .int))),some (.val .non),none,none])
  (P:=λi sd=>∃u v,sd=[some (.val (.tup (r.map prD))),some (.val (.lst (hs.map .int))),some (.val (if i=0 then .non else .int (z9 (r.take i) hs))),u,v]) ⟨none,none,rfl⟩ (by
   rintro i x sd hx ⟨u,v,rfl⟩;refine zc1b (wn hx) λp hp zr2=>?_;subst zr2;obtain⟨b1,b2⟩:=hb p (ZS hp);have ha:=xm b1 b2;have et:r.take (i+1)=r.take i++[p]:=zL hp;subst hB;by_cases q:i=0
   .subst q;simp[ha,et,z9,maxI_one]
   .have hl:(r.take i).map (λp=>yr hs p.1+p.2) ≠ []:=by
     intro z;have:=Zt List.length z;rw[Zql,Z2] at this;have hi:=(ZI.mp hp).1;simp only[ZB] at this;omega
    have hm:z9 (r.take (i+1)) hs=if z9 (r.take i) hs<yr hs p.1+p.2 then yr hs p.1+p.2 else z9 (r.take i) hs:=by
     rw[et];unfold z9;rw[ZV];exact maxI_snoc hl _
    by_cases c:z9 (r.take i) hs<yr hs p.1+p.2
    .rw[Zd c] at hm;simp[q,ha,c,hm]
    .rw[Ze c] at hm;simp[q,ha,c,hm])
 rw[e];subst hsd;have hn:¬r.length=0:=λz=>hne (ZQ.mp z);simp[hne]
def gj:FS:=(yS (yT qX (zb (xO [none,some 1] (iS (ze 0)) (.one 0) (zt ko (zb (ze 0) (zb (ze 1) zn)))) zn)))
def kg:YD->Res D:=ve 2 2 gj
def dI {f:X7}{hs:Yh}(hf:f ≠ [])(hl:f.length<=1000)(hne:∀r∈f,r ≠ [])(hb:∀r∈f,∀p∈r,0<=p.1/\p.1<(hs.length:Int)):kg [frD f,.lst (hs.map .int)]=.ok (.int (z7 f hs)):=by
 have key:pf (.one 0) (zt ko (zb (ze 0) (zb (ze 1) zn))) [none,some (.val (.lst (hs.map .int)))] (f.map rwD)=.ok (f.map λr=>.int (z9 r hs)):=xt λr hr=>by
  simp[f_z28 (hne r hr) (hb r hr)]
 have e:f.map (λr=>D.int (z9 r hs))=(f.map λr=>z9 r hs).map .int:=by rw[Zw];rfl
 have hm:=uB (ns:=f.map λr=>z9 r hs) (λz=>hf (ZT.mp z));rw[<- e] at hm;simp[kg,gj,frD,key,zo hl,hm,z7]
def jU:FS:=(zO (xy 4 (dOp gIx (dOp gIx (ze 3) (dOp u8 (dC (.int 2)) (ze 2))) (dC (.int 0)))) (zO (sIf (z3 (dOp gNe (dUn (kE false) (ze 4)) (yT cB (zb (xO [none,some 2] (iS (dOp gIx (ze 3) (dC (.int 0)))) (.one 0) (dOp (gIn true) (ze 1) (ze 0))) zn)))) (yS (dC (.bl false))) y9) (zO (sIf (qW (z3 (dUn (kE true) (dOp gIx (ze 3) (dC (.int 1))))) (z3 (dOp gNe (dOp gEq (ze 4) (dC (.int 0))) (dOp (gIn false) (pc (zb (ze 2) zn)) (dOp gIx (ze 3) (dC (.int 1))))))) (yS (dC (.bl false))) y9) (zO (sIf (z3 (dUn (kE true) (ze 4))) (zO (xy 5 (zt sY (zb (ze 1) (zb (sC (zb (ze 2) zn)) (zb (ze 4) zn))))) (yS (fT (dOp gEq (zt uX (zb (ze 0) (zb (ze 5) (zb (ze 2) zn)))) (dC (.int 0))) (dOp gEq (zt kg (zb (ze 0) (zb (ze 5) zn))) (zt kg (zb (ze 0) (zb (ze 1) zn))))))) y9) (yS (dC (.bl true)))))))
def nT:YD->Res D:=ve 6 4 jU
def gc (m:Nat)(l:Yh):plN (m+2) (itD l)=true:=by
 show(l.map D.int).all (plN (m+1))=true;rw[XI,Xe];exact λ_ _=>rfl
def itD_eq {a b:Yh}(h:itD a=itD b):a=b:=by
 unfold itD at h;injection h with h
 exact(List.map_inj_right λx y e=>by injection e).mp h
def gIn_its (w:Yh)(L:List Yh):gIn false (itD w) (.lst (L.map itD))=some (.bl (decide (w∈L))):=by
 have ha:(L.map itD).all (plN 12)=true:=by
  rw[XI,Xe];exact λx _=>gc 10 x
 have e:(L.map itD).any (λe=>zW e (itD w))=decide (w∈L):=by
  rw[List.any_map];by_cases h:w∈L
  .rw[Zp h];exact ZP.mpr ⟨w,h,zC _⟩
  .rw[Zo h];refine XT.mpr λx hx=>?_;show ¬zW (itD x) (itD w)=true;rw[w6];exact λz=>h (itD_eq z ▸ hx)
 show(if plN 12 (itD w)&&(L.map itD).all (plN 12) then some (D.bl (if false then !(L.map itD).any (λe=>zW e (itD w)) else(L.map itD).any λe=>zW e (itD w))) else none)=_;rw[gc 10,ha,e];rfl
def sq1 {g1 g2:FS}{sd sd':SD}{r:Res Out}(h:g1 sd=.ok (.next sd'))(k:g2 sd'=r):zO g1 g2 sd=r:=by
 rw[ev_seq,h];exact k
def bF {n k:Nat}{g:FS}{ds:YD}{d:D}(hs:ds.length=k)(h:g (xE n ds)=.ok (.ret d)):ve n k g ds=.ok d:=by
 unfold ve;rw[Zd hs,h];rfl
def f_z36 {n t:Nat}{f:X7}{hs:Yh}(G:Good (n:Int) f)(hn:hs.length=n)(n12:n<=12)(ht:t<n):nT [frD f,.lst (hs.map .int),.int t,.lst (zU f hs n)]=.ok (.bl true):=by
 have o:=nZ G hn;have fl:=G.len;have fr:∀r∈f,r.length<=100:=λr hr=>by have:=(G.rows r hr).len;omega
 have a0:gIx (.lst (zU f hs n)) (.int 0)=some (.lst ((xi f hs).map itD)):=by
  show atI (zU f hs n) ((0:Nat):Int)=_;rw[vo (by unfold zU;simp)];rfl
 have a1:gIx (.lst (zU f hs n)) (.int 1)=some (kh (wa f hs)):=by
  show atI (zU f hs n) ((1:Nat):Int)=_;rw[vo (by unfold zU;simp)];rfl
 have a2:gIx (.lst (zU f hs n)) (.int (2+(t:Int)))=some (oP f hs t):=by
  show atI (zU f hs n) (2+(t:Int))=_;rw[show(2+(t:Int))=((t+2:Nat):Int) by omega,vo (by unfold zU;simp;omega)];unfold zU;show((List.range n).map λt:Nat=>oP f hs t)[t]? = _;rw[Zv,XY ht];rfl
 have a3:gIx (oP f hs t) (.int 0)=some (va f hs t):=rfl;have ky:pf (.one 0) (dOp (gIn true) (ze 1) (ze 0)) [none,some (.val (.int t))] ((xi f hs).map itD)=.ok (((xi f hs).map λw => !decide ((t:Int)∈w)).map .bl):=by
  rw[Zw];refine xt λw hw=>?_;have:=gIn_T true (t:Int) w;simp[this]
 have lw:(xi f hs).length<=40:=by
  unfold xi wF;rw[Zql];refine Zh (vH _) ?_;rw[Zql];exact Zh (ZW _ _) fl
 have hz:((xi f hs).map itD).length<sizeLine:=zo (by rw[Zql];omega);have ga:=gAny_bls ((xi f hs).map λw => !decide ((t:Int)∈w));have wt:=ways_thing (hs:=hs) (t:=(t:Int)) G;have hT:∀T,wa f hs=some T->∃b:Bool,gIn false (.tup [.int (t:Int)]) (.lst ((T.map thR).map itD))=some (.bl b)/\(b=true↔kM f hs t):=λT e =>
  ⟨_,gIn_its [(t:Int)] (T.map thR),decide_eq_true_iff.trans (held_thing (lR G n12 e).1 (ou G.ne))⟩
 have nb:∀b c:Bool,gNe (.bl b) (.bl c)=some (.bl (!decide (b=c))):=λb c=>by cases b<;>cases c<;>rfl
 rcases dP (t:=(t:Int)) o () fr () () with ⟨ex,_⟩|⟨al,_⟩
 ·
  have sl:va f hs t=.non:=by
   obtain⟨r,h1,h2⟩:=ex;exact Zd (ZP.mpr ⟨r,h1,by rw[h2];rfl⟩)
  have an:((xi f hs).map λw => !decide ((t:Int)∈w)).any id=true:=by
   obtain⟨w,h1,h2⟩:=wt.mpr ex;exact ZP.mpr ⟨_,ZD.mpr ⟨w,h1,rfl⟩,by show(!decide ((t:Int)∈w))=true;rw[Zo h2];rfl⟩
  have nl:¬kM f hs t:=λb=>by
   obtain⟨r,h1,h2⟩:=ex;have:=lastB_some o b r h1;rw[h2] at this
   first|exact zqn this|exact zqb this|(obtain rfl:=Zqi this)|cases this
  rw[an] at ga;rw[sl] at a3;generalize ((xi f hs).map λw => !decide ((t:Int)∈w)).map D.bl=q0 at ky ga;generalize (xi f hs).map itD=q1 at a0 ky hz;generalize hs.map D.int=q3;refine bF rfl ?_;unfold jU;refine sq1 (sd':=[some (.val (frD f)),some (.val (.lst q3)),some (.val (.int t)),some (.val (.lst (zU f hs n))),some (.val .non),none]) ?_ (sq1 (sd':=[some (.val (frD f)),some (.val (.lst q3)),some (.val (.int t)),some (.val (.lst (zU f hs n))),some (.val .non),none]) ?_ (sq1 (sd':=[some (.val (frD f)),some (.val (.lst q3)),some (.val (.int t)),some (.val (.lst (zU f hs n))),some (.val .non),none]) ?_ (sq1 (sd':=[some (.val (frD f)),some (.val (.lst q3)),some (.val (.int t)),some (.val (.lst (zU f hs n))),some (.val .non),none]) ?_ ?_)))
  .generalize zU f hs n=lk at a2;simp[xE,a2,a3]
  .generalize zU f hs n=lk at a0;simp[a0,ky,hz,ga,nb]
  .cases q:wa f hs with
   |none =>
    rw[q] at a1;have a1:gIx (.lst (zU f hs n)) (.int 1)=some .non:=a1;generalize zU f hs n=lk at a1;simp[a1]
   |some T =>
    rw[q] at a1;obtain⟨b,gi,hb⟩:=hT T q;have eb:b=false:=Xw.mpr λz=>nl (hb.mp z);subst eb;have a1:gIx (.lst (zU f hs n)) (.int 1)=some (.lst ((T.map thR).map itD)):=a1;have e1:gEq .non (.int 0)=some (.bl false):=by rw[xM rfl rfl,xY.mpr λz=>by cases z]
    generalize (T.map thR).map itD=q4 at a1 gi;generalize zU f hs n=lk at a1;simp[a1,nb,gi,e1]
  .simp
  .simp
 .obtain⟨s,es⟩:∃s,ue ((fdF f hs).map (uH f hs t))=s:=⟨_,rfl⟩;have sl:va f hs t=.int s:=by
   rw[<- es];refine Ze λz=>?_;obtain⟨r,h1,h2⟩:=ZP.mp z;have:=al r h1;cases q:zj r (t:Int) with
   |none=>rw[q] at this;(first|exact zqn this|exact zqb this|(obtain rfl:=Zqi this)|cases this)
   |some w=>rw[q] at h2;(first|exact zqn h2|exact zqb h2|(obtain rfl:=Zqi h2)|cases h2)
  have an:((xi f hs).map λw => !decide ((t:Int)∈w)).any id=false:=by
   refine XT.mpr λx hx=>?_;obtain⟨w,h1,rfl⟩:=ZD.mp hx;intro z;have z:(!decide ((t:Int)∈w))=true:=z;obtain⟨r,h2,h3⟩:=wt.mp ⟨w,h1,by simpa using z⟩;have:=al r h2;rw[h3] at this
   first|exact zqn this|exact zqb this|(obtain rfl:=Zqi this)|cases this
  have sz:=slack_zero o al;rw[es] at sz;obtain⟨ec,al2,s2⟩:=slack_after o () () al es;have o2:=o.mov (t:Int) s;have fm:=f_z31 (hs:=hs) (t:Int) s ();have fc1:=dI (hs:=hs) G.ne () o.rne o.bnd;have fc2:=dI (hs:=vn hs t s) G.ne () o2.rne o2.bnd;rw[ec] at fc2;have fs2:uX [frD f,.lst ((vn hs t s).map .int),.int (t:Int)]=.ok (.int 0):=by
   rw[mD o2 () fr () (by rw[iq];omega)];refine Zt Res.ok ?_;rw[<- s2];refine Ze λz=>?_;obtain⟨r,h1,h2⟩:=ZP.mp z;have:=al2 r h1;cases q:zj r (t:Int) with
   |none=>rw[q] at this;(first|exact zqn this|exact zqb this|(obtain rfl:=Zqi this)|cases this)
   |some w=>rw[q] at h2;(first|exact zqn h2|exact zqb h2|(obtain rfl:=Zqi h2)|cases h2)
  have ce:gEq (.int (z7 f hs)) (.int (z7 f hs))=some (.bl true):=by rw[xM rfl rfl,zC]
  have z0:gEq (.int 0) (.int 0)=some (.bl true):=by rw[xM rfl rfl,zC]
  have zs:gEq (.int s) (.int 0)=some (.bl (decide (s=0))):=by
   rw[xM rfl rfl];refine Zt (λb=>some (D.bl b)) ?_;exact decide_eq_decide.mpr ⟨λh=>by injection h,λh=>by rw[h]⟩
  rw[an] at ga;rw[sl] at a3;generalize ((xi f hs).map λw => !decide ((t:Int)∈w)).map D.bl=q0 at ky ga;generalize (xi f hs).map itD=q1 at a0 ky hz;generalize z7 f hs=cc at fc1 fc2 ce;generalize (vn hs t s).map D.int=q5 at fm fc2 fs2;generalize hs.map D.int=q3 at fm fc1 ⊢;refine bF rfl ?_;unfold jU;refine sq1 (sd':=[some (.val (frD f)),some (.val (.lst q3)),some (.val (.int t)),some (.val (.lst (zU f hs n))),some (.val (.int s)),none]) ?_ (sq1 (sd':=[some (.val (frD f)),some (.val (.lst q3)),some (.val (.int t)),some (.val (.lst (zU f hs n))),some (.val (.int s)),none]) ?_ (sq1 (sd':=[some (.val (frD f)),some (.val (.lst q3)),some (.val (.int t)),some (.val (.lst (zU f hs n))),some (.val (.int s)),none]) ?_ ?_))
  .generalize zU f hs n=lk at a2;simp[xE,a2,a3]
  .generalize zU f hs n=lk at a0;simp[a0,ky,hz,ga,nb]
  .cases q:wa f hs with
   |none =>
    rw[q] at a1;have a1:gIx (.lst (zU f hs n)) (.int 1)=some .non:=a1;generalize zU f hs n=lk at a1;simp[a1]
   |some T =>
    rw[q] at a1;obtain⟨b,gi,hb⟩:=hT T q;have eb:b=decide (s=0):=Xl.mpr (hb.trans (sz.symm.trans decide_eq_true_iff.symm));subst eb;have a1:gIx (.lst (zU f hs n)) (.int 1)=some (.lst ((T.map thR).map itD)):=a1;generalize (T.map thR).map itD=q4 at a1 gi;generalize zU f hs n=lk at a1;simp[a1,nb,gi,zs]
  .generalize D.lst (zU f hs n)=lk;simp[fm,fs2,fc1,fc2,ce,z0]
def gy:FS:=(zO (xy 3 (yT jI (zb (ze 2) (zb (yT jd (zb (dC (.int 0)) (zb (dOp ki (yT nJ (zb (ze 0) zn)) (ze 1)) zn))) zn)))) (yS (xO [none,some 0,some 1,some 2] (iR1 (zb (ze 3) zn)) (.one 0) (yT cf (zb (dSl (ze 1) (re (dOp u8 (ze 2) (ze 0))) vz (re (ze 3))) zn)))))
def jD:YD->Res D:=uc 4 3 gy
def f_law_turnsG {ns:Yh}(h:ns.length<=63){a most:Int}(a0:0<=a)(a1:a<=100)(m0:1<=most)(m1:most<=60):∃cs:Yh,(cs.length:Int)<=most/\jD [.scr ns,.int a,.int most]=.ok (.lst (cs.map .int)):=by
 obtain⟨m,hm,em⟩:∃m:Nat,(m:Int)<=most/\(if(if a<(ns.length:Int) then(ns.length:Int)-a else 0)<most then(if a<(ns.length:Int) then(ns.length:Int)-a else 0) else most)=(m:Int):=by
  refine⟨(if(if a<(ns.length:Int) then(ns.length:Int)-a else 0)<most then(if a<(ns.length:Int) then(ns.length:Int)-a else 0) else most).toNat,?_,?_⟩<;>(repeat' split)<;>omega
 have r1:xz [.int (m:Int)]=.ok (zx 0 m):=by
  rw[yi () (),Int.toNat_natCast]
 have key:pf (.one 0) (yT cf (zb (dSl (ze 1) (re (dOp u8 (ze 2) (ze 0))) vz (re (ze 3))) zn)) [none,some (.val (.scr ns)),some (.val (.int a)),some (.val (.int most))] (zx 0 m)=.ok ((List.range m).map λk:Nat=>.int (yj ns (some (a+(k:Int))) none (some most)).sum):=wV λi hi=>by
  have gs:=gSl_scr (ds:=ns) (lo:=some (a+(i:Int))) (hi:=none) (c:=most) ();simp[gs]
 refine⟨(List.range m).map λk:Nat=>(yj ns (some (a+(k:Int))) none (some most)).sum,by simpa using hm,?_⟩;rw[Zw];have lz:=zo (show m<=1000 from ());simp[jD,gy,em,r1,key,yJ,lz]<;>rfl
def g8:FS:=(zO (xy 1 (dOp gIx (sC (zb (dC (.int 2)) (zb (dC (.int 3)) (zb (dC (.int 4)) (zb (dC (.int 5)) (zb (dC (.int 6)) (zb (dC (.int 12)) zn))))))) (dOp rq (zt wZ (zb (ze 0) (zb (dC (.int 0)) zn))) (dC (.int 6))))) (zO (xy 2 (dOp gIx (zt ka (zb (zt jD (zb (ze 0) (zb (dC (.int 1)) (zb (dC (.int 8)) zn)))) (zb (dC (.int 1)) (zb (ze 1) zn)))) (dC (.int 0)))) (zO (sV (iR1 (zb (yT jI (zb (dOp gIx (sC (zb (dC (.int 12)) (zb (dC (.int 3)) zn))) (yT fS (zb (dOp gEq (ze 1) (dC (.int 12))) zn))) (zb (dOp u8 (dC (.int 1)) (yT nJ (zb (ze 0) zn))) zn))) zn)) (.one 3) (zO (xy 4 (zt nW (zb (ze 0) (zb (ze 3) (zb (ze 1) (zb (ze 2) zn)))))) (zO (xy 5 (zt pi (zb (ze 2) (zb (ze 4) (zb (ze 1) zn))))) (zO (sV (iR1 (zb (ze 1) zn)) (.one 6) (sIf (sZ (z3 (zt nT (zb (ze 2) (zb (ze 4) (zb (ze 6) (zb (ze 5) zn))))))) (yS (dC (.bl false))) y9)) (zO (xy 7 (zt uh (zb (zt wZ (zb (ze 0) (zb (ze 3) zn))) (zb (dC (.int 151)) zn)))) (sIf (z3 (dOp gNe (zt pi (zb (ze 2) (zb (zt sY (zb (ze 4) (zb (yT wQ (zb (ze 1) zn)) (zb (ze 7) zn)))) (zb (ze 1) zn)))) (ze 5))) (yS (dC (.bl false))) y9)))))) (yS (dC (.bl true))))))
def nA:YD->Res D:=ve 8 1 g8
def rise_getD {rs:X7}(h:∀r∈rs,xP r)(i:Nat):xP (rs.getD i []):=by
 rw[ZE];cases q:rs[i]? with
 |none=>exact qC
 |some r=>exact h r (ZS q)
def listStep_rise {n:Int}{rs:X7}{c:Int}(h:∀r∈rs,xP r):∀r∈yk n rs c,xP r:=by
 intro r hr;unfold yk at hr
 split at hr
 .rcases ZM.mp hr with z|z
  .exact h r z
  .rw[ZC.mp z];exact variedG_rise (rise_getD h _)
 .rcases ZM.mp hr with z|z
  .exact h r z
  .rw[ZC.mp z];exact rowG_rise _ _ _ _ _
theorem vc {n:Int}:∀(cs:Yh) (rs:X7),(∀r∈rs,xP r)->∀r∈cs.foldl (yk n) rs,xP r
 | [],rs,h=>h
 |c::cs,rs,h=>by rw[XF];exact vc cs _ (listStep_rise h)
def listB_rise (n:Int)(cs:Yh):∀r∈wI n cs,xP r:=vc cs [] λ_ h=>nomatch h
def formB_goodL {n:Int}{k:Nat}{rs:X7}(h1:1<=n)(ok:∀r∈rs,RowOk n r)(ri:∀r∈rs,xP r)(hl:rs.length<=40):Good n (pY n k (zV rs)):=by
 unfold pY
 split
 .refine good_one ⟨by simp,by unfold yH;simp,λp hp=>?_,by simp⟩ (l9 _);rw[ZC.mp hp];exact⟨Int.emod_nonneg _ (),Int.emod_lt_of_pos _ ()⟩
 .rename_i q;have l:=vH rs;refine thin_good ok ri hl λz=>q ?_;subst z;exact ZQ.mp (Nat.le_zero.mp l)
def f_law_movedA {hs:Yh}{n:Nat}(m:Int)(hn:hs.length=n)(n12:n<=12):sY [.lst (hs.map .int),.lst (zx 0 n),.int m]=.ok (.lst ((rp hs m).map .int)):=by
 subst hn;have r1:xz [.int hs.length]=.ok (zx 0 hs.length):=by rw[yi () (),Int.toNat_natCast]
 have er:zx 0 hs.length=((List.range hs.length).map λk:Nat=>(k:Int)).map D.int:=by
  rw[Zw];exact Xk λk _=>Zt D.int (Int.zero_add _)
 have key:pf (.one 0) (dOp u8 (dOp gIx (ze 1) (ze 0)) (dOp gH (ze 3) (yT fS (zb (dOp (gIn false) (ze 0) (ze 2)) zn)))) [none,some (.val (.lst (hs.map .int))),some (.val (.lst (zx 0 hs.length))),some (.val (.int m))] (zx 0 hs.length)=.ok ((List.range hs.length).map λk:Nat=>.int (yr hs k+m)):=wV λi hi=>by
  have ea:=xm (hs:=hs) (t:=(i:Int)) () ();have gi:=dF false (i:Int) ((List.range hs.length).map λk:Nat=>(k:Int));rw[<- er,Zp (ZD.mpr ⟨i,Z7.mpr hi,rfl⟩)] at gi;have gi:gIn false (.int (i:Int)) (.lst (zx 0 hs.length))=some (.bl true):=gi;have mu:=vm (uj (i:=m) (j:=1) () ());rw[Int.mul_one] at mu;generalize D.lst (zx 0 hs.length)=q at gi;simp[ea,gi,mu]
 have e:(rp hs m).map D.int=(List.range hs.length).map λk:Nat=>.int (yr hs k+m):=by unfold rp;rw[Zw];rfl
 rw[e];generalize D.lst (zx 0 hs.length)=q at key;simp[sY,kW,r1,key,yJ,zo (show hs.length<=1000 from ())]
def held_movA {f:X7}{hs:Yh}{m:Int}(o:Over f hs):wa f (rp hs m)=wa f hs:=by
 have sub:∀r∈fdF f hs,r∈f:=λr hr=>(yP.mp hr).1;unfold wa;rw[mh o];cases q:fdF f hs with
 |nil=>rfl
 |cons r rs =>
  rw[q] at sub;show gk 12 (y4 (rp hs m) r) (rs.map (y4 (rp hs m)))=_;rw[pK o (sub r Zqs),Xk λq hq=>pK o (sub q (Zqm _ hq))]
def gain_movA {f:X7}{hs:Yh}{m t:Int}(o:Over f hs):qr f (rp hs m) t=qr f hs t:=by
 unfold qr;by_cases c:f.any (λr=>(yD t r).isEmpty)=true
 .rw[Zd c,Zd c]
 .rw[Ze c,Ze c,ut o];have e:(f.map λr=>z9 (yD t r) (rp hs m))=(f.map λr=>z9 (yD t r) hs).map (· + m):=by
   rw[Zw];refine Xk λr hr=>?_;have ne:yD t r ≠ []:=λz=>c (ZP.mpr ⟨r,hr,by rw[z];rfl⟩);exact vY o ne λp hp=>o.bnd r hr p (lP.mp hp).1
  rw[e,lT (λz=>o.ne (ZT.mp z))];refine Zt D.int ?_;omega
def look_movA {n:Nat}{f:X7}{hs:Yh}{m:Int}(o:Over f hs)(hn:hs.length=n):zU f (rp hs m) n=zU f hs n:=by
 unfold zU;rw[held_movA o];have e1:xi f (rp hs m)=xi f hs:=by unfold xi wF;rw[mh o]
 rw[e1];refine Zt (λl=>D.lst ((xi f hs).map itD)::kh (wa f hs)::l) (Xk λt ht=>?_);have ht:=Z7.mp ht;unfold oP va;rw[gain_movA o,mh o,slk_movA o () ()]
def jm {n:Nat}{f:X7}{hs:Yh}:plN 12 (.lst (zU f hs n))=true:=by
 have ps:∀t:Nat,plN 11 (oP f hs t)=true:=λt=>by
  unfold oP va qr
  split<;>split<;>rfl
 have ph:plN 11 (kh (wa f hs))=true:=by
  cases wa f hs with
  |none=>rfl
  |some T =>
   show((T.map thR).map itD).all (plN 10)=true;rw[XI,Xe];exact λa _=>gc 8 a
 have pw:plN 11 (.lst ((xi f hs).map itD))=true:=by
  show((xi f hs).map itD).all (plN 10)=true;rw[XI,Xe];exact λa _=>gc 8 a
 show(zU f hs n).all (plN 11)=true;unfold zU;rw[XA,XA,pw,ph,XI,Bool.true_and,Bool.true_and,Xe];exact λt _=>ps t
def menu_six (c:Int):∃n:Nat,1<=n/\n<=12/\atI [D.int 2,D.int 3,.int 4,.int 5,.int 6,.int 12] (c % 6)=some (D.int n):=by
 obtain⟨k,hk,h⟩:∃k:Nat,k<6/\c % 6=k:=⟨(c % 6).toNat,(),()⟩;rw[h];rcases(by decide:∀k,k<6->k=0\/k=1\/k=2\/k=3\/k=4\/k=5) k hk with rfl|rfl|rfl|rfl|rfl|rfl
 .exact⟨2,(),(),rfl⟩
 .exact⟨3,(),(),rfl⟩
 .exact⟨4,(),(),rfl⟩
 .exact⟨5,(),(),rfl⟩
 .exact⟨6,(),(),rfl⟩
 .exact⟨12,(),(),rfl⟩
def law_true (ns:Yh)(h:ns.length<=63):nA [.scr ns]=.ok (.bl true):=by
 have fc0:wZ [.scr ns,.int 0]=.ok (.int (uV ns 0)):=gf ns 0;refine zc1c (menu_six (uV ns 0)) λn n1 n12 hn=>?_;obtain⟨cs,hcs,ftu⟩:=f_law_turnsG h (a:=1) (most:=8) () () () ();have ff:=f_z27 (cs:=cs) (many:=1) (n:=(n:Int)) () () () () ();have e1:vb (n:Int) 1 (wI n cs) (1:Int).toNat=[pY n 0 (zV (yj (wI n cs) (some ((0:Nat):Int)) none (some 1)))]:=rfl;rw[e1] at ff;have G:Good (n:Int) (pY n 0 (zV (yj (wI n cs) (some ((0:Nat):Int)) none (some 1)))):=formB_goodL () (λr hr=>qR () () cs r (qQ hr)) (λr hr=>listB_rise n cs r (qQ hr)) (by
  have a:=qK (wI n cs) (some ((0:Nat):Int)) none (some 1);have b:=so n cs;omega)
 generalize pY n 0 (zV (yj (wI n cs) (some ((0:Nat):Int)) none (some 1)))=f at ff G;have ff:ka [.lst (cs.map .int),.int 1,.int n]=.ok (.lst [frD f]):=ff;have i0:gIx (.lst [frD f]) (.int 0)=some (frD f):=rfl;have hn:gIx (.lst [D.int 2,.int 3,.int 4,.int 5,.int 6,.int 12]) (.int (uV ns 0 % 6))=some (.int n):=hn;obtain⟨mm,q1,m3,m12⟩:∃mm:Int,gIx (.lst [D.int 12,.int 3]) (.int (if zW (.int n) (.int 12) then 1 else 0))=some (.int mm)/\3<=mm/\mm<=12:=by
  cases zW (.int n) (.int 12)
  .exact⟨12,rfl,(),()⟩
  .exact⟨3,rfl,(),()⟩
 have ge:gEq (.int n) (.int 12)=some (.bl (zW (.int n) (.int 12))):=xM rfl rfl;obtain⟨c,rc,c12⟩:∃c:Nat,xz [.int (if 1+(ns.length:Int)<mm then 1+(ns.length:Int) else mm)]=.ok (zx 0 c)/\c<=12:=by
  refine⟨_,yi (by split<;>omega) (by split<;>omega),?_⟩
  split<;>omega
 have rn:xz [.int n]=.ok (zx 0 n):=by rw[yi () (),Int.toNat_natCast]
 have gl:wQ [.int n]=some (.lst (zx 0 n)):=by rw[gListRng_int () (),Int.toNat_natCast]
 obtain⟨sd1,e2,u3,u4,u5,u6,u7,hsd1⟩:=xc (tg:=.one 3) (b:=(zO (xy 4 (zt nW (zb (ze 0) (zb (ze 3) (zb (ze 1) (zb (ze 2) zn)))))) (zO (xy 5 (zt pi (zb (ze 2) (zb (ze 4) (zb (ze 1) zn))))) (zO (sV (iR1 (zb (ze 1) zn)) (.one 6) (sIf (sZ (z3 (zt nT (zb (ze 2) (zb (ze 4) (zb (ze 6) (zb (ze 5) zn))))))) (yS (dC (.bl false))) y9)) (zO (xy 7 (zt uh (zb (zt wZ (zb (ze 0) (zb (ze 3) zn))) (zb (dC (.int 151)) zn)))) (sIf (z3 (dOp gNe (zt pi (zb (ze 2) (zb (zt sY (zb (ze 4) (zb (yT wQ (zb (ze 1) zn)) (zb (ze 7) zn)))) (zb (ze 1) zn)))) (ze 5))) (yS (dC (.bl false))) y9)))))) (ds:=zx 0 c)
  (sd:=[some (.val (.scr ns)),some (.val (.int n)),some (.val (frD f)),none,none,none,none,none])
  (P:=λ_ sd=>∃u3 u4 u5 u6 u7:Option SV,sd=[some (.val (.scr ns)),some (.val (.int n)),some (.val (frD f)),u3,u4,u5,u6,u7]) ⟨none,none,none,none,none,rfl⟩ (by
   rintro i x sd hx ⟨u3,u4,u5,u6,u7,rfl⟩;obtain⟨rfl,hi⟩:=we hx;obtain⟨hs,fn,hl⟩:=f_z33 (ns:=ns) (st:=i) (n:=n) (f:=f) () n1 n12 G.ne (λr hr=>by have:=(G.rows r hr).len;omega) (λr hr=>(G.rows r hr).once);have o:=nZ G hl;have lk:=cg G hl n12;have fc:wZ [.scr ns,.int (i:Int)]=.ok (.int (uV ns i)):=gf ns i;have fu:=g7 (c:=uV ns i) (s:=151) () ();generalize kG (uV ns i) 151=more at fu;have fm:=f_law_movedA more hl n12;have lk2:=cg (hs:=rp hs more) G (by rw[movA_len];exact hl) n12;rw[look_movA o hl] at lk2;have ne:gNe (.lst (zU f hs n)) (.lst (zU f hs n))=some (.bl false):=by rw[pr jm jm,zC];rfl
   have one:∀t:Nat,t<n->nT [frD f,.lst (hs.map .int),.int t,.lst (zU f hs n)]=.ok (.bl true):=λt ht=>f_z36 G hl n12 ht;generalize zU f hs n=L at lk lk2 ne one;generalize (rp hs more).map D.int=q5 at fm lk2;generalize hs.map D.int=q3 at fn lk fm one;generalize D.lst (zx 0 n)=q6 at gl fm;obtain⟨sd2,e3,v6,hsd2⟩:=xc (tg:=.one 6) (b:=(sIf (sZ (z3 (zt nT (zb (ze 2) (zb (ze 4) (zb (ze 6) (zb (ze 5) zn))))))) (yS (dC (.bl false))) y9)) (ds:=zx 0 n)
    (sd:=[some (.val (.scr ns)),some (.val (.int n)),some (.val (frD f)),some (.val (.int (i:Int))),some (.val (.lst q3)),some (.val (.lst L)),u6,u7])
    (P:=λ_ sd=>∃v6:Option SV,sd=[some (.val (.scr ns)),some (.val (.int n)),some (.val (frD f)),some (.val (.int (i:Int))),some (.val (.lst q3)),some (.val (.lst L)),v6,u7]) ⟨u6,rfl⟩ (by
     rintro j y sd hy ⟨v6,rfl⟩;obtain⟨rfl,hj⟩:=we hy;refine⟨[some (.val (.scr ns)),some (.val (.int n)),some (.val (frD f)),some (.val (.int (i:Int))),some (.val (.lst q3)),some (.val (.lst L)),some (.val (.int (j:Int))),u7],?_,_,rfl⟩;simp[one j hj])
   subst hsd2;refine⟨[some (.val (.scr ns)),some (.val (.int n)),some (.val (frD f)),some (.val (.int (i:Int))),some (.val (.lst q3)),some (.val (.lst L)),v6,some (.val (.int more))],?_,_,_,_,_,_,rfl⟩;simp[fn,lk,rn,e3,fc,fu,gl,fm,lk2,ne])
 subst hsd1;simp[nA,g8,fc0,hn,ftu,ff,i0,ge,q1,rc,e2]
end My
namespace My
open PySem L2 L2.DL
noncomputable def top (i:Nat):Stmt:=PySem.Challenge.pw_allfirst_k35_whole_one_alone.main.body.getD i (.Pass ⟨0,0,0,0⟩)
structure Mg (mg:Ye):Prop where
 any_:mg "any" = none
 dict_:mg "dict" = none
 int_:mg "int" = none
 len_:mg "len" = none
 list_:mg "list" = none
 max_:mg "max" = none
 min_:mg "min" = none
 range_:mg "range" = none
 set_:mg "set" = none
 sorted_:mg "sorted" = none
 sum_:mg "sum" = none
 tuple_:mg "tuple" = none
section
variable {P:Program}{w:World}{K:W.Frag}{mg:Ye}{base:Heap}{f:Addr}{fd:FuncData}
abbrev eC:Stmt:=top 25
def sc_z18:FnScope ["script", "k"] ["script", "k"] (zi eC):=yq
def ok_z18 {k:Nat}(F:Fun K "_law_cell_at" "_law_cell_at" eC f fd)(m:Mg mg)  : FnOk P w K mg base CX0 (k+1) f fd ["script", "k"] (SpD K wZ):=by
 have sc:=sc_z18;refine pb (N:=["script", "k"]) (ps:=["script", "k"]) (g:=kU) F sc λcdv A outer s H E hr=>?_;unfold kU;exact(zf (yU (yd o_lt (zc (pv 1)) (yg (x:= "len") pR rfl m.len_ uK (za (zc (pv 0)) zd)) (zM _)) (zg (zI (yV (yB hr) (zc (pv 0)) (zc (pv 1)) (λ_ _=>rfl) (λ_ _=>rfl)))) zE) (zg (zI zk)))
abbrev dm:Stmt:=top 26
def sc_z19:FnScope ["cell", "salt", "mixed"] ["cell", "salt"] (zi dm):=yq
def ok_z19 {k:Nat}(F:Fun K "_law_mixed" "_law_mixed" dm f fd)(m:Mg mg)  : FnOk P w K mg base CX0 (k+1) f fd ["cell", "salt"] (SpD K uZ):=by
 have sc:=sc_z19;refine pb (N:=["cell", "salt", "mixed"]) (ps:=["cell", "salt"]) (g:=hV) F sc λcdv A outer s H E hr=>?_;unfold hV;exact(zf (zP (i:=2) sc.nd rfl (.inl rfl) (xa wq (xa hZ (xa ww (xa wq (zc (pv 0)) zk) (zc (pv 1))) zk) zk)) (zg (zI (xa wq (xa hZ (zc (pv 2)) (zc (pv 2))) zk))))
abbrev fU:Stmt:=top 28
def sc_z21:FnScope ["cell", "salt", "mixed", "size"] ["cell", "salt"] (zi fU):=yq
def ok_z21 {k:Nat}(F:Fun K "_law_number" "_law_number" fU f fd)(m:Mg mg)(c_z19:zp P w K mg base "_law_mixed" k ["cell", "salt"] (SpD K uZ)):FnOk P w K mg base CX0 (k+1) f fd ["cell", "salt"] (SpD K uh):=by
 have sc:=sc_z21;refine pb (N:=["cell", "salt", "mixed", "size"]) (ps:=["cell", "salt"]) (g:=ku) F sc λcdv A outer s H E hr=>?_;unfold ku;exact(zf (zP (i:=2) sc.nd rfl (.inl rfl) (wu c_z19 hr rfl (za (zc (pv 0)) (za (zc (pv 1)) zd)))) (zf (yU (yd eK (xa wq (zc (pv 2)) zk) zk (zM _)) (zg (zI (xa k7 (xa wq (xa rJ (zc (pv 2)) zk) zk) zk))) zE) (zf (zP (i:=3) sc.nd rfl (.inl rfl) (xa wq (xa hZ (xa rJ (zc (pv 0)) zk) (xa ww (zc (pv 1)) zk)) (xa o_pow zk zk))) (zf (yU (yd (oZ hr.units) (xa wq (xa rJ (zc (pv 2)) zk) zk) zk (zM _)) (zg (zI (zc (pv 3)))) zE) (zg (zI (bB dZ (zc (pv 3)))))))))
abbrev fZ:Stmt:=top 29
def sc_z22:FnScope ["cell", "things", "mask", "row", "thing"] ["cell", "things"] (zi fZ):=yq
def ok_z22 {k:Nat}(F:Fun K "_law_row" "_law_row" fZ f fd)(m:Mg mg)(c_z19:zp P w K mg base "_law_mixed" k ["cell", "salt"] (SpD K uZ))(c_z21:zp P w K mg base "_law_number" k ["cell", "salt"] (SpD K uh)):FnOk P w K mg base CX0 (k+1) f fd ["cell", "things"] (SpD K kZ):=by
 have sc:=sc_z22;refine pb (N:=["cell", "things", "mask", "row", "thing"]) (ps:=["cell", "things"]) (g:=iP) F sc λcdv A outer s H E hr=>?_;unfold iP;exact(zf (zP (i:=2) sc.nd rfl (.inl rfl) (wu c_z19 hr rfl (za (zc (pv 0)) (za zk zd)))) (zf (xK (i:=3) sc.nd rfl (.inl rfl) (xB zd)) (zf (yL PassesOwn.never rfl (yA rfl m.range_ (za (zc (pv 1)) zd)) (zJ (zK (i:=4) sc.nd rfl (.inl rfl))) (zf (yU (yd (oZ hr.units) (xa wq (zc (pv 2)) zk) zk (zM _)) (zg (yb (pv 3) (sI (za (zc (pv 4)) (za (wu c_z21 hr rfl (za (zc (pv 0)) (za (xa ww zk (zc (pv 4))) zd))) zd))) (λh1 h2=>vW Yv Yw Yx zY h1 h2))) zE) (zg (zP (i:=2) sc.nd rfl (.inl rfl) (xa rJ (zc (pv 2)) zk))))) (zf (yU (lO [3] (yd (oZ hr.units) (zc (pv 3)) (QN.qe (xB zd)) (zM _))) (zg (yb (pv 3) (sI (za (xa wq (zc (pv 0)) (zc (pv 1))) (za (wu c_z21 hr rfl (za (zc (pv 0)) (za zk zd))) zd))) (λh1 h2=>vW Yv Yw Yx zY h1 h2))) zE) (zg (oe [3] (zI (wc (x:= "tuple") sv rfl m.tuple_ vM (za (zc (pv 3)) zd)))))))))
abbrev dg:Stmt:=top 30
def sc_z23:FnScope ["row", "cell", "things", "waits", "other", "thing", "mixed"] ["row", "cell", "things"] (zi dg):=yq
def ok_z23 {k:Nat}(F:Fun K "_law_varied" "_law_varied" dg f fd)(m:Mg mg)(c_z19:zp P w K mg base "_law_mixed" k ["cell", "salt"] (SpD K uZ))(c_z21:zp P w K mg base "_law_number" k ["cell", "salt"] (SpD K uh)):FnOk P w K mg base CX0 (k+1) f fd ["row", "cell", "things"] (SpD K ik):=by
 have sc:=sc_z23;refine pb (N:=["row", "cell", "things", "waits", "other", "thing", "mixed"]) (ps:=["row", "cell", "things"]) (g:=gh) F sc λcdv A outer s H E hr=>?_;unfold gh
 exact(zf (zP (i:=3) sc.nd rfl (.inl rfl) (QN.qe (xL (x:= "dict") (rL rfl) rfl m.dict_ um (za (zc (pv 0)) zd)))) (zf (xK (i:=4) sc.nd rfl (.inl rfl) (xB zd)) (zf (yL PassesOwn.never rfl (yA rfl m.range_ (za (zc (pv 2)) zd)) (zJ (zK (i:=5) sc.nd rfl (.inl rfl))) (zf (zP (i:=6) sc.nd rfl (.inl rfl) (wu c_z19 hr rfl (za (zc (pv 1)) (za (xa ww zk (zc (pv 5))) zd)))) (zf (yU (QW.qt (qk (qt_in hr.units (zc (pv 5)) (zc (pv 3))) (uq (yd eK (xa wq (zc (pv 6)) zk) zk (zM _))))) (zg (yb (pv 4) (sI (za (zc (pv 5)) (za (xa ww (yV (yB hr) (zc (pv 3)) (zc (pv 5)) (λ_ _=>rfl) (λ_ _=>rfl)) (yV (yB hr) (QN.qe (xB (za zk (za zk (za zk (za (bB dZ zk) zd)))))) (xa wq (xa rJ (zc (pv 6)) zk) zk) (λ_ _=>rfl) (λ_ _=>rfl))) zd))) (λh1 h2=>vW Yv Yw Yx zY h1 h2))) zE) (zg (yU (QW.qt (qk (vO hr.units (zc (pv 5)) (zc (pv 3))) (uq (yd (oZ hr.units) (xa wq (zc (pv 6)) zk) zk (zM _))))) (zg (yb (pv 4) (sI (za (zc (pv 5)) (za (wu c_z21 hr rfl (za (zc (pv 1)) (za (xa ww zk (zc (pv 5))) zd))) zd))) (λh1 h2=>vW Yv Yw Yx zY h1 h2))) zE))))) (zf (yU (lO [4] (yd (oZ hr.units) (zc (pv 4)) (QN.qe (xB zd)) (zM _))) (zg (zI (zc (pv 0)))) zE) (zg (oe [4] (zI (wc (x:= "tuple") sv rfl m.tuple_ vM (za (zc (pv 4)) zd)))))))))
abbrev eM:Stmt:=top 31
def sc_z24:FnScope ["cells", "things", "rows", "cell"] ["cells", "things"] (zi eM):=yq
def ok_z24 {k:Nat}(F:Fun K "_law_list" "_law_list" eM f fd)(m:Mg mg)(c_z22:zp P w K mg base "_law_row" k ["cell", "things"] (SpD K kZ))(c_z23:zp P w K mg base "_law_varied" k ["row", "cell", "things"] (SpD K ik)):FnOk P w K mg base CX0 (k+1) f fd ["cells", "things"] (SpN K jZ):=by
 have sc:=sc_z24;refine mF (N:=["cells", "things", "rows", "cell"]) (ps:=["cells", "things"]) (g:=gb) F sc λcdv A outer s H E hr=>?_;unfold gb;exact(zf (xK (i:=2) sc.nd rfl (.inl rfl) (xB zd)) (zf (yL PassesOwn.never rfl (zQ (zc (pv 0))) (zJ (zK (i:=3) sc.nd rfl (.inl rfl))) (zg (yU (QW.qt (qk (lO [2] (yd (du hr.units) (zc (pv 2)) (QN.qe (xB zd)) (zM _))) (uq (yd eK (xa wq (zc (pv 3)) zk) zk (zM _))))) (zg (yb (pv 2) (wu c_z23 hr rfl (za (kI (yB hr) (pv 2) (xa wq (xa rJ (zc (pv 3)) zk) (kw [2] (yg (x:= "len") pR rfl m.len_ uK (za (zc (pv 2)) zd)))) (λ_ _=>rfl) (λ_ _=>rfl)) (za (zc (pv 3)) (za (zc (pv 1)) zd)))) (λh1 h2=>vW Yv Yw Yx zY h1 h2))) (zg (yb (pv 2) (wu c_z22 hr rfl (za (zc (pv 3)) (za (zc (pv 1)) zd))) (λh1 h2=>vW Yv Yw Yx zY h1 h2)))))) (zg (xJ (pv 2)))))
abbrev ez:Stmt:=top 32
def sc_z25:FnScope ["row", "other", "waits", "pair"] ["row", "other"] (zi ez):=yq
def ok_z25 {k:Nat}(F:Fun K "_law_beneath" "_law_beneath" ez f fd)(m:Mg mg)  : FnOk P w K mg base CX0 (k+1) f fd ["row", "other"] (SpD K ke):=by
 have sc:=sc_z25;refine pb (N:=["row", "other", "waits", "pair"]) (ps:=["row", "other"]) (g:=gu) F sc λcdv A outer s H E hr=>?_;unfold gu;exact(zf (zP (i:=2) sc.nd rfl (.inl rfl) (QN.qe (xL (x:= "dict") (rL rfl) rfl m.dict_ um (za (zc (pv 1)) zd)))) (zf (yL PassesOwn.never rfl (zQ (zc (pv 0))) (zJ (zK (i:=3) sc.nd rfl (.inl rfl))) (zg (yU (QW.qt (de (vO hr.units (yV (yB hr) (zc (pv 3)) zk (λ_ _=>rfl) (λ_ _=>rfl)) (zc (pv 2))) (jT (yd eK (yV (yB hr) (zc (pv 3)) zk (λ_ _=>rfl) (λ_ _=>rfl)) (yV (yB hr) (zc (pv 2)) (yV (yB hr) (zc (pv 3)) zk (λ_ _=>rfl) (λ_ _=>rfl)) (λ_ _=>rfl) (λ_ _=>rfl)) (zM _))))) (zg (zI uY)) zE))) (zg (zI uY))))
abbrev eU:Stmt:=top 33
def sc_z26:FnScope ["rows", "least", "row", "beneath"] ["rows"] (zi eU):=yq
def ok_z26 {k:Nat}(F:Fun K "_law_thin" "_law_thin" eU f fd)(m:Mg mg)(c_z25:zp P w K mg base "_law_beneath" k ["row", "other"] (SpD K ke)):FnOk P w K mg base CX0 (k+1) f fd ["rows"] (SpN K jc):=by
 have sc:=sc_z26;refine mF (N:=["rows", "least", "row", "beneath"]) (ps:=["rows"]) (g:=gr) F sc λcdv A outer s H E hr=>?_;unfold gr;exact(zf (xK (i:=1) sc.nd rfl (.inl rfl) (xB zd)) (zf (yL PassesOwn.never rfl (zQ (zc (pv 0))) (zJ (zK (i:=2) sc.nd rfl (.inr rfl))) (zf (wM ["one", "row"] [none,some 2] sc.nd rfl (.inl rfl) rfl rfl (zQ (zc (pv 0))) (λ_ _ _ _ _=>(zJ (pgn 0 (xk ["one", "row"])))) (λ_ _ _ _ _=>(QW.qt (qk (yd (du hr.units) (zc (pv 0)) (zc (pv 1)) (zM _)) (uq (uR (wu c_z25 hr rfl (za (zc (pv 0)) (za (zc (pv 1)) zd)))))))) (λ_ _ _ _ _=>(zc (pv 0)))) (zg (yU (QW.qt (qk (yd (oZ hr.units) (zc (pv 3)) (QN.qe (xB zd)) (zM _)) (uq (lO [1] (vO hr.units (zc (pv 2)) (zc (pv 1))))))) (zg (yb (pv 1) (zc (pv 2)) (λh1 h2=>vW Yv Yw Yx zY h1 h2))) zE)))) (zg (oe [1] (x9 (qP (x:= "sorted") (ul hr.units) rfl m.sorted_ wG (za (zc (pv 1)) zd)))))))
abbrev eR:Stmt:=top 34
def sc_z27:FnScope ["cells", "many", "things", "rows", "forms", "k"] ["cells", "many", "things"] (zi eR):=yq
def ok_z27 {k:Nat}(F:Fun K "_law_forms" "_law_forms" eR f fd)(m:Mg mg)(c_z24:zp P w K mg base "_law_list" k ["cells", "things"] (SpN K jZ))(c_z26:zp P w K mg base "_law_thin" k ["rows"] (SpN K jc)):FnOk P w K mg base CX0 (k+1) f fd ["cells", "many", "things"] (SpN K ka):=by
 have sc:=sc_z27;refine mF (N:=["cells", "many", "things", "rows", "forms", "k"]) (ps:=["cells", "many", "things"]) (g:=iV) F sc λcdv A outer s H E hr=>?_;unfold iV;exact(zf (zP (i:=3) sc.nd rfl (.inl rfl) (QN.qe (vt c_z24 hr rfl (za (zc (pv 0)) (za (zc (pv 2)) zd))))) (zf (xK (i:=4) sc.nd rfl (.inl rfl) (xB zd)) (zf (yL PassesOwn.never rfl (yA rfl m.range_ (za (zc (pv 1)) zd)) (zJ (zK (i:=5) sc.nd rfl (.inl rfl))) (zf (yb (pv 4) (QN.qe (vt c_z26 hr rfl (za (QN.qe (nP (zc (pv 3)) (tO (zc (pv 5))) qu (tO (zc (pv 1))))) zd))) (λh1 h2=>vW Yv Yw Yx zY h1 h2)) (zg (yU (yd (oZ hr.units) (kI (yB hr) (pv 4) (zc (pv 5)) (λ_ _=>rfl) (λ_ _=>rfl)) (QN.qe (xB zd)) (zM _)) (zg (qs_lput (pv 4) (zc (pv 5)) (QN.qe (xB (za (sI (za (sI (za (xa wq (zc (pv 5)) (zc (pv 2))) (za zk zd))) zd)) zd))))) zE)))) (zg (xJ (pv 4))))))
abbrev cZ:Stmt:=top 5
def sc_z1:FnScope ["row", "waits", "thing", "wait"] ["row", "waits"] (zi cZ):=yq
def ok_z1 {k:Nat}(F:Fun K "fits_in" "fits_in" cZ f fd)(m:Mg mg)  : FnOk P w K mg base CX0 (k+1) f fd ["row", "waits"] (SpD K cm):=by
 have sc:=sc_z1;refine pb (N:=["row", "waits", "thing", "wait"]) (ps:=["row", "waits"]) (g:=c0) F sc λcdv A outer s H E hr=>?_;unfold c0;exact(zf (yL PassesOwn.never rfl (zQ (zc (pv 0))) (sS [2,3] (tF rfl (ym (zK (i:=2) sc.nd rfl (.inl rfl)) (ym (zK (i:=3) sc.nd rfl (.inl rfl)) v0)))) (zg (yU (QW.qt (de (vO hr.units (zc (pv 2)) (zc (pv 1))) (jT (yd eK (zc (pv 3)) (yV (yB hr) (zc (pv 1)) (zc (pv 2)) (λ_ _=>rfl) (λ_ _=>rfl)) (zM _))))) (zg (zI uY)) zE))) (zg (zI uY)))
abbrev bh:Stmt:=top 9
def sc_z5:FnScope ["row", "kept", "waits", "other"] ["row", "kept"] (zi bh):=yq
def ok_z5 {k:Nat}(F:Fun K "is_covered" "is_covered" bh f fd)(m:Mg mg)(c_z1:zp P w K mg base "fits_in" k ["row", "waits"] (SpD K cm)):FnOk P w K mg base CX0 (k+1) f fd ["row", "kept"] (SpD K oY):=by
 have sc:=sc_z5;refine pb (N:=["row", "kept", "waits", "other"]) (ps:=["row", "kept"]) (g:=cH) F sc λcdv A outer s H E hr=>?_;unfold cH;exact(zf (zP (i:=2) sc.nd rfl (.inl rfl) (QN.qe (xL (x:= "dict") (rL rfl) rfl m.dict_ um (za (zc (pv 0)) zd)))) (zf (yL PassesOwn.never rfl (zQ (zc (pv 1))) (zJ (zK (i:=3) sc.nd rfl (.inl rfl))) (zg (yU (uR (wu c_z1 hr rfl (za (zc (pv 3)) (za (zc (pv 2)) zd)))) (zg (zI uY)) zE))) (zg (zI uY))))
abbrev bb:Stmt:=top 6
def sc_z2:FnScope ["row", "other", "waits", "thing", "wait"] ["row", "other"] (zi bb):=yq
def ok_z2 {k:Nat}(F:Fun K "joined" "joined" bb f fd)(m:Mg mg)  : FnOk P w K mg base CX0 (k+1) f fd ["row", "other"] (SpD K eD):=by
 have sc:=sc_z2;refine pb (N:=["row", "other", "waits", "thing", "wait"]) (ps:=["row", "other"]) (g:=cE) F sc λcdv A outer s H E hr=>?_;unfold cE;exact(zf (xK (i:=2) sc.nd rfl (.inl rfl) (xL (x:= "dict") (rL rfl) rfl m.dict_ um (za (zc (pv 0)) zd))) (zf (yL PassesOwn.never rfl (zQ (zc (pv 1))) (sS [3,4] (tF rfl (ym (zK (i:=3) sc.nd rfl (.inl rfl)) (ym (zK (i:=4) sc.nd rfl (.inl rfl)) v0)))) (zg (qs_dput (yB hr) (pv 2) (zc (pv 3)) (yg (x:= "max") (gM rfl) rfl m.max_ lK (za (zc (pv 4)) (za (kw [2] (fA (yB hr) (zc (pv 2)) (zc (pv 3)) (zc (pv 4)) ⟨rfl,rfl,rfl,rfl⟩)) zd)))))) (zg (oe [2] (zI (wc (x:= "tuple") sv rfl m.tuple_ vM (za (q_sortItems (λh=>t7 (call_sortedItems rfl) rfl m.sorted_ wG (sK (pe_bm0 PySem.F.plainAttrs_dict PySem.F.slot_dict_items PySem.F.type_dict_items mt_items h) o8)) (zc (pv 2))) zd)))))))
abbrev cR:Stmt:=top 13
def sc_z8:FnScope ["form", "other", "rows", "rest", "row"] ["form", "other"] (zi cR):=yq
def ok_z8 {k:Nat}(F:Fun K "each_joined" "each_joined" cR f fd)(m:Mg mg)(c_z5:zp P w K mg base "is_covered" k ["row", "kept"] (SpD K oY))(c_z2:zp P w K mg base "joined" k ["row", "other"] (SpD K eD)):FnOk P w K mg base CX0 (k+1) f fd ["form", "other"] (SpN K dy):=by
 have sc:=sc_z8;refine mF (N:=["form", "other", "rows", "rest", "row"]) (ps:=["form", "other"]) (g:=cA) F sc λcdv A outer s H E hr=>?_;unfold cA;exact(zf (xK (i:=2) sc.nd rfl (.inl rfl) (q_opN o_addL (QN.qe (tw ["row", "other"] [none,some 1] rfl rfl (zQ (zc (pv 0))) (λ_ _ _ _ _=>(zJ (pgn 0 (xk ["row", "other"])))) (λ_ _ _ _ _=>(uR (wu c_z5 hr rfl (za (zc (pv 0)) (za (zc (pv 1)) zd))))) (λ_ _ _ _ _=>(zc (pv 0))))) (QN.qe (tw ["row", "form"] [none,some 0] rfl rfl (zQ (zc (pv 1))) (λ_ _ _ _ _=>(zJ (pgn 0 (xk ["row", "form"])))) (λ_ _ _ _ _=>(uR (wu c_z5 hr rfl (za (zc (pv 0)) (za (zc (pv 1)) zd))))) (λ_ _ _ _ _=>(zc (pv 0))))))) (zf (wM ["row", "form"] [none,some 0] sc.nd rfl (.inl rfl) rfl rfl (zQ (zc (pv 1))) (λ_ _ _ _ _=>(zJ (pgn 0 (xk ["row", "form"])))) (λ_ _ _ _ _=>(lS (uR (wu c_z5 hr rfl (za (zc (pv 0)) (za (zc (pv 1)) zd)))))) (λ_ _ _ _ _=>(zc (pv 0)))) (zf (yL PassesOwn.never rfl (zQ (zc (pv 0))) (zJ (zK (i:=4) sc.nd rfl (.inr rfl))) (zg (yU (lS (uR (wu c_z5 hr rfl (za (zc (pv 4)) (za (zc (pv 1)) zd))))) (zg (qs_extend (pv 2) (wD ["other_row", "row"] [none,some 4] rfl rfl (zQ (zc (pv 3))) (λ_ _ _ _ _=>(zJ (pgn 0 (xk ["other_row", "row"])))) (λ_ _ _ _ _=>(wu c_z2 hr rfl (za (zc (pv 1)) (za (zc (pv 0)) zd))))) (λh1 h2=>vW Yv PySem.F.slot_list_extend PySem.F.type_list_extend mt_extend h1 h2))) zE))) (zg (xJ (pv 2))))))
abbrev bi:Stmt:=top 8
def sc_z4:FnScope ["rows", "enough", "kept", "row"] ["rows", "enough"] (zi bi):=yq
def ok_z4 {k:Nat}(F:Fun K "lowest" "lowest" bi f fd)(m:Mg mg)(c_z5:zp P w K mg base "is_covered" k ["row", "kept"] (SpD K oY)):FnOk P w K mg base CX0 (k+1) f fd ["rows", "enough"] (SpN K fF):=by
 have sc:=sc_z4;refine mF (N:=["rows", "enough", "kept", "row"]) (ps:=["rows", "enough"]) (g:=cK) F sc λcdv A outer s H E hr=>?_;unfold cK;exact(zf (xK (i:=2) sc.nd rfl (.inl rfl) (xB zd)) (zf (yL PassesOwn.never rfl (zQ (QN.qe (q_sortLen (λh=>L2.ST.pe_sortLen rfl m.sorted_ rfl m.len_ h) (za (QN.qe (q_sortSet (λh=>t7 (L2.ST.call_sortedSet rfl hr.units) rfl m.sorted_ wG (sK (wE (L2.ST.call_setRows rfl hr.units) rfl m.set_ L2.bt_set h) o8)) (za (zc (pv 0)) zd))) zd)))) (zJ (zK (i:=3) sc.nd rfl (.inl rfl))) (zf (yU (yd (oZ hr.units) (kw [2] (yg (x:= "len") pR rfl m.len_ uK (za (zc (pv 2)) zd))) (zc (pv 1)) (zM _)) (zg qs_break) zE) (zg (yU (lS (uR (kw [2] (wu c_z5 hr rfl (za (zc (pv 3)) (za (zc (pv 2)) zd)))))) (zg (yb (pv 2) (zc (pv 3)) (λh1 h2=>vW Yv Yw Yx zY h1 h2))) zE)))) (zg (xJ (pv 2)))))
abbrev cN:Stmt:=top 14
def sc_z9:FnScope ["rows", "most", "kept"] ["rows", "most"] (zi cN):=yq
def ok_z9 {k:Nat}(F:Fun K "form_within" "form_within" cN f fd)(m:Mg mg)(c_z4:zp P w K mg base "lowest" k ["rows", "enough"] (SpN K fF)){C_TooMany:Addr}(x_TooMany:Exc K mg "TooMany" C_TooMany):FnOk P w K mg base (CXE P w) (k+1) f fd ["rows", "most"] (iH K kD):=by
 have sc:=sc_z9;refine cp (N:=["rows", "most", "kept"]) (ps:=["rows", "most"]) (g:=dM) F sc λcdv A outer s H E hr=>?_;unfold dM;exact(zf (zP (i:=2) sc.nd rfl (.inl rfl) (QN.qe (oE c_z4 hr rfl (za (zc (pv 0)) (za (xa ww (zc (pv 1)) zk) zd))))) (zf (yU (yd eK (yg (x:= "len") pR rfl m.len_ uK (za (zc (pv 2)) zd)) (zc (pv 1)) (zM _)) (zg (qs_raise raises_def x_TooMany rfl rfl (q_fmt (by decide) (zc (pv 1))))) zE) (zg (x9 (qP (x:= "sorted") (ul hr.units) rfl m.sorted_ wG (za (zc (pv 2)) zd))))))
abbrev ba:Stmt:=top 12
def sc_z7:FnScope ["forms", "most", "told", "form"] ["forms", "most"] (zi ba):=yq
def ok_z7 {k:Nat}(F:Fun K "all_of" "all_of" ba f fd)(m:Mg mg)(c_z8:zp P w K mg base "each_joined" k ["form", "other"] (SpN K dy))(c_z9:yu P w K mg base "form_within" k ["rows", "most"] (iH K kD)):FnOk P w K mg base (CXE P w) (k+1) f fd ["forms", "most"] (iQ K gw):=by
 have sc:=sc_z7;refine fn_dX (N:=["forms", "most", "told", "form"]) (ps:=["forms", "most"]) (g:=dQ) F sc λcdv A outer s H E hr=>?_;unfold dQ;exact(zf (zP (i:=2) sc.nd rfl (.inl rfl) (QN.qe (gJ c_z9 uE hr rfl (za (yV (yB hr) (zc (pv 0)) zk (λ_ _=>rfl) (λ_ _=>rfl)) (za (zc (pv 1)) zd))))) (zf (yL passes_def rfl (zQ (QN.qe (nP (zc (pv 0)) (tO zk) qu qu))) (zJ (zK (i:=3) sc.nd rfl (.inl rfl))) (zg (zP (i:=2) sc.nd rfl (.inl rfl) (QN.qe (gJ c_z9 uE hr rfl (za (QN.qe (oE c_z8 hr rfl (za (zc (pv 2)) (za (zc (pv 3)) zd)))) (za (zc (pv 1)) zd))))))) (zg (zI (zc (pv 2))))))
abbrev cS:Stmt:=top 4
def sc_z0:FnScope ["row", "hours"] ["row", "hours"] (zi cS):=yq
def ok_z0 {k:Nat}(F:Fun K "row_hour" "row_hour" cS f fd)(m:Mg mg)  : FnOk P w K mg base CX0 (k+1) f fd ["row", "hours"] (SpD K nO):=by
 have sc:=sc_z0;refine pb (N:=["row", "hours"]) (ps:=["row", "hours"]) (g:=dW) F sc λcdv A outer s H E hr=>?_;unfold dW;exact(zg (zI (yg (x:= "max") (f7 rfl) rfl m.max_ lK (za (QN.qe (wD ["thing", "wait", "hours"] [none,none,some 1] rfl rfl (zQ (zc (pv 0))) (λ_ _ _ _ _=>(sS [0,1] (tF rfl (ym (pgn 0 (xk ["thing", "wait", "hours"])) (ym (pgn 1 (xk ["thing", "wait", "hours"])) v0))))) (λ_ _ _ _ _=>(xa ww (yV (yB hr) (zc (pv 2)) (zc (pv 0)) (λ_ _=>rfl) (λ_ _=>rfl)) (zc (pv 1)))))) zd))))
abbrev cX:Stmt:=top 11
def sc_z6:FnScope ["form", "hours"] ["form", "hours"] (zi cX):=yq
def ok_z6 {k:Nat}(F:Fun K "form_hour" "form_hour" cX f fd)(m:Mg mg)(c_z0:zp P w K mg base "row_hour" k ["row", "hours"] (SpD K nO)):FnOk P w K mg base CX0 (k+1) f fd ["form", "hours"] (SpD K jH):=by
 have sc:=sc_z6;refine pb (N:=["form", "hours"]) (ps:=["form", "hours"]) (g:=c8) F sc λcdv A outer s H E hr=>?_;unfold c8;exact(zg (zI (yg (x:= "min") (jF rfl) rfl m.min_ oU (za (QN.qe (wD ["row", "hours"] [none,some 1] rfl rfl (zQ (zc (pv 0))) (λ_ _ _ _ _=>(zJ (pgn 0 (xk ["row", "hours"])))) (λ_ _ _ _ _=>(wu c_z0 hr rfl (za (zc (pv 0)) (za (zc (pv 1)) zd)))))) zd))))
abbrev eJ:Stmt:=top 20
def sc_z14:FnScope ["form", "hours", "hour"] ["form", "hours"] (zi eJ):=yq
def ok_z14 {k:Nat}(F:Fun K "first_done" "first_done" eJ f fd)(m:Mg mg)(c_z6:zp P w K mg base "form_hour" k ["form", "hours"] (SpD K jH))(c_z0:zp P w K mg base "row_hour" k ["row", "hours"] (SpD K nO)):FnOk P w K mg base CX0 (k+1) f fd ["form", "hours"] (SpN K rm):=by
 have sc:=sc_z14;refine mF (N:=["form", "hours", "hour"]) (ps:=["form", "hours"]) (g:=hX) F sc λcdv A outer s H E hr=>?_;unfold hX;exact(zf (zP (i:=2) sc.nd rfl (.inr rfl) (wu c_z6 hr rfl (za (zc (pv 0)) (za (zc (pv 1)) zd)))) (zg (x9 (tw ["row", "hours", "hour"] [none,some 1,some 2] rfl rfl (zQ (zc (pv 0))) (λ_ _ _ _ _=>(zJ (pgn 0 (xk ["row", "hours", "hour"])))) (λ_ _ _ _ _=>(yd (oZ hr.units) (wu c_z0 hr rfl (za (zc (pv 0)) (za (zc (pv 1)) zd))) (zc (pv 2)) (zM _))) (λ_ _ _ _ _=>(zc (pv 0)))))))
abbrev dh:Stmt:=top 21
def sc_z15:FnScope ["row", "hours", "hour"] ["row", "hours"] (zi dh):=yq
def ok_z15 {k:Nat}(F:Fun K "last_things" "last_things" dh f fd)(m:Mg mg)(c_z0:zp P w K mg base "row_hour" k ["row", "hours"] (SpD K nO)):FnOk P w K mg base CX0 (k+1) f fd ["row", "hours"] (SpN K kc):=by
 have sc:=sc_z15;refine mF (N:=["row", "hours", "hour"]) (ps:=["row", "hours"]) (g:=gv) F sc λcdv A outer s H E hr=>?_;unfold gv;exact(zf (zP (i:=2) sc.nd rfl (.inr rfl) (wu c_z0 hr rfl (za (zc (pv 0)) (za (zc (pv 1)) zd)))) (zg (x9 (tw ["thing", "wait", "hours", "hour"] [none,none,some 1,some 2] rfl rfl (zQ (zc (pv 0))) (λ_ _ _ _ _=>(sS [0,1] (tF rfl (ym (pgn 0 (xk ["thing", "wait", "hours", "hour"])) (ym (pgn 1 (xk ["thing", "wait", "hours", "hour"])) v0))))) (λ_ _ _ _ _=>(yd (oZ hr.units) (xa ww (yV (yB hr) (zc (pv 2)) (zc (pv 0)) (λ_ _=>rfl) (λ_ _=>rfl)) (zc (pv 1))) (zc (pv 3)) (zM _))) (λ_ _ _ _ _=>(sI (za (sI (za (zc (pv 0)) (za zk zd))) zd)))))))
abbrev ee:Stmt:=top 22
def sc_z16:FnScope ["rows"] ["rows"] (zi ee):=yq
def ok_z16 {k:Nat}(F:Fun K "things_of_each" "things_of_each" ee f fd)(m:Mg mg)  : FnOk P w K mg base CX0 (k+1) f fd ["rows"] (SpN K nt):=by
 have sc:=sc_z16;refine mF (N:=["rows"]) (ps:=["rows"]) (g:=gB) F sc λcdv A outer s H E hr=>?_;unfold gB;exact(zg (x9 (wD ["row"] [none] rfl rfl (zQ (zc (pv 0))) (λ_ _ _ _ _=>(zJ (pgn 0 (xk ["row"])))) (λ_ _ _ _ _=>(wc (x:= "tuple") sv rfl m.tuple_ vM (za (QN.qe (wD ["thing", "wait"] [none,none] rfl rfl (zQ (zc (pv 0))) (λ_ _ _ _ _=>(sS [0,1] (tF rfl (ym (pgn 0 (xk ["thing", "wait"])) (ym (pgn 1 (xk ["thing", "wait"])) v0))))) (λ_ _ _ _ _=>(zc (pv 0))))) zd))))))
abbrev ef:Stmt:=top 19
def sc_z13:FnScope ["form", "hours", "most", "lasts"] ["form", "hours", "most"] (zi ef):=yq
def ok_z13 {k:Nat}(F:Fun K "holders" "holders" ef f fd)(m:Mg mg)(c_z7:yu P w K mg base "all_of" k ["forms", "most"] (iQ K gw))(c_z14:zp P w K mg base "first_done" k ["form", "hours"] (SpN K rm))(c_z15:zp P w K mg base "last_things" k ["row", "hours"] (SpN K kc))(c_z16:zp P w K mg base "things_of_each" k ["rows"] (SpN K nt)):FnOk P w K mg base (CXE P w) (k+1) f fd ["form", "hours", "most"] (iH K oQ):=by
 have sc:=sc_z13;refine cp (N:=["form", "hours", "most", "lasts"]) (ps:=["form", "hours", "most"]) (g:=i9) F sc λcdv A outer s H E hr=>?_;unfold i9;exact(zf (rY ["row", "hours"] [none,some 1] sc.nd rfl (.inl rfl) rfl rfl (zQ (QN.qe (oE c_z14 hr rfl (za (zc (pv 0)) (za (zc (pv 1)) zd))))) (λ_ _ _ _ _=>(zJ (pgn 0 (xk ["row", "hours"])))) (λ_ _ _ _ _=>(QN.qe (oE c_z15 hr rfl (za (zc (pv 0)) (za (zc (pv 1)) zd)))))) (zg (x9 (oE c_z16 hr rfl (za (q_fnX c_z7 uE hr rfl (za (zc (pv 3)) (za (zc (pv 2)) zd))) zd)))))
abbrev df:Stmt:=top 41
def sc_z34:FnScope ["form", "hours", "found"] ["form", "hours"] (zi df):=yq
def ok_z34 {k:Nat}(F:Fun K "_law_held" "_law_held" df f fd)(m:Mg mg)(c_z13:yu P w K mg base "holders" k ["form", "hours", "most"] (iH K oQ)){C_TooMany:Addr}(x_TooMany:Exc K mg "TooMany" C_TooMany):FnOk P w K mg base CX0 (k+1) f fd ["form", "hours"] (SpD K k9):=by
 have sc:=sc_z34;refine pb (N:=["form", "hours", "found"]) (ps:=["form", "hours"]) (g:=iI) F sc λcdv A outer s H E hr=>?_;unfold iI;exact(zf (zP (i:=2) sc.nd rfl (.inl rfl) pI) (zf (qs_try (i:=2) rfl rfl sc.nd rfl (.inl rfl) (yu.d c_z13) hr rfl (za (zc (pv 0)) (za (zc (pv 1)) (za zk zd))) x_TooMany rfl (λ_=>(zg (zP (i:=2) sc.nd rfl (.inl rfl) pI)))) (zg (zI (zc (pv 2))))))
abbrev fR:Stmt:=top 17
def sc_z11:FnScope ["form", "hours", "thing", "ends", "row", "rest"] ["form", "hours", "thing"] (zi fR):=yq
def ok_z11 {k:Nat}(F:Fun K "gain" "gain" fR f fd)(m:Mg mg)(c_z6:zp P w K mg base "form_hour" k ["form", "hours"] (SpD K jH))(c_z0:zp P w K mg base "row_hour" k ["row", "hours"] (SpD K nO)):FnOk P w K mg base CX0 (k+1) f fd ["form", "hours", "thing"] (SpD K qS):=by
 have sc:=sc_z11;refine pb (N:=["form", "hours", "thing", "ends", "row", "rest"]) (ps:=["form", "hours", "thing"]) (g:=iR) F sc λcdv A outer s H E hr=>?_;unfold iR;exact(zf (xK (i:=3) sc.nd rfl (.inl rfl) (xB zd)) (zf (yL PassesOwn.never rfl (zQ (zc (pv 0))) (zJ (zK (i:=4) sc.nd rfl (.inl rfl))) (zf (wM ["pair", "thing"] [none,some 2] sc.nd rfl (.inl rfl) rfl rfl (zQ (zc (pv 4))) (λ_ _ _ _ _=>(zJ (pgn 0 (xk ["pair", "thing"])))) (λ_ _ _ _ _=>(yd (du hr.units) (yV (yB hr) (zc (pv 0)) zk (λ_ _=>rfl) (λ_ _=>rfl)) (zc (pv 1)) (zM _))) (λ_ _ _ _ _=>(zc (pv 0)))) (zf (yU (yd (oZ hr.units) (zc (pv 5)) (QN.qe (xB zd)) (zM _)) (zg (zI pI)) zE) (zg (yb (pv 3) (wu c_z0 hr rfl (za (zc (pv 5)) (za (zc (pv 1)) zd))) (λh1 h2=>vW Yv Yw Yx zY h1 h2)))))) (zg (zI (xa k7 (wu c_z6 hr rfl (za (zc (pv 0)) (za (zc (pv 1)) zd))) (kw [3] (yg (x:= "min") (jF rfl) rfl m.min_ oU (za (zc (pv 3)) zd))))))))
abbrev eZ:Stmt:=top 16
def sc_z10:FnScope ["form", "hours", "thing", "hour", "slacks", "row", "waits"] ["form", "hours", "thing"] (zi eZ):=yq
def ok_z10 {k:Nat}(F:Fun K "slack" "slack" eZ f fd)(m:Mg mg)(c_z14:zp P w K mg base "first_done" k ["form", "hours"] (SpN K rm))(c_z6:zp P w K mg base "form_hour" k ["form", "hours"] (SpD K jH)):FnOk P w K mg base CX0 (k+1) f fd ["form", "hours", "thing"] (SpD K uX):=by
 have sc:=sc_z10;refine pb (N:=["form", "hours", "thing", "hour", "slacks", "row", "waits"]) (ps:=["form", "hours", "thing"]) (g:=iU) F sc λcdv A outer s H E hr=>?_;unfold iU;exact(zf (zP (i:=3) sc.nd rfl (.inl rfl) (wu c_z6 hr rfl (za (zc (pv 0)) (za (zc (pv 1)) zd)))) (zf (xK (i:=4) sc.nd rfl (.inl rfl) (xB zd)) (zf (yL PassesOwn.never rfl (zQ (QN.qe (vt c_z14 hr rfl (za (zc (pv 0)) (za (zc (pv 1)) zd))))) (zJ (zK (i:=5) sc.nd rfl (.inl rfl))) (zf (zP (i:=6) sc.nd rfl (.inl rfl) (QN.qe (xL (x:= "dict") (rL rfl) rfl m.dict_ um (za (zc (pv 5)) zd)))) (zf (yU (vO hr.units (zc (pv 2)) (zc (pv 6))) (zg (zI pI)) zE) (zg (yb (pv 4) (xa k7 (xa k7 (zc (pv 3)) (yV (yB hr) (zc (pv 1)) (zc (pv 2)) (λ_ _=>rfl) (λ_ _=>rfl))) (yV (yB hr) (zc (pv 6)) (zc (pv 2)) (λ_ _=>rfl) (λ_ _=>rfl))) (λh1 h2=>vW Yv Yw Yx zY h1 h2)))))) (zg (zI (kw [4] (yg (x:= "max") (f7 rfl) rfl m.max_ lK (za (zc (pv 4)) zd))))))))
abbrev cM:Stmt:=top 7
def sc_z3:FnScope ["rows"] ["rows"] (zi cM):=yq
def ok_z3 {k:Nat}(F:Fun K "thinned" "thinned" cM f fd)(m:Mg mg)(c_z4:zp P w K mg base "lowest" k ["rows", "enough"] (SpN K fF)):FnOk P w K mg base CX0 (k+1) f fd ["rows"] (SpN K cx):=by
 have sc:=sc_z3;refine mF (N:=["rows"]) (ps:=["rows"]) (g:=c7) F sc λcdv A outer s H E hr=>?_;unfold c7;exact(zg (x9 (qP (x:= "sorted") (ul hr.units) rfl m.sorted_ wG (za (QN.qe (vt c_z4 hr rfl (za (zc (pv 0)) (za (yg (x:= "len") pR rfl m.len_ uK (za (zc (pv 0)) zd)) zd)))) zd))))
abbrev eX:Stmt:=top 18
def sc_z12:FnScope ["form", "hours", "bare"] ["form", "hours"] (zi eX):=yq
def ok_z12 {k:Nat}(F:Fun K "ways" "ways" eX f fd)(m:Mg mg)(c_z14:zp P w K mg base "first_done" k ["form", "hours"] (SpN K rm))(c_z16:zp P w K mg base "things_of_each" k ["rows"] (SpN K nt))(c_z3:zp P w K mg base "thinned" k ["rows"] (SpN K cx)):FnOk P w K mg base CX0 (k+1) f fd ["form", "hours"] (SpN K iE):=by
 have sc:=sc_z12;refine mF (N:=["form", "hours", "bare"]) (ps:=["form", "hours"]) (g:=gD) F sc λcdv A outer s H E hr=>?_;unfold gD;exact(zf (rY ["row"] [none] sc.nd rfl (.inl rfl) rfl rfl (zQ (QN.qe (vt c_z14 hr rfl (za (zc (pv 0)) (za (zc (pv 1)) zd))))) (λ_ _ _ _ _=>(zJ (pgn 0 (xk ["row"])))) (λ_ _ _ _ _=>(wc (x:= "tuple") sv rfl m.tuple_ vM (za (QN.qe (wD ["thing", "wait"] [none,none] rfl rfl (zQ (zc (pv 0))) (λ_ _ _ _ _=>(sS [0,1] (tF rfl (ym (pgn 0 (xk ["thing", "wait"])) (ym (pgn 1 (xk ["thing", "wait"])) v0))))) (λ_ _ _ _ _=>(sI (za (zc (pv 0)) (za zk zd)))))) zd)))) (zg (x9 (vt c_z16 hr rfl (za (QN.qe (vt c_z3 hr rfl (za (zc (pv 2)) zd))) zd)))))
abbrev eG:Stmt:=top 42
def sc_z35:FnScope ["form", "hours", "things", "told", "thing"] ["form", "hours", "things"] (zi eG):=yq
def ok_z35 {k:Nat}(F:Fun K "_law_look" "_law_look" eG f fd)(m:Mg mg)(c_z34:zp P w K mg base "_law_held" k ["form", "hours"] (SpD K k9))(c_z11:zp P w K mg base "gain" k ["form", "hours", "thing"] (SpD K qS))(c_z10:zp P w K mg base "slack" k ["form", "hours", "thing"] (SpD K uX))(c_z12:zp P w K mg base "ways" k ["form", "hours"] (SpN K iE)):FnOk P w K mg base CX0 (k+1) f fd ["form", "hours", "things"] (SpN K pi):=by
 have sc:=sc_z35;refine mF (N:=["form", "hours", "things", "told", "thing"]) (ps:=["form", "hours", "things"]) (g:=iZ) F sc λcdv A outer s H E hr=>?_;unfold iZ;exact(zf (xK (i:=3) sc.nd rfl (.inl rfl) (xB (za (QN.qe (vt c_z12 hr rfl (za (zc (pv 0)) (za (zc (pv 1)) zd)))) (za (wu c_z34 hr rfl (za (zc (pv 0)) (za (zc (pv 1)) zd))) zd)))) (zf (yL PassesOwn.never rfl (yA rfl m.range_ (za (zc (pv 2)) zd)) (zJ (zK (i:=4) sc.nd rfl (.inl rfl))) (zg (yb (pv 3) (sI (za (wu c_z10 hr rfl (za (zc (pv 0)) (za (zc (pv 1)) (za (zc (pv 4)) zd)))) (za (wu c_z11 hr rfl (za (zc (pv 0)) (za (zc (pv 1)) (za (zc (pv 4)) zd)))) zd))) (λh1 h2=>vW Yv Yw Yx zY h1 h2)))) (zg (xJ (pv 3)))))
abbrev da:Stmt:=top 38
def sc_z31:FnScope ["hours", "things", "more"] ["hours", "things", "more"] (zi da):=yq
def ok_z31 {k:Nat}(F:Fun K "_law_moved" "_law_moved" da f fd)(m:Mg mg)  : FnOk P w K mg base CX0 (k+1) f fd ["hours", "things", "more"] (SpN K sY):=by
 have sc:=sc_z31;refine mF (N:=["hours", "things", "more"]) (ps:=["hours", "things", "more"]) (g:=kW) F sc λcdv A outer s H E hr=>?_;unfold kW;exact(zg (x9 (wD ["k", "hours", "things", "more"] [none,some 0,some 1,some 2] rfl rfl (yA rfl m.range_ (za (yg (x:= "len") pR rfl m.len_ uK (za (zc (pv 0)) zd)) zd)) (λ_ _ _ _ _=>(zJ (pgn 0 (xk ["k", "hours", "things", "more"])))) (λ_ _ _ _ _=>(xa ww (yV (yB hr) (zc (pv 1)) (zc (pv 0)) (λ_ _=>rfl) (λ_ _=>rfl)) (xa hZ (zc (pv 3)) (wc (x:= "int") dY rfl m.int_ gU (za (bJ hr.units (zc (pv 0)) (zc (pv 2))) zd))))))))
abbrev eQ:Stmt:=top 40
def sc_z33:FnScope ["script", "start", "things", "form", "hours", "thing"] ["script", "start", "things", "form"] (zi eQ):=yq
def ok_z33 {k:Nat}(F:Fun K "_law_near" "_law_near" eQ f fd)(m:Mg mg)(c_z18:zp P w K mg base "_law_cell_at" k ["script", "k"] (SpD K wZ))(c_z19:zp P w K mg base "_law_mixed" k ["cell", "salt"] (SpD K uZ)):FnOk P w K mg base CX0 (k+1) f fd ["script", "start", "things", "form"] (SpN K nW):=by
 have sc:=sc_z33;refine mF (N:=["script", "start", "things", "form", "hours", "thing"]) (ps:=["script", "start", "things", "form"]) (g:=il) F sc λcdv A outer s H E hr=>?_;unfold il;exact(zf (xK (i:=4) sc.nd rfl (.inr rfl) (xB zd)) (zf (yL PassesOwn.never rfl (yA rfl m.range_ (za (zc (pv 2)) zd)) (zJ (zK (i:=5) sc.nd rfl (.inl rfl))) (zg (yb (pv 4) (xa wq (wu c_z19 hr rfl (za (wu c_z18 hr rfl (za (zc (pv 0)) (za (xa ww (zc (pv 1)) (zc (pv 5))) zd))) (za (xa ww zk (zc (pv 5))) zd))) zk) (λh1 h2=>vW Yv Yw Yx zY h1 h2)))) (zf (yU (yd (oZ hr.units) (xa wq (wu c_z18 hr rfl (za (zc (pv 0)) (za (zc (pv 1)) zd))) zk) zk (zM _)) (zg (oe [4] (xK (i:=4) sc.nd rfl (.inr rfl) (wD ["k", "form", "hours"] [none,some 3,some 4] rfl rfl (yA rfl m.range_ (za (zc (pv 2)) zd)) (λ_ _ _ _ _=>(zJ (pgn 0 (xk ["k", "form", "hours"])))) (λ_ _ _ _ _=>(xa k7 (yV (yB hr) (zc (pv 2)) (zc (pv 0)) (λ_ _=>rfl) (λ_ _=>rfl)) (fA (yB hr) (QN.qe (xL (x:= "dict") (rL rfl) rfl m.dict_ um (za (yV (yB hr) (zc (pv 1)) zk (λ_ _=>rfl) (λ_ _=>rfl)) zd))) (zc (pv 0)) zk ⟨rfl,rfl,rfl,rfl⟩))))))) zE) (zg (xJ (pv 4))))))
abbrev eY:Stmt:=top 35
def sc_z28:FnScope ["row", "hours", "late", "thing", "wait"] ["row", "hours"] (zi eY):=yq
def ok_z28 {k:Nat}(F:Fun K "_law_done" "_law_done" eY f fd)(m:Mg mg)  : FnOk P w K mg base CX0 (k+1) f fd ["row", "hours"] (SpD K ko):=by
 have sc:=sc_z28;refine pb (N:=["row", "hours", "late", "thing", "wait"]) (ps:=["row", "hours"]) (g:=iY) F sc λcdv A outer s H E hr=>?_;unfold iY;exact(zf (zP (i:=2) sc.nd rfl (.inl rfl) pI) (zf (yL PassesOwn.never rfl (zQ (zc (pv 0))) (sS [3,4] (tF rfl (ym (zK (i:=3) sc.nd rfl (.inl rfl)) (ym (zK (i:=4) sc.nd rfl (.inl rfl)) v0)))) (zg (yU (QW.qt (de (qt_isN (zc (pv 2))) (jT (yd eK (xa ww (yV (yB hr) (zc (pv 1)) (zc (pv 3)) (λ_ _=>rfl) (λ_ _=>rfl)) (zc (pv 4))) (zc (pv 2)) (zM _))))) (zg (zP (i:=2) sc.nd rfl (.inl rfl) (xa ww (yV (yB hr) (zc (pv 1)) (zc (pv 3)) (λ_ _=>rfl) (λ_ _=>rfl)) (zc (pv 4))))) zE))) (zg (zI (zc (pv 2))))))
abbrev dj:Stmt:=top 36
def sc_z29:FnScope ["form", "hours"] ["form", "hours"] (zi dj):=yq
def ok_z29 {k:Nat}(F:Fun K "_law_comes" "_law_comes" dj f fd)(m:Mg mg)(c_z28:zp P w K mg base "_law_done" k ["row", "hours"] (SpD K ko)):FnOk P w K mg base CX0 (k+1) f fd ["form", "hours"] (SpD K kg):=by
 have sc:=sc_z29;refine pb (N:=["form", "hours"]) (ps:=["form", "hours"]) (g:=gj) F sc λcdv A outer s H E hr=>?_;unfold gj;exact(zg (zI (yg (x:= "min") (jF rfl) rfl m.min_ oU (za (QN.qe (wD ["row", "hours"] [none,some 1] rfl rfl (zQ (zc (pv 0))) (λ_ _ _ _ _=>(zJ (pgn 0 (xk ["row", "hours"])))) (λ_ _ _ _ _=>(wu c_z28 hr rfl (za (zc (pv 0)) (za (zc (pv 1)) zd)))))) zd))))
abbrev fX:Stmt:=top 43
def sc_z36:FnScope ["form", "hours", "thing", "look", "late", "moved"] ["form", "hours", "thing", "look"] (zi fX):=yq
def ok_z36 {k:Nat}(F:Fun K "_law_one" "_law_one" fX f fd)(m:Mg mg)(c_z29:zp P w K mg base "_law_comes" k ["form", "hours"] (SpD K kg))(c_z31:zp P w K mg base "_law_moved" k ["hours", "things", "more"] (SpN K sY))(c_z10:zp P w K mg base "slack" k ["form", "hours", "thing"] (SpD K uX)):FnOk P w K mg base CX0 (k+1) f fd ["form", "hours", "thing", "look"] (SpD K nT):=by
 have sc:=sc_z36;refine pb (N:=["form", "hours", "thing", "look", "late", "moved"]) (ps:=["form", "hours", "thing", "look"]) (g:=jU) F sc λcdv A outer s H E hr=>?_;unfold jU;exact(zf (zP (i:=4) sc.nd rfl (.inl rfl) (yV (yB hr) (yV (yB hr) (zc (pv 3)) (xa ww zk (zc (pv 2))) (λ_ _=>rfl) (λ_ _=>rfl)) zk (λ_ _=>rfl) (λ_ _=>rfl))) (zf (yU (yd (du hr.units) (q_isN (zc (pv 4))) (yg (x:= "any") (b_any rfl) rfl m.any_ bt_any (za (QN.qe (wD ["way", "thing"] [none,some 2] rfl rfl (zQ (yV (yB hr) (zc (pv 3)) zk (λ_ _=>rfl) (λ_ _=>rfl))) (λ_ _ _ _ _=>(zJ (pgn 0 (xk ["way", "thing"])))) (λ_ _ _ _ _=>(q_notIn hr.units (zc (pv 1)) (zc (pv 0)))))) zd)) (zM _)) (zg (zI uY)) zE) (zf (yU (QW.qt (qk (oG (yV (yB hr) (zc (pv 3)) zk (λ_ _=>rfl) (λ_ _=>rfl))) (uq (yd (du hr.units) (hU (oZ hr.units) (zc (pv 4)) zk (zM _)) (bJ hr.units (sI (za (zc (pv 2)) zd)) (yV (yB hr) (zc (pv 3)) zk (λ_ _=>rfl) (λ_ _=>rfl))) (zM _))))) (zg (zI uY)) zE) (zf (yU (oG (zc (pv 4))) (zf (zP (i:=5) sc.nd rfl (.inl rfl) (QN.qe (vt c_z31 hr rfl (za (zc (pv 1)) (za (QN.qe (xB (za (zc (pv 2)) zd))) (za (zc (pv 4)) zd)))))) (zg (zI (q_and (hU (oZ hr.units) (wu c_z10 hr rfl (za (zc (pv 0)) (za (zc (pv 5)) (za (zc (pv 2)) zd)))) zk (zM _)) (q_one (hU (oZ hr.units) (wu c_z29 hr rfl (za (zc (pv 0)) (za (zc (pv 5)) zd))) (wu c_z29 hr rfl (za (zc (pv 0)) (za (zc (pv 1)) zd))) (zM _))))))) zE) (zg (zI uY))))))
abbrev eT:Stmt:=top 27
def sc_z20:FnScope ["script", "start", "most", "many"] ["script", "start", "most"] (zi eT):=yq
def ok_z20 {k:Nat}(F:Fun K "_law_turns" "_law_turns" eT f fd)(m:Mg mg)  : FnOk P w K mg base CX0 (k+1) f fd ["script", "start", "most"] (SpN K jD):=by
 have sc:=sc_z20;refine mF (N:=["script", "start", "most", "many"]) (ps:=["script", "start", "most"]) (g:=gy) F sc λcdv A outer s H E hr=>?_;unfold gy;exact(zf (zP (i:=3) sc.nd rfl (.inl rfl) (yg (x:= "min") (f6 rfl) rfl m.min_ oU (za (zc (pv 2)) (za (yg (x:= "max") (gM rfl) rfl m.max_ lK (za zk (za (xa k7 (yg (x:= "len") pR rfl m.len_ uK (za (zc (pv 0)) zd)) (zc (pv 1))) zd))) zd)))) (zg (x9 (wD ["k", "script", "start", "most"] [none,some 0,some 1,some 2] rfl rfl (yA rfl m.range_ (za (zc (pv 3)) zd)) (λ_ _ _ _ _=>(zJ (pgn 0 (xk ["k", "script", "start", "most"])))) (λ_ _ _ _ _=>(yg (x:= "sum") (b_sum rfl) rfl m.sum_ bt_sum (za (QN.qe (nP (zc (pv 1)) (tO (xa ww (zc (pv 2)) (zc (pv 0)))) qu (tO (zc (pv 3))))) zd)))))))
abbrev eW:Stmt:=top 44
def sc_law:FnScope ["script", "things", "form", "k", "hours", "look", "thing", "more"] ["script"] (zi eW):=yq
def ok_law {k:Nat}(F:Fun K "law" "law" eW f fd)(m:Mg mg)(c_z18:zp P w K mg base "_law_cell_at" k ["script", "k"] (SpD K wZ))(c_z27:zp P w K mg base "_law_forms" k ["cells", "many", "things"] (SpN K ka))(c_z35:zp P w K mg base "_law_look" k ["form", "hours", "things"] (SpN K pi))(c_z31:zp P w K mg base "_law_moved" k ["hours", "things", "more"] (SpN K sY))(c_z33:zp P w K mg base "_law_near" k ["script", "start", "things", "form"] (SpN K nW))(c_z21:zp P w K mg base "_law_number" k ["cell", "salt"] (SpD K uh))(c_z36:zp P w K mg base "_law_one" k ["form", "hours", "thing", "look"] (SpD K nT))(c_z20:zp P w K mg base "_law_turns" k ["script", "start", "most"] (SpN K jD)):FnOk P w K mg base CX0 (k+1) f fd ["script"] (SpD K nA):=by
 have sc:=sc_law;refine pb (N:=["script", "things", "form", "k", "hours", "look", "thing", "more"]) (ps:=["script"]) (g:=g8) F sc λcdv A outer s H E hr=>?_;unfold g8
 exact(zf (zP (i:=1) sc.nd rfl (.inl rfl) (yV (yB hr) (QN.qe (xB (za zk (za zk (za zk (za zk (za zk (za zk zd)))))))) (xa wq (wu c_z18 hr rfl (za (zc (pv 0)) (za zk zd))) zk) (λ_ _=>rfl) (λ_ _=>rfl))) (zf (zP (i:=2) sc.nd rfl (.inl rfl) (yV (yB hr) (QN.qe (vt c_z27 hr rfl (za (QN.qe (vt c_z20 hr rfl (za (zc (pv 0)) (za zk (za zk zd))))) (za zk (za (zc (pv 1)) zd))))) zk (λ_ _=>rfl) (λ_ _=>rfl))) (zf (yL PassesOwn.never rfl (yA rfl m.range_ (za (yg (x:= "min") (f6 rfl) rfl m.min_ oU (za (yV (yB hr) (QN.qe (xB (za zk (za zk zd)))) (wc (x:= "int") dY rfl m.int_ gU (za (hU (oZ hr.units) (zc (pv 1)) zk (zM _)) zd)) (λ_ _=>rfl) (λ_ _=>rfl)) (za (xa ww zk (yg (x:= "len") pR rfl m.len_ uK (za (zc (pv 0)) zd))) zd))) zd)) (zJ (zK (i:=3) sc.nd rfl (.inl rfl))) (zf (zP (i:=4) sc.nd rfl (.inl rfl) (QN.qe (vt c_z33 hr rfl (za (zc (pv 0)) (za (zc (pv 3)) (za (zc (pv 1)) (za (zc (pv 2)) zd))))))) (zf (zP (i:=5) sc.nd rfl (.inl rfl) (QN.qe (vt c_z35 hr rfl (za (zc (pv 2)) (za (zc (pv 4)) (za (zc (pv 1)) zd)))))) (zf (yL PassesOwn.never rfl (yA rfl m.range_ (za (zc (pv 1)) zd)) (zJ (zK (i:=6) sc.nd rfl (.inl rfl))) (zg (yU (lS (uR (wu c_z36 hr rfl (za (zc (pv 2)) (za (zc (pv 4)) (za (zc (pv 6)) (za (zc (pv 5)) zd))))))) (zg (zI uY)) zE))) (zf (zP (i:=7) sc.nd rfl (.inl rfl) (wu c_z21 hr rfl (za (wu c_z18 hr rfl (za (zc (pv 0)) (za (zc (pv 3)) zd))) (za zk zd)))) (zg (yU (yd (du hr.units) (QN.qe (vt c_z35 hr rfl (za (zc (pv 2)) (za (QN.qe (vt c_z31 hr rfl (za (zc (pv 4)) (za (QN.qe (q_listRng (λh=>wE (L2.call_listRng rfl) rfl m.list_ bt_list (sK (wE L2.call_range1 rfl m.range_ PyProof.Rows.boot_range h) o8)) (za (zc (pv 1)) zd))) (za (zc (pv 7)) zd))))) (za (zc (pv 1)) zd))))) (zc (pv 5)) (zM _)) (zg (zI uY)) zE))))))) (zg (zI uY)))))
end
def mV (K:W.Frag):Sp:=λvs H Q _=>∃(a:Addr) (ns:Yh),vs=[.ref a]/\SqL K H a (ns.map V.int)/\ns.length<=63/\∀H',Q (.bl true) H'
def law_imp (K:W.Frag)(vs:YB)(H:Hp)(Q:VK)(E:XK)(h:mV K vs H Q E):SpD K nA vs H Q E:=by
 refine zc2d h λa ns zr2 hS hl q=>?_;subst zr2;refine⟨H,[.scr ns],yC.refl _,zq.mk (IsD.scr_iff.mpr ⟨a,rfl,hS⟩) .nil,?_⟩;rw[law_true ns hl];intro v F' H' e i;rw[IsD.bl_iff.mp i];exact q H'
def all_mk {l:W.OpenLaw}{w:World}{K:W.Frag}{h:Heap}{mg:Ye}{fa:Addr}(X:K.In h)(G:h.Ns mainGlobals mg)(hfa:mg "law" = some (.ref fa))
 {C_TooMany:Addr}
 (d_z18:yh K "_law_cell_at" eC)
 (d_z19:yh K "_law_mixed" dm)
 (d_z21:yh K "_law_number" fU)
 (d_z22:yh K "_law_row" fZ)
 (d_z23:yh K "_law_varied" dg)
 (d_z24:yh K "_law_list" eM)
 (d_z25:yh K "_law_beneath" ez)
 (d_z26:yh K "_law_thin" eU)
 (d_z27:yh K "_law_forms" eR)
 (d_z1:yh K "fits_in" cZ)
 (d_z5:yh K "is_covered" bh)
 (d_z2:yh K "joined" bb)
 (d_z8:yh K "each_joined" cR)
 (d_z4:yh K "lowest" bi)
 (d_z9:yh K "form_within" cN)
 (d_z7:yh K "all_of" ba)
 (d_z0:yh K "row_hour" cS)
 (d_z6:yh K "form_hour" cX)
 (d_z14:yh K "first_done" eJ)
 (d_z15:yh K "last_things" dh)
 (d_z16:yh K "things_of_each" ee)
 (d_z13:yh K "holders" ef)
 (d_z34:yh K "_law_held" df)
 (d_z11:yh K "gain" fR)
 (d_z10:yh K "slack" eZ)
 (d_z3:yh K "thinned" cM)
 (d_z12:yh K "ways" eX)
 (d_z35:yh K "_law_look" eG)
 (d_z31:yh K "_law_moved" da)
 (d_z33:yh K "_law_near" eQ)
 (d_z28:yh K "_law_done" eY)
 (d_z29:yh K "_law_comes" dj)
 (d_z36:yh K "_law_one" fX)
 (d_z20:yh K "_law_turns" eT)
 (d_law:yh K "law" eW)
 (a_TooMany:W.nsIn K mainGlobals "TooMany" = some (some (.ref C_TooMany))) (q_TooMany:W.excIn K C_TooMany [.type "ValueError",.type "Exception",.type "BaseException",.type "object"] "ValueError.__new__" = true)
 (z_any:W.nsIn K mainGlobals "any" = some none)
 (z_dict:W.nsIn K mainGlobals "dict" = some none)
 (z_int:W.nsIn K mainGlobals "int" = some none)
 (z_len:W.nsIn K mainGlobals "len" = some none)
 (z_list:W.nsIn K mainGlobals "list" = some none)
 (z_max:W.nsIn K mainGlobals "max" = some none)
 (z_min:W.nsIn K mainGlobals "min" = some none)
 (z_range:W.nsIn K mainGlobals "range" = some none)
 (z_set:W.nsIn K mainGlobals "set" = some none)
 (z_sorted:W.nsIn K mainGlobals "sorted" = some none)
 (z_sum:W.nsIn K mainGlobals "sum" = some none)
 (z_tuple:W.nsIn K mainGlobals "tuple" = some none):
 ∃fd:FuncData,(∀(s:Shared) (v:Value),BindsTo s fd ⟨[v],[]⟩ [("script",v)])/\∀base:Heap,K.In base->base.Ns mainGlobals mg->FnOk l.prog w K mg base CX0 9 fa fd ["script"] (mV K):=by
 refine zc2b d_law λf_law fd_law a_law nA=>?_;have e:=hfa.symm.trans (W.mg_of X G a_law)
 first|exact zqn e|exact zqb e|(obtain rfl:=Zqi e)|cases e
 have m:Mg mg:=⟨W.mg_none_of X G z_any,W.mg_none_of X G z_dict,W.mg_none_of X G z_int,W.mg_none_of X G z_len,W.mg_none_of X G z_list,W.mg_none_of X G z_max,W.mg_none_of X G z_min,W.mg_none_of X G z_range,W.mg_none_of X G z_set,W.mg_none_of X G z_sorted,W.mg_none_of X G z_sum,W.mg_none_of X G z_tuple⟩;have x_TooMany:Exc K mg "TooMany" C_TooMany:=⟨a_TooMany,W.mg_of X G a_TooMany,q_TooMany⟩;refine⟨fd_law,(by obtain⟨_,_,_,_,_,_,_,_,_,rfl,_,_⟩:=id nA.ex;exact λs v=>.of_eq rfl),λbase _ _=>?_⟩;have C_z18:=d_z18.callee (P:=l.prog) (w:=w) (base:=base) X G (λF=>ok_z18 (k:=0) F m) λ_ _ _ _ _ _=>us2 λ_ _=>rfl;have C_z19:=d_z19.callee (P:=l.prog) (w:=w) (base:=base) X G (λF=>ok_z19 (k:=0) F m) λ_ _ _ _ _ _=>us2 λ_ _=>rfl;have C_z21:=d_z21.callee (P:=l.prog) (w:=w) (base:=base) X G (λF=>ok_z21 (k:=1) F m (C_z19.mono (by decide))) λ_ _ _ _ _ _=>us2 λ_ _=>rfl;have C_z22:=d_z22.callee (P:=l.prog) (w:=w) (base:=base) X G (λF=>ok_z22 (k:=2) F m (C_z19.mono (by decide)) (C_z21.mono (by decide))) λ_ _ _ _ _ _=>us2 λ_ _=>rfl;have C_z23:=d_z23.callee (P:=l.prog) (w:=w) (base:=base) X G (λF=>ok_z23 (k:=2) F m (C_z19.mono (by decide)) (C_z21.mono (by decide))) λ_ _ _ _ _ _=>us3 λ_ _ _=>rfl;have C_z24:=d_z24.callee (P:=l.prog) (w:=w) (base:=base) X G (λF=>ok_z24 (k:=3) F m (C_z22.mono (by decide)) (C_z23.mono (by decide))) λ_ _ _ _ _ _=>us2 λ_ _=>rfl
 have C_z25:=d_z25.callee (P:=l.prog) (w:=w) (base:=base) X G (λF=>ok_z25 (k:=0) F m) λ_ _ _ _ _ _=>us2 λ_ _=>rfl;have C_z26:=d_z26.callee (P:=l.prog) (w:=w) (base:=base) X G (λF=>ok_z26 (k:=1) F m (C_z25.mono (by decide))) λ_ _ _ _ _ _=>us1 λ_=>rfl;have C_z27:=d_z27.callee (P:=l.prog) (w:=w) (base:=base) X G (λF=>ok_z27 (k:=4) F m (C_z24.mono (by decide)) (C_z26.mono (by decide))) λ_ _ _ _ _ _=>us3 λ_ _ _=>rfl;have C_z1:=d_z1.callee (P:=l.prog) (w:=w) (base:=base) X G (λF=>ok_z1 (k:=0) F m) λ_ _ _ _ _ _=>us2 λ_ _=>rfl;have C_z5:=d_z5.callee (P:=l.prog) (w:=w) (base:=base) X G (λF=>ok_z5 (k:=1) F m (C_z1.mono (by decide))) λ_ _ _ _ _ _=>us2 λ_ _=>rfl;have C_z2:=d_z2.callee (P:=l.prog) (w:=w) (base:=base) X G (λF=>ok_z2 (k:=0) F m) λ_ _ _ _ _ _=>us2 λ_ _=>rfl;have C_z8:=d_z8.callee (P:=l.prog) (w:=w) (base:=base) X G (λF=>ok_z8 (k:=2) F m (C_z5.mono (by decide)) (C_z2.mono (by decide))) λ_ _ _ _ _ _=>us2 λ_ _=>rfl;have C_z4:=d_z4.callee (P:=l.prog) (w:=w) (base:=base) X G (λF=>ok_z4 (k:=2) F m (C_z5.mono (by decide))) λ_ _ _ _ _ _=>us2 λ_ _=>rfl;have C_z9:=d_z9.calleeX (P:=l.prog) (w:=w) (base:=base) X G (λF=>ok_z9 (k:=3) F m (C_z4.mono (by decide)) x_TooMany) λ_ _ _ _ _ _=>us2 λ_ _=>rfl;have C_z7:=d_z7.calleeX (P:=l.prog) (w:=w) (base:=base) X G (λF=>ok_z7 (k:=4) F m (C_z8.mono (by decide)) (C_z9.mono (by decide))) λ_ _ _ _ _ _=>us2 λ_ _=>rfl
 have C_z0:=d_z0.callee (P:=l.prog) (w:=w) (base:=base) X G (λF=>ok_z0 (k:=0) F m) λ_ _ _ _ _ _=>us2 λ_ _=>rfl;have C_z6:=d_z6.callee (P:=l.prog) (w:=w) (base:=base) X G (λF=>ok_z6 (k:=1) F m (C_z0.mono (by decide))) λ_ _ _ _ _ _=>us2 λ_ _=>rfl;have C_z14:=d_z14.callee (P:=l.prog) (w:=w) (base:=base) X G (λF=>ok_z14 (k:=2) F m (C_z6.mono (by decide)) (C_z0.mono (by decide))) λ_ _ _ _ _ _=>us2 λ_ _=>rfl;have C_z15:=d_z15.callee (P:=l.prog) (w:=w) (base:=base) X G (λF=>ok_z15 (k:=1) F m (C_z0.mono (by decide))) λ_ _ _ _ _ _=>us2 λ_ _=>rfl;have C_z16:=d_z16.callee (P:=l.prog) (w:=w) (base:=base) X G (λF=>ok_z16 (k:=0) F m) λ_ _ _ _ _ _=>us1 λ_=>rfl;have C_z13:=d_z13.calleeX (P:=l.prog) (w:=w) (base:=base) X G (λF=>ok_z13 (k:=5) F m (C_z7.mono (by decide)) (C_z14.mono (by decide)) (C_z15.mono (by decide)) (C_z16.mono (by decide))) λ_ _ _ _ _ _=>us3 λ_ _ _=>rfl;have C_z34:=d_z34.callee (P:=l.prog) (w:=w) (base:=base) X G (λF=>ok_z34 (k:=6) F m (C_z13.mono (by decide)) x_TooMany) λ_ _ _ _ _ _=>us2 λ_ _=>rfl;have C_z11:=d_z11.callee (P:=l.prog) (w:=w) (base:=base) X G (λF=>ok_z11 (k:=2) F m (C_z6.mono (by decide)) (C_z0.mono (by decide))) λ_ _ _ _ _ _=>us3 λ_ _ _=>rfl;have C_z10:=d_z10.callee (P:=l.prog) (w:=w) (base:=base) X G (λF=>ok_z10 (k:=3) F m (C_z14.mono (by decide)) (C_z6.mono (by decide))) λ_ _ _ _ _ _=>us3 λ_ _ _=>rfl
 have C_z3:=d_z3.callee (P:=l.prog) (w:=w) (base:=base) X G (λF=>ok_z3 (k:=3) F m (C_z4.mono (by decide))) λ_ _ _ _ _ _=>us1 λ_=>rfl;have C_z12:=d_z12.callee (P:=l.prog) (w:=w) (base:=base) X G (λF=>ok_z12 (k:=4) F m (C_z14.mono (by decide)) (C_z16.mono (by decide)) (C_z3.mono (by decide))) λ_ _ _ _ _ _=>us2 λ_ _=>rfl;have C_z35:=d_z35.callee (P:=l.prog) (w:=w) (base:=base) X G (λF=>ok_z35 (k:=7) F m (C_z34.mono (by decide)) (C_z11.mono (by decide)) (C_z10.mono (by decide)) (C_z12.mono (by decide))) λ_ _ _ _ _ _=>us3 λ_ _ _=>rfl;have C_z31:=d_z31.callee (P:=l.prog) (w:=w) (base:=base) X G (λF=>ok_z31 (k:=0) F m) λ_ _ _ _ _ _=>us3 λ_ _ _=>rfl;have C_z33:=d_z33.callee (P:=l.prog) (w:=w) (base:=base) X G (λF=>ok_z33 (k:=1) F m (C_z18.mono (by decide)) (C_z19.mono (by decide))) λ_ _ _ _ _ _=>us4 λ_ _ _ _=>rfl;have C_z28:=d_z28.callee (P:=l.prog) (w:=w) (base:=base) X G (λF=>ok_z28 (k:=0) F m) λ_ _ _ _ _ _=>us2 λ_ _=>rfl;have C_z29:=d_z29.callee (P:=l.prog) (w:=w) (base:=base) X G (λF=>ok_z29 (k:=1) F m (C_z28.mono (by decide))) λ_ _ _ _ _ _=>us2 λ_ _=>rfl;have C_z36:=d_z36.callee (P:=l.prog) (w:=w) (base:=base) X G (λF=>ok_z36 (k:=4) F m (C_z29.mono (by decide)) (C_z31.mono (by decide)) (C_z10.mono (by decide))) λ_ _ _ _ _ _=>us4 λ_ _ _ _=>rfl;have C_z20:=d_z20.callee (P:=l.prog) (w:=w) (base:=base) X G (λF=>ok_z20 (k:=0) F m) λ_ _ _ _ _ _=>us3 λ_ _ _=>rfl
 exact((ok_law (k:=8) (P:=l.prog) (w:=w) (base:=base) nA m (C_z18.mono (by decide)) (C_z27.mono (by decide)) (C_z35.mono (by decide)) (C_z31.mono (by decide)) (C_z33.mono (by decide)) (C_z21.mono (by decide)) (C_z36.mono (by decide)) (C_z20.mono (by decide))).mono (by decide)).imp (law_imp K)
def walk {l:W.OpenLaw}{q:Program}{loose:Yk}{XP:(Ye)->Heap->Prop}{YP:World->Heap->Prop}{d:DefRec}{K:Params->W.Frag}(hn:l.most=some 63)(hdf:d.params.defaults=[])
 (hY:∀(w:World) (h:Heap),YP w h->(K w.params).In h)
 (F:∀(w:World) (mg:Ye) (fa:Addr) (h:Heap),(K w.params).In h->h.Ns mainGlobals mg->mg d.name=some (.ref fa) ->
  ∃fd:FuncData,(∀(s:Shared) (u:Value),BindsTo s fd ⟨[u],[]⟩ [("script",u)])/\∀base:Heap,(K w.params).In base->base.Ns mainGlobals mg->FnOk l.prog w (K w.params) mg base CX0 9 fa fd ["script"] (mV (K w.params))):
 W.WalkO q loose XP YP l.row.toRowW d [] (λf vs=>PySem.call f vs):=
 L2.walk_of (n:=63) (k:=9) (x:= "script") (CX:=λ_=>CX0) (sp:=λw=>mV (K w.params)) hn (by decide) hdf ⟨rfl,by decide,by decide⟩ hY F (λ_ _ a ns hl _ hS=>⟨a,ns,rfl,hS,hl,λ_=>rfl⟩) λ_ _ _ _ _ z=>z
end My
end
open PySem PySem.W PyProof.Rows
set_option maxRecDepth 100000 in
set_option maxHeartbeats 0 in
theorem PySem.Challenge.cw_allfirst_k35_whole_one_alone_holds : PySem.Challenge.rw_allfirst_k35_whole_one_alone.Holds := by
 w_on;o_law;k_head;(case hw=>w_witness2)
 k_fill
 refine My.walk (l:=PySem.Challenge.rw_allfirst_k35_whole_one_alone) rfl rfl (fun w h Y=>PySem.W.kIn_of Y) ?F
 case F =>
  intro w mg fa h KX G hmg;refine' My.all_mk KX G hmg ?d_z18 ?d_z19 ?d_z21 ?d_z22 ?d_z23 ?d_z24 ?d_z25 ?d_z26 ?d_z27 ?d_z1 ?d_z5 ?d_z2 ?d_z8 ?d_z4 ?d_z9 ?d_z7 ?d_z0 ?d_z6 ?d_z14 ?d_z15 ?d_z16 ?d_z13 ?d_z34 ?d_z11 ?d_z10 ?d_z3 ?d_z12 ?d_z35 ?d_z31 ?d_z33 ?d_z28 ?d_z29 ?d_z36 ?d_z20 ?d_law ?a_TooMany ?q_TooMany ?z_any ?z_dict ?z_int ?z_len ?z_list ?z_max ?z_min ?z_range ?z_set ?z_sorted ?z_sum ?z_tuple
  (case d_z18|d_z19|d_z21|d_z22|d_z23|d_z24|d_z25|d_z26|d_z27|d_z1|d_z5|d_z2|d_z8|d_z4|d_z9|d_z7|d_z0|d_z6|d_z14|d_z15|d_z16|d_z13|d_z34|d_z11|d_z10|d_z3|d_z12|d_z35|d_z31|d_z33|d_z28|d_z29|d_z36|d_z20|d_law=>refine' ⟨_,_,?a,L2.fun_mk ?l ?c ?k⟩;(case a=>k_is);(case l=>k_is);(case c=>k_is);(case k=>k_is))
  (case a_TooMany=>k_is)
  (case q_TooMany=>k_exc)
  (case z_any|z_dict|z_int|z_len|z_list|z_max|z_min|z_range|z_set|z_sorted|z_sum|z_tuple=>k_is)
