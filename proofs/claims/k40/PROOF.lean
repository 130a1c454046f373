import PyProof.Rows.All
import Wide.All
import OpenK.AllK
import Wide.FinOn
import Lean
import PyProof.EqAt
import PyProof.EqKinds
import PyProof.TupleCall
import PyProof.P3Eq
import PyProof.NeData
import PySem.Challenge.RW_allfirst_k40_rounds_as_forms
set_option autoImplicit true
set_option relaxedAutoImplicit true
set_option Elab.async false
set_option linter.all false
set_option maxRecDepth 100000
open PySem PySem.Spec PyProof.Rows
theorem Zqi.{u} {α:Type u}{a b:α}(h:some a=some b):a=b:=Option.some.inj h
theorem Zqg.{u} {α:Type u}{l:List α}{i:Nat}(h:i<l.length):l[i]? = some l[i]:=List.getElem?_eq_getElem h
theorem Zqs.{u} {α:Type u}{a:α}{l:List α}:a∈a::l:=List.mem_cons_self
theorem Zqm.{u} {α:Type u}(y:α){a:α}{l:List α}(h:a∈l):a∈y::l:=List.mem_cons_of_mem y h
theorem Zql.{u,v} {α:Type u}{β:Type v}{l:List α}(f:α->β):(l.map f).length=l.length:=List.length_map f
abbrev Za:=@wpAny_bind
abbrev Zb:=@wpAny_pure
abbrev Zc:=@wpAny_mono
abbrev Zd:=@if_pos
abbrev Ze:=@if_neg
abbrev Zf:=@Nat.le_refl
abbrev Zg:=@Nat.lt_of_lt_of_le
abbrev Zh:=@Nat.le_trans
abbrev Zi:=@Nat.ne_of_lt
abbrev Zj:=@Bool.false_ne_true
abbrev Zk:=@Heap.lt_size
abbrev Zl:=@List.map_cons
abbrev Zm:=@List.size_toArray
abbrev Zn:=@absurd
abbrev Zo:=@decide_eq_false
abbrev Zp:=@decide_eq_true
abbrev Zq:=@Heap.get?_push_of_some
abbrev Zr:=@Heap.get?_push_size
abbrev Zs:=@iff_of_false
abbrev Zt:=@congrArg
abbrev Zu:=@List.length_cons
abbrev Zv:=@List.getElem?_map
abbrev Zw:=@List.map_map
abbrev Zx:=@List.getElem?_set_ne
abbrev Zy:=@Nat.lt_irrefl
abbrev Zz:=@Nat.le_of_lt
abbrev ZA:=@List.append_nil
abbrev ZB:=@List.length_range
abbrev ZC:=@List.length_nil
set_option maxHeartbeats 4000000
abbrev Ya:=PySem.Value->PySem.Shared->Prop
abbrev Yb:=List (PySem.Addr×PySem.Obj)
abbrev Yc:=PySem.Str->Option PySem.Value
abbrev Yd:=List PySem.Value
abbrev Ye:=Option PySem.Value
abbrev Yf:=List Int
abbrev Yg:=Array Nat
abbrev Yh:=List Nat
abbrev Yi:=List PySem.Str
abbrev Yj:=List PySem.Addr
abbrev Yk:=List PySem.Expr
abbrev Yl:=Array PySem.Value
abbrev Ym:=@PyProof.Rows.wpS_bind
abbrev Yn:=@PyProof.Rows.wpS_pure
abbrev Yo:=@PyProof.Rows.wpS_forRange
abbrev Yp:=@beq_iff_eq
abbrev Yq:=@Unit.unit
abbrev Yr:=@Nat.le_of_eq
abbrev Ys:=@PySem.F.plainAttrs_list
abbrev Yt:=@PySem.F.slot_list_append
abbrev Yu:=@PySem.F.type_list_append
abbrev Yv:=PySem.Shared->Prop
abbrev Yw:=PySem.SetTable
noncomputable section
local macro_rules | `(tactic| trivial) => `(tactic| first|exact .inl rfl|exact .inr rfl|assumption)
local macro_rules | `(()) => `(by first|lia|omega|(simp;done)|grind|simp_all)
local macro_rules | `(~~~$x) => `(some (.val $x))
abbrev Ua:=@List.length_append
abbrev Ub:=@Sum.inl
abbrev Uc:=@Nat.zero_le
abbrev Ud:=@Bool.false_eq_true
abbrev Ue:=@Bool.and_eq_true
abbrev Uf:=@List.getD_eq_getElem?_getD
abbrev Ug:=@List.mem_append_right
abbrev Uh:=@List.map_append
abbrev Ui:=@Array.length_toList
abbrev Uj:=@List.mem_of_getElem?
abbrev Ul:=@List.lookup_cons
abbrev Uo:=@Array.getElem?_eq_getElem
abbrev Uq:=@Array.size_map
abbrev Ur:=@Nat.blt_eq
abbrev Us:=@Nat.not_lt_zero
abbrev Ut:=@List.filterMap_cons
abbrev Uu:=@List.mem_append_left
abbrev Uv:=@List.length_singleton
abbrev Uw:=@List.map_nil
abbrev Uy:=@List.append_assoc
abbrev Uz:=@List.drop_eq_getElem_cons
abbrev UA:=@Nat.mod_lt
abbrev UB:=@Nat.lt_succ_of_lt
abbrev UC:=@Nat.blt
abbrev UD:=@List.getElem_mem
abbrev UE:=@List.getElem_of_mem
abbrev UF:=@Int.toNat_natCast
abbrev UG:=@List.length_take
abbrev UH:=@List.all_cons
abbrev UI:=@Bool.not_true
abbrev UJ:=@List.map_congr_left
abbrev UK:=@List.drop_length
abbrev UL:=@Nat.lt_trichotomy
abbrev UM:=@List.take_length
abbrev UN:=@Nat.lt_trans
abbrev UO:=@Nat.zero_add
abbrev UP:=@Nat.ble_eq
abbrev UQ:=@List.mem_cons
abbrev UR:=@Nat.mod_eq_of_lt
abbrev US:=@Array.getD_eq_getD_getElem?
abbrev UT:=@List.pairwise_map
abbrev UU:=@List.getElem?_set_self
abbrev UV:=@Nat.ne_of_gt
abbrev UW:=@List.all_eq_true
abbrev UX:=@Bool.or_eq_true
abbrev UY:=@Array.getElem?_map
abbrev UZ:=@List.nodup_nil
abbrev U0:=@List.length_set
abbrev U1:=@Bool.eq_iff_iff
abbrev U4:=@List.zip_cons_cons
abbrev U5:=@List.find?_cons
abbrev U6:=@Int.le_refl
abbrev U7:=@List.foldl_cons
abbrev U8:=@Array.getElem?_eq_none
abbrev U9:=@List.any_eq_true
abbrev Va:=@Nat.pow_succ
abbrev Vb:=@Nat.succ_pos
abbrev Vc:=@List.all_map
abbrev Vd:=@List.length_filter_le
abbrev Ve:=@List.any_eq_false
abbrev Vf:=@Nat.succ.inj
abbrev Vg:=@List.not_mem_nil
abbrev Vh:=@List.take_of_length_le
abbrev Vi:=@Array.forIn_toList
abbrev Vj:=@List.foldl_append
abbrev Vk:=@Nat.mul_le_mul
abbrev Vl:=@Bool.and_false
abbrev Vm:=@List.length_replicate
abbrev Vn:=@List.cons_append
abbrev Vo:=@List.nodup_append
abbrev Vp:=@Array.getElem?_range
abbrev Vq:=@List.Perm.refl
abbrev Vr:=@List.getElem_map
abbrev Vs:=@Nat.mul_assoc
abbrev Vt:=@List.mem_singleton
abbrev Vu:=@List.getElem?_append_left
abbrev Vv:=@Nat.lt_of_le_of_lt
abbrev Vw:=@Array.swapIfInBounds_def
abbrev Vx:=@Nat.lt_of_le_of_ne
abbrev Vy:=@Nat.le_of_lt_succ
abbrev Vz:=@List.pairwise_singleton
abbrev VA:=@Nat.succ_le_succ
abbrev VB:=@List.getElem?_eq_none
abbrev VC:=@Int.emod_lt_of_pos
abbrev VD:=@Classical.byContradiction
abbrev VE:=@Array.mem_toList_iff
abbrev VF:=@Array.getElem_mem
abbrev VG:=@List.take_append_drop
abbrev VH:=@List.filter_cons_of_pos
abbrev VI:=@List.filter_cons_of_neg
abbrev VJ:=@List.getElem?_append_right
abbrev VL:=@List.getElem?_zip_eq_some
abbrev VM:=@List.drop_eq_nil_of_le
abbrev VN:=@List.Pairwise.imp_of_mem
abbrev VO:=@List.Nodup.length_le_of_subset
abbrev Ja:=@List.mem_map
abbrev Jb:=@List.mem_filter
abbrev Jc:=@List.mem_append
abbrev Jd:=@List.getElem?_eq_some_iff
abbrev Je:=@List.length_eq_zero_iff
abbrev Jf:=@List.map_eq_nil_iff
abbrev Jg:=@List.mem_range
abbrev Jh:=@Option.bind_eq_some_iff
abbrev Ji:=@List.nodup_cons
abbrev Jj:=@Option.map_eq_some_iff
abbrev Jk:=@List.pairwise_cons
abbrev Jl:=@Array.getElem?_eq_some_iff
abbrev Jm:=@List.length_pos_iff
abbrev Jn:=@List.pairwise_iff_getElem
abbrev Jo:=@Nat.lt_succ_iff
abbrev Jp:=@List.getElem?_eq_none_iff
abbrev Jq:=@Bool.and_eq_true_iff
abbrev Jr:=@List.mem_filterMap
abbrev Js:=@Option.isSome_iff_exists
abbrev Jt:=@Array.perm_iff_toList_perm
abbrev Ju:=@List.mem_flatMap
abbrev Jv:=@List.find?_range_eq_none
abbrev Jw:=@List.append_eq_nil_iff
abbrev Jx:=List (Int×Int)
abbrev Jy:=List Jx
namespace L2
abbrev TF:=Sum Int Str
def V4:TF->Value->Bool
 | .inl k,v=>Value.isInt k v
 | .inr x,v=>Value.isStrOf x v
def kZ (w:World):TF->Int
 | .inl k=>hashInt k
 | .inr x=>hashStr w x
def K3:∀{k:TF} {v:Value},V4 k v=true->(∃i t,k=Ub i/\v=Value.int i t)\/(∃x t,k=Sum.inr x/\v=Value.str x t)
 | .inl i,v,h=>by
  obtain⟨t,e⟩:=Value.isInt_shape (k:=i) (v:=v) h;exact .inl ⟨i,t,rfl,e⟩
 | .inr x,v,h=>by
  obtain⟨t,e⟩:=Value.isStrOf_shape (x:=x) (v:=v) h;exact .inr ⟨x,t,rfl,e⟩
def CP (i:Int)(t:Tok):V4 (.inl i) (.int i t)=true:=by simp[V4,Value.isInt]
def HH (x:Str)(t:Tok):V4 (.inr x) (.str x t)=true:=by simp[V4,Value.isStrOf]
def HI (a b:Int):decide ((Ub a:TF)=Ub b)=(a == b):=by
 by_cases e:a=b
 .subst e;simp
 .have h:¬(Ub a:TF)=Ub b:=λq=>e (Sum.inl.inj q);rw[Zo h];exact(beq_eq_false_iff_ne.mpr e).symm
def HJ (a b:Str):decide ((Sum.inr a:TF)=Sum.inr b)=decide (a=b):=by
 by_cases e:a=b
 .subst e;simp
 .have h:¬(Sum.inr a:TF)=Sum.inr b:=λq=>e (Sum.inr.inj q);rw[Zo h,Zo e]
def HK (a:Int)(b:Str):decide ((Ub a:TF)=Sum.inr b)=false:=Zo (λq=>nomatch q)
def HL (a:Str)(b:Int):decide ((Sum.inr a:TF)=Ub b)=false:=Zo (λq=>nomatch q)
def Qy (prog:Program)(w:World):PySem.KeyKind prog w TF where
 is:=V4
 hash:=kZ w
 inj:=λv a b f d=>by
  rcases K3 f with ⟨i,t,rfl,rfl⟩|⟨x,t,rfl,rfl⟩
  .rcases K3 d with ⟨j,u,rfl,e⟩|⟨y,u,rfl,e⟩
   .injection e with e1 _;rw[e1]
   .exact nomatch e
  .rcases K3 d with ⟨j,u,rfl,e⟩|⟨y,u,rfl,e⟩
   .exact nomatch e
   .injection e with e1 _;rw[e1]
 byValue:=λk v h=>by
  rcases K3 h with ⟨i,t,rfl,rfl⟩|⟨x,t,rfl,rfl⟩<;>rfl
 pyHash:=λc h=>by
  rcases K3 c with ⟨i,t,rfl,rfl⟩|⟨x,t,rfl,rfl⟩
  .exact wpAny_pyHash_int h
  .exact wpAny_pyHash_str h
 eqBool:=λg c h=>by
  rcases K3 g with ⟨i,t,rfl,rfl⟩|⟨x,t,rfl,rfl⟩
  .rcases K3 c with ⟨j,u,rfl,rfl⟩|⟨y,u,rfl,rfl⟩
   .rw[HI] at h;exact wpAny_eqBool_int h
   .rw[HK] at h;exact SeqAt.EqAt.int_str i t y u _ _ _ _ h
  .rcases K3 c with ⟨j,u,rfl,rfl⟩|⟨y,u,rfl,rfl⟩
   .rw[HL] at h;exact SeqAt.EqAt.str_int x t j u _ _ _ _ h
   .rw[HJ] at h;exact wpAny_eqBool_str h
 «strs»:=λk x t v h=>by
  rcases K3 h with ⟨i,u,rfl,e⟩|⟨y,u,rfl,e⟩
  .exact nomatch e
  .injection e with e1 _
   subst e1;cases v<;>rfl
def HM (prog:Program)(w:World)(i:Int)(t:Tok):(Qy prog w).is (.inl i) (.int i t)=true:=CP i t
def HN (prog:Program)(w:World)(x:Str)(t:Tok):(Qy prog w).is (.inr x) (.str x t)=true:=HH x t
inductive V where
 |non|bl (b:Bool)|int (i:Int)|str (x:Str)|byt (b:Array UInt8)|flt (b:UInt64)|ref (a:Addr)|ty (n:String)
 deriving DecidableEq
abbrev _root_.Yx:=List V
abbrev _root_.Yy:=Option V
def T3:V->Value->Prop
 | .non,u=>u=Value.none
 | .bl b,u=>u=Value.bool b
 | .int i,u=>∃t,u=Value.int i t
 | .str x,u=>∃t,u=Value.str x t
 | .byt b,u=>∃t,u=Value.bytes b t
 | .flt b,u=>∃t,u=Value.float b t
 | .ref a,u=>u=Value.ref a
 | .ty n,u=>u=Value.type n
abbrev T4:Yx->List Value->Prop:=Paired T3
theorem T4.length {xs:Yx}{a:Yd}(r:T4 xs a):xs.length=a.length:=Paired.length r
theorem T4.get:∀{xs:Yx} {a:Yd} {i:Nat} {x:V},T4 xs a->xs[i]? = some x->∃u,a[i]? = some u/\T3 x u
 |_,_,_,_,.nil,e=>by simp at e
 |_,_,0,_,.cons r _,e=>by simp at e;subst e;exact⟨_,rfl,r⟩
 |_,_,i+1,x,.cons _ t,e=>by
  obtain⟨u,b,c⟩:=T4.get (i:=i) (x:=x) t (by simpa using e);exact⟨u,by simpa using b,c⟩
def T4.append:∀{xs ys:Yx} {a b:Yd},T4 xs a->T4 ys b->T4 (xs++ys) (a++b):=λh s=>by
 induction h with
 |nil=>exact s
 |cons r _ c=>exact .cons r c
def T4.none_of:∀{xs:Yx} {a:Yd} {i:Nat},T4 xs a->xs[i]? = none->a[i]? = none:=λ{xs a i} r e=>by
 have b:=r.length;have c:xs.length<=i:=Jp.mp e;exact Jp.mpr ()
def qC:Yy->Option Value->Prop
 |some v,some u=>T3 v u
 |none,none=>True
 |_,_=>False
def KV {κ: Type}:List (κ × V)->List (κ × Value)->Prop:=Paired λ(p:κ × V) (q:κ × Value)=>p.1=q.1/\T3 p.2 q.2
def kV:TF->V
 | .inl i=>.int i
 | .inr x=>.str x
inductive HO where
 |lst (xs:Yx)
 |tup (xs:Yx)
 |dK (kvs:List (TF×V))|dT (kvs:List (List TF×V))
 |set (S:Int->Bool) (n:Nat)
 |ins (C dx:Addr) (fs:List (Str×V))
 |own (x:Addr)
 |xd (fs:List (Str×V))
 |met (f x:Addr)
 |rng (lo hi:Int)
 |frz (o:Obj) (u:HO)
 |tbl (ps:Yl)
 |ext (φ: Heap->Prop)
abbrev Hp:=Addr->Option HO
def TQ (H:Hp)(a:Addr)(o:HO):Hp:=λb=>if b=a then some o else H b
def JQ {H:Hp}{a:Addr}{o:HO}:TQ H a o a=some o:=by unfold TQ;rw[Zd rfl]
def JL {H:Hp}{a b:Addr}{o:HO}(h:b≠a):TQ H a o b=H b:=by unfold TQ;rw[Ze h]
def vg {H:Hp}{a b:Addr}{o u:HO}(h:H a=some o)(h':H b=some u)(d:o≠u):a≠b:=by
 intro e;subst e;rw[h] at h';exact d (Zqi h')
def Wf {H:Hp}{a b:Addr}{o:HO}(h:H a=some o)(h':H b=none):a≠b:=by
 intro e;subst e;rw[h] at h';cases h'
section
variable (P:Program)(w:World)
def jK (H:Hp)(h:Heap)(a:Addr):HO->Prop
 | .lst xs=>xs.length<=sizeLine/\∃(b:Yd) (n:Nat),T4 xs b/\h.get? a=some { cls:=.type "list",data:=.seq b.toArray n }
 | .tup xs=>(xs.length<=sizeLine/\∃o,h.get? a=some o/\o.dict=none)/\∃b:Yd,T4 xs b/\IsTup h a b.toArray
 | .dK kvs=>kvs.length<=sizeLine/\(a == sysModules)=false/\∃vs,KV kvs vs/\h.DictOf (Qy P w) a vs
 | .dT kvs=>kvs.length<=sizeLine/\(a == sysModules)=false/\∃xs:List (List TF×Addr×Value),
  Paired (λ(p:List TF×V) (q:List TF×Addr×Value)=>p.1=q.1/\H q.2.1=some (.tup (p.1.map kV))/\T3 p.2 q.2.2) kvs xs /\
  ∃o es ep,h.get? a=some o/\o.ExactDict/\o.data=.dict es ep/\es.toList=xs.map (entryOfKey (tupleKind (Qy P w)))/\(xs.map (·.1)).Nodup
 | .set S n=>h.SetOf (intKind P w) a S n
 | .ins C dx fs=>H dx=some (.own a)/\fs.length<=1000/\dx≠a/\h.get? a=some (W.instObj C dx) /\
  ∃c,h.Ns1 dx c/\(∀f,qC (fs.lookup f) (c f))/\PySem.Within c (fs.map (·.1))
 | .own _=>∃o,h.get? a=some o
 | .xd fs=>∃c,h.Ns1 a c/\∀f,qC (fs.lookup f) (c f)
 | .rng lo hi=>∃t u v,h.get? a=some { cls:=.type "range",data:=.fields #[.int lo t,.int hi u,.int 1 v] }
 | .frz o u=>h.get? a=some o/\jK H h a u
 | .tbl ps=>h.get? a=some { cls:=.none,data:=.fields ps }
 | .met f x=>h.get? a=some (W.methodObj (.ref f) (.ref x))
 | .ext φ => φ h/\(∃o,h.get? a=some o)/\∀d e:Heap,φ d->(∀o,d.get? a=some o->e.get? a=some o) -> φ e
def jP (H:Hp)(h:Heap):Prop:=∀a o,H a=some o->jK P w H h a o
end
section
variable {P:Program}{w:World}{H H':Hp}{h h':Heap}{a:Addr}{o:HO}
theorem jK.lt (x:jK P w H h a o):a<h.objs.size:=by
 cases o with
 |lst xs=>obtain⟨_,_,_,_,e⟩:=x;exact Zk e
 |tup xs=>obtain⟨_,_,_,p⟩:=x;exact p.lt
 |dK b=>obtain⟨_,_,_,_,o,_,_,e,_⟩:=x;exact Zk e
 |dT b=>obtain⟨_,_,_,_,o,_,_,e,_⟩:=x;exact Zk e
 |set S n=>obtain⟨o,_,_,_,e,_⟩:=x;exact Zk e
 |ins C c fs=>obtain⟨_,_,_,e,_⟩:=x;exact Zk e
 |own y=>obtain⟨_,e⟩:=x;exact Zk e
 |xd fs=>obtain⟨_,⟨_,_,_,e,_⟩,_⟩:=x;exact Zk e
 |rng lo hi=>obtain⟨_,_,_,e⟩:=x;exact Zk e
 |frz d u=>obtain⟨e,_⟩:=x;exact Zk e
 |tbl ps=>exact Zk (show h.get? a=some _ from x)
 |met f y=>exact Zk (show h.get? a=some _ from x)
 |ext φ => obtain⟨_,⟨_,e⟩,_⟩:=x;exact Zk e
def qE {α β: Type}{F G:α -> β -> Prop}:∀{l₁:List α} {l₂:List β},Paired F l₁ l₂->(∀a b,F a b->G a b)->Paired G l₁ l₂:=λh f=>by
 induction h with
 |nil=>exact .nil
 |cons r _ c=>exact .cons (f _ _ r) c
def jK.stay (x:jK P w H h a o)(k:∀b u,(b=a\/H b=some (.own a))->h.get? b=some u->h'.get? b=some u)
 (s:∀b,H b=some (.own a)->H' b=some (.own a)) (A:∀b xs,H b=some (.tup xs)->H' b=some (.tup xs)):jK P w H' h' a o:=by
 induction o with
 |lst xs=>obtain⟨z,i,n,r,e⟩:=x;exact⟨z,i,n,r,k _ _ (.inl rfl) e⟩
 |tup xs=>obtain⟨⟨z,j,B,dd⟩,i,r,g,e,c⟩:=x;exact⟨⟨z,j,k _ _ (.inl rfl) B,dd⟩,i,r,g,k _ _ (.inl rfl) e,c⟩
 |dK l=>obtain⟨z,y,vs,r,g,es,ep,e,c⟩:=x;exact⟨z,y,vs,r,g,es,ep,k _ _ (.inl rfl) e,c⟩
 |dT l =>
  obtain⟨z,y,xs,r,g,es,ep,e,c⟩:=x;exact⟨z,y,xs,qE r λp q z=>⟨z.1,A _ _ z.2.1,z.2.2⟩,g,es,ep,k _ _ (.inl rfl) e,c⟩
 |set S n=>obtain⟨g,es,ep,t,e,c⟩:=x;exact⟨g,es,ep,t,k _ _ (.inl rfl) e,c⟩
 |ins C G fs =>
  obtain⟨d,z,ne,e,m,⟨j,es,ep,E,c⟩,r⟩:=x;exact⟨s _ d,z,ne,k _ _ (.inl rfl) e,m,⟨j,es,ep,k _ _ (.inr d) E,c⟩,r⟩
 |own y=>obtain⟨g,e⟩:=x;exact⟨g,k _ _ (.inl rfl) e⟩
 |xd fs=>obtain⟨m,⟨j,es,ep,e,c⟩,r⟩:=x;exact⟨m,⟨j,es,ep,k _ _ (.inl rfl) e,c⟩,r⟩
 |rng lo hi=>obtain⟨t,u,v,e⟩:=x;exact⟨t,u,v,k _ _ (.inl rfl) e⟩
 |frz g u F=>obtain⟨e,q⟩:=x;exact⟨k _ _ (.inl rfl) e,F q⟩
 |tbl ps =>
  have e:h.get? a=some { cls:=.none,data:=.fields ps }:=x;show h'.get? a=some { cls:=.none,data:=.fields ps };exact k a _ (.inl rfl) e
 |met f y =>
  have e:h.get? a=some (W.methodObj (.ref f) (.ref y)):=x;show h'.get? a=some (W.methodObj (.ref f) (.ref y));exact k a _ (.inl rfl) e
 |ext φ => obtain⟨p,⟨o,e⟩,st⟩:=x;exact⟨st _ _ p λo q=>k _ _ (.inl rfl) q,⟨o,k _ _ (.inl rfl) e⟩,st⟩
theorem jP.lt (x:jP P w H h)(e:H a=some o):a<h.objs.size:=(x a o e).lt
def jP.fresh (x:jP P w H h)(e:h.objs.size<=a):H a=none:=by
 cases q:H a with
 |none=>rfl
 |some u=>exact Zn (Zg (x.lt q) e) (Zy _)
def jP.kept (x:jP P w H h)(k:∀b u,h.get? b=some u->h'.get? b=some u):jP P w H h':=λa o e =>
 (x a o e).stay (λb u _ q=>k b u q) (λ_ q=>q) λ_ _ q=>q
def jP.laid (x:jP P w H h)(k:∀b u,h.get? b=some u->h'.get? b=some u)(hp:h.objs.size<=a)(new:jK P w (TQ H a o) h' a o):jP P w (TQ H a o) h':=λb u e=>by
 have d:=x.fresh hp;by_cases f:b=a
 .subst f;rw[JQ] at e;cases e;exact new
 .rw[JL f] at e;exact(x b u e).stay (λc v _ q=>k c v q) (λc q=>by rw[JL (Wf q d)];exact q) λc xs q=>by rw[JL (Wf q d)];exact q
end
def Rd (H:Hp)(a:Addr)(u:HO):Prop:=H a=some u\/∃o,H a=some (.frz o u)
def Rd.ok {P:Program}{w:World}{H:Hp}{h:Heap}{a:Addr}{u:HO}(r:Rd H a u)(x:jP P w H h):jK P w H h a u:=by
 rcases r with r|⟨o,r⟩
 .exact x a u r
 .obtain⟨_,q⟩:=x a _ r;exact q
def uq:Option HO->Prop
 |some (.lst _)=>True
 |some (.dK _)=>True
 |some (.dT _)=>True
 |some (.set _ _)=>True
 |some (.ins _ _ _)=>True
 |some (.ext _)=>True
 |_=>False
section
variable {P:Program}{w:World}{H:Hp}{h h':Heap}{x e:Addr}{o':HO}
def jP.write (ok:jP P w H h)(g:uq (H x))(l:e=x\/H e=some (.own x))(k:∀b u,b≠e->h.get? b=some u->h'.get? b=some u)(j:∃u,h'.get? e=some u)
 (new:jK P w (TQ H x o') h' x o'):jP P w (TQ H x o') h':=λb u q=>by
 have d:∀c y,H c=some (.own y)->c≠x:=λc y r z=>by subst z;rw[r] at g;exact g
 have f:∀c xs,H c=some (.tup xs)->c≠x:=λc xs r z=>by subst z;rw[r] at g;exact g
 by_cases i:b=x
 .subst i;rw[JQ] at q;cases q;exact new
 .rw[JL i] at q;by_cases a:b=e
  .have m:H b=some (.own x):=by
    rcases l with z|z
    .exact Zn (a.trans z) i
    .rw[a];exact z
   rw[q] at m;cases m;obtain⟨v,n⟩:=j;exact⟨v,by rw[a];exact n⟩
  .refine(ok b u q).stay (λc v hc r=>k c v ?_ r) (λc r=>by rw[JL (d c b r)];exact r) λc xs r=>by rw[JL (f c xs r)];exact r
   rcases hc with rfl|hc
   .exact a
   .rintro rfl;rcases l with z|z
    .exact d c b hc z
    .rw[hc] at z;cases z;exact i rfl
end
structure Un (fs ex:Yj)(H H':Hp)(h h':Heap):Prop where
 keep:∀b o,h.get? b=some o->H b=none->b∉fs->b∉ex->h'.get? b=some o
 slot:∀b o,h.get? b=some o->H b=none->b∈fs->b∉ex->∃sl,h'.get? b=some { o with slots:=sl }
 free:∀b o,h.get? b=some o->H b=none->b∉ex->H' b=none
 there:∀b o,h.get? b=some o->b∉ex->∃o',h'.get? b=some o'
 tups:∀b xs,H b=some (.tup xs)->H' b=some (.tup xs)
 frzs:∀b o u,H b=some (.frz o u)->H' b=some (.frz o u)
 tbls:∀b ps,H b=some (.tbl ps)->∃more,H' b=some (.tbl (ps++more))
section
variable {fs fs' ex ex':Yj}{H H1 H2:Hp}{h h1 h2 h':Heap}{a x e:Addr}{o:HO}
def Un.any (u:Un fs ex H H1 h h1){b:Addr}{c:Obj}(q:h.get? b=some c)(n:H b=none)(hx:b∉ex):∃f,h1.get? b=some { c with slots:=f }:=by
 by_cases d:b∈fs
 .exact u.slot b c q n d hx
 .exact⟨c.slots,u.keep b c q n d hx⟩
def Un.kept (k:∀b u,h.get? b=some u->h'.get? b=some u):Un fs ex H H h h':=
 ⟨λb c q _ _ _=>k b c q,λb c q _ _ _=>⟨c.slots,k b c q⟩,λ_ _ _ n _=>n,λb c q _=>⟨c,k b c q⟩,λ_ _ q=>q,λ_ _ _ q=>q,λ_ ps q=>⟨#[],by rw[q];simp⟩⟩
def Un.refl:Un fs ex H H h h:=Un.kept λ_ _ q=>q
def Un.laid (k:∀b u,h.get? b=some u->h'.get? b=some u)(hp:h.objs.size<=a)(c:H a=none):Un fs ex H (TQ H a o) h h' where
 keep:=λb u q _ _ _=>k b u q
 slot:=λb u q _ _ _=>⟨u.slots,k b u q⟩
 free:=λb u q n _=>by rw[JL (Zi (Zg (Zk q) hp))];exact n
 there:=λb u q _=>⟨u,k b u q⟩
 tups:=λb xs q=>by rw[JL (Wf q c)];exact q
 frzs:=λb u xs q=>by rw[JL (Wf q c)];exact q
 tbls:=λb ps q=>⟨#[],by rw[JL (Wf q c),q];simp⟩
def Un.write (d:uq (H x))(j:e=x\/H e=some (.own x))(k:∀b u,b≠e->h.get? b=some u->h'.get? b=some u)(f:∃u,h'.get? e=some u):Un fs ex H (TQ H x o) h h':=by
 have hx:∀b,H b=none->b≠x:=λb n z=>by subst z;rw[n] at d;exact d
 have i:∀b,H b=none->b≠e:=λb n z=>by
  subst z;rcases j with r|r
  .exact hx b n r
  .rw[n] at r;cases r
 have g:∀b u,H b=some u->¬uq (some u)->b≠x:=λb u q nm z=>by subst z;rw[q] at d;exact nm d
 refine⟨λb u q n _ _=>k b u (i b n) q,λb u q n _ _=>⟨u.slots,k b u (i b n) q⟩,λb u q n _=>by rw[JL (hx b n)];exact n,λb u q _=>?_,
  λb xs q=>by rw[JL (g b _ q λz=>z)];exact q,λb u xs q=>by rw[JL (g b _ q λz=>z)];exact q,λb ps q=>⟨#[],by rw[JL (g b _ q λz=>z),q];simp⟩⟩
 by_cases c:b=e
 .subst c;exact f
 .exact⟨u,k b u c q⟩
end
def trk (h:Heap)(H:Hp):Yj:=(List.range h.objs.size).filter λa=>(H a).isSome
def xo (h:Heap)(H:Hp):Heap:=W.hideAll h (trk h H)
def HQ (h:Heap)(H:Hp):(xo h H).objs.size=h.objs.size:=W.hideAll_size _ _
def HR {h:Heap}{H:Hp}{b:Addr}{o:Obj}(e:h.get? b=some o)(n:H b=none):(xo h H).get? b=some o:=
 W.hideAll_get _ e λa=>by
  have q:(H b).isSome=true:=(Jb.mp a).2;rw[n] at q;simp at q
def HS {h:Heap}{H:Hp}{b:Addr}{o:Obj}(e:(xo h H).get? b=some o):h.get? b=some o/\H b=none:=by
 have a:h.get? b=some o:=W.of_hideAll (trk h H) e;refine⟨a,?_⟩;cases q:H b with
 |none=>rfl
 |some x =>
  have c:b∈trk h H:=Jb.mpr ⟨Jg.mpr (Zk a),by simp[q]⟩;have z:(xo h H).get? b=none:=W.hideAll_none (trk h H) c;rw[z] at e;cases e
structure Mod (K:W.Frag)(mg:Yc)(base:Heap):Prop where
 kin:K.In base
 glob:base.Ns mainGlobals mg
 blt:∃mb,base.Ns builtinsNs mb/\∀x:Str,x ≠ "__name__" -> mb x=bootBuiltins x
 nolimit:base.NoLimit
structure Cx where
 prog:Program
 w:World
 K:W.Frag
 mg:Yc
 base:Heap
 A:Around
 N:Yi
 s₀:Shared
 H₀:Hp
 env:Env
 outer:List Env
 stack:List Env
 ex:Yj
 fn:Str->Bool
 calm:Bool
 pn:Yb
 xe:Ya
abbrev _root_.YB(X:Cx){α:Type}(m:Sem α):=wpAny (model X.prog X.w) X.A m
abbrev _root_.YC(P:Program)(w:World)(A:Around){α:Type}(m:Sem α):=wpAny (model P w) A m
abbrev _root_.YD(P:Program)(w:World)(A:Around)(E:Value->Shared->Prop)(s:Shared){α:Type}(m:StateT PyProof.Rows.SortSt Sem α):=PyProof.Rows.wpS (model P w) A E s m
def frs (l:List Env):Yj:=l.filterMap (·.frame)
abbrev Cx.fs (X:Cx):Yj:=frs X.outer
def ko (a:Scope)(x:Str):Prop:=a.names.lookup x=some .local\/a.names.lookup x=some .cell\/a.names.lookup x=some .free
def x4 (a:Scope)(x:Str):Prop:=a.names.lookup x=some .local\/a.names.lookup x=some .cell
def gN (env:Env)(h:Heap)(m:Yc)(x:Str)(u:Value):Prop:=
 (env.kindOf x=some .local/\m x=some u)\/((env.kindOf x=some .cell\/env.kindOf x=some .free)/\∃c,env.cells.lookup x=some c/\h.IsCell c (some u))
structure Cx.Ok (X:Cx):Prop where
 mod:Mod X.K X.mg X.base
 kind:X.env.scope.kind=.function
 glob:X.env.globals=mainGlobals
 blt:X.env.builtins=builtinsNs
 above:X.s₀.heap.objs.size<=X.env.locals
 inj:∀x y c,X.env.cells.lookup x=some c->X.env.cells.lookup y=some c->x=y
 has:∀x,(X.env.kindOf x=some .cell\/X.env.kindOf x=some .free)->∃c,X.env.cells.lookup x=some c
 cab:∀x c,X.fn x=true->X.env.cells.lookup x=some c->X.s₀.heap.objs.size<=c
 hd:X.calm=true->X.A.handled=none
 frames:X.A.frames=some X.stack
 stk:X.stack=X.outer\/(X.stack=X.env::X.outer/\X.env.frame=some X.env.locals)
 exf:∀b∈X.ex,b≠X.env.locals/\∀x c,X.env.cells.lookup x=some c->c≠b
 bs:∀b o,X.base.get? b=some o->X.s₀.heap.get? b=some o/\X.H₀ b=none
 bsz:X.base.objs.size<=X.s₀.heap.objs.size
 noex:∀b o,X.base.get? b=some o->b∉X.ex
 exfs:∀b∈X.ex,b∉X.fs
 funs:X.s₀.heap.FunFrames X.base X.outer
 frf:∀b∈X.fs,X.H₀ b=none
structure Inv (X:Cx)(Y:Yb)(Z: List Yy)(H:Hp)(s:Shared):Prop where
 ok:X.Ok
 os:s.os=X.s₀.os
 bare:AllBare s.gens
 base:Un X.fs X.ex X.H₀ H X.s₀.heap s.heap
 loc:∃m,s.heap.Ns X.env.locals m/\∀(i:Nat) (x:Str) (v:V),X.N[i]? = some x -> Z[i]? = some (some v)->ko X.env.scope x->∃u,T3 v u/\gN X.env s.heap m x u
 cell:∀x c,X.env.cells.lookup x=some c->∃v,s.heap.IsCell c v
 free:H X.env.locals=none
 freeC:∀x c,X.env.cells.lookup x=some c->H c=none
 pin:∀p∈X.pn++Y,s.heap.get? p.1=some p.2/\H p.1=none/\p.1≠X.env.locals/\p.1∉X.fs/\∀v,p.2.data ≠ .cell v
 hok:jP X.prog X.w H s.heap
 len:Z.length=X.N.length
section
variable {X:Cx}{Y:Yb}{Z: List Yy}{H H':Hp}{s:Shared}{h':Heap}
def Cx.Ok.nofr (ok:X.Ok){b:Addr}{o:Obj}(e:X.base.get? b=some o):b∉X.fs:=λa=>by
 have:=(ok.funs.mem a).1;rw[e] at this;cases this
theorem Inv.bs (I:Inv X Y Z H s):∀b o,X.base.get? b=some o->s.heap.get? b=some o/\H b=none:=λb o e =>
 ⟨I.base.keep b o (I.ok.bs b o e).1 (I.ok.bs b o e).2 (I.ok.nofr e) (I.ok.noex b o e),I.base.free b o (I.ok.bs b o e).1 (I.ok.bs b o e).2 (I.ok.noex b o e)⟩
def Inv.bk (I:Inv X Y Z H s):∀b o,X.base.get? b=some o->s.heap.get? b=some o:=λb o e=>(I.bs b o e).1
theorem Inv.mod (I:Inv X Y Z H s):Mod X.K X.mg X.base:=I.ok.mod
def Inv.kIn (I:Inv X Y Z H s):X.K.In s.heap:=I.ok.mod.kin.keeps I.bk
theorem Inv.lt (I:Inv X Y Z H s):X.env.locals<s.heap.objs.size:=let ⟨_,hn,_⟩:=I.loc;hn.lt
def Inv.sz (I:Inv X Y Z H s):X.s₀.heap.objs.size<=s.heap.objs.size:=Zh I.ok.above (Zz I.lt)
def Inv.nofs (I:Inv X Y Z H s){a:Addr}(h:s.heap.objs.size<=a):a∉X.fs:=λb=>by
 obtain⟨_,o,c,_⟩:=I.ok.funs.mem b;exact Zn (Zg (Zk c) (Zh I.sz h)) (Zy _)
def Inv.cne (I:Inv X Y Z H s):∀x c,X.env.cells.lookup x=some c->c≠X.env.locals:=λx c e z=>by
 obtain⟨v,o,d,f⟩:=I.cell x c e;obtain⟨m,⟨g,es,ep,a,b,_⟩,_⟩:=I.loc;rw[z,a] at d;cases d;rw[b] at f;cases f
theorem Inv.funs (I:Inv X Y Z H s):s.heap.FunFrames X.base X.outer:=by
 have all:∀(l:List Env),(∀b∈frs l,b∈X.fs)->X.s₀.heap.FunFrames X.base l->s.heap.FunFrames X.base l:=by
  intro l
  induction l with
  |nil=>intro _ _;trivial
  |cons env r f =>
   intro hs g;obtain⟨h,⟨L,o,a,i,j,m⟩,n⟩:=g;have c:L∈X.fs:=hs L (by unfold frs;rw[Ut,a];exact Zqs);obtain⟨p,e⟩:=I.base.slot L o j (I.ok.frf L c) c λz=>I.ok.exfs L z c;exact⟨h,⟨L,_,a,i,e,m⟩,f (λb d=>hs b (by unfold frs;rw[Ut,a];exact Zqm _ d)) n⟩
 exact all X.outer (λ_ d=>d) I.ok.funs
theorem Inv.stack (I:Inv X Y Z H s):s.heap.FunFrames X.base X.stack:=by
 rcases I.ok.stk with e|⟨e,hf⟩
 .rw[e];exact I.funs
 .rw[e];obtain⟨m,a,_⟩:=I.loc;refine .cons (by rw[I.ok.kind];decide) hf a ?_ I.funs;exact Heap.get?_none_of_le (Zh I.ok.bsz I.ok.above)
def Inv.stkSub (I:Inv X Y Z H s):∀b∈frs X.stack,b∈X.env.locals::X.fs:=λb a=>by
 rcases I.ok.stk with e|⟨e,hf⟩
 .rw[e] at a;exact Zqm _ a
 .rw[e] at a;unfold frs at a;rw[Ut,hf] at a;exact a
def Inv.stkFree (I:Inv X Y Z H s):∀b∈frs X.stack,H b=none:=λb hb=>by
 rcases UQ.mp (I.stkSub b hb) with e|hb
 .rw[e];exact I.free
 .obtain⟨_,o,a,_⟩:=I.ok.funs.mem hb;exact I.base.free b o a (I.ok.frf b hb) λz=>I.ok.exfs b z hb
def Inv.step {g':Array GenState}{t':Nat}{d':Drawn}{ch:Yj}(I:Inv X Y Z H s)
 (a:∀b∈ch,(b∈X.ex\/X.s₀.heap.objs.size<=b)/\b≠X.env.locals/\(∀x c,X.env.cells.lookup x=some c->c≠b)/\∀p∈X.pn++Y,p.1≠b)
 (keep:∀b o,b≠X.env.locals->b∉X.fs->b∉ch->s.heap.get? b=some o->H b=none->h'.get? b=some o)
 (t:∀b o,b≠X.env.locals->b∈X.fs->b∉ch->s.heap.get? b=some o->H b=none->∃K,h'.get? b=some { o with slots:=K }) (free:∀b o,b∉ch->s.heap.get? b=some o->H b=none->H' b=none)
 (w:∀b o,b∉ch->s.heap.get? b=some o->∃B,h'.get? b=some B)
 (C:∀b xs,H b=some (.tup xs)->H' b=some (.tup xs)) (E:∀b o u,H b=some (.frz o u)->H' b=some (.frz o u)) (F:∀b ps,H b=some (.tbl ps)->∃more,H' b=some (.tbl (ps++more)))
 (ns:∀m,s.heap.Ns X.env.locals m->h'.Ns X.env.locals m) (L:jP X.prog X.w H' h') (Q:AllBare g'):
 Inv X Y Z H' { s with heap:=h',gens:=g',drawn:=d',toks:=t' }:=by
 have G:∀b o,X.s₀.heap.get? b=some o->b≠X.env.locals:=λb o e=>Zi (Zg (Zk e) I.ok.above);have h:∀b o,X.s₀.heap.get? b=some o->b∉X.ex->b∉ch:=λb o e hx y=>by
  rcases(a b y).1 with z|z
  .exact hx z
  .exact Zn (Zg (Zk e) z) (Zy _)
 have f:∀x c,X.env.cells.lookup x=some c->∀v,s.heap.IsCell c v->h'.IsCell c v:=λx c e v R=>by
  obtain⟨o,A,M⟩:=R;have g:c∉ch:=λz=>(a c z).2.2.1 x c e rfl;by_cases O:c∈X.fs
  .obtain⟨K,q⟩:=t c o (I.cne x c e) O g A (I.freeC x c e);exact⟨_,q,M⟩
  .exact⟨o,keep c o (I.cne x c e) O g A (I.freeC x c e),M⟩
 refine⟨I.ok,I.os,Q,⟨λb o e n y hx=>?_,λb o e n y hx=>?_,λb o e n hx=>?_,λb o e hx=>?_,λb xs e=>C b xs (I.base.tups b xs e),λb o xs e=>E b o xs (I.base.frzs b o xs e),λb ps e=>?_⟩,?_,λx c e=>?_,?_,λx c e=>?_,λp hp=>?_,L,I.len⟩
 .exact keep b o (G b o e) y (h b o e hx) (I.base.keep b o e n y hx) (I.base.free b o e n hx)
 .obtain⟨K,j⟩:=I.base.slot b o e n y hx;obtain⟨N,J⟩:=t b _ (G b o e) y (h b o e hx) j (I.base.free b o e n hx);exact⟨N,J⟩
 .obtain⟨B,j⟩:=I.base.there b o e hx;exact free b B (h b o e hx) j (I.base.free b o e n hx)
 .obtain⟨B,j⟩:=I.base.there b o e hx;exact w b B (h b o e hx) j
 .obtain⟨S,j⟩:=I.base.tbls b ps e;obtain⟨T,J⟩:=F b _ j;exact⟨S++T,by rw[J,Array.append_assoc]⟩
 .obtain⟨m,U,hl⟩:=I.loc;refine⟨m,ns m U,λi x v j J e3=>?_⟩;obtain⟨u,r,l⟩:=hl i x v j J e3;refine⟨u,r,?_⟩;rcases l with l|⟨k,c,e,z⟩
  .exact .inl l
  .exact .inr ⟨k,c,e,f x c e _ z⟩
 .obtain⟨v,z⟩:=I.cell x c e;exact⟨v,f x c e v z⟩
 .obtain⟨m,⟨o,_,_,A,_⟩,_⟩:=I.loc;exact free _ o (λz=>(a _ z).2.1 rfl) A I.free
 .obtain⟨v,o,A,M⟩:=I.cell x c e;exact free c o (λz=>(a c z).2.2.1 x c e rfl) A (I.freeC x c e)
 .obtain⟨e,n,ne,P,d⟩:=I.pin p hp;have g:p.1∉ch:=λz=>(a p.1 z).2.2.2 p hp rfl;exact⟨keep p.1 p.2 ne P g e n,free p.1 p.2 g e n,ne,P,d⟩
def Inv.un {t':Nat}(I:Inv X Y Z H s)(u:Un X.fs [] H H' s.heap h')(c:jP X.prog X.w H' h'):Inv X Y Z H' { s with heap:=h',toks:=t' }:=by
 obtain⟨m,⟨o,es,ep,g,r⟩,_⟩:=id I.loc;obtain⟨l,h⟩:=u.any g I.free ();exact I.step (g':=s.gens) (d':=s.drawn) (ch:=[]) (λ_ z=>nomatch z) (λb o _ d _ e n=>u.keep b o e n d ()) (λb o _ d _ e n=>u.slot b o e n d ()) (λb o _ e n=>u.free b o e n ()) (λb o _ e=>u.there b o e ()) u.tups u.frzs u.tbls (λp i=>by
  obtain⟨q,es',f,a,j⟩:=i;rw[g] at a;cases a;exact⟨_,es',f,h,j⟩) c I.bare
def Inv.call {g':Array GenState}{t':Nat}{d':Drawn}{ch:Yj}(I:Inv X Y Z H s)(u:Un (frs X.stack) ch H H' s.heap h')(g:jP X.prog X.w H' h')(l:AllBare g')
 (d:∀b∈ch,(b∈X.ex\/X.s₀.heap.objs.size<=b)/\b≠X.env.locals/\(∀x c,X.env.cells.lookup x=some c->c≠b)/\∀p∈X.pn++Y,p.1≠b):
 Inv X Y Z H' { s with heap:=h',gens:=g',drawn:=d',toks:=t' }:=by
 obtain⟨m,⟨o,es,ep,j,r⟩,_⟩:=id I.loc;obtain⟨w,h⟩:=u.any j I.free λz=>(d _ z).2.1 rfl;exact I.step (ch:=ch) d (λb o h q a e n=>u.keep b o e n (λz=>(UQ.mp (I.stkSub b z)).elim h q) a) (λb o _ _ a e n=>u.any e n a) (λb o a e n=>u.free b o e n a) (λb o a e=>u.there b o e a) u.tups u.frzs u.tbls (λy t=>by
  obtain⟨A,es',i,f,v⟩:=t;rw[j] at f;cases f;exact⟨_,es',i,h,v⟩) g l
def Inv.turned {t':Nat}{it:Addr}(I:Inv X Y Z H s)(k:∀b o,b≠it->s.heap.get? b=some o->h'.get? b=some o)(g:H it=none)(f:it≠X.env.locals)
 (h:it∈X.ex\/X.s₀.heap.objs.size<=it) (i:∀x c,X.env.cells.lookup x=some c->c≠it) (j:∀p∈X.pn++Y,p.1≠it):Inv X Y Z H { s with heap:=h',toks:=t' }:=by
 have d:∀b u,H b=some u->b≠it:=λb u e z=>by rw[z,g] at e;cases e
 refine I.step (g':=s.gens) (d':=s.drawn) (ch:=[it]) (λb l=>?_) (λb o _ _ a e _=>k b o (λz=>a (by simp[z])) e) (λb o _ _ a e _=>⟨o.slots,k b o (λz=>a (by simp[z])) e⟩) (λ_ _ _ _ n=>n)
  (λb o a e=>⟨o,k b o (λz=>a (by simp[z])) e⟩) (λ_ _ e=>e) (λ_ _ _ e=>e) (λb ps e=>⟨#[],by rw[e];simp⟩) (λm t=>?_) (λb u e=>?_) I.bare
 .have e:b=it:=by simpa using l
  subst e;exact⟨h,f,i,j⟩
 .obtain⟨o,es,ep,w,r⟩:=t;exact⟨o,es,ep,k _ o (Ne.symm f) w,r⟩
 .refine(I.hok b u e).stay (λc v a q=>k c v ?_ q) (λ_ q=>q) λ_ _ q=>q;rcases a with z|z
  .rw[z];exact d b u e
  .exact d c _ z
def Inv.tok (I:Inv X Y Z H s)(t:Nat):Inv X Y Z H { s with toks:=t }:=I.un (h':=s.heap) (t':=t) Un.refl I.hok
theorem Inv.kept {t':Nat}(I:Inv X Y Z H s)(k:∀b u,s.heap.get? b=some u->h'.get? b=some u):Inv X Y Z H { s with heap:=h',toks:=t' }:=I.un (Un.kept k) (I.hok.kept k)
theorem Inv.laid {a:Addr}{o:HO}{t':Nat}(I:Inv X Y Z H s)(k:∀b u,s.heap.get? b=some u->h'.get? b=some u)(hp:s.heap.objs.size<=a)(new:jK X.prog X.w (TQ H a o) h' a o):
 Inv X Y Z (TQ H a o) { s with heap:=h',toks:=t' }:=I.un (Un.laid k hp (I.hok.fresh hp)) (I.hok.laid k hp new)
theorem Inv.write {x e:Addr}{o:HO}{t':Nat}(I:Inv X Y Z H s)(c:uq (H x))(d:e=x\/H e=some (.own x))(k:∀b u,b≠e->s.heap.get? b=some u->h'.get? b=some u)(a:∃u,h'.get? e=some u)
 (new:jK X.prog X.w (TQ H x o) h' x o):Inv X Y Z (TQ H x o) { s with heap:=h',toks:=t' }:=I.un (Un.write c d k a) (I.hok.write c d k a new)
def Inv.pins_of {Y':Yb}(I:Inv X Y Z H s)(h:∀p∈Y',s.heap.get? p.1=some p.2/\H p.1=none/\p.1≠X.env.locals/\p.1∉X.fs/\∀v,p.2.data ≠ .cell v):Inv X Y' Z H s:=
 ⟨I.ok,I.os,I.bare,I.base,I.loc,I.cell,I.free,I.freeC,λp hp=>(Jc.mp hp).elim (λz=>I.pin p (Uu _ z)) (h p),I.hok,I.len⟩
def CQ {N:Yi}(c:N.Nodup){i j:Nat}{x:Str}(a:N[i]? = some x)(b:N[j]? = some x):i=j:=by
 obtain⟨f,d⟩:=Jd.mp a;obtain⟨g,e⟩:=Jd.mp b;exact(List.getElem_inj c).mp (d.trans e.symm)
def HU {M:Model}{A:Around}{E:Ya}{i:Nat}{x:Str}{v:V}{u:Value}{Q:Unit->Yv}(I:Inv X Y Z H s)(hN:X.N.Nodup)(hi:X.N[i]? = some x)(hx:x4 X.env.scope x)(r:T3 v u)
 (h:∀s',Inv X Y (Z.set i (some v)) H s'->(∃a,Heap.SameBut a s.heap s'.heap/\(a=X.env.locals\/X.env.cells.lookup x=some a))->Q Yq s') (hf:X.fn x=true\/X.env.scope.names.lookup x=some .local:=by trivial):wpAny M A (storeName X.env x u) Q E s:=by
 obtain⟨m,P,hl⟩:=id I.loc;have F:(X.env.scope.kind == .class||(X.env.scope.kind == .module&&X.env.locals != X.env.globals))=false:=by rw[I.ok.kind];rfl
 have hiσ: i < Z.length:=by rw[I.len];exact(Jd.mp hi).1
 have cne:=I.cne;have f:∀{a:Addr} {h':Heap},(∃o,s.heap.get? a=some o/\H a=none)->Heap.SameBut a s.heap h'->jP X.prog X.w H h':=λ{a h'} ha hs b ob e=>by
  obtain⟨_,_,l⟩:=ha;refine(I.hok b ob e).stay (λc N hc q=>(hs.2 c ?_).trans q) (λ_ q=>q) λ_ _ q=>q;rintro rfl;rcases hc with rfl|hc
  .rw[l] at e;cases e
  .rw[l] at hc;cases hc
 rcases hx with hk|hk
 .refine wpAny_storeName_local hk P (λh' R hs=>?_) F;obtain⟨oL,_,_,S,_⟩:=id P;refine h _ ⟨I.ok,I.os,I.bare,⟨λb o e n w hx=>?_,λb o e n w hx=>?_,I.base.free,λb o e hx=>?_,I.base.tups,I.base.frzs,I.base.tbls⟩,⟨_,R,λj y T g t U=>?_⟩,λy c e=>?_,I.free,I.freeC,λp hp=>?_,f ⟨oL,S,I.free⟩ hs,by simpa using I.len⟩ ⟨_,hs,.inl rfl⟩
  .exact(hs.2 b (Zi (Zg (Zk e) I.ok.above))).trans (I.base.keep b o e n w hx)
  .obtain⟨sl,g⟩:=I.base.slot b o e n w hx;exact⟨sl,(hs.2 b (Zi (Zg (Zk e) I.ok.above))).trans g⟩
  .obtain⟨o',g⟩:=I.base.there b o e hx;exact⟨o',(hs.2 b (Zi (Zg (Zk e) I.ok.above))).trans g⟩
  .by_cases B:j=i
   .subst B;rw[hi] at g;cases g;rw[UU hiσ] at t;cases t;exact⟨u,r,.inl ⟨hk,()⟩⟩
   .rw[Zx (Ne.symm B)] at t;obtain⟨u',r',q⟩:=hl j y T g t U;refine⟨u',r',?_⟩;rcases q with ⟨k,e⟩|⟨k,c,e,z⟩
    .refine .inl ⟨k,?_⟩;have:y≠x:=λe=>B (CQ hN g (e ▸ hi));simp[this,e]
    .exact .inr ⟨k,c,e,z.sameBut hs (cne y c e)⟩
  .obtain⟨N,z⟩:=I.cell y c e;exact⟨N,z.sameBut hs (cne y c e)⟩
  .obtain⟨e,n,ne,nf,d⟩:=I.pin p hp;exact⟨(hs.2 p.1 ne).trans e,n,ne,nf,d⟩
 .have C:X.fn x=true:=by
   rcases hf with z|z
   .exact z
   .rw[z] at hk;cases hk
  obtain⟨c,hc⟩:=I.ok.has x (.inl hk);obtain⟨N,z⟩:=I.cell x c hc;refine wpAny_storeName_cell I.ok.kind hk hc z (λh' G hs=>?_);obtain⟨oc,J,K⟩:=id z;refine h { s with heap:=h' } ⟨I.ok,I.os,I.bare,⟨λb o e n w hx=>?_,λb o e n w hx=>?_,I.base.free,λb o e hx=>?_,I.base.tups,I.base.frzs,I.base.tbls⟩,⟨m,P.sameBut hs (Ne.symm (cne x c hc)),λj y T g t U=>?_⟩,λy O e=>?_,I.free,I.freeC,λp hp=>?_,f ⟨oc,J,I.freeC x c hc⟩ hs,by simpa using I.len⟩ ⟨c,hs,.inr hc⟩
  .exact(hs.2 b (Zi (Zg (Zk e) (I.ok.cab x c C hc)))).trans (I.base.keep b o e n w hx)
  .obtain⟨sl,g⟩:=I.base.slot b o e n w hx;exact⟨sl,(hs.2 b (Zi (Zg (Zk e) (I.ok.cab x c C hc)))).trans g⟩
  .obtain⟨o',g⟩:=I.base.there b o e hx;exact⟨o',(hs.2 b (Zi (Zg (Zk e) (I.ok.cab x c C hc)))).trans g⟩
  .by_cases B:j=i
   .subst B;rw[hi] at g;cases g;rw[UU hiσ] at t;cases t;exact⟨u,r,.inr ⟨.inl hk,c,hc,G⟩⟩
   .rw[Zx (Ne.symm B)] at t;obtain⟨u',r',q⟩:=hl j y T g t U;refine⟨u',r',?_⟩;rcases q with q|⟨k,O,e,z'⟩
    .exact .inl q
    .refine .inr ⟨k,O,e,z'.sameBut hs ?_⟩;rintro rfl;exact B (CQ hN g (I.ok.inj _ _ _ e hc ▸ hi))
  .by_cases L:O=c
   .subst L;exact⟨_,G⟩
   .obtain⟨w2,z2⟩:=I.cell y O e;exact⟨w2,z2.sameBut hs L⟩
  .obtain⟨e,n,ne,nf,d⟩:=I.pin p hp;refine⟨(hs.2 p.1 ?_).trans e,n,ne,nf,d⟩;intro q;rw[q,J] at e;have q':oc=p.2:=Zqi e;exact d N (by rw[<- q'];exact K)
def YT {M:Model}{A:Around}{E:Ya}{i:Nat}{x:Str}{v:V}{u:Value}{Q:Unit->Yv}(I:Inv X Y Z H s)(a:X.N.Nodup)(hi:X.N[i]? = some x)(hx:x4 X.env.scope x)(r:T3 v u)
 (h:∀s',Inv X Y (Z.set i (some v)) H s'->Q Yq s') (b:X.fn x=true\/X.env.scope.names.lookup x=some .local:=by trivial):wpAny M A (storeName X.env x u) Q E s:=
 HU I a hi hx r (λs' c _=>h s' c) b
def Inv.call' {s':Shared}{ch:Yj}(I:Inv X Y Z H s)(f:s'.os=s.os)(u:Un (frs X.stack) ch H H' s.heap s'.heap)(a:jP X.prog X.w H' s'.heap)(g:AllBare s'.gens)
 (d:∀b∈ch,(b∈X.ex\/X.s₀.heap.objs.size<=b)/\b≠X.env.locals/\(∀x c,X.env.cells.lookup x=some c->c≠b)/\∀p∈X.pn++Y,p.1≠b):Inv X Y Z H' s':=by
 obtain⟨h',g',d',t',h⟩:=s';have e:h=s.os:=f;subst e;exact I.call (g':=g') (t':=t') (d':=d') u a g d
end
abbrev XK:=Value->Option Addr->Hp->Prop
abbrev St:=List Yy
abbrev VK:=V->Hp->Prop
abbrev TE:=St->Hp->VK->Prop
abbrev TT:=St->Hp->(Bool->Hp->Prop)->Prop
abbrev TA:=St->Hp->(Yx->Hp->Prop)->Prop
structure Ends where
 nx:St->Hp->Prop
 rt:VK
 bk:St->Hp->Prop:=λ_ _=>False
 ct:St->Hp->Prop:=λ_ _=>False
abbrev TS:=Ends->St->Hp->Prop
def EP (X:Cx)(Y:Yb)(Z: St)(Q:VK)(u:Value)(s':Shared):Prop:=∃v H',Inv X Y Z H' s'/\T3 v u/\Q v H'
def TP (X:Cx)(Y:Yb)(Z: St)(Q:Bool->Hp->Prop)(b:Bool)(s':Shared):Prop:=∃H',Inv X Y Z H' s'/\Q b H'
def AP (X:Cx)(Y:Yb)(Z: St)(Q:Yx->Hp->Prop)(a:Yd)(s':Shared):Prop:=∃vs H',Inv X Y Z H' s'/\T4 vs a/\Q vs H'
def SP (X:Cx)(Y:Yb)(D:Ends)(f:Flow)(s':Shared):Prop:=
 match f with
 | .next=>∃a H',Inv X Y a H' s'/\D.nx a H'
 | .brk=>∃a H',Inv X Y a H' s'/\D.bk a H'
 | .cont=>∃a H',Inv X Y a H' s'/\D.ct a H'
 | .ret u=>∃v a H',Inv X Y a H' s'/\T3 v u/\D.rt v H'
def PE (X:Cx)(e:Expr)(t:TE):Prop:=
 ∀(Y:Yb) (s:Shared) (Z: St) (H:Hp) (Q:VK),Inv X Y Z H s->t Z H Q->YB X (eval e X.env) (EP X Y Z Q) X.xe s
def PT (X:Cx)(e:Expr)(t:TT):Prop:=
 ∀(Y:Yb) (s:Shared) (Z: St) (H:Hp) (Q:Bool->Hp->Prop),Inv X Y Z H s->t Z H Q->YB X (isTrue e X.env (eval e X.env)) (TP X Y Z Q) X.xe s
def PW (X:Cx)(e:Expr)(t:TT):Prop:=
 ∀(a:Sem Value) (Y:Yb) (s:Shared) (Z: St) (H:Hp) (Q:Bool->Hp->Prop),Inv X Y Z H s->t Z H Q->YB X (isTrue e X.env a) (TP X Y Z Q) X.xe s
def ul {X:Cx}{e:Expr}{t:TT}(h:PW X e t):PT X e t:=h _
def PA (X:Cx)(es:Yk)(t:TA):Prop:=
 ∀(a:Pos) (Y:Yb) (s:Shared) (Z: St) (H:Hp) (Q:Yx->Hp->Prop),Inv X Y Z H s->t Z H Q->YB X (spliced (backTo a (starEach es X.env))) (AP X Y Z Q) X.xe s
def PS (X:Cx)(st:Stmt)(t:TS):Prop:=
 ∀(Y:Yb) (s:Shared) (Z: St) (H:Hp) (D:Ends),Inv X Y Z H s->t D Z H->YB X (exec st X.env) (SP X Y D) X.xe s
def qJ (X:Cx)(st:List Stmt)(t:TS):Prop:=
 ∀(Y:Yb) (s:Shared) (Z: St) (H:Hp) (D:Ends),Inv X Y Z H s->t D Z H->YB X (execs st X.env) (SP X Y D) X.xe s
def TZ {α: Type}{t:Sem α}{Q b: α -> Yv}{M:Model}{A:Around}{E:Ya}{s:Shared}(h:wpAny M A t Q E s)(c:∀a s,Q a s->b a s):wpAny M A t b E s:=Zc h c λ_ _ x=>x
section
variable {X:Cx}
def xD (i:Nat):TE:=λZ H Q=>∃v,Z[i]? = some (some v)/\Q v H
def tC (v:V):TE:=λ_ H Q=>Q v H
def HV {i:Nat}{x:Str}{d:Pos}(n:X.N[i]? = some x)(o:ko X.env.scope x)(f:(x == ("__debug__" : Str))=false:=by decide)(g:(x == ("__classdict__" : Str))=false:=by decide):PE X (.Name x d) (xD i):=by
 intro Y s Z H Q I h;obtain⟨v,e,h⟩:=h;obtain⟨m,p,q⟩:=I.loc;obtain⟨u,r,l⟩:=q i x v n e o;have b:EP X Y Z Q u s:=⟨v,H,I,r,h⟩;rcases l with ⟨hk,t⟩|⟨hk,c,j,a⟩
 .exact wpAny_Name (wpAny_loadName_local I.ok.kind hk p t b) f
 .rcases hk with hk|hk
  .exact wpAny_Name (wpAny_loadName_cell I.ok.kind hk j a b) f
  .exact wpAny_Name (wpAny_loadName_free I.ok.kind hk j a b g) f
def HW {i j pos}:PE X (.Constant (.int i) j pos) (tC (.int i)):=λ_ _ _ H _ I h=>wpAny_Constant_int ⟨.int i,H,I.tok _,⟨_,rfl⟩,h⟩
def wF {b j pos}:PE X (.Constant (.bool b) j pos) (tC (.bl b)):=λ_ _ _ H _ I h=>Constant_bool ⟨.bl b,H,I,rfl,h⟩
def HX {j pos}:PE X (.Constant .none j pos) (tC .non):=λ_ _ _ H _ I h=>Constant_none ⟨.non,H,I,rfl,h⟩
def HY {x j pos}:PE X (.Constant (.str x) j pos) (tC (.str x)):=λ_ _ _ H _ I h=>Calls.Constant_str ⟨.str x,H,I.tok _,⟨_,rfl⟩,h⟩
def Gl (X:Cx)(x:Str):Prop:=X.env.kindOf x=some .globalImplicit
def YU {E:Ya}{Y:Yb}{s:Shared}{Z: St}{H:Hp}{x:Str}{u:Value}{a:Pos}{Q:Ya}(I:Inv X Y Z H s)(b:Gl X x)(c:X.mg x=some u)(h:Q u s)
 (d:(x == ("__debug__" : Str))=false:=by decide):YB X (eval (.Name x a) X.env) Q E s:=
 Calls.Name_function_global I.ok.kind b (Calls.loadGlobal_global (by rw[I.ok.glob];exact I.mod.glob.keeps I.bk) c h) d
def WG {E:Ya}{Y:Yb}{s:Shared}{Z: St}{H:Hp}{x:Str}{u:Value}{a:Pos}{Q:Ya}(I:Inv X Y Z H s)(b:Gl X x)(c:X.mg x=none)(d:bootBuiltins x=some u)(h:Q u s)
 (e:x ≠ "__name__" := by decide) (f:(x == ("__debug__" : Str))=false:=by decide):YB X (eval (.Name x a) X.env) Q E s:=by
 obtain⟨j,g,i⟩:=I.mod.blt;exact Calls.Name_function_global I.ok.kind b (Calls.loadGlobal_builtin (by rw[I.ok.glob];exact I.mod.glob.keeps I.bk) c (by rw[I.ok.blt];exact g.keeps I.bk) ((i x e).trans d) h) f
def HZ {x:Str}{v:V}{u:Value}{a:Pos}(b:Gl X x)(c:X.mg x=none)(d:bootBuiltins x=some u)(r:T3 v u)(e:x ≠ "__name__" := by decide)(f:(x == ("__debug__" : Str))=false:=by decide):PE X (.Name x a) (tC v):=
 λ_ _ _ H _ I h=>WG I b c d ⟨v,H,I,r,h⟩ e f
variable {a b:Expr}{ta tb:TE}{pos:Pos}
def PC (X:Cx)(op:CmpOp)(a b:Expr)(t:TE):Prop:=
 ∀(Y:Yb) (s:Shared) (Z: St) (H:Hp) (Q:VK),Inv X Y Z H s->t Z H Q ->
  YB X (eval a X.env) (λv s₁=>YB X (eval b X.env) (λu s₂=>YB X (compareOp op v u) (EP X Y Z Q) X.xe s₂) X.xe s₁) X.xe s
def CS (b:Expr){op:CmpOp}(h:op ≠ .In)(c:op ≠ .NotIn):behindInMarks op b=false:=by
 have d:(op == CmpOp.In)=false:=by cases op<;>first|rfl|exact Zn rfl h
 have e:(op == CmpOp.NotIn)=false:=by cases op<;>first|rfl|exact Zn rfl c
 cases b<;>first|rfl|(show(_&&(_||_)&&_)=false;rw[d,e,Bool.or_self,Vl,Bool.false_and])
def zY (ta:TE):TE:=λZ H Q=>ta Z H λx c=>Q (.bl (decide (x=.non))) c
def T3.none_iff {x:V}{v:Value}(r:T3 x v):(v == Value.none)=decide (x=.non):=by
 cases x with
 |non=>cases r;rfl
 |bl _=>cases r;rfl
 |int _=>obtain⟨t,rfl⟩:=r;rfl
 |str _=>obtain⟨t,rfl⟩:=r;rfl
 |byt _=>obtain⟨t,rfl⟩:=r;rfl
 |flt _=>obtain⟨t,rfl⟩:=r;rfl
 |ref _=>cases r;rfl
 |ty _=>cases r;rfl
def CT {j pos'}(c:PE X a ta):PC X .Is a (.Constant .none j pos') (zY ta):=by
 intro Y s Z H Q I h;refine TZ (c Y s Z H _ I h) λv i ⟨x,d,e,f,g⟩=>?_;exact Constant_none (is_none_gen ⟨.bl _,d,e,by rw[f.none_iff];rfl,g⟩)
def tB (t:TE):TT:=λZ H Q=>t Z H λx d=>∃c,x=.bl c/\Q c d
def Ia {op:CmpOp}{t:TE}(h:PC X op a b t)(c:behindInMarks op b=false:=by first|exact CS _ (by decide) (by decide)|rfl):PE X (.Compare a [op] [b] pos) t:=λY s Z H Q I hw=>wpAny_Compare1 (h Y s Z H Q I hw) c
def AO {op:CmpOp}{t:TE}(h:PC X op a b t)(e:behindInMarks op b=false:=by first|exact CS _ (by decide) (by decide)|rfl):PT X (.Compare a [op] [b] pos) (tB t):=by
 intro Y s Z H Q I hw;refine wpAny_isTrue_Compare1 (TZ (h Y s Z H _ I hw) λv m e=>TZ e λu n f=>TZ f λc o ⟨x,g,i,j,l⟩=>?_) e;obtain⟨d,rfl,q⟩:=l;cases j;exact wpAny_truthy_bool ⟨g,i,q⟩
def Ib {e:Expr}{t:TE}(h:PE X e t)(f:∀c,isTrue e X.env c=(do let v <- c;standAt e.pos;holding [v] (truthy v)):=by intro _;rfl):PT X e (tB t):=by
 intro Y s Z H Q I hw;refine isTrue_plain (TZ (h Y s Z H _ I hw) λv m ⟨x,g,i,j,l⟩=>?_) (f _);obtain⟨d,rfl,q⟩:=l;cases j;exact wpAny_truthy_bool ⟨g,i,q⟩
variable {tA tB':TT}{rest:Yk}
def kL (t u:TT):TT:=λZ H Q=>t Z H λc d=>if c=true then u Z d Q else Q false d
def fE (t u:TT):TT:=λZ H Q=>t Z H λc d=>if c=true then Q true d else u Z d Q
def kD (t:TT):TT:=λZ H Q=>t Z H λc d=>Q (!c) d
def Ic (d:PT X a tA):PW X (.BoolOp .And [a] pos) tA:=by
 intro f Y s Z H Q I h;refine isTrue_and (TZ (d Y s Z H Q I h) λc g e=>?_);cases c with
 |true=>exact isTrue_and_nil e
 |false=>exact e
def Ie (d:PT X a tA):PW X (.BoolOp .Or [a] pos) tA:=by
 intro f Y s Z H Q I h;refine isTrue_or (TZ (d Y s Z H Q I h) λc g e=>?_);cases c with
 |false=>exact isTrue_or_nil e
 |true=>exact e
def Ig (g:PT X a tA)(i:PW X (.BoolOp .And (b::rest) pos) tB'):PW X (.BoolOp .And (a::b::rest) pos) (kL tA tB'):=by
 intro j Y s Z H Q I h;refine isTrue_and (TZ (g Y s Z H _ I h) λc l ⟨d,e,f⟩=>?_);cases c with
 |true=>exact i j Y l Z d Q e f
 |false=>exact⟨d,e,f⟩
def wA (g:PT X a tA)(i:PW X (.BoolOp .Or (b::rest) pos) tB'):PW X (.BoolOp .Or (a::b::rest) pos) (fE tA tB'):=by
 intro j Y s Z H Q I h;refine isTrue_or (TZ (g Y s Z H _ I h) λc l ⟨d,e,f⟩=>?_);cases c with
 |true=>exact⟨d,e,f⟩
 |false=>exact i j Y l Z d Q e f
def Ih (d:PT X a tA):PT X (.UnaryOp .Not a pos) (kD tA):=by
 intro Y s Z H Q I h;exact isTrue_not (d Y s Z H (λc e=>Q (!c) e) I h)
def we (ta tb:TE):TE:=λZ H Q=>ta Z H λx d=>∃c,x=.bl c/\if c=true then tb Z d Q else Q (.bl false) d
def zW (ta:TE):TE:=λZ H Q=>ta Z H λx d=>∃c,x=.bl c/\Q (.bl (!c)) d
def Ii {op}{t:TE}(h:PE X a t):PE X (.BoolOp op [a] pos) t:=λY s Z H Q I hw=>BoolOp_one (h Y s Z H Q I hw)
def Ij (g:PE X a ta)(i:PE X (.BoolOp .And (b::rest) pos) tb):PE X (.BoolOp .And (a::b::rest) pos) (we ta tb):=by
 intro Y s Z H Q I h;refine BoolOp_and (TZ (g Y s Z H _ I h) λv j ⟨x,e,f,l,d⟩=>?_);obtain⟨c,rfl,d⟩:=d;cases l;refine wpAny_truthy_bool ?_;cases c with
 |true=>exact i Y j Z e Q f d
 |false=>exact⟨.bl false,e,f,rfl,d⟩
def Ik (e:PE X a ta):PE X (.UnaryOp .Not a pos) (zW ta):=by
 intro Y s Z H Q I h;refine UnaryOp_ (TZ (e Y s Z H _ I h) λv j ⟨x,f,g,i,d⟩=>?_);obtain⟨c,rfl,d⟩:=d;cases i;exact not_of (wpAny_truthy_bool ⟨.bl (!c),f,g,rfl,d⟩)
end
def qh (K:W.Frag)(H:Hp)(a:Addr)(xs:Yx):Prop:=
 Rd H a (.lst xs) \/
  ∃(o:Obj) (b:Yl) (n:Nat),K.lookup a=some o/\o.cls=.type "list" /\ o.dict=none/\o.data=.seq b n/\b.size<=sizeLine/\T4 xs b.toList
def xh (K:W.Frag)(H:Hp)(a:Addr)(xs:Yx):Prop:=
 Rd H a (.tup xs) \/
  ∃(o:Obj) (b:Yl) (n:Nat),K.lookup a=some o/\o.cls=.type "tuple" /\ o.data=.seq b n/\b.size<=sizeLine/\T4 xs b.toList
def gH:Value->Yy
 | .none=>some .non
 | .bool b=>some (.bl b)
 | .int i _=>some (.int i)
 | .str x _=>some (.str x)
 | .bytes b _=>some (.byt b)
 | .float b _=>some (.flt b)
 | .ref a=>some (.ref a)
 | .type n=>some (.ty n)
 |_=>none
def T3.abs {x:V}{u:Value}(r:T3 x u):gH u=some x:=by
 cases x with
 |non=>cases r;rfl
 |bl _=>cases r;rfl
 |int _=>obtain⟨t,rfl⟩:=r;rfl
 |str _=>obtain⟨t,rfl⟩:=r;rfl
 |byt _=>obtain⟨t,rfl⟩:=r;rfl
 |flt _=>obtain⟨t,rfl⟩:=r;rfl
 |ref _=>cases r;rfl
 |ty _=>cases r;rfl
def T3.inj {x y:V}{u:Value}(r:T3 x u)(q:T3 y u):x=y:=Zqi (r.abs.symm.trans q.abs)
theorem T4.inj:∀{xs ys:Yx} {a:Yd},T4 xs a->T4 ys a->xs=ys:=λ{xs ys a} g h=>by
 induction g generalizing ys with
 |nil=>cases h;rfl
 |cons r _ b =>
  cases h with
  |cons c t'=>rw[r.inj c,b t']
section
variable {X:Cx}{Y:Yb}{Z: St}{H:Hp}{s:Shared}{a:Addr}{xs ys:Yx}
def qh.of {K:W.Frag}(h:H a=some (.lst xs)):qh K H a xs:=.inl (.inl h)
def xh.of {K:W.Frag}(h:H a=some (.tup xs)):xh K H a xs:=.inl (.inl h)
def Inv.list (I:Inv X Y Z H s)(h:qh X.K H a xs):∃b:Yd,T4 xs b/\PlainL s.heap a b.toArray/\xs.length<=sizeLine:=by
 rcases h with h|⟨o,b,n,hk,hc,hd,hs,hz,r⟩
 .obtain⟨z,b,n,r,e⟩:=h.ok I.hok;exact⟨b,r,⟨_,n,e,rfl,rfl,rfl⟩,z⟩
 .refine⟨b.toList,r,⟨o,n,I.kIn a o hk,hc,hd,by simpa using hs⟩,?_⟩;have e:=r.length;simp only[Ui] at e;lia
def Inv.tuple (I:Inv X Y Z H s)(h:xh X.K H a xs):∃b:Yd,T4 xs b/\IsTup s.heap a b.toArray/\xs.length<=sizeLine:=by
 rcases h with h|⟨o,b,n,hk,hc,hs,hz,r⟩
 .obtain⟨z,b,r,p⟩:=h.ok I.hok;exact⟨b,r,p,z.1⟩
 .refine⟨b.toList,r,⟨o,I.kIn a o hk,hc,n,by simpa using hs⟩,?_⟩;have e:=r.length;simp only[Ui] at e;lia
def Inv.list_inj (I:Inv X Y Z H s)(h:qh X.K H a xs)(h':qh X.K H a ys):xs=ys:=by
 obtain⟨b,r,⟨o,n,e,_,_,d⟩,_⟩:=I.list h;obtain⟨its',f,⟨g,i,c,_,_,d'⟩,_⟩:=I.list h';rw[e] at c;cases c;rw[d] at d';injection d' with d1 _
 have:b=its':=by simpa using Zt Array.toList d1
 subst this;exact r.inj f
def Inv.tuple_inj (I:Inv X Y Z H s)(h:xh X.K H a xs)(h':xh X.K H a ys):xs=ys:=by
 obtain⟨b,r,⟨o,e,_,n,d⟩,_⟩:=I.tuple h;obtain⟨its',f,⟨g,c,_,i,d'⟩,_⟩:=I.tuple h';rw[e] at c;cases c;rw[d] at d';injection d' with d1 _
 have:b=its':=by simpa using Zt Array.toList d1
 subst this;exact r.inj f
end
abbrev Cx.wish (X:Cx)(E:Ya):Cx:={ X with xe:=E }
abbrev Cx.nox (X:Cx):Cx:=X.wish λ_ _=>False
theorem Cx.Ok.wish {X:Cx}(ok:X.Ok)(E:Ya):(X.wish E).Ok:=
 ⟨ok.mod,ok.kind,ok.glob,ok.blt,ok.above,ok.inj,ok.has,ok.cab,ok.hd,ok.frames,ok.stk,ok.exf,ok.bs,ok.bsz,ok.noex,ok.exfs,ok.funs,ok.frf⟩
def Cx.Ok.unwish {X:Cx}{E:Ya}(ok:(X.wish E).Ok):X.Ok:=
 ⟨ok.mod,ok.kind,ok.glob,ok.blt,ok.above,ok.inj,ok.has,ok.cab,ok.hd,ok.frames,ok.stk,ok.exf,ok.bs,ok.bsz,ok.noex,ok.exfs,ok.funs,ok.frf⟩
section
variable {X:Cx}{Y:Yb}{Z: St}{H:Hp}{s:Shared}{E:Ya}
theorem Inv.wish (I:Inv X Y Z H s)(E:Ya):Inv (X.wish E) Y Z H s:=⟨I.ok.wish E,I.os,I.bare,I.base,I.loc,I.cell,I.free,I.freeC,I.pin,I.hok,I.len⟩
theorem Inv.unwish (I:Inv (X.wish E) Y Z H s):Inv X Y Z H s:=⟨I.ok.unwish,I.os,I.bare,I.base,I.loc,I.cell,I.free,I.freeC,I.pin,I.hok,I.len⟩
theorem SP.unwish {D:Ends}{f:Flow}{s':Shared}(h:SP (X.wish E) Y D f s'):SP X Y D f s':=by
 cases f with
 |next=>obtain⟨a,H',I,q⟩:=h;exact⟨a,H',I.unwish,q⟩
 |brk=>obtain⟨a,H',I,q⟩:=h;exact⟨a,H',I.unwish,q⟩
 |cont=>obtain⟨a,H',I,q⟩:=h;exact⟨a,H',I.unwish,q⟩
 |ret u=>obtain⟨v,a,H',I,r,q⟩:=h;exact⟨v,a,H',I.unwish,r,q⟩
theorem qJ.nox {st:List Stmt}{t:TS}(h:qJ X.nox st t):qJ X st t:=λY s Z H D I hw =>
 Zc (h Y s Z H D (I.wish _) hw) (λ_ _ q=>q.unwish) λ_ _ z=>False.elim z
end
section
variable {X:Cx}{st:Stmt}{rest:List Stmt}{t u:TS}{e:Expr}{te:TE}{pos:Pos}
def zX:TS:=λD Z H=>D.nx Z H
def kB (t u:TS):TS:=λD Z H=>t { D with nx:=u D } Z H
def CU:qJ X [] zX:=λ_ _ Z H _ I h=>wpAny_execs_nil ⟨Z,H,I,h⟩
def CV (a:PS X st t)(b:qJ X rest u):qJ X (st::rest) (kB t u):=by
 intro Y s Z H D I h;refine wpAny_execs_cons (TZ (a Y s Z H { D with nx:=u D } I h) λf c q=>?_);cases f with
 |next =>
  obtain⟨d,H',g,q⟩:=q;exact b Y c d H' D g q
 |ret v=>exact q
 |brk=>exact q
 |cont=>exact q
def CW (a:PS X st t):qJ X [st] t:=by
 intro Y s Z H D I h;refine wpAny_execs_cons (TZ (a Y s Z H D I h) λf b q=>?_);cases f with
 |next=>exact wpAny_execs_nil q
 |ret v=>exact q
 |brk=>exact q
 |cont=>exact q
def Il:TS:=λD Z H=>D.bk Z H
def Im:PS X (.Break pos) Il:=λ_ _ Z H _ I h=>wpAny_Break ⟨Z,H,I,h⟩
def Inv.quiet {Y:Yb}{Z: St}{H:Hp}{s:Shared}(I:Inv X Y Z H s):interactive X.env=false:=by simp[interactive,I.ok.kind]
def zZ (te:TE):TS:=λD Z H=>te Z H λ_ a=>D.nx Z a
def AQ (a:PE X e te)(hs:swapsWith e none pos.line X.env=pure false:=by rfl):PS X (.Expr e pos) (zZ te):=by
 intro Y s Z H D I h;exact wpAny_Expr_any (TZ (a Y s Z H _ I h) λv f ⟨x,b,c,g,d⟩=>⟨Z,b,c,d⟩) I.quiet hs
def kC (te:TE):TS:=λD Z H=>te Z H D.rt
def YV (a:PE X e te):PS X (.Return (some e) pos) (kC te):=by
 intro Y s Z H D I h;exact wpAny_Return_some (TZ (a Y s Z H _ I h) λv g ⟨x,b,c,d,f⟩=>⟨x,Z,b,c,d,f⟩)
def kF (c:TT)(t u:TS):TS:=λD Z H=>c Z H λb a=>if b=true then t D Z a else u D Z a
def CY {c:Expr}{a b:List Stmt}{f:TT}(m:PT X c f)(n:qJ X a t)(o:qJ X b u):PS X (.If c a b pos) (kF f t u):=by
 intro Y s Z H D I h;refine wpAny_If (TZ (m Y s Z H _ I h) λd g ⟨i,j,l⟩=>?_);cases d with
 |true=>exact n Y g Z i D j l
 |false=>exact o Y g Z i D j l
end
abbrev TG:=V->St->Hp->(St->Hp->Prop)->Prop
abbrev zi:=Yx->St->Hp->(St->Hp->Prop)->Prop
def PG (X:Cx)(a:Expr)(t:TG):Prop:=
 ∀(Y:Yb) (s:Shared) (Z: St) (H:Hp) (v:V) (u:Value) (Q:St->Hp->Prop),Inv X Y Z H s->T3 v u->t v Z H Q ->
  YB X (assign a X.env u) (λ_ s'=>∃b H',Inv X Y b H' s'/\Q b H') X.xe s
def kq (X:Cx)(ts:Yk)(t:zi):Prop:=
 ∀(Y:Yb) (s:Shared) (Z: St) (H:Hp) (vs:Yx) (a:Yd) (Q:St->Hp->Prop),Inv X Y Z H s->T4 vs a->t vs Z H Q ->
  YB X (assignInOrder ((assignEach ts X.env).map (·.2)) a) (λ_ s'=>∃b H',Inv X Y b H' s'/\Q b H') X.xe s
section
variable {X:Cx}{pos:Pos}
def KG (i:Nat):TG:=λv Z H Q=>Q (Z.set i (some v)) H
def JY {i:Nat}{x:Str}(a:X.N.Nodup)(hi:X.N[i]? = some x)(hx:x4 X.env.scope x)(b:X.fn x=true\/X.env.scope.names.lookup x=some .local:=by trivial):PG X (.Name x pos) (KG i):=by
 intro Y s Z H v u Q I r h;exact wpAny_assign_Name (YT I a hi hx r (λs' c=>⟨_,H,c,h⟩) b)
def vp:zi:=λvs Z H Q=>vs=[]/\Q Z H
def CZ (t:TG)(u:zi):zi:=λvs Z H Q=>∃v r,vs=v::r/\t v Z H λa H'=>u r a H' Q
def K4:kq X [] vp:=by
 intro Y s Z H vs a Q I r h;obtain⟨e,h⟩:=h;subst e;cases r;exact assignInOrder_nil ⟨Z,H,I,h⟩
def Qs {e:Expr}{es:Yk}{t:TG}{u:zi}(a:PG X e t)(b:kq X es u)
 (hs:(assignEach (e::es) X.env).map (·.2)=assign e X.env::(assignEach es X.env).map (·.2):=by rfl):kq X (e::es) (CZ t u):=by
 intro Y s Z H vs m Q I r h;obtain⟨v,n,c,h⟩:=h;subst c;cases r with
 |cons r d =>
  rw[hs];refine assignInOrder_cons (TZ (a Y s Z H _ _ _ I r h) λ_ f ⟨g,i,j,l⟩=>?_);exact b Y f g i _ _ Q j d l
def vk (K:W.Frag)(n:Nat)(t:zi):TG:=λv Z H Q=>∃a xs,v=.ref a/\xh K H a xs/\xs.length=n/\t xs Z H Q
def K5 {es:Yk}{k:Nat}{t:zi}{n:Nat}(f:X.calm=true)(h:kq X es t)
 (g:(assignEach es X.env).length=n:=by rfl) (c:(assignEach es X.env).findIdx? (·.1)=none:=by rfl):PG X (.Tuple es k pos) (vk X.K n t):=by
 intro Y s Z H v u Q I r hw;obtain⟨a,xs,i,j,l,hw⟩:=hw;subst i;cases r;obtain⟨m,d,p,hz⟩:=I.tuple j;refine assign_Tuple_tuple (I.ok.hd f) p (by simp[g,<- l,d.length]) c λh' hx=>?_;have q:Inv X Y Z H { s with heap:=h' }:=I.kept (t':=s.toks) λb o e=>hx b o (Zi (Zk e)) e;exact h Y _ Z H xs _ Q q (by simpa using d) hw
def ym (te:TE)(g:TG):TS:=λD Z H=>te Z H λx a=>g x Z a D.nx
def AR {i:Nat}{x:Str}{e:Expr}{te:TE}{a:Pos}(b:X.N.Nodup)(hi:X.N[i]? = some x)(hx:x4 X.env.scope x)(c:PE X e te)(hs:swapsWith e (some (.Name x a)) pos.line X.env=pure false:=by rfl)(d:X.fn x=true\/X.env.scope.names.lookup x=some .local:=by trivial):
 PS X (.Assign [.Name x a] e pos) (ym te (KG i)):=by
 intro Y s Z H D I h;refine wpAny_Assign_Name (TZ (c Y s Z H _ I h) λv n ⟨y,f,g,j,l⟩=>?_) hs;exact YT g b hi hx j (λo m=>⟨_,f,m,l⟩) d
end
structure It where
 go:Nat->Hp->Prop
 yld:Nat->Hp->V->Hp->Prop
 stop:Nat->Hp->Prop
def xc (X:Cx)(Y:Yb)(H:Hp)(b:Addr):Prop:=
 H b=none/\b≠X.env.locals/\b∉X.fs/\(b∈X.ex\/X.s₀.heap.objs.size<=b)/\(∀x c,X.env.cells.lookup x=some c->c≠b)/\∀p∈X.pn++Y,p.1≠b
def Inv.fpOk {X:Cx}{Y:Yb}{Z: St}{H H':Hp}{s:Shared}{b:Addr}(I:Inv X Y Z H s)(a:s.heap.objs.size<=b)(d:H' b=none):xc X Y H' b:=by
 refine⟨d,UV (Zg I.lt a),I.nofs a,.inr (Zh I.sz a),λx c e z=>?_,λp hp z=>?_⟩
 .obtain⟨v,q⟩:=I.cell x c e;exact Zn (Zg q.lt (by rw[z];exact a)) (Zy _)
 .exact Zn (Zg (Zk (I.pin p hp).1) (by rw[z];exact a)) (Zy _)
structure Turn (P:Program)(w:World)(K:W.Frag)(tg:Expr)(J:It)(fp:Yj)(it:Addr)(tn:Nat->Heap->Prop):Prop where
 mem:it∈fp
 obj:∀i h,tn i h->∀b∈fp,∃o,h.get? b=some o/\∀v,o.data ≠ .cell v
 keep:∀i h h',tn i h->(∀b∈fp,∀o,h.get? b=some o->h'.get? b=some o)->tn i h'
 item:∀(X:Cx),X.prog=P->X.w=w->X.K=K->X.calm=true->∀(i:Nat) (Y:Yb) (s:Shared) (Z: St) (H:Hp) (E:Ya),Inv X Y Z H s->(∀b∈fp,xc X Y H b)->tn i s.heap->J.go i H ->
  wpAny (model P w) X.A (pyNext (.ref it)) (λr s1=>∃u,r=some u /\
   wpAny (model P w) X.A (letOwnedTupleGo tg (.ref it) u) (λ_ s2=>∃x H',Inv X Y Z H' s2/\T3 x u/\J.yld i H x H'/\tn (i+1) s2.heap/\∀b∈fp,H' b=none) E s1) E s
 done:∀(X:Cx),X.prog=P->X.w=w->X.K=K->X.calm=true->∀(i:Nat) (Y:Yb) (s:Shared) (Z: St) (H:Hp) (E:Ya),Inv X Y Z H s->(∀b∈fp,xc X Y H b)->tn i s.heap->J.stop i H ->
  wpAny (model P w) X.A (pyNext (.ref it)) (λr s1=>r=none/\Inv X Y Z H s1) E s
 self:∀(A:Around) (i:Nat) (s:Shared) (Q:Ya) (E:Ya),tn i s.heap->Q (.ref it) s->wpAny (model P w) A (pyIter (.ref it)) Q E s
abbrev TI:=St->Hp->(It->Hp->Prop)->Prop
def fx (X:Cx)(Y:Yb)(Z: St)(tg:Expr)(R:It->Hp->Prop)(a:Value)(c:Shared):Prop:=
 ∃(it:Addr) (d:Yj) (e:Nat->Heap->Prop) (J:It) (H':Hp),a=.ref it/\Inv X Y Z H' c/\Turn X.prog X.w X.K tg J d it e/\e 0 c.heap/\(∀b∈d,xc X Y H' b)/\R J H'
def PI (X:Cx)(tg a:Expr)(b:TI):Prop:=
 ∀(Y:Yb) (s:Shared) (Z: St) (H:Hp) (R:It->Hp->Prop),Inv X Y Z H s->b Z H R ->
  YB X (eval a X.env) (λv c=>YB X (pyIter v) (fx X Y Z tg R) X.xe c) X.xe s
def AS {M:Model}{A:Around}{E:Ya}{s:Shared}{tg:Expr}{it:Addr}{u:Value}{o:Obj}{n:String}{vs:Yl}{Q:Unit->Yv}(b:s.heap.get? it=some o)(c:o.cls=.type n)(d:o.data=.fields vs)
 (e: ["enumerate", "zip", "dict_itemiterator", "dict_reverseitemiterator", "odict_iterator", "itertools.zip_longest", "itertools.pairwise"].contains n=false) (a:Q Yq s):wpAny M A (letOwnedTupleGo tg (.ref it) u) Q E s:=by
 unfold letOwnedTupleGo;cases tg<;>first
  |exact Zb a
  | (cases u<;>first
   |exact Zb a
   | (
    refine Za (wpAny_load b ?_);rw[c,d];show wpAny M A (if(["enumerate", "zip", "dict_itemiterator", "dict_reverseitemiterator", "odict_iterator", "itertools.zip_longest", "itertools.pairwise"].contains n&&vs[0]? == some (rawInt _))=true then _ else _) Q E s;rw[Ze (by intro h;rw[e,Bool.false_and] at h;cases h)];exact Zb a))
def f7 (K:W.Frag)(a:Addr):It:=
 ⟨λi H=>∃xs x,qh K H a xs/\xs[i]? = some x,λi H x H'=>H'=H/\∀xs,qh K H a xs->xs[i]? = some x,λi H=>∃xs,qh K H a xs/\xs.length<=i⟩
def f6 (K:W.Frag)(a:Addr):It:=
 ⟨λi H=>∃xs x,xh K H a xs/\xs[i]? = some x,λi H x H'=>H'=H/\∀xs,xh K H a xs->xs[i]? = some x,λi H=>∃xs,xh K H a xs/\xs.length<=i⟩
def ku (lo:Int)(n:Nat):It:=⟨λi _=>i<n,λi H x H'=>H'=H/\x=.int (lo+i),λi _=>n<=i⟩
def Io {P:Program}{w:World}{K:W.Frag}{tg:Expr}(a it:Addr):Turn P w K tg (f7 K a) [it] it (λi h=>h.IsListIter it a i) where
 mem:=by simp
 obj:=λi h st b f=>by
  have e:b=it:=by simpa using f
  subst e;obtain⟨o,e,c,d⟩:=st;exact⟨o,e,λv z=>by rw[d] at z;cases z⟩
 keep:=λi h h' st k=>st.at λo e=>k it () o e
 item:=by
  intro X m hw n G i Y s Z H E I j st q;subst m hw n;obtain⟨xs,x,l,hx⟩:=q;obtain⟨r,t,p,hz⟩:=I.list l;obtain⟨u,J,L⟩:=t.get hx;obtain⟨y,A,M,B,C,F⟩:=j it ();refine wpAny_pyNext_list_item st p.isList (x:=u) (by simpa using J) λh' g N=>?_;have O:Inv X Y Z H { s with heap:=h' }:=I.turned (t':=s.toks) (λb o f e=>(N.2 b f).trans e) y A B C F;obtain⟨o,e,c,d⟩:=id g;exact⟨u,rfl,AS (s:={ s with heap:=h' }) e c d (by decide) ⟨x,H,O,L,⟨rfl,λys Q=>by rw[I.list_inj Q l];exact hx⟩,g,λb f=>(j b f).1⟩⟩
 done:=by
  intro X m hw n G i Y s Z H E I j st q;subst m hw n;obtain⟨xs,l,hx⟩:=q;obtain⟨r,t,p,hz⟩:=I.list l;obtain⟨y,A,M,B,C,F⟩:=j it ();have S:=t.length;exact wpAny_pyNext_list_end (I.ok.hd G) st p.isList (by simp;lia) λh' R=>⟨rfl,I.turned (t':=s.toks) (λb o f e=>R b o f e) y A B C F⟩
 self:=λ_ _ _ _ _ st h=>wpAny_pyIter_listiter st h
def Ip {P:Program}{w:World}{K:W.Frag}{tg:Expr}(a it:Addr):Turn P w K tg (f6 K a) [it] it (λi h=>h.IsTupleIter it a i) where
 mem:=by simp
 obj:=λi h st b f=>by
  have e:b=it:=by simpa using f
  subst e;obtain⟨o,e,c,d⟩:=st;exact⟨o,e,λv z=>by rw[d] at z;cases z⟩
 keep:=λi h h' st k=>st.at λo e=>k it () o e
 item:=by
  intro X n hw q G i Y s Z H E I l st r;subst n hw q;obtain⟨xs,x,m,hx⟩:=r;obtain⟨g,t,p,hz⟩:=I.tuple m;obtain⟨u,J,L⟩:=t.get hx;obtain⟨y,A,M,B,C,F⟩:=l it ();refine wpAny_pyNext_tuple_item st (show s.heap.IsTuple a g.toArray from p) (x:=u) (by simpa using J) λh' j N=>?_;have O:Inv X Y Z H { s with heap:=h' }:=I.turned (t':=s.toks) (λb o f e=>(N.2 b f).trans e) y A B C F;obtain⟨o,e,c,d⟩:=id j;exact⟨u,rfl,AS (s:={ s with heap:=h' }) e c d (by decide) ⟨x,H,O,L,⟨rfl,λys Q=>by rw[I.tuple_inj Q m];exact hx⟩,j,λb f=>(l b f).1⟩⟩
 done:=by
  intro X n hw q G i Y s Z H E I l st r;subst n hw q;obtain⟨xs,m,hx⟩:=r;obtain⟨g,t,p,hz⟩:=I.tuple m;obtain⟨y,A,M,B,C,F⟩:=l it ();have S:=t.length;exact wpAny_pyNext_tuple_end (I.ok.hd G) st (show s.heap.IsTuple a g.toArray from p) (by simp;lia) λh' R=>⟨rfl,I.turned (t':=s.toks) (λb o f e=>R b o f e) y A B C F⟩
 self:=λ_ _ _ _ _ st h=>wpAny_pyIter_tupleiter st h
def Iq {P:Program}{w:World}{K:PySem.W.Frag}{tg:Expr}(it:Addr)(lo:Int)(n:Nat):Turn P w K tg (ku lo n) [it] it (λi h=>IsRangeIter h it (lo+(i:Nat)*1) ((n:Int)-(i:Nat)) 1) where
 mem:=by simp
 obj:=λi h st b a=>by
  have e:b=it:=by simpa using a
  subst e;exact⟨_,st,λv z=>by
   have x:Data.fields _=Data.cell v:=z;cases x⟩
 keep:=λi h h' st k=>k it () _ st
 item:=by
  intro X f hw g j i Y s Z H E I d st l;subst f hw g;obtain⟨m,p,y,q,r,u⟩:=d it ();have W:=Walks.range (prog:=X.prog) (w:=X.w) (I.ok.hd j) it lo 1 n;refine W.item i s _ _ l st λv h' tk A c kk=>?_;obtain⟨t,rfl⟩:=A;have B:Inv X Y Z H { s with heap:=h',toks:=tk }:=I.turned (λb o a e=>kk b o (by simpa using a) e) m p q r u;refine⟨_,rfl,AS (s:={ s with heap:=h',toks:=tk }) (n:= "range_iterator") c rfl rfl (by decide) ⟨.int (lo+i),H,B,⟨t,?_⟩,⟨rfl,rfl⟩,c,λb a=>(d b a).1⟩⟩;rw[Int.mul_one]
 done:=by
  intro X f hw g j i Y s Z H E I d st l;subst f hw g;obtain⟨m,p,y,q,r,u⟩:=d it ();exact wpAny_pyNext_range_end (I.ok.hd j) st (by have:n<=i:=l;lia) λh' C=>⟨rfl,I.turned (t':=s.toks) (λb o a e=>C b o a e) m p q r u⟩
 self:=λ_ _ _ _ _ st h=>wpAny_pyIter_rangeiter st h
section
variable {X:Cx}{tg:Expr}
def vj (K:W.Frag)(c:TE):TI:=λZ H R=>c Z H λx b=>∃a,x=.ref a/\(∃xs,qh K b a xs)/\R (f7 K a) b
def ga (K:W.Frag)(c:TE):TI:=λZ H R=>c Z H λx b=>∃a,x=.ref a/\(∃xs,xh K b a xs)/\R (f6 K a) b
def Ir {l:Expr}{f:TE}(g:PE X l f):PI X tg l (vj X.K f):=by
 intro Y s Z H R I h;refine TZ (g Y s Z H _ I h) λv c ⟨x,i,d,j,m⟩=>?_;obtain⟨a,e,⟨xs,n⟩,q⟩:=m;subst e;cases j;obtain⟨r,u,p,hz⟩:=d.list n;refine wpAny_pyIter_list p.isList ?_;refine⟨c.heap.objs.size,[c.heap.objs.size],_,_,i,rfl,d.kept (t':=c.toks) λb o e=>Zq _ e,Io a _,⟨_,Zr _ rfl,rfl,rfl⟩,λb t=>?_,q⟩;have e:b=c.heap.objs.size:=by simpa using t
 subst e;exact d.fpOk (Zf _) (d.hok.fresh (Zf _))
def Iu {l:Expr}{g:TE}(i:PE X l g):PI X tg l (ga X.K g):=by
 intro Y s Z H R I h;refine TZ (i Y s Z H _ I h) λv c ⟨x,j,d,m,n⟩=>?_;obtain⟨a,e,⟨xs,r⟩,q⟩:=n;subst e;cases m;obtain⟨f,u,p,hz⟩:=d.tuple r;refine wpAny_pyIter_tuple (show c.heap.IsTuple a f.toArray from p) ?_;refine⟨c.heap.objs.size,[c.heap.objs.size],_,_,j,rfl,d.kept (t':=c.toks) λb o e=>Zq _ e,Ip a _,⟨_,Zr _ rfl,rfl,rfl⟩,λb t=>?_,q⟩;have e:b=c.heap.objs.size:=by simpa using t
 subst e;exact d.fpOk (Zf _) (d.hok.fresh (Zf _))
def Iv {Y:Yb}{Z: St}{H:Hp}{s:Shared}{R:It->Hp->Prop}{E:Ya}{lo hi:Int}{t u v:Tok}{tk:Nat}(I:Inv X Y Z H s)(c: -(2 ^ 62)<=lo)(d:lo<2 ^ 62)(f: -(2 ^ 62)<=hi)(g:hi<2 ^ 62)
 (q:R (ku lo (hi-lo).toNat) H):YB X (pyIter (.ref s.heap.objs.size)) (fx X Y Z tg R) E { s with heap:=s.heap.push { cls:=.type "range",data:=.fields #[.int lo t,.int hi u,.int 1 v] },toks:=tk }:=by
 refine wpAny_pyIter_range (IsRange.new ..) (small_one c d f g) ?_;have a:Inv X Y Z H { s with heap:=s.heap.push { cls:=.type "range",data:=.fields #[.int lo t,.int hi u,.int 1 v] },toks:=tk }:=I.kept λb o e=>Zq _ e;refine⟨(s.heap.push { cls:=.type "range",data:=.fields #[.int lo t,.int hi u,.int 1 v] }).objs.size,[(s.heap.push { cls:=.type "range",data:=.fields #[.int lo t,.int hi u,.int 1 v] }).objs.size],_,_,H,rfl,
  a.kept (t':=tk) λb o e=>Zq _ e,Iq _ lo (hi-lo).toNat,?_,λb h=>?_,q⟩
 .have i:lo+((0:Nat):Int)*1=lo:=by simp
  have j:(((hi-lo).toNat:Nat):Int)-((0:Nat):Int)=Builtin.Range.rangeSize lo hi 1:=by rw[rangeSize_one];split<;>lia
  show IsRangeIter _ _ (lo+((0:Nat):Int)*1) ((((hi-lo).toNat:Nat):Int)-((0:Nat):Int)) 1;rw[i,j];exact Zr _ rfl
 .have e:b=(s.heap.push { cls:=.type "range",data:=.fields #[.int lo t,.int hi u,.int 1 v] }).objs.size:=by simpa using h
  subst e;exact a.fpOk (Zf _) (a.hok.fresh (Zf _))
def vh (a:TA):TI:=λZ H R=>a Z H λvs b=>∃j:Int,vs=[.int j] /\ -(2 ^ 62)<=j/\j<2 ^ 62/\R (ku 0 j.toNat) b
def Iw {a:Expr}{d:TA}{p b:Pos}(f:Gl X "range")(g:X.mg "range" = none)(i:PA X [a] d)(hs:starEach [a] X.env=[(false,eval a X.env)]:=by rfl):PI X tg (.Call (.Name "range" p) [a] [] b) (vh d):=by
 intro Y s Z H R I h;refine Call_ (WG I f g boot_range (PyProof.Rows.callWith_type1 (TZ (i b Y s Z H _ I h) λu v ⟨vs,w,l,m,c⟩=>?_) hs rfl));obtain⟨j,e,c,n,q⟩:=c;subst e;cases m with
 |cons r o =>
  cases o;obtain⟨t,rfl⟩:=r;exact call_range_1 (Iv l () () c n (by simpa using q))
def kG (c:TI)(g:TG)(d:TS):TS:=λD Z H=>c Z H λJ e=>∃W:Nat->Nat->St->Hp->Prop,(∃m,W 0 m Z e)/\∀i m Z H,W i m Z H ->
 (J.stop i H/\D.nx Z H)\/(J.go i H/\∃N:St->Hp->Prop,(∀a H',N a H'->∃b,b<m/\W (i+1) b a H')/\∀x H',J.yld i H x H'->g x Z H' λf h=>d { D with nx:=N,ct:=N,bk:=D.nx } f h)
def Xs (a:Yj)(h:Heap):Yb:=a.filterMap λb=>(h.get? b).map λo=>(b,o)
def YW {a:Yj}{h:Heap}{b:Addr}{o:Obj}(c:b∈a)(e:h.get? b=some o):(b,o)∈Xs a h:=Jr.mpr ⟨b,c,by rw[e];rfl⟩
def Ix {a:Yj}{h:Heap}{p:Addr×Obj}(hp:p∈Xs a h):p.1∈a/\h.get? p.1=some p.2:=by
 obtain⟨b,c,e⟩:=Jr.mp hp;cases q:h.get? b with
 |none=>rw[q] at e;cases e
 |some o =>
  rw[q] at e;have d:(b,o)=p:=Zqi e;subst d;exact⟨c,q⟩
def Inv.pinned {Y:Yb}{Z: St}{H:Hp}{s:Shared}{a:Yj}(I:Inv X Y Z H s)(g:∀b∈a,xc X Y H b)(h:∀b∈a,∃o,s.heap.get? b=some o/\∀v,o.data ≠ .cell v):Inv X (Y++Xs a s.heap) Z H s:=
 I.pins_of λp hp=>(Jc.mp hp).elim (λz=>I.pin p (Ug _ z)) λz=>by
  obtain⟨c,e⟩:=Ix z;obtain⟨i,j,l,_⟩:=g p.1 c;obtain⟨o,f,d⟩:=h p.1 c;rw[e] at f;cases f;exact⟨e,i,j,l,d⟩
def Inv.unpinned {Y a:Yb}{Z: St}{H:Hp}{s:Shared}(I:Inv X (Y++a) Z H s):Inv X Y Z H s:=I.pins_of λp hp=>I.pin p (Ug _ (Uu _ hp))
def Da {a:Expr}{t:List Stmt}{U:TI}{g:TG}{tb:TS}{M:Pos}(hp:PassesOwn (model X.prog X.w) X.A X.env X.xe)(hc:X.calm=true)(hi:PI X tg a U)(hg:PG X tg g)(c:qJ X t tb)
 (hs:∀x,foldedSetIterable a X.env x=pure x:=by intro _;rfl):PS X (.For tg a t [] M) (kG U g tb):=by
 intro Y s Z H D I h;refine wpAny_For (TZ (hi Y s Z H _ I h) λv s1 h1=>TZ h1 λitv s2 h2=>?_) hs;obtain⟨it,z,tn,J,H2,e,I2,T,O,f2,W,⟨m0,w0⟩,A⟩:=h2;subst e;have j:∀{H':Hp},(∀b∈z,H' b=none)->∀b∈z,xc X Y H' b:=λhn b c=>⟨hn b c,(f2 b c).2⟩;refine codeAny_forLoop_any (λn s'=>∃i B H',Inv X Y B H' s'/\tn i s'.heap/\(∀b∈z,H' b=none)/\W i n B H') ?_ m0 ⟨0,Z,H2,I2,O,λb c=>(f2 b c).1,w0⟩;rintro n s3 ⟨i,C,L,I3,E,F,w3⟩;rcases A i n C L w3 with ⟨G,qn⟩|⟨go,N,hN,step⟩
 .refine wpAny_passesOwn hp (TZ (T.done X rfl rfl rfl hc i Y s3 C L X.xe I3 (j F) E G) λr s4 ⟨P,I4⟩=>?_);subst P;exact wpAny_execs_nil ⟨C,L,I4,qn⟩
 .refine wpAny_passesOwn hp (TZ (T.item X rfl rfl rfl hc i Y s3 C L X.xe I3 (j F) E go) λr s4 ⟨u,P,h4⟩=>?_);subst P;refine wpAny_passesOwn hp (TZ h4 λ_ s5 ⟨x,H5,I5,r5,y5,y,Q⟩=>?_);have R:=I5.pinned (j Q) (T.obj _ _ y);refine wpAny_passesOwn hp (TZ (hg _ s5 C H5 x u _ R r5 (step x H5 y5)) λ_ s6 ⟨Z6,H6,I6,q6⟩=>?_);refine wpAny_passesOwn hp (TZ (c _ s6 Z6 H6 _ I6 q6) λf S w=>?_);have again:∀{l:St} {p:Hp},Inv X (Y++Xs z s5.heap) l p S->N l p->∃m,m<n/\∃i B H',Inv X Y B H' S/\tn i S.heap/\(∀b∈z,H' b=none)/\W i m B H':=λ{l p} q K=>by
   obtain⟨m',hm,w7⟩:=hN l p K;refine⟨m',hm,i+1,l,p,q.unpinned,T.keep _ _ _ y λb c o e=>(q.pin (b,o) (Ug _ (Ug _ (YW c e)))).1,λb c=>?_,w7⟩;obtain⟨o,e,d⟩:=T.obj _ _ y b c;exact(q.pin (b,o) (Ug _ (Ug _ (YW c e)))).2.1
  cases f with
  |next=>obtain⟨l,p,q,K⟩:=w;exact again q K
  |cont=>obtain⟨l,p,q,K⟩:=w;exact again q K
  |brk=>obtain⟨l,p,q,w⟩:=w;exact⟨l,p,q.unpinned,w⟩
  |ret v=>obtain⟨x7,l,p,q,r7,w⟩:=w;exact⟨x7,l,p,q.unpinned,r7,w⟩
end
abbrev R2:=V->V->Hp->VK->Prop
def ql (X:Cx)(f:Value->Value->Sem Value)(r:R2):Prop:=
 ∀(Y:Yb) (s:Shared) (Z: St) (H:Hp) (x y:V) (v u:Value) (Q:VK),Inv X Y Z H s->T3 x v->T3 y u->r x y H Q ->
  YB X (f v u) (EP X Y Z Q) X.xe s
def yQ (X:Cx)(f:Value->Sem Value)(r:V->Hp->VK->Prop):Prop:=
 ∀(Y:Yb) (s:Shared) (Z: St) (H:Hp) (x:V) (v:Value) (Q:VK),Inv X Y Z H s->T3 x v->r x H Q ->
  YB X (f v) (EP X Y Z Q) X.xe s
def jc (X:Cx)(f:Value)(r:Yx->Hp->VK->Prop):Prop:=
 ∀(Y:Yb) (s:Shared) (Z: St) (H:Hp) (xs:Yx) (a:Yd) (Q:VK),Inv X Y Z H s->T4 xs a->r xs H Q ->
  YB X (call f a) (EP X Y Z Q) X.xe s
def zn (r:R2)(a b:TE):TE:=λZ H Q=>a Z H λx c=>b Z c λy d=>r x y d Q
def gX (r:V->Hp->VK->Prop)(a:TE):TE:=λZ H Q=>a Z H λx b=>r x b Q
def rI (C:Int->Int->Prop)(g:Int->Int->V):R2:=λx y H Q=>∃i j,x=.int i/\y=.int j/\C i j/\Q (g i j) H
def zf (g:Int->Int->V):R2:=λx y H Q=>∃i j,x=.int i/\y=.int j/\Q (g i j) H
def rU (g:Int->V):V->Hp->VK->Prop:=λx H Q=>∃i,x=.int i/\Q (g i) H
section
variable {X:Cx}{a b c:Expr}{ta tb tc:TE}{pos:Pos}
def zy (i:PE X a ta)(j:PE X b tb){Y:Yb}{s:Shared}{Z: St}{H:Hp}{R:V->V->Hp->Prop}(I:Inv X Y Z H s)
 (h:ta Z H λx g=>tb Z g λy d=>R x y d) {Q:Ya} {f:Value->Value->Sem Value}
 (l:∀v u e x y d,Inv X Y Z d e->T3 x v->T3 y u->R x y d->YB X (f v u) Q X.xe e):
 YB X (eval a X.env) (λv s₁=>YB X (eval b X.env) (λu s₂=>YB X (f v u) Q X.xe s₂) X.xe s₁) X.xe s:=by
 refine TZ (i Y s Z H _ I h) λv m ⟨x,g,n,o,p⟩=>?_;refine TZ (j Y m Z g _ n p) λu e ⟨y,d,q,r,t⟩=>?_;exact l v u e x y d q o r t
def Db {op:Operator}{r:R2}(d:ql X (binaryOp op) r)(e:PE X a ta)(f:PE X b tb):PE X (.BinOp a op b pos) (zn r ta tb):=by
 intro Y s Z H Q I h;exact wpAny_BinOp (zy e f I h λv u g x y i j l m q=>d Y g Z i x y v u Q j l m q)
def wD {op:UnaryOp}{r:V->Hp->VK->Prop}(d:yQ X (unaryOp op) r)(e:PE X a ta):PE X (.UnaryOp op a pos) (gX r ta):=by
 intro Y s Z H Q I h;exact UnaryOp_ (TZ (e Y s Z H _ I h) λv f ⟨x,g,i,j,l⟩=>d Y f Z g x v Q i j l)
def uD {f:Value->Value->Sem Value}{C:Int->Int->Prop}{g:Int->Int->Int}
 (rule:∀(i j:Int) (t u:Tok) (s:Shared) (Q:Ya) (E:Ya),C i j->Q (.int (g i j) s.toks) { s with toks:=s.toks+1 }->YB X (f (.int i t) (.int j u)) Q E s):
 ql X f (rI C λi j=>.int (g i j)):=by
 intro Y s Z H x y v u Q I d e h;obtain⟨i,j,rfl,rfl,l,q⟩:=h;obtain⟨t,rfl⟩:=d;obtain⟨t',rfl⟩:=e;exact rule i j t t' s _ _ l ⟨.int (g i j),H,I.tok _,⟨_,rfl⟩,q⟩
def wS {f:Value->Value->Sem Value}{g:Int->Int->Int}
 (rule:∀(i j:Int) (t u:Tok) (s:Shared) (Q:Ya) (E:Ya),Q (.int (g i j) s.toks) { s with toks:=s.toks+1 }->YB X (f (.int i t) (.int j u)) Q E s):
 ql X f (zf λi j=>.int (g i j)):=by
 intro Y s Z H x y v u Q I d e h;obtain⟨i,j,rfl,rfl,q⟩:=h;obtain⟨t,rfl⟩:=d;obtain⟨t',rfl⟩:=e;exact rule i j t t' s _ _ ⟨.int (g i j),H,I.tok _,⟨_,rfl⟩,q⟩
def zv {f:Value->Value->Sem Value}{g:Int->Int->Bool}
 (rule:∀(i j:Int) (t u:Tok) (s:Shared) (Q:Ya) (E:Ya),Q (.bool (g i j)) s->YB X (f (.int i t) (.int j u)) Q E s):
 ql X f (zf λi j=>.bl (g i j)):=by
 intro Y s Z H x y v u Q I d e h;obtain⟨i,j,rfl,rfl,q⟩:=h;obtain⟨t,rfl⟩:=d;obtain⟨t',rfl⟩:=e;exact rule i j t t' s _ _ ⟨.bl (g i j),H,I,rfl,q⟩
def ux (i j:Int):Prop:=0<j/\j<1073741824
def uw (i j:Int):Prop:=0<=j/\j<=1000000/\i.natAbs<2 ^ 64
def Iy:ql X (binaryOp .Add) (zf λi j=>.int (i+j)):=wS λ_ _ _ _ _ _ _ q=>add_int q
def Iz:ql X (binaryOp .Sub) (zf λi j=>.int (i-j)):=wS λ_ _ _ _ _ _ _ q=>sub_int q
def I1:ql X (binaryOp .FloorDiv) (rI ux λi j=>.int (i / j)):=uD λi j _ _ _ _ _ d q=>by
 have e:(0:Int)<j:=d.1;have f:j<1073741824:=d.2;exact floordiv_int () (by rw[Int.fdiv_eq_ediv_of_nonneg i ()];exact q) (.inl (PyProof.noPylong_small ()))
def IA:ql X (binaryOp .Mod) (rI (λ_ j=>0<j) λi j=>.int (i % j)):=uD λi j _ _ _ _ _ d q=>by
 have e:(0:Int)<j:=d;exact mod_int' () (by rw[Int.fmod_eq_emod_of_nonneg i ()];exact q)
def IB:ql X (binaryOp .Pow) (rI uw λi j=>.int (i ^ j.toNat)):=uD λ_ _ _ _ _ _ _ d q=>pow_int_small d.1 d.2.1 d.2.2 q
def fD {f:Value->Sem Value}{g:Int->Int}
 (rule:∀(i:Int) (t:Tok) (s:Shared) (Q:Ya) (E:Ya),Q (.int (g i) s.toks) { s with toks:=s.toks+1 }->YB X (f (.int i t)) Q E s):
 yQ X f (rU λi=>.int (g i)):=by
 intro Y s Z H x v Q I d h;obtain⟨i,rfl,q⟩:=h;obtain⟨t,rfl⟩:=d;exact rule i t s _ _ ⟨.int (g i),H,I.tok _,⟨_,rfl⟩,q⟩
def IC:yQ X (unaryOp .USub) (rU λi=>.int (-i)):=fD λ_ _ _ _ _ q=>neg_int q
end
def scal:V->V->Bool
 | .non,.non=>true | .non,.int _=>true | .int _,.non=>true | .non,.bl _=>true | .bl _,.non=>true | .non,.str _=>true | .str _,.non=>true
 | .int _,.int _=>true | .bl _,.bl _=>true | .str _,.str _=>true | .byt _,.byt _=>true
 | .int _,.str _=>true | .str _,.int _=>true | .bl _,.str _=>true | .str _,.bl _=>true
 |_,_=>false
def fJ:R2:=λx y H Q=>scal x y=true/\Q (.bl (decide (x=y))) H
def fH:R2:=λx y H Q=>scal x y=true/\Q (.bl (!decide (x=y))) H
def Dc {i j:Int}:decide (V.int i=V.int j)=(i == j):=by
 rw[U1];simp
def Dd {i j:Bool}:decide (V.bl i=V.bl j)=(i == j):=by
 rw[U1];simp
def De {i j:Str}:decide (V.str i=V.str j)=(i == j):=by
 rw[U1];simp
def Df {i j:Array UInt8}:decide (V.byt i=V.byt j)=(i.toList == j.toList):=by
 rw[U1];cases i;cases j;simp
section
variable {X:Cx}{a b c:Expr}{ta tb tc:TE}{pos:Pos}
def Qb {Y:Yb}{Z: St}{H:Hp}{s:Shared}{Q:VK}{k d:Bool}(I:Inv X Y Z H s)(q:Q (.bl k) H)(e:k=d):EP X Y Z Q (.bool d) s:=by
 subst e;exact⟨.bl k,H,I,rfl,q⟩
def wR:ql X (compareOp .Eq) fJ:=by
 intro Y s Z H x y v u Q I e d h;obtain⟨hs,q⟩:=h;cases x with
 |non =>
  cases e;cases y with
  |non=>cases d;exact PySem.EqNone.eq_none_none (Qb I q ())
  |bl j=>cases d;exact PySem.EqNone.eq_none_bool (Qb I q ())
  |int j=>obtain⟨t',rfl⟩:=d;exact PySem.EqNone.eq_none_int (Qb I q ())
  |str j=>obtain⟨t',rfl⟩:=d;exact PySem.EqNone.eq_none_str (Qb I q ())
  |_=>exact Zn (show false=true from hs) Zj
 |bl i =>
  cases e;cases y with
  |non=>cases d;exact PySem.EqNone.eq_bool_none (Qb I q ())
  |bl j=>cases d;exact eq_bool (Qb I q Dd)
  |str j=>obtain⟨t',rfl⟩:=d;exact PySem.EqMixed.eq_bool_str (Qb I q ())
  |_=>exact Zn (show false=true from hs) Zj
 |int i =>
  obtain⟨t,rfl⟩:=e;cases y with
  |non=>cases d;exact PySem.EqNone.eq_int_none (Qb I q ())
  |int j=>obtain⟨t',rfl⟩:=d;exact eq_int (Qb I q Dc)
  |str j=>obtain⟨t',rfl⟩:=d;exact PySem.EqMixed.eq_int_str (Qb I q ())
  |_=>exact Zn (show false=true from hs) Zj
 |str i =>
  obtain⟨t,rfl⟩:=e;cases y with
  |non=>cases d;exact PySem.EqNone.eq_str_none (Qb I q ())
  |bl j=>cases d;exact PySem.EqMixed.eq_str_bool (Qb I q ())
  |int j=>obtain⟨t',rfl⟩:=d;exact PySem.EqMixed.eq_str_int (Qb I q ())
  |str j=>obtain⟨t',rfl⟩:=d;exact eq_str (Qb I q De)
  |_=>exact Zn (show false=true from hs) Zj
 |byt i =>
  obtain⟨t,rfl⟩:=e;cases y with
  |byt j=>obtain⟨t',rfl⟩:=d;exact W.eq_bytes (Qb I q Df)
  |_=>exact Zn (show false=true from hs) Zj
 |_=>cases y<;>exact Zn (show false=true from hs) Zj
def wN:ql X (compareOp .NotEq) fH:=by
 intro Y s Z H x y v u Q I e d h;obtain⟨hs,q⟩:=h;cases x with
 |non =>
  cases e;cases y with
  |non=>cases d;exact PySem.EqNone.ne_none_none (Qb I q ())
  |bl j=>cases d;exact PySem.EqNone.ne_none_bool (Qb I q ())
  |int j=>obtain⟨t',rfl⟩:=d;exact PySem.EqNone.ne_none_int (Qb I q ())
  |str j=>obtain⟨t',rfl⟩:=d;exact PySem.EqNone.ne_none_str (Qb I q ())
  |_=>exact Zn (show false=true from hs) Zj
 |bl i =>
  cases e;cases y with
  |non=>cases d;exact PySem.EqNone.ne_bool_none (Qb I q ())
  |bl j=>cases d;exact ne_bool (Qb I q (Zt not Dd))
  |str j=>obtain⟨t',rfl⟩:=d;exact PySem.EqMixed.ne_bool_str (Qb I q ())
  |_=>exact Zn (show false=true from hs) Zj
 |int i =>
  obtain⟨t,rfl⟩:=e;cases y with
  |non=>cases d;exact PySem.EqNone.ne_int_none (Qb I q ())
  |int j=>obtain⟨t',rfl⟩:=d;exact ne_int (Qb I q (Zt not Dc))
  |str j=>obtain⟨t',rfl⟩:=d;exact PySem.EqMixed.ne_int_str (Qb I q ())
  |_=>exact Zn (show false=true from hs) Zj
 |str i =>
  obtain⟨t,rfl⟩:=e;cases y with
  |non=>cases d;exact PySem.EqNone.ne_str_none (Qb I q ())
  |bl j=>cases d;exact PySem.EqMixed.ne_str_bool (Qb I q ())
  |int j=>obtain⟨t',rfl⟩:=d;exact PySem.EqMixed.ne_str_int (Qb I q ())
  |str j=>obtain⟨t',rfl⟩:=d;exact ne_str (Qb I q (Zt not De))
  |_=>exact Zn (show false=true from hs) Zj
 |byt i =>
  obtain⟨t,rfl⟩:=e;cases y with
  |byt j=>obtain⟨t',rfl⟩:=d;exact W.ne_bytes (Qb I q (Zt not Df))
  |_=>exact Zn (show false=true from hs) Zj
 |_=>cases y<;>exact Zn (show false=true from hs) Zj
def wO:ql X (compareOp .Lt) (zf λi j=>.bl (decide (i<j))):=zv λ_ _ _ _ _ _ _ q=>lt_int q
def wP:ql X (compareOp .LtE) (zf λi j=>.bl (decide (i<=j))):=zv λ_ _ _ _ _ _ _ q=>le_int q
def wQ:ql X (compareOp .Gt) (zf λi j=>.bl (decide (j<i))):=zv λ_ _ _ _ _ _ _ q=>gt_int q
def Ql (b:Expr){op:CmpOp}(h:op ≠ .In:=by decide)(d:op ≠ .NotIn:=by decide):behindInMarks op b=false:=by
 have e:(op == CmpOp.In)=false:=by cases op<;>first|rfl|exact Zn rfl h
 have f:(op == CmpOp.NotIn)=false:=by cases op<;>first|rfl|exact Zn rfl d
 cases b<;>first|rfl|(show(_&&(_||_)&&_)=false;rw[e,f,Bool.or_self,Vl,Bool.false_and])
def ID {op:CmpOp}{r:R2}(d:ql X (compareOp op) r)(e:PE X a ta)(f:PE X b tb)(g:behindInMarks op b=false):PE X (.Compare a [op] [b] pos) (zn r ta tb):=by
 intro Y s Z H Q I h;exact wpAny_Compare1 (zy e f I h λv u i x y j l m n q=>d Y i Z j x y v u Q l m n q) g
def zU (t:TE):TT:=λZ H Q=>t Z H λx H'=>∃k,x=.bl k/\Q k H'
def AT {op:CmpOp}{r:R2}(d:ql X (compareOp op) r)(f:PE X a ta)(g:PE X b tb)(i:behindInMarks op b=false):PT X (.Compare a [op] [b] pos) (zU (zn r ta tb)):=by
 intro Y s Z H Q I h;refine wpAny_isTrue_Compare1 (TZ (f Y s Z H _ I h) λv j ⟨x,l,m,n,o⟩=>TZ (g Y j Z l _ m o) λu p ⟨y,q,t,w,A⟩ =>
  TZ (d Y p Z q x y v u _ t n w A) λc G ⟨z,B,C,E,k,e,F⟩=>?_) i
 subst e;cases E;exact wpAny_truthy_bool ⟨B,C,F⟩
def Xt:(sizeLine:Nat)<2 ^ 63:=by rw[sizeLine_eq];decide
def IE:ql X (binaryOp .Add) (λx y H Q=>∃i j,x=.str i/\y=.str j/\i.length+j.length<=sizeLine/\Q (.str (i++j)) H):=by
 intro Y s Z H x y v u Q I d e h;obtain⟨i,j,rfl,rfl,hz,q⟩:=h;obtain⟨t,rfl⟩:=d;obtain⟨t',rfl⟩:=e;exact add_str (λt' tk=>⟨.str (i++j),H,I.tok _,⟨_,rfl⟩,q⟩) hz
def Q9 {x:V}{d:Yd}(r:T4 [x] d):∃u,d=[u]/\T3 x u:=by
 cases r with
 |cons e f=>cases f;exact⟨_,rfl,e⟩
def Xu {x y:V}{d:Yd}(r:T4 [x,y] d):∃u e,d=[u,e]/\T3 x u/\T3 y e:=by
 cases r with
 |cons f g =>
  cases g with
  |cons h i=>cases i;exact⟨_,_,rfl,f,h⟩
def IF (e:X.calm=true):jc X (.builtin "max") (λxs H Q=>∃i j,xs=[.int i,.int j]/\Q (.int (if j > i then j else i)) H):=by
 intro Y s Z H xs f Q I r h;obtain⟨i,j,rfl,q⟩:=h;obtain⟨u,g,rfl,⟨t,rfl⟩,⟨t',rfl⟩⟩:=Xu r;refine max_two_ints (I.ok.hd e) λh' tk k=>⟨_,H,I.kept k,?_,q⟩;by_cases d:j > i
 .rw[Zd d,Zd d];exact⟨_,rfl⟩
 .rw[Ze d,Ze d];exact⟨_,rfl⟩
def IG (e:X.calm=true):jc X (.builtin "min") (λxs H Q=>∃i j,xs=[.int i,.int j]/\Q (.int (if j<i then j else i)) H):=by
 intro Y s Z H xs f Q I r h;obtain⟨i,j,rfl,q⟩:=h;obtain⟨u,g,rfl,⟨t,rfl⟩,⟨t',rfl⟩⟩:=Xu r;refine min_two_ints (I.ok.hd e) λh' tk k=>⟨_,H,I.kept k,?_,q⟩;by_cases d:j<i
 .rw[Zd d,Zd d];exact⟨_,rfl⟩
 .rw[Ze d,Ze d];exact⟨_,rfl⟩
end
structure ObjM (h:Heap)(x dx C:Addr)(mA:Yc):Prop where
 obj:h.get? x=some (W.instObj C dx)
 ns:h.Ns1 dx mA
 ne:dx≠x
def IH {h:Heap}{c:Addr}{d:Yc}(n:h.Ns1 c d):∃f,h.get? c=some f/\∀name,W.lookIn name f=some (d name):=by
 obtain⟨o,es,ep,g,i,j,_,l⟩:=n;refine⟨o,g,λname=>?_⟩;have e:=l name;unfold nsFind findBy at e;rw[<- Array.find?_toList] at e;unfold W.lookIn;rw[i];dsimp only
 split
 .rename_i y q;rw[q] at e;exact Zt some e
 .rename_i q;rw[q] at e;have a:es.toList.any (·.refKey)=false:=by
   rw[Ve];intro y m;obtain⟨z,t,b⟩:=j y (VE.mp m);simp[DictEntry.refKey,b]
  have p:¬es.toList.any (·.refKey)=true:=by rw[a];exact Zj
  rw[Ze p];exact Zt some e
def ObjM.look {h:Heap}{x b C:Addr}{c:Yc}(I:ObjM h x b C c):∃a,W.InstAt h x (W.instObj C b) C (some a)/\∀name,W.lookIn name a=some (c name):=
 let ⟨a,ho,hl⟩:=IH I.ns
 ⟨a,⟨I.obj,rfl,rfl,ho⟩,hl⟩
def qs {v:V}{o:Ye}(r:qC (some v) o):∃u,o=some u/\T3 v u:=by
 cases o with
 |none=>exact(show False from r).elim
 |some u=>exact⟨u,rfl,r⟩
section
variable {P:Program}{w:World}{H H':Hp}{h h':Heap}{a C dx:Addr}{fs fs':List (Str×V)}
def II (c:jP P w H h)(e:H a=some (.ins C dx fs)):∃b,ObjM h a dx C b/\(∀f,qC (fs.lookup f) (b f))/\PySem.Within b (fs.map (·.1))/\fs.length<=1000/\H dx=some (.own a):=by
 obtain⟨d,z,ne,g,b,n,r,q⟩:=(show jK P w H h a (.ins C dx fs) from c a _ e);exact⟨b,⟨g,n,ne⟩,r,q,z,d⟩
end
structure Cls (K:W.Frag)(C:Addr):Prop where
 pg:W.plainGet K C Str.empty=true
 hd:W.hasDictIn K C=true
 po:W.plainOver K C=true
 sa:W.findIn K (.ref C) "__setattr__" = some (some (.builtin "object.__setattr__"))
def Cls.get {K:W.Frag}{C:Addr}(c:Cls K C)(f:Str):W.plainGet K C f=true:=c.pg
section
variable {X:Cx}{Y:Yb}{Z: St}{H:Hp}{s:Shared}{A:Around}{E:Ya}{Q:Ya}{c:Value}{b:Bool}
inductive TyOf (K:W.Frag)(H:Hp):V->Value->Prop where
 |non:TyOf K H .non (.type "NoneType")
 |bl (x:Bool):TyOf K H (.bl x) (.type "bool")
 |int (i:Int):TyOf K H (.int i) (.type "int")
 |str (x:Str):TyOf K H (.str x) (.type "str")
 |flt (x:UInt64):TyOf K H (.flt x) (.type "float")
 |lst {a:Addr} {xs:Yx} (e:H a=some (.lst xs)):TyOf K H (.ref a) (.type "list")
 |frz {a:Addr} {o:Obj} {xs:Yx} (e:H a=some (.frz o (.lst xs))):TyOf K H (.ref a) (.type "list")
 |tup {a:Addr} {xs:Yx} (e:H a=some (.tup xs)):TyOf K H (.ref a) (.type "tuple")
 |dK {a:Addr} {kvs:List (TF×V)} (e:H a=some (.dK kvs)):TyOf K H (.ref a) (.type "dict")
 |dT {a:Addr} {kvs:List (List TF×V)} (e:H a=some (.dT kvs)):TyOf K H (.ref a) (.type "dict")
 |ins {a C dx:Addr} {fs:List (Str×V)} (e:H a=some (.ins C dx fs)) (cl:Cls K C) (ha:W.findIn K (.ref C) "__class__" = some (some (.builtin "object.__class__")))
  (hn:W.specialIn K (.builtin "object.__class__") "__get__" = some (some (.builtin "getset_descriptor.__get__"))) (htk:W.takesIn K (.builtin "object.__class__")=some true)
  (hm:W.mroIn K C (.type "object")=some true):TyOf K H (.ref a) (.ref C)
def IJ {x:V}{u t:Value}(I:Inv X Y Z H s)(d:T3 x u)(v:TyOf X.K H x t)(e:W.kitOne X.K t c=some b)(h:∀tk,Q (.bool b) { s with toks:=tk }):
 wpAny (model X.prog X.w) A (call (.builtin "isinstance") [u,c]) Q E s:=by
 cases v with
 |non=>cases (show u=Value.none from d);exact W.kia_one W.kitx_none I.kIn True.intro e (λz=>nomatch z) h
 |bl y=>cases (show u=Value.bool y from d);exact W.kia_one W.kitx_bool I.kIn True.intro e (λz=>nomatch z) h
 |int i=>obtain⟨t,q⟩:=(show ∃t,u=Value.int i t from d);cases q;exact W.kia_one W.kitx_int I.kIn True.intro e (λz=>nomatch z) h
 |str y=>obtain⟨t,q⟩:=(show ∃t,u=Value.str y t from d);cases q;exact W.kia_one W.kitx_str I.kIn True.intro e (λz=>nomatch z) h
 |flt y=>obtain⟨t,q⟩:=(show ∃t,u=Value.float y t from d);cases q;exact W.kia_one W.kitx_float I.kIn True.intro e (λz=>nomatch z) h
 | @lst a xs f =>
  cases (show u=Value.ref a from d);obtain⟨_,_,n,_,g⟩:=(show jK X.prog X.w H s.heap a (.lst xs) from I.hok a _ f);exact W.kia_one W.kitx_list I.kIn ⟨_,g,rfl⟩ e (λz=>nomatch z) h
 | @frz a w xs f =>
  cases (show u=Value.ref a from d);obtain⟨_,_,_,n,_,g⟩:=(show jK X.prog X.w H s.heap a (.frz w (.lst xs)) from I.hok a _ f);exact W.kia_one W.kitx_list I.kIn ⟨_,g,rfl⟩ e (λz=>nomatch z) h
 | @tup a xs f =>
  cases (show u=Value.ref a from d);obtain⟨_,_,_,p⟩:=(show jK X.prog X.w H s.heap a (.tup xs) from I.hok a _ f);obtain⟨o,g,l,_⟩:=p;exact W.kia_one W.kitx_tuple I.kIn ⟨o,g,l⟩ e (λz=>nomatch z) h
 | @dK a j f =>
  cases (show u=Value.ref a from d);obtain⟨_,_,vs,_,p⟩:=(show jK X.prog X.w H s.heap a (.dK j) from I.hok a _ f);obtain⟨o,es,ep,g,l,_⟩:=p;exact W.kia_one W.kitx_dict I.kIn ⟨o,g,l.1⟩ e (λz=>nomatch z) h
 | @dT a j f =>
  cases (show u=Value.ref a from d);obtain⟨_,_,xs,_,o,es,ep,g,l,_⟩:=(show jK X.prog X.w H s.heap a (.dT j) from I.hok a _ f);exact W.kia_one W.kitx_dict I.kIn ⟨o,g,l.1⟩ e (λz=>nomatch z) h
 | @ins a C K fs f r B F m G =>
  cases (show u=Value.ref a from d);obtain⟨L,O,_⟩:=II I.hok f;obtain⟨M,J,_⟩:=O.look;exact W.kia_one (W.kitx_own (r.get _) r.hd B F m G) I.kIn J e (λz=>nomatch z) h
end
structure Room (k:Nat)(A:Around):Prop where
 hd:A.handled=none
 dp:A.depth+3*k+5<recursionLimit
 un:A.units+16*k+200<cLine
def Room.mono {j k:Nat}{A:Around}(r:Room k A)(h:j<=k):Room j A:=⟨r.hd,by have:=r.dp;lia,by have:=r.un;lia⟩
theorem Room.deeper {k:Nat}{A:Around}(r:Room (k+1) A)(env:Env):Room k (A.deeper env):=
 ⟨r.hd,by have:=r.dp;show A.depth+1+3*k+5<_;lia,by have:=r.un;show A.units+3+16*k+200<_;lia⟩
theorem Room.depth {k:Nat}{A:Around}(r:Room k A):A.depth<recursionLimit:=by have:=r.dp;lia
theorem Room.units {k:Nat}{A:Around}(r:Room k A):A.units+64<cLine:=by have:=r.un;lia
def zo:TA:=λ_ H Q=>Q [] H
def AU (a:TE)(b:TA):TA:=λZ H Q=>a Z H λx c=>b Z c λxs d=>Q (x::xs) d
section
variable {X:Cx}{e:Expr}{es:Yk}{te:TE}{t:TA}{pos:Pos}
def WH:PA X [] zo:=λ_ _ _ _ H Q I h=>Calls.spliced_nil ⟨[],H,I,.nil,h⟩
def WI (a:PE X e te)(b:PA X es t)(hs:starEach (e::es) X.env=(false,eval e X.env)::starEach es X.env:=by rfl):PA X (e::es) (AU te t):=by
 intro pos Y s Z H Q I h;rw[hs];show wpAny _ _ (spliced ((false,eval e X.env)::backTo pos (starEach es X.env))) _ _ s;refine Calls.spliced_cons (TZ (a Y s Z H _ I h) λu c ⟨x,d,f,g,i⟩=>?_);exact TZ (b pos Y c Z d _ f i) λo p ⟨xs,j,l,m,n⟩=>⟨x::xs,j,l,.cons g m,n⟩
def k9 (t:TA):TE:=λZ H Q=>t Z H λxs a=>xs.length<=sizeLine/\∀p,a p=none->Q (.ref p) (TQ a p (.tup xs))
def kE (t:TA):TE:=λZ H Q=>t Z H λxs a=>xs.length<=sizeLine/\∀p,a p=none->Q (.ref p) (TQ a p (.lst xs))
def IK {x1}(h:PA X es t):PE X (.Tuple es x1 pos) (k9 t):=by
 intro Y s Z H Q I f;refine wpAny_Tuple_spliced (TZ (h pos Y s Z H _ I f) λg a ⟨xs,c,d,r,z,q⟩=>⟨by rw[<- r.length];exact z,?_⟩);have i:c a.heap.objs.size=none:=d.hok.fresh (Zf _);refine⟨.ref a.heap.objs.size,TQ c a.heap.objs.size (.tup xs),d.laid (t':=a.toks) (λb u e=>Zq _ e) (Zf _) ?_,rfl,q _ i⟩;exact⟨⟨z,⟨_,Zr _ rfl,rfl⟩⟩,g,r,⟨_,Zr _ rfl,rfl,_,rfl⟩⟩
def IL (h:PA X es t):PE X (.List es pos) (kE t):=by
 intro Y s Z H Q I f;refine wpAny_List_spliced (TZ (h pos Y s Z H _ I f) λg a ⟨xs,c,d,r,z,q⟩=>⟨by rw[<- r.length];exact z,?_⟩);have i:c a.heap.objs.size=none:=d.hok.fresh (Zf _);refine⟨.ref a.heap.objs.size,TQ c a.heap.objs.size (.lst xs),d.laid (t':=a.toks) (λb u e=>Zq _ e) (Zf _) ?_,rfl,q _ i⟩;exact⟨z,g,0,r,Zr _ rfl⟩
end
abbrev Sp:=Yx->Hp->VK->XK->Prop
abbrev yd:=List Env->Hp->Shared->XK->Ya
structure Env0 (P:Program)(w:World)(K:W.Frag)(mg:Yc)(base:Heap)(A:Around)(outer:List Env)(s:Shared)(H:Hp):Prop where
 frames:A.frames=some outer
 mod:Mod K mg base
 bs:∀b o,base.get? b=some o->s.heap.get? b=some o/\H b=none
 bsz:base.objs.size<=s.heap.objs.size
 funs:s.heap.FunFrames base outer
 frf:∀b∈frs outer,H b=none
 hok:jP P w H s.heap
 bare:AllBare s.gens
def CE (a:List Env)(P:Program)(w:World)(H:Hp)(s:Shared)(Q:VK)(u:Value)(s':Shared):Prop:=
 ∃v H',s'.os=s.os/\AllBare s'.gens/\Un (frs a) [] H H' s.heap s'.heap/\jP P w H' s'.heap/\T3 v u/\Q v H'
def CR (CX:yd)(a:List Env)(P:Program)(w:World)(H:Hp)(s:Shared)(Q:VK)(E:XK)(r:Result)(s':Shared):Prop:=
 match r with
 | .ok (.ret u)=>CE a P w H s Q u s'
 | .ok _=>False
 | .error e=>CX a H s E e s'
structure FnOk (P:Program)(w:World)(K:W.Frag)(mg:Yc)(base:Heap)(CX:yd)(k:Nat)(f:Addr)(fd:FuncData)(ps:Yi)(sp:Sp):Prop where
 len:∀vs H Q E,sp vs H Q E->vs.length=ps.length
 run:∀(A:Around) (outer:List Env) (s:Shared) (H:Hp) (args:Args) (us:Yd) (vs:Yx) (Q:VK) (E:XK),Room k A->Env0 P w K mg base A outer s H->BindsTo s fd args (ps.zip us)->T4 vs us->sp vs H Q E ->
  codeAny (model P w) A (.call (.ref f) args) (CR CX outer P w H s Q E) s
theorem FnOk.mono {P:Program}{w:World}{K:W.Frag}{b:Yc}{base:Heap}{CX:yd}{j k:Nat}{f:Addr}{c:FuncData}{ps:Yi}{sp:Sp}(F:FnOk P w K b base CX j f c ps sp)(h:j<=k):
 FnOk P w K b base CX k f c ps sp:=⟨F.len,λA a s H args d vs Q E e=>F.run A a s H args d vs Q E (e.mono h)⟩
def FnOk.imp {P:Program}{w:World}{K:W.Frag}{c:Yc}{base:Heap}{CX:yd}{k:Nat}{f:Addr}{d:FuncData}{ps:Yi}{sp b:Sp}(F:FnOk P w K c base CX k f d ps sp)
 (h:∀vs H Q E,b vs H Q E->sp vs H Q E):FnOk P w K c base CX k f d ps b:=
 ⟨λvs H Q E q=>F.len vs H Q E (h _ _ _ _ q),λA a s H args e vs Q E g i j l hs=>F.run A a s H args e vs Q E g i j l (h _ _ _ _ hs)⟩
section
variable {X:Cx}{Y:Yb}{Z: St}{H:Hp}{s s':Shared}
def Inv.env0 (I:Inv X Y Z H s):Env0 X.prog X.w X.K X.mg X.base X.A X.stack s H:=
 ⟨I.ok.frames,I.ok.mod,I.bs,Zh I.ok.bsz I.sz,I.stack,I.stkFree,I.hok,I.bare⟩
def Inv.after {Q:VK}{u:Value}(I:Inv X Y Z H s)(h:CE X.stack X.prog X.w H s Q u s'):EP X Y Z Q u s':=by
 obtain⟨v,H',os,bare,un,a,r,q⟩:=h;obtain⟨e,g,d,t,c⟩:=s';obtain rfl:c=s.os:=os;exact⟨v,H',I.call (h':=e) (g':=g) (d':=d) (t':=t) (ch:=[]) un a bare (λb z=>Zn z ()),r,q⟩
end
def AV (sp:Sp)(a:Yx)(E:XK)(t:TA):TE:=λZ H Q=>t Z H λvs b=>sp (vs++a) b Q E
def ze (K:W.Frag)(b:FuncData)(ps:Yi)(ds:Yd):Prop:=
 ∀(s:Shared) (a:Yd),K.In s.heap->(a++ds).length=ps.length->BindsTo s b ⟨a,[]⟩ (ps.zip (a++ds))
def ze.all {K:W.Frag}{b:FuncData}{ps:Yi}(h:∀a:Yd,a.length=ps.length->bindArgs b ⟨a,[]⟩=pure (ps.zip a)):ze K b ps []:=λs a _ c=>by
 rw[ZA] at c ⊢;exact .of_eq (h a c)
def YX (CX:yd)(X:Cx)(E:XK):Prop:=∀(Y:Yb) (Z: St) (H:Hp) (s:Shared) (e:Value) (s':Shared),Inv X Y Z H s->CX X.stack H s E e s'->X.xe e s'
section
variable {X:Cx}{CX:yd}{k:Nat}{f C:Addr}{fd:FuncData}{ps:Yi}{sp:Sp}{dvs:Yx}{ds:Yd}{E:XK}{x m:Str}{p pos apos:Pos}{e o:Expr}{es:Yk}{ta:TE}{t:TA}
def IM {Y:Yb}{Z: St}{H:Hp}{s:Shared}{Q:VK}{a:Yd}{vs:Yx}(F:FnOk X.prog X.w X.K X.mg X.base CX k f fd ps sp)(d:Room k X.A)(g:ze X.K fd ps ds)(i:T4 dvs ds)(hx:YX CX X E)
 (I:Inv X Y Z H s) (r:T4 vs a) (h:sp (vs++dvs) H Q E):YB X (call (.ref f) a) (EP X Y Z Q) X.xe s:=by
 have c:T4 (vs++dvs) (a++ds):=r.append i;have j:(a++ds).length=ps.length:=by rw[<- c.length];exact F.len _ _ _ _ h
 refine wpAny_call (codeAny_mono (F.run X.A X.stack s H ⟨a,[]⟩ (a++ds) (vs++dvs) Q E d I.env0 (g s a I.kIn j) c h) λr s' b=>?_);cases r with
 |error e=>exact hx Y Z H s e s' I b
 |ok l =>
  cases l with
  |ret u=>exact I.after b
  |next=>exact False.elim b
  |brk=>exact False.elim b
  |cont=>exact False.elim b
def Dg (F:FnOk X.prog X.w X.K X.mg X.base CX k f fd ps sp)(d:Room k X.A)(g:Gl X x)(i:X.mg x=some (.ref f))(j:W.keepIn X.K (.ref f)=true)(l:ze X.K fd ps ds)(n:T4 dvs ds)(hx:YX CX X E)
 (u:PA X (e::es) t) (a:(x == ("__debug__" : Str))=false:=by decide) (v:starEach (e::es) X.env=(false,eval e X.env)::starEach es X.env:=by rfl) (b:(backTo pos (starEach es X.env)).any (·.1)=false:=by rfl):
 PE X (.Call (.Name x p) (e::es) [] pos) (AV sp dvs E t):=by
 intro Y s Z H Q I h;refine wpAny_Call_Name_kw (YU I g i ?_ a);refine W.callWith_K (h₀:=X.base) I.ok.mod.kin j (TZ (u pos Y s Z H _ I h) λw y ⟨vs,z,c,r,q⟩=>⟨c.kIn,?_⟩) v b;exact IM F d l n hx c r q
end
structure FnScope (N P:Yi)(sc:Scope):Prop where
 kind:sc.kind=.function
 co:sc.isCoroutine=false
 gen:sc.isGenerator=false
 nd:N.Nodup
 pre:N.take P.length=P
 par:∀x∈P,sc.names.lookup x=some .local\/sc.names.lookup x=some .cell
 nofree:∀y∈sc.names,y.2 ≠ .free
theorem Dh {kindOf:Str->Option NameKind}{x:Str}:∀{binds:List (Str×Value)} {m:Yc},(∀v,(x,v)∉binds)->bindL kindOf binds m x=m x
 | [],_,_=>rfl
 | (n,v)::r,m,h=>by
  unfold bindL;rw[Dh λw hw=>h w (Zqm _ hw)]
  split
  .have:x≠n:=by rintro rfl;exact h v Zqs
   simp[this]
  .rfl
theorem Di {kindOf:Str->Option NameKind}{x:Str}:∀{binds:List (Str×Value)} {m:Yc},(∀v,(x,v)∉binds)->bindC kindOf binds m x=m x
 | [],_,_=>rfl
 | (n,v)::r,m,h=>by
  unfold bindC;rw[Di λw hw=>h w (Zqm _ hw)]
  split
  .rfl
  .have:x≠n:=by rintro rfl;exact h v Zqs
   simp[this]
theorem Dj {kindOf:Str->Option NameKind}{x:Str}{v:Value}:∀{P:Yi} {vs:Yd} {i:Nat} {m:Yc},P.Nodup->P[i]? = some x->vs[i]? = some v->kindOf x=some .local ->
 bindL kindOf (P.zip vs) m x=some v
 | [],_,_,_,_,h,_,_=>by simp at h
 |_::_,[],_,_,_,_,h,_=>by simp at h
 |p::P,w::vs,0,m,nd,h1,h2,hk=>by
  simp at h1 h2;subst h1;subst h2;show bindL kindOf ((p,w)::P.zip vs) m p=_;unfold bindL;rw[Dh λv a=>(Ji.mp nd).1 (List.of_mem_zip a).1,Zd hk];simp
 |p::P,w::vs,i+1,m,nd,h1,h2,hk=>by
  show bindL kindOf ((p,w)::P.zip vs) m x=_;unfold bindL;exact Dj (i:=i) (Ji.mp nd).2 (by simpa using h1) (by simpa using h2) hk
theorem Dk {kindOf:Str->Option NameKind}{x:Str}{v:Value}:∀{P:Yi} {vs:Yd} {i:Nat} {m:Yc},P.Nodup->P[i]? = some x->vs[i]? = some v->kindOf x≠some .local ->
 bindC kindOf (P.zip vs) m x=some v
 | [],_,_,_,_,h,_,_=>by simp at h
 |_::_,[],_,_,_,_,h,_=>by simp at h
 |p::P,w::vs,0,m,nd,h1,h2,hk=>by
  simp at h1 h2;subst h1;subst h2;show bindC kindOf ((p,w)::P.zip vs) m p=_;unfold bindC;rw[Di λv a=>(Ji.mp nd).1 (List.of_mem_zip a).1,Ze hk];simp
 |p::P,w::vs,i+1,m,nd,h1,h2,hk=>by
  show bindC kindOf ((p,w)::P.zip vs) m x=_;unfold bindC;exact Dk (i:=i) (Ji.mp nd).2 (by simpa using h1) (by simpa using h2) hk
def start (N:Yi)(vs:Yx):St:=vs.map some++List.replicate (N.length-vs.length) none
def js (CX:yd)(P:Program)(w:World)(K:W.Frag)(mg:Yc)(base:Heap)(N:Yi)(b:Str)(a:Scope)(f:Addr)(d:Value)(A:Around)(outer:List Env)(s:Shared)(H:Hp)(E:XK):Cx where
 prog:=P
 w:=w
 K:=K
 mg:=mg
 base:=base
 A:=A.deeper (envOfC b a s.heap.objs.size f d)
 N:=N
 s₀:=s
 H₀:=H
 env:=envOfC b a s.heap.objs.size f d
 outer:=outer
 stack:=envOfC b a s.heap.objs.size f d::outer
 ex:=[]
 calm:=true
 fn:=λ_=>true
 pn:=[]
 xe:=λe s'=>wpAny (model P w) (A.deeper (envOfC b a s.heap.objs.size f d)) (leaving (envOfC b a s.heap.objs.size f d) e) (λ_ c=>CX outer H s E e c) (λg c=>CX outer H s E g c) s'
def Dl {a:Scope}{n:Nat}{x:Str}(h:a.names.lookup x=some .cell):∃c,(cellsFrom n a.names []).lookup x=some c:=by
 have q:=W.cellsFrom_some a.names n [] (.inl h);exact Js.mp q
def IN {CX:yd}{P:Program}{w:World}{K:W.Frag}{F:Yc}{base:Heap}{N ps:Yi}{j:Str}{d:Scope}{f:Addr}{B:Value}{A:Around}{g:List Env}{s I:Shared}{H:Hp}{E:XK}{G:Yd}{vs:Yx}
 (S:FnScope N ps d) (M:A.handled=none) (m:Env0 P w K F base A g s H) (T:vs.length=ps.length) (r:T4 vs G)
 (x:InCallC s s.heap.objs.size (bindL (envOfC j d s.heap.objs.size f B).kindOf (ps.zip G) λ_=>none) (cellsFrom (s.heap.objs.size+1) d.names []) (bindC (envOfC j d s.heap.objs.size f B).kindOf (ps.zip G) λ_=>none) I):
 Inv (js CX P w K F base N j d f B A g s H E) [] (start N vs) H I:=by
 have O:ps.length<=N.length:=by have:=Zt List.length S.pre;rw[UG] at this;lia
 obtain⟨C,tk,rfl,J⟩:=x.done;have o:∀b:Addr,b∉(js CX P w K F base N j d f B A g s H E).ex:=λb z=>Zn (show b∈([]:Yj) from z) ();refine⟨⟨m.mod,S.kind,rfl,rfl,Zf _,λy z c C l=>?_,λy hy=>?_,λy c _ h=>?_,λ_=>M,Around.frames_deeper m.frames,.inr ⟨rfl,rfl⟩,λb z=>Zn z (o b),m.bs,m.bsz,λb _ _=>o b,λb z=>Zn z (o b),m.funs,m.frf⟩,
  rfl,m.bare,Un.kept J,⟨_,x.toInCall.ns,λi y v C l U=>?_⟩,λy c h=>⟨_,x.cell y c h⟩,m.hok.fresh (Zf _),λy c h=>?_,λp hp=>Zn (show p∈([]:Yb) from hp) (),m.hok.kept J,?_⟩
 .exact name_of_addr x.apart (PySem.mem_of_lookup C) (PySem.mem_of_lookup l)
 .have hy:d.names.lookup y=some .cell\/d.names.lookup y=some .free:=hy;rcases hy with hy|hy
  .exact Dl hy
  .exact Zn rfl (S.nofree _ (PySem.mem_of_lookup hy))
 .exact Zz (x.above y c (PySem.mem_of_lookup h))
 .have hi:i<vs.length:=by
   unfold start at l;by_cases hi:i<vs.length
   .exact hi
   .rw[VJ (by simpa using hi)] at l;rw[List.getElem?_replicate] at l
    split at l<;>cases l
  have Q:vs[i]? = some v:=by
   unfold start at l;rw[Vu (by simpa using hi),Zv] at l;cases e:vs[i]? with
   |none=>rw[e] at l;cases l
   |some a=>rw[e] at l;cases l;rfl
  obtain⟨u,L,R⟩:=r.get Q;have hp:ps[i]? = some y:=by
   rw[<- S.pre,List.getElem?_take_of_lt ()];exact C
  have t:ps.Nodup:=by rw[<- S.pre];exact S.nd.sublist (List.take_sublist _ _)
  refine⟨u,R,?_⟩;rcases S.par y (Uj hp) with k|k
  .exact .inl ⟨k,Dj t hp L k⟩
  .obtain⟨c,e⟩:=Dl (n:=s.heap.objs.size+1) k;refine .inr ⟨.inl k,c,e,?_⟩;have q:=x.cell y c e;rw[Dk t hp L (by show d.names.lookup y≠_;rw[k];decide)] at q;exact q
 .exact m.hok.fresh (Zz (x.above y c (PySem.mem_of_lookup h)))
 .unfold start;show _=N.length;rw[Ua,Zql,Vm];lia
def Dm {CX:yd}{P:Program}{w:World}{K:W.Frag}{B:Yc}{base:Heap}{k:Nat}{f:Addr}{name d:Str}{params:Arguments}{h:List Stmt}{a:Scope}{R kV l T g ct Z:Value}{U od:Option Addr}
 {F:Array Ye} {N ps:Yi} {sp:Sp} (lk:K.lookup f=some ⟨Z,od,.func (W.fnOf name d params h a R kV l T U g ct),F⟩) (G:W.codeIn K g d=true) (S:FnScope N ps a)
 (len:∀vs H Q E,sp vs H Q E->vs.length=ps.length)
 (i:∀(A:Around) (c:List Env) (s:Shared) (H:Hp) (vs:Yx) (Q:VK) (E:XK),Room k (A.deeper (envOfC d a s.heap.objs.size f g))->sp vs H Q E ->
  ∃t,qJ (js CX P w K B base N d a f g A c s H E) h t/\t { nx:=λ_ H'=>Q .non H',rt:=Q } (start N vs) H):
 FnOk P w K B base CX (k+1) f (W.fnOf name d params h a R kV l T U g ct) ps sp:=by
 refine⟨len,λA c s H args us vs Q E L m hb r p=>?_⟩;have hl:=len _ _ _ _ p;have X:K.In s.heap:=m.mod.kin.keeps λb o e=>(m.bs b o e).1;have M:s.heap.NoLimit:=m.mod.nolimit.keeps λb o e=>(m.bs b o e).1;have j:∀y∈ps.zip us,a.names.lookup y.1=some .local\/(a.names.lookup y.1=some .cell/\((cellsFrom (s.heap.objs.size+1) a.names []).lookup y.1).isSome=true):=λ⟨n,v⟩ hy=>by
  rcases S.par n (List.of_mem_zip hy).1 with q|q
  .exact .inl q
  .exact .inr ⟨q,W.cellsFrom_some _ _ _ (.inl q)⟩
 refine codeAny_call_function L.depth (X _ _ lk) rfl S.co S.gen rfl (W.codeRec_of X G) (hb _ _ _ _ ?_);refine wpAny_newFunctionEnv_cells S.kind j λenv he Y x=>?_;subst he;refine⟨M.keeps x.toInCall.keep,codeAny_func ?_⟩;obtain⟨t,ht,hq⟩:=i A c s H vs Q E (L.deeper _) p;have I:Inv (js CX P w K B base N d a f g A c s H E) [] (start N vs) H Y:=IN S L.hd m hl r x;refine Zc (ht [] Y (start N vs) H _ I hq) (λfl s' hs=>?_) λe s' hs=>hs;have z:∀{C:St} {H':Hp} {v:V} {u:Value},Inv (js CX P w K B base N d a f g A c s H E) [] C H' s'->T3 v u->Q v H'->CE c P w H s Q u s':=
  λ{C H' v u} J O q=>⟨v,H',J.os,J.bare,J.base,J.hok,O,q⟩
 cases fl with
 |ret u =>
  obtain⟨v,C,H',J,O,q⟩:=hs;exact z J O q
 |next =>
  obtain⟨C,H',J,q⟩:=hs;exact z (v:=V.non) (u:=Value.none) J rfl q
 |brk =>
  obtain⟨_,_,_,q⟩:=hs;exact False.elim q
 |cont =>
  obtain⟨_,_,_,q⟩:=hs;exact False.elim q
section
variable {X:Cx}{x:Str}{p pos:Pos}{e:Expr}{es:Yk}{t:TA}{id T:String}{r:Yx->Hp->VK->Prop}
def zp (r:Yx->Hp->VK->Prop)(t:TA):TE:=λZ H Q=>t Z H λvs a=>r vs a Q
def YY (c:jc X (.builtin id) r)(d:Gl X x)(f:X.mg x=none)(g:bootBuiltins x=some (.builtin id))(i:PA X (e::es) t)(j:x ≠ "__name__" := by decide)(a:(x == ("__debug__" : Str))=false:=by decide)
 (l:starEach (e::es) X.env=(false,eval e X.env)::starEach es X.env:=by rfl) (b:(backTo pos (starEach es X.env)).any (·.1)=false:=by rfl):PE X (.Call (.Name x p) (e::es) [] pos) (zp r t):=by
 intro Y s Z H Q I h;refine wpAny_Call_Name_kw (WG I d f g ?_ j a);exact PyProof.Rows.callWith_builtin1 (TZ (i pos Y s Z H _ I h) λm n ⟨vs,o,q,u,v⟩=>c Y n Z o vs m Q q u v) l b
def AW (c:jc X (.type T) r)(d:Gl X x)(f:X.mg x=none)(g:bootBuiltins x=some (.type T))(i:PA X (e::es) t)(j:x ≠ "__name__" := by decide)(a:(x == ("__debug__" : Str))=false:=by decide)
 (l:starEach (e::es) X.env=(false,eval e X.env)::starEach es X.env:=by rfl) (b:(backTo pos (starEach es X.env)).any (·.1)=false:=by rfl):PE X (.Call (.Name x p) (e::es) [] pos) (zp r t):=by
 intro Y s Z H Q I h;refine wpAny_Call_Name_kw (WG I d f g ?_ j a);exact PyProof.Rows.callWith_type1 (TZ (i pos Y s Z H _ I h) λm n ⟨vs,o,q,u,v⟩=>c Y n Z o vs m Q q u v) l b
end
end L2
namespace HT
open PySem PyProof.Rows
def lexLt:Yf->List Int->Bool
 | [],[]=>false
 | [],_::_=>true
 |_::_,[]=>false
 |x::xs,y::ys=>if x=y then lexLt xs ys else decide (x<y)
def lexLt_cons (x y:Int)(xs ys:Yf):lexLt (x::xs) (y::ys)=if x=y then lexLt xs ys else decide (x<y):=rfl
def lexLt_nil_nil:lexLt [] []=false:=rfl
def IP (y:Int)(ys:Yf):lexLt [] (y::ys)=true:=rfl
def IQ (x:Int)(xs:Yf):lexLt (x::xs) []=false:=rfl
def IR (A:Around)(s:Shared)(a:Int)(t:Tok)(c:Int)(u:Tok):∃e,SeqAt.EqAt A s (.int a t) (.int c u) e/\(e=true↔a=c):=
 ⟨(a == c),SeqAt.EqAt.int_int a t c u,()⟩
def IS (A:Around)(s:Shared)(a:Int)(t:Tok)(c:Int)(u:Tok)(prog:Program)(w:World)(E:Ya)(Q:Ya)(h:Q (.bool (decide (a<c))) s):
 YC prog w A (richCompare .Lt (.int a t) (.int c u)) Q E s:=
 (PyProof.Rows.lt_int h:YC prog w A (compareOp .Lt (.int a t) (.int c u)) Q E s)
section
open PySem.SeqAt
open PySem.AutoSeq1 (wpAny_loadPart')
open PySem.MeetsSeq PySem.MeetsSeq2 PySem.MeetsSeq3
def IT (l b:Addr)(i f:Yl)(n H:Nat)(dd B:Option Addr)(I C:Array Ye)(ns v:Yf)(hi:IntsAre i.toList ns)(F:IntsAre f.toList v):
 Meets (Builtin.«tuple.__lt__» ⟨[.ref l,.ref b],[]⟩)
  (λ_ R s=>s.heap.get? l=some { cls:=.type "tuple",dict:=dd,data:=.seq i n,slots:=I }/\s.heap.get? b=some { cls:=.type "tuple",dict:=B,data:=.seq f H,slots:=C } /\
   R (.ok (.ret (.bool (lexLt ns v)))) s):=
 .of_wp λprog w A R s h=>by
  obtain⟨hp,g,d,tk,os⟩:=s;obtain⟨J,K,h⟩:=h;have M:=AutoSeq1.sub_tuple_tuple;have N:i.size=ns.length:=by rw[<- hi.length];simp
  have O:f.size=v.length:=by rw[<- F.length];simp
  wp_walk using wpAny_loadPart' J,wpAny_loadPart' K,wpAny_forIn_list _ (λrest b s'=>b.1=none/\s'=⟨hp,g,d,tk,os⟩/\∃(vs z:Yd) (j m:Yf),rest=vs.zip z /\
   IntsAre vs j/\IntsAre z m/\j.length+f.size=m.length+i.size/\R (.ok (.ret (.bool (lexLt j m)))) ⟨hp,g,d,tk,os⟩) _
  case turn =>
   rintro⟨y,x⟩ rest b s' ⟨hb',rfl,vs,z,j,m,hz,hvi,hwi,hlen,hR⟩;cases hvi with
   |nil=>rw[List.zip_nil_left] at hz;cases hz
   |cons a t p =>
    cases hwi with
    |nil=>rw[List.zip_nil_right] at hz;cases hz
    |cons c u r =>
     rw[U4] at hz;injection hz with hyx hrest
     injection hyx with hy hx
     subst hy hx;rw[lexLt_cons] at hR;simp only[Zu] at hlen;obtain⟨e,L,o⟩:=IR A.in1 ⟨hp,g,d,tk,os⟩ a t c u;refine Za (L prog w _ _ ?_);cases e with
     |true =>
      rw[Zd (o.mp rfl)] at hR
      wp_walk
      exact⟨rfl,rfl,_,_,_,_,hrest,p,r,(),hR⟩
     |false =>
      rw[Ze (λq=>Zn (o.mpr q) Zj)] at hR;have E:=IS A.in1 ⟨hp,g,d,tk,os⟩ a t c u prog w
      wp_walk using E
      exact⟨_,rfl,by simpa using hR⟩
  case fin =>
   rintro⟨P,Q⟩ s' ⟨hb',rfl,vs,z,j,m,hz,hvi,hwi,hlen,hR⟩;simp only at hb';subst hb';have G:lexLt j m=decide (i.size<f.size):=by
    cases hvi with
    |nil =>
     cases hwi with
     |nil =>
      simp only[ZC] at hlen;rw[lexLt_nil_nil];exact(Zo ()).symm
     |cons c u hw =>
      simp only[ZC,Zu] at hlen;rw[IP];exact(Zp ()).symm
    |cons a t G =>
     cases hwi with
     |nil =>
      simp only[ZC,Zu] at hlen;rw[IQ];exact(Zo ()).symm
     |cons c u hw =>
      rw[U4] at hz;cases hz
   rw[G] at hR
   wp_walk
   exact⟨_,rfl,by simpa [Builtin.Tuple.tupleCompareSizes] using hR⟩
  case h =>
   exact⟨rfl,rfl,i.toList,f.toList,ns,v,rfl,hi,F,(),h⟩
end
section
variable {prog:Program}{w:World}{A:Around}{E:Ya}{s:Shared}
def lt_tupInts {l b:Addr}{c a:Yl}{ns d:Yf}{Q:Ya}(r:IsTup s.heap l c)(t:IsTup s.heap b a)(hi:IntsAre c.toList ns)(u:IntsAre a.toList d)
 (v:A.units<cLine) (h:Q (.bool (lexLt ns d)) s):YC prog w A (compareOp .Lt (.ref l) (.ref b)) Q E s:=by
 obtain⟨⟨cls,dd,data,y⟩,m,o,n,p⟩:=id r;obtain⟨⟨q,i,data2,j⟩,e,f,z,g⟩:=id t;simp only at o p f g;subst o p f g;exact richCompare_meets_room (op:=.Lt) ⟨_,m,rfl⟩ ⟨_,e,rfl⟩ PySem.F.slot_tuple_lt PySem.F.entry_tuple_lt (PySem.F.args_tuple_lt_2 _ _) (IT l b c a n z dd i y j ns d hi u)
  ⟨m,e,show Value.bool (lexLt ns d)≠Value.notImplemented/\Q (.bool (lexLt ns d)) s from ⟨(λx=>nomatch x),h⟩⟩ v
def cat_tup {t b:Addr}{vs a:Yd}{Q:Ya}(r:IsTup s.heap t vs.toArray)(u:IsTup s.heap b a.toArray)(j:vs ≠ [])
 (v:a=[]->Q (.ref t) s) (x:a ≠ []->Q (.ref s.heap.objs.size) { s with heap:=s.heap.push { cls:=.type "tuple",data:=.seq (vs++a).toArray } })
 (hsz:vs.length+a.length<=sizeLine):YC prog w A (binaryOp .Add (.ref t) (.ref b)) Q E s:=by
 obtain⟨⟨cls,dd,data,l⟩,i,m,n,o⟩:=id r;obtain⟨⟨p,d,data2,f⟩,c,g,q,h⟩:=id u;simp only at m o g h;subst m o g h;have e:vs.toArray++a.toArray=(vs++a).toArray:=by simp
 by_cases hw:a=[]
 .exact concat_meets ⟨_,i,rfl⟩ ⟨_,c,rfl⟩ noFill_tuple_add seq_tuple_add PySem.F.slot_tuple_add PySem.F.entry_tuple_add (PySem.F.args_tuple_add_2 _ _)
   (tuple_addW1 t b vs.toArray a.toArray n q dd d l f (by simpa using j) (by simp[hw])) ⟨i,c,v hw⟩
 .refine concat_meets ⟨_,i,rfl⟩ ⟨_,c,rfl⟩ noFill_tuple_add seq_tuple_add PySem.F.slot_tuple_add PySem.F.entry_tuple_add (PySem.F.args_tuple_add_2 _ _)
   (tuple_addW2 t b vs.toArray a.toArray n q dd d l f (by simpa using j) (by simpa using hw) (by rw[Zm,Zm];exact hsz)) ⟨i,c,?_⟩
  rw[e];exact x hw
end
end HT
namespace L2
abbrev TO:=St->Hp->(Option Int->Hp->Prop)->Prop
def PO (X:Cx)(e:Option Expr)(t:TO):Prop:=
 ∀(Y:Yb) (s:Shared) (Z: St) (H:Hp) (Q:Option Int->Hp->Prop),Inv X Y Z H s->t Z H Q ->
  YB X (evalPart e X.env) (λu s'=>∃o H',Inv X Y Z H' s'/\IsPart u o/\Q o H') X.xe s
def IU:TO:=λ_ H Q=>Q none H
def zV (t:TE):TO:=λZ H Q=>t Z H λx a=>∃i,x=.int i/\Q (some i) a
def AX {ns:Yf}:∀{a:Yd},T4 (ns.map V.int) a->IntsAre a ns:=by
 induction ns with
 |nil=>intro a r;rw[Uw] at r;cases r;exact .nil
 |cons n ns b =>
  intro a r;rw[Zl] at r;cases r with
  |cons c d =>
   obtain⟨t,e⟩:=c;subst e;exact .cons n t (b d)
section
variable {X:Cx}{e:Expr}{te:TE}{lo hi:Option Expr}{tl th:TO}{pos p2:Pos}
def IV:PO X none IU:=by
 intro Y s Z H Q I h;rw[evalPart_none];exact Zb ⟨none,H,I,.none,h⟩
def IW (h:PE X e te):PO X (some e) (zV te):=by
 intro Y s Z H Q I hw;rw[evalPart_some];refine TZ (h Y s Z H _ I hw) λu f ⟨x,a,b,c,d⟩=>?_;obtain⟨i,rfl,q⟩:=d;obtain⟨t,rfl⟩:=c;exact⟨some i,a,b,.int i t,q⟩
def wt (K:W.Frag):R2:=λx y H Q=>∃a b xs ys,x=.ref a/\y=.ref b/\xh K H a xs/\xh K H b ys/\xs ≠ []/\xs.length+ys.length<=sizeLine /\
 (ys=[]->Q (.ref a) H)/\(ys ≠ []->∀p,H p=none->Q (.ref p) (TQ H p (.tup (xs++ys))))
def T4.nil_iff {xs:Yx}{a:Yd}(r:T4 xs a):a=[]↔xs=[]:=by
 cases r with
 |nil=>simp
 |cons _ _=>simp
def IX:ql X (binaryOp .Add) (wt X.K):=by
 intro Y s Z H x y v u Q I g i h;obtain⟨a,b,xs,ys,rfl,rfl,j,l,hx,hz,m,n⟩:=h;cases g;cases i;obtain⟨p,d,r,_⟩:=I.tuple j;obtain⟨f,c,p2,_⟩:=I.tuple l;refine HT.cat_tup r p2 (λz=>hx (d.nil_iff.mp z)) (λz=>⟨.ref a,H,I,rfl,m (c.nil_iff.mp z)⟩) (λz=>?_) (by rw[<- d.length,<- c.length];exact hz);refine⟨.ref s.heap.objs.size,_,I.laid (t':=s.toks) (o:=.tup (xs++ys)) (λb t q=>Zq _ q) (Zf _) ?_,rfl,n (λw=>z (c.nil_iff.mpr w)) _ (I.hok.fresh (Zf _))⟩;exact⟨⟨by rw[Ua];exact hz,⟨_,Zr _ rfl,rfl⟩⟩,_,d.append c,IsTup.new _ _⟩
end
def yG (n:Nat)(i:Int):Option Nat:=if 0<=i then(if i<n then some i.toNat else none) else if -(n:Int)<=i then some (i+n).toNat else none
def jY {α: Type}(xs:List α)(i:Int):Option α:= (yG xs.length i).bind λj=>xs[j]?
def IY {n:Nat}{i:Int}{j:Nat}(h:yG n i=some j):seqIndex? i n=some j/\j<n /\ -(n:Int)<=i/\i<n:=by
 unfold yG at h;by_cases b:0<=i
 .rw[Zd b] at h;by_cases a:i<n
  .rw[Zd a] at h;have e:i.toNat=j:=Zqi h;exact⟨by rw[seqIndex_of b a,e],(),(),a⟩
  .rw[Ze a] at h;cases h
 .rw[Ze b] at h;by_cases a: -(n:Int)<=i
  .rw[Zd a] at h;have e:(i+n).toNat=j:=Zqi h;exact⟨by rw[seqIndex_neg () a,e],(),a,()⟩
  .rw[Ze a] at h;cases h
def AY {α: Type}{xs:List α}{i:Int}{v:α}(h:jY xs i=some v):∃j,seqIndex? i xs.length=some j/\xs[j]? = some v/\j<xs.length /\ -(xs.length:Int)<=i/\i<xs.length:=by
 unfold jY at h;cases e:yG xs.length i with
 |none=>rw[e] at h;cases h
 |some j =>
  rw[e] at h;obtain⟨a,b,c,d⟩:=IY e;exact⟨j,a,h,b,c,d⟩
def Dp (b:Expr):Prop:=∀o i,subscripted b false o i=operate [o,i] (getItem o i)
def xP (X:Cx)(r:R2):Prop:=
 ∀(b a:Expr) (Y:Yb) (s:Shared) (Z: St) (H:Hp) (x y:V) (v u:Value) (Q:VK),Inv X Y Z H s->T3 x v->T3 y u->r x y H Q ->
  subscripted a false v u=operate [v,u] (getItem v u)->YB X (subscriptTail b a v u) (EP X Y Z Q) X.xe s
def gM (X:Cx)(id:String)(r:V->Yx->Hp->VK->Prop):Prop:=
 ∀(Y:Yb) (s:Shared) (Z: St) (H:Hp) (x:V) (xs:Yx) (v:Value) (a:Yd) (Q:VK),Inv X Y Z H s->T3 x v->T4 xs a->r x xs H Q ->
  YB X (call (.builtin id) (v::a)) (EP X Y Z Q) X.xe s
section
variable {X:Cx}{a b:Expr}{ta tb:TE}{pos:Pos}
def xP.or {r e:R2}(h:xP X r)(h':xP X e):xP X (λx y H Q=>r x y H Q\/e x y H Q):=by
 intro c d Y s Z H x y v u Q I f g q hs;rcases q with q|q
 .exact h c d Y s Z H x y v u Q I f g q hs
 .exact h' c d Y s Z H x y v u Q I f g q hs
def wE {r:R2}(c:xP X r)(d:PE X a ta)(e:PE X b tb)(hs:Dp b):PE X (.Subscript a b pos) (zn r ta tb):=by
 intro Y s Z H Q I h;exact Subscript_ (zy d e I h λv u f x y g i j l q=>c a b Y f Z g x y v u Q i j l q (hs _ _))
def wn (K:W.Frag):R2:=λx y H Q=>∃p xs i v,x=.ref p/\y=.int i/\qh K H p xs/\jY xs i=some v/\Q v H
def wl (K:W.Frag):R2:=λx y H Q=>∃p xs i v,x=.ref p/\y=.int i/\xh K H p xs/\jY xs i=some v/\Q v H
def wm:R2:=λx y H Q=>∃z i c,x=.str z/\y=.int i/\z.length<=sizeLine/\jY z.cps.toList i=some c/\Q (.str ⟨#[c]⟩) H
def f9:xP X (wn X.K):=by
 intro e f Y s Z H x y v u Q I B C h hs;obtain⟨p,xs,i,z,rfl,rfl,E,F,q⟩:=h;cases B;obtain⟨t,rfl⟩:=C;obtain⟨g,r,l,hz⟩:=I.list E;obtain⟨j,d,G,M,J,K⟩:=AY F;obtain⟨w,o,m⟩:=r.get G;have L:=r.length;have N:=Xt;have c:EP X Y Z Q w s:=⟨z,H,I,m,q⟩;by_cases A:0<=i
 .have n:i.toNat=j:=by
   rw[seqIndex_of A K] at d;exact Zqi d
  exact item_listR l.isList A () (by rw[n];simpa using o) c hs
 .have n:(i+(g.toArray.size:Int)).toNat=j:=by
   rw[seqIndex_neg () J] at d;rw[Zm,<- L];exact Zqi d
  exact subscriptTail_builtinR (x:=w) l.isList.typeIs slot_list_getitem.lookup
   (wpAny_getItem_list_neg (Q:=λr s'=>r=w/\EP X Y Z Q r s') l.isList () (by rw[Zm]<;>lia) () (by rw[n];simpa using o) ⟨rfl,c⟩) hs
def f8:xP X (wl X.K):=by
 intro c d Y s Z H x y v u Q I l m h hs;obtain⟨p,xs,i,z,rfl,rfl,n,o,q⟩:=h;cases l;obtain⟨t,rfl⟩:=m;obtain⟨A,r,g,hz⟩:=I.tuple n;obtain⟨j,B,C,G,J,K⟩:=AY o;obtain⟨w,E,e⟩:=r.get C;have F:=r.length;have L:=Xt;have f:EP X Y Z Q w s:=⟨z,H,I,e,q⟩;exact subscriptTail_builtinR (x:=w) g.typeIs slot_tuple_getitem.lookup
  (getItem_tuple (j:=j) (Q:=λr s'=>r=w/\EP X Y Z Q r s') g () () (by rw[Zm,<- F];exact B) (by simpa using E) ⟨rfl,f⟩) hs
def IZ:xP X wm:=by
 intro d e Y s Z H x y v u Q I g l h hs;obtain⟨z,i,c,rfl,rfl,hz,m,q⟩:=h;obtain⟨t,rfl⟩:=g;obtain⟨t',rfl⟩:=l;obtain⟨j,f,n,B,o,p⟩:=AY m;have r:z.cps.toList.length=z.length:=by simp[Str.length]
 rw[r] at f o p;have C:=Xt;exact tail_any (typeIs_str s z t) slot_str_getitem.lookup (getItem_str (c:=c) (by
  have w:decide (i < -(2 ^ 63:Int))=false:=Zo ();have A:decide (i ≥ 2 ^ 63)=false:=Zo ();rw[w,A,Bool.or_false]) (by rw[f];simpa using n) ⟨.str ⟨#[c]⟩,H,I.tok _,⟨_,rfl⟩,q⟩) hs
def fI (K:W.Frag):R2:=λx y H Q=>wn K x y H Q\/wl K x y H Q\/wm x y H Q
def La:xP X (fI X.K):=f9.or (f8.or IZ)
def Lb:jc X (.builtin "len") (λxs H Q=>∃p ys,xs=[.ref p]/\(qh X.K H p ys\/xh X.K H p ys)/\Q (.int ys.length) H):=by
 intro Y s Z H xs i Q I r h;obtain⟨p,ys,rfl,hq,q⟩:=h;obtain⟨u,rfl,g⟩:=Q9 r;cases g;have j:=Xt;rcases hq with hq|hq
 .obtain⟨d,e,f,hz⟩:=I.list hq;have c:=e.length;exact Calls.call_len_list f.isList (by simp only[Zm]<;>lia) ⟨.int ys.length,H,I.tok _,⟨s.toks+1,by rw[Zm,c]⟩,q⟩
 .obtain⟨d,e,f,hz⟩:=I.tuple hq;have c:=e.length;exact len_tuple f (by simp only[Zm]<;>lia) ⟨.int ys.length,H,I.tok _,⟨s.toks+1,by rw[Zm,c]⟩,q⟩
def Lc:jc X (.builtin "len") (λxs H Q=>∃z,xs=[.str z]/\z.length<=sizeLine/\Q (.int z.length) H):=by
 intro Y s Z H xs c Q I r h;obtain⟨z,rfl,hz,q⟩:=h;obtain⟨u,rfl,t,rfl⟩:=Q9 r;have d:=Xt;exact len_str () ⟨.int z.length,H,I.tok _,⟨_,rfl⟩,q⟩
def jc.or {f:Value}{r c:Yx->Hp->VK->Prop}(h:jc X f r)(h':jc X f c):jc X f (λxs H Q=>r xs H Q\/c xs H Q):=by
 intro Y s Z H xs d Q I rs q;rcases q with q|q
 .exact h Y s Z H xs d Q I rs q
 .exact h' Y s Z H xs d Q I rs q
def Ld:jc X (.type "list") (λxs H Q=>∃p ys,xs=[.ref p]/\(qh X.K H p ys\/xh X.K H p ys)/\∀l,H l=none->Q (.ref l) (TQ H l (.lst ys))):=by
 intro Y s Z H xs z Q I r h;obtain⟨p,ys,rfl,hq,q⟩:=h;obtain⟨u,rfl,y⟩:=Q9 r;cases y;have g:∀(c:Yd),T4 ys c->ys.length<=sizeLine->∀(h':Heap) (d:Nat),(∀b x,s.heap.get? b=some x->h'.get? b=some x) ->
  h'.get? s.heap.objs.size=some { cls:=.type "list",dict:=none,data:=.seq c.toArray d,slots:=#[] }->EP X Y Z Q (.ref s.heap.objs.size) { s with heap:=h' }:=λc f hz h' d i e =>
  ⟨.ref s.heap.objs.size,_,I.laid (t':=s.toks) i (Zf _) (show jK X.prog X.w _ h' _ (.lst ys) from ⟨hz,c,d,f,e⟩),rfl,q _ (I.hok.fresh (Zf _))⟩
 rcases hq with hq|hq
 .obtain⟨c,f,m,hz⟩:=I.list hq;have j:=f.length;obtain⟨o,t,v,n,w⟩:=m.isList;exact call_list_seq p (.inl rfl) t v w (λh' d i e=>g c f hz h' d i e) (by simp only[Zm]<;>lia)
 .obtain⟨c,f,m,hz⟩:=I.tuple hq;have j:=f.length;obtain⟨o,t,v,n,w⟩:=m;exact call_list_seq p (.inr rfl) t v w (λh' d i e=>g c f hz h' d i e) (by simp only[Zm]<;>lia)
def Le:jc X (.type "tuple") (λxs H Q=>∃p ys,xs=[.ref p]/\((qh X.K H p ys/\∀l,H l=none->Q (.ref l) (TQ H l (.tup ys)))\/(xh X.K H p ys/\Q (.ref p) H))):=by
 intro Y s Z H xs v Q I r h;obtain⟨p,ys,rfl,h⟩:=h;obtain⟨u,rfl,m⟩:=Q9 r;cases m;rcases h with ⟨d,q⟩|⟨d,q⟩
 .obtain⟨c,f,g,hz⟩:=I.list d;have i:=f.length;refine call_tuple_list g.isList (λh' n=>?_) (by simp only[Zm]<;>lia);have j:Inv X Y Z H { s with heap:=h' }:=I.kept (t':=s.toks) n;have t:Inv X Y Z (TQ H h'.objs.size (.tup ys)) { s with heap:=h'.push { cls:=.type "tuple",data:=.seq c.toArray } } :=
   j.laid (t':=s.toks) (λb o e=>Zq _ e) (Zf _) (show jK X.prog X.w _ _ _ (.tup ys) from ⟨⟨hz,⟨_,Zr _ rfl,rfl⟩⟩,c,f,IsTup.new _ _⟩)
  exact⟨.ref h'.objs.size,_,t,rfl,q _ (j.hok.fresh (Zf _))⟩
 .obtain⟨c,f,g,hz⟩:=I.tuple d;exact call_tuple_same g ⟨.ref p,H,I,rfl,q⟩
def k8 (K:W.Frag)(T:String)(x:V)(H:Hp):Prop:=match x with
 | .str _=>T = "str"
 | .int _=>T = "int"
 | .ref p=>(T = "list" /\ ∃xs,qh K H p xs)\/(T = "tuple" /\ ∃o,K.lookup p=some o/\o.cls=.type "tuple" /\ o.dict=none) \/
  (T = "dict" /\ ((∃c,H p=some (.dK c))\/∃c,H p=some (.dT c)))\/(T = "set" /\ ∃S n,H p=some (.set S n))
 |_=>False
def Dq {Y:Yb}{Z: St}{H:Hp}{s:Shared}{T:String}{x:V}{v:Value}(I:Inv X Y Z H s)(r:T3 x v)(g:k8 X.K T x H):
 s.TypeIs v T/\∀a,v=.ref a->∃m,s.heap.get? a=some m/\m.dict=none:=by
 cases x with
 |str z =>
  obtain⟨t,rfl⟩:=r;cases (show T = "str" from g);exact⟨typeIs_str s z t,λ_ e=>nomatch e⟩
 |int i =>
  obtain⟨t,rfl⟩:=r;cases (show T = "int" from g);exact⟨typeIs_int s i t,λ_ e=>nomatch e⟩
 |ref p =>
  cases r;rcases g with ⟨rfl,xs,u⟩|⟨rfl,o,d,w,h⟩|⟨rfl,d⟩|⟨rfl,S,n,d⟩
  .obtain⟨y,_,q,_⟩:=I.list u;refine⟨q.isList.typeIs,λa e=>?_⟩;cases e;obtain⟨o,n,e,c,h,_⟩:=q;exact⟨o,e,h⟩
  .refine⟨⟨o,I.kIn p o d,w⟩,λa e=>?_⟩;cases e;exact⟨o,I.kIn _ o d,h⟩
  .have z:∃o,s.heap.get? p=some o/\o.ExactDict:=by
    rcases d with ⟨j,d⟩|⟨j,d⟩
    .obtain⟨_,_,_,_,o,_,_,e,f,_⟩:=I.hok p _ d;exact⟨o,e,f⟩
    .obtain⟨_,_,_,_,o,_,_,e,f,_⟩:=I.hok p _ d;exact⟨o,e,f⟩
   obtain⟨o,e,f⟩:=z;refine⟨⟨o,e,f.1⟩,λa l=>?_⟩;cases l;exact⟨o,e,f.2.1⟩
  .obtain⟨o,_,_,_,e,f,_⟩:=I.hok p _ d;refine⟨⟨o,e,f.1⟩,λa l=>?_⟩;cases l;exact⟨o,e,f.2.1⟩
 |_=>exact False.elim g
def wd (K:W.Frag)(T:String)(r:V->Yx->Hp->VK->Prop)(d:TE):TE:=λZ H Q=>d Z H λx c=>k8 K T x c/\r x [] c Q
def uB (K:W.Frag)(T:String)(r:V->Yx->Hp->VK->Prop)(d:TE)(t:TA):TE:=λZ H Q=>d Z H λx c=>k8 K T x c/\t Z c λxs e=>r x xs e Q
variable {o e:Expr}{es:Yk}{to:TE}{t:TA}{name:Str}{apos cpos:Pos}{T id:String}{r:V->Yx->Hp->VK->Prop}
def Lf (l:PlainAttrs T)(f:Slot T name id)(g:typeOf (.builtin id)=pure (.type "method_descriptor"))(m:gM X id r)(n:PE X o to)
 (c:attributeBase o name X.env (eval o X.env)=eval o X.env:=by rfl) (d:(apos.endLine == cpos.line)=true:=by rfl):PE X (.Call (.Attribute o name apos) [] [] cpos) (wd X.K T r to):=by
 intro Y s Z H Q I h;refine wpAny_Call_method0_late c d (TZ (n Y s Z H _ I h) λv p ⟨x,q,i,j,u,w⟩=>?_);obtain⟨y,z⟩:=Dq i j u;exact⟨T,id,l,f,g,y,z,Calls.callWith_builtin rfl (PySem.evalArgs_none (m Y p Z q x [] v [] Q i j .nil w))⟩
def V5 (p:PlainAttrs T)(g:Slot T name id)(j:typeOf (.builtin id)=pure (.type "method_descriptor"))(q:gM X id r)(u:PE X o to)(w:PA X (e::es) t)
 (d:attributeBase o name X.env (eval o X.env)=eval o X.env:=by rfl)
 (i:((backTo cpos (starEach (e::es) X.env)).all (λx => !x.1)&&(backToKw cpos (keywordEach [] X.env)).all (λx=>x.1.isSome)
  && decide ((e::es).length+([]:List Keyword).length+(if([]:List Keyword).isEmpty then 0 else 1)<30))=true:=by rfl)
 (f:(apos.endLine == cpos.line)=true:=by rfl) (hs:starEach (e::es) X.env=(false,eval e X.env)::starEach es X.env:=by rfl) (c:(backTo cpos (starEach es X.env)).any (·.1)=false:=by rfl):
 PE X (.Call (.Attribute o name apos) (e::es) [] cpos) (uB X.K T r to t):=by
 intro Y s Z H Q I h;refine wpAny_Call_method_late d i f rfl (TZ (u Y s Z H _ I h) λv y ⟨x,z,l,m,A,B⟩=>?_);obtain⟨C,E⟩:=Dq l m A;refine⟨T,id,p,g,j,C,E,?_⟩;have n:=w cpos Y y Z z _ l B;rw[hs] at n ⊢;refine Calls.callWith_builtin (by show(false||(backTo cpos (starEach es X.env)).any (·.1))=false;rw[c]<;>rfl) (Calls.evalArgs_plain ?_);exact TZ n λF G ⟨vs,J,K,L,M⟩=>q Y G Z J x vs v F Q K m L M
end
def fz (X:Cx)(id:String)(r:V->Yx->Hp->VK->Prop):Prop:=
 ∀(Y:Yb) (s:Shared) (Z: St) (H:Hp) (x:V) (xs:Yx) (v:Value) (a:Yd) (Q:VK),Inv X Y Z H s->T3 x v->T4 xs a->r x xs H Q ->
  YB X (call (.builtin id) (v::a)) (EP X Y Z Q) X.xe s
def T4.one:∀{x:V} {a:Yd},T4 [x] a->∃u,a=[u]/\T3 x u:=λh=>by
 cases h with
 |cons r t=>cases t;exact⟨_,rfl,r⟩
def xZ:∀{a:Yd},T4 [] a->a=[]
 |_,.nil=>rfl
section
variable {X:Cx}{Y:Yb}{Z: St}{H:Hp}{s:Shared}{l b:Addr}{xs ys zs:Yx}
def Inv.lset {a its':Yd}{n:Nat}{f:Yl->Array Value}{t':Nat}(I:Inv X Y Z H s)(c:H l=some (.lst xs))
 (e:s.heap.get? l=some { cls:=.type "list",data:=.seq a.toArray n }) (d:f a.toArray=its'.toArray) (g:T4 ys its') (hz:ys.length<=sizeLine):
 Inv X Y Z (TQ H l (.lst ys)) { s with heap:=s.heap.update l (Obj.mapSeq f),toks:=t' }:=by
 have q:=PySem.IsL.update e f;rw[d] at q;refine I.write (x:=l) (e:=l) (by rw[c];exact trivial) (.inl rfl) (λj u h i=>(Heap.get?_update_other s.heap (Obj.mapSeq f) (Ne.symm h)).trans i) ⟨_,q⟩ ?_;exact⟨hz,its',_,g,q⟩
def Inv.lnew {a:Yd}{t':Nat}(I:Inv X Y Z H s)(c:T4 ys a)(hz:ys.length<=sizeLine):
 Inv X Y Z (TQ H s.heap.objs.size (.lst ys)) { s with heap:=s.heap.push { cls:=.type "list",data:=.seq a.toArray },toks:=t' } :=
 I.laid (λ_ _ q=>Zq _ q) (Zf _) ⟨hz,a,0,c,Zr _ rfl⟩
theorem Inv.fresh (I:Inv X Y Z H s):H s.heap.objs.size=none:=I.hok.fresh (Zf _)
def Inv.lstM (I:Inv X Y Z H s)(c:H l=some (.lst xs)):xs.length<=sizeLine/\∃(a:Yd) (n:Nat),T4 xs a/\xs.length=a.length/\s.heap.get? l=some { cls:=.type "list",data:=.seq a.toArray n }:=by
 obtain⟨z,a,n,r,e⟩:=I.hok l _ c;exact⟨z,a,n,r,r.length,e⟩
def Lg {n:Nat}(h:n<=sizeLine):Builtin.List.listTooLong n=false:=by
 unfold Builtin.List.listTooLong;exact Zo ()
end
section
variable {X:Cx}
def AZ:V->Yx->Hp->VK->Prop:=λx vs H Q=>∃l xs y,x=.ref l/\vs=[y]/\H l=some (.lst xs)/\xs.length<sizeLine/\Q .non (TQ H l (.lst (xs++[y])))
def WJ:fz X "list.append" AZ:=by
 intro Y s Z H x vs v g Q I c d h;obtain⟨l,xs,y,rfl,rfl,b,hz,q⟩:=h;cases c;obtain⟨u,rfl,f⟩:=d.one;obtain⟨z,a,n,r,i,e⟩:=I.lstM b;refine call_meets F.slot_list_append ⟨_,e,rfl⟩ F.entry_list_append (F.args_list_append_2 _ _) (PySem.list_append l a.toArray n u (by rw[Zm];lia)) ⟨e,?_⟩;refine⟨.non,_,I.lset (its':=a++[u]) b e () (r.append (.cons f .nil)) ?_,rfl,q⟩;rw[Ua,Uv];lia
def Dr:V->Yx->Hp->VK->Prop:=λx vs H Q=>∃l b xs a,x=.ref l/\vs=[.ref b]/\H l=some (.lst xs)/\H b=some (.lst a)/\xs.length+a.length<=sizeLine/\Q .non (TQ H l (.lst (xs++a)))
def Ds:fz X "list.extend" Dr:=by
 intro Y s Z H x vs v y Q I g i h;obtain⟨l,b,xs,A,rfl,rfl,f,j,hz,q⟩:=h;cases g;obtain⟨u,rfl,m⟩:=i.one;cases m;obtain⟨z,c,n,r,B,e⟩:=I.lstM f;obtain⟨C,a,o,p,t,w⟩:=I.lstM j;have hsz:c.toArray.size+a.toArray.size<=sizeLine:=by rw[Zm,Zm];lia
 have d:¬(!c.toArray.isEmpty&&Builtin.List.listTooLong (c.toArray.size+a.toArray.size))=true:=by
  rw[Lg hsz,Vl];exact Zj
 refine call_meets F.slot_list_extend ⟨_,e,rfl⟩ F.entry_list_extend (F.args_list_extend_2 _ _)
  (AutoSeq1.list_extend_list_list_0 l c.toArray n b a.toArray o d (by rw[Zm];lia) ()) ⟨e,w,?_⟩
 refine⟨.non,_,I.lset (its':=c++a) f e () (r.append p) ?_,rfl,q⟩;rw[Ua];lia
end
section
variable {prog:Program}{w:World}{A:Around}{E:Ya}{s:Shared}
set_option maxRecDepth 100000 in
end
section
variable {κ: Type}[DecidableEq κ]
def j9 (a:List (κ × V))(k:κ):Yy:=(a.find? λb=>decide (b.1=k)).map (·.2)
def jD (a:List (κ × V))(k:κ)(v:V):List (κ × V):=
 if(a.any λb=>decide (b.1=k))=true then a.map (λb=>if b.1=k then(b.1,v) else b) else a++[(k,v)]
def Ba {p:κ × V}{r:List (κ × V)}{k:κ}(e:p.1=k):j9 (p::r) k=some p.2:=by simp[j9,U5,e]
def Bb {p:κ × V}{r:List (κ × V)}{k:κ}(e:¬p.1=k):j9 (p::r) k=j9 r k:=by simp[j9,U5,e]
theorem Dt (k:κ):∀a:List (κ × V),(a.any λb=>decide (b.1=k))=(j9 a k).isSome
 | []=>rfl
 |p::r=>by
  rw[List.any_cons];by_cases e:p.1=k
  .simp only[Ba e,Zp e,Bool.true_or,Option.isSome_some]
  .rw[Bb e,Zo e,Bool.false_or];exact Dt k r
def Bc (a:List (κ × V))(k:κ)(v:V):(jD a k v).length<=a.length+1:=by
 unfold jD
 split
 .rw[Zql];lia
 .rw[Ua,Zu,ZC];lia
def qC.isSome_eq {o:Yy}{u:Ye}(r:qC o u):o.isSome=u.isSome:=by
 cases o with
 |none=>cases u with
  |none=>rfl
  |some _=>exact(show False from r).elim
 |some _=>cases u with
  |none=>exact(show False from r).elim
  |some _=>rfl
theorem qC.getD {o:Yy}{u:Ye}{d:V}{d':Value}(r:qC o u)(a:T3 d d'):T3 (o.getD d) (u.getD d'):=by
 cases o with
 |none=>cases u with
  |none=>exact a
  |some _=>exact(show False from r).elim
 |some _=>cases u with
  |none=>exact(show False from r).elim
  |some _=>exact r
def KV.val {a:List (κ × V)}{vs:List (κ × Value)}(r:KV a vs)(k:κ):qC (j9 a k) (valueAt vs k):=by
 unfold KV at r
 induction r with
 |nil=>exact True.intro
 | @cons p q ps c h t g =>
  obtain⟨f,i⟩:=h;by_cases e:p.1=k
  .have d:q.1=k:=f.symm.trans e;have b:valueAt (q::c) k=some q.2:=by simp[valueAt,U5,d]
   rw[Ba e,b];exact i
  .have d:¬q.1=k:=λz=>e (f.trans z);have b:valueAt (q::c) k=valueAt c k:=by simp[valueAt,U5,d]
   rw[Bb e,b];exact g
theorem KV.any {a:List (κ × V)}{vs:List (κ × Value)}(r:KV a vs)(k:κ):(a.any λb=>decide (b.1=k))=vs.any λb=>decide (b.1=k):=by
 unfold KV at r
 induction r with
 |nil=>rfl
 |cons h t c=>rw[List.any_cons,List.any_cons,c,h.1]
def KV.repl {b:List (κ × V)}{vs:List (κ × Value)}(r:KV b vs)(k:κ){y:V}{u:Value}(d:T3 y u):
 KV (b.map λa=>if a.1=k then(a.1,y) else a) (vs.map λa=>if a.1=k then(a.1,u) else a):=by
 unfold KV at r ⊢
 induction r with
 |nil=>exact .nil
 | @cons p q ps i h t f =>
  rw[Zl,Zl];refine .cons ?_ f;obtain⟨c,g⟩:=h;by_cases e:p.1=k
  .rw[Zd e,Zd (c.symm.trans e)];exact⟨c,d⟩
  .rw[Ze e,Ze (λz=>e (c.trans z))];exact⟨c,g⟩
def KV.put {a:List (κ × V)}{vs:List (κ × Value)}(r:KV a vs)(k:κ){y:V}{u:Value}(b:T3 y u):KV (jD a k y) (stored vs k u):=by
 unfold jD stored;rw[r.any k];by_cases e:(vs.any λc=>decide (c.1=k))=true
 .rw[Zd e,Zd e];exact r.repl k b
 .rw[Ze e,Ze e];exact Paired.snoc r ⟨rfl,b⟩
theorem KV.length {a:List (κ × V)}{vs:List (κ × Value)}(r:KV a vs):a.length=vs.length:=Paired.length r
end
def WK {P:Program}{w:World}{k:TF}{u:Value}(r:T3 (kV k) u):(Qy P w).is k u=true:=by
 cases k with
 |inl i=>obtain⟨t,e⟩:=(show ∃t,u=Value.int i t from r);subst e;exact HM P w i t
 |inr x=>obtain⟨t,e⟩:=(show ∃t,u=Value.str x t from r);subst e;exact HN P w x t
theorem Du {P:Program}{w:World}:∀{ks:List TF} {a:Yd},T4 (ks.map kV) a->ItemsAre (Qy P w) ks a
 | [],_,r=>by rw[Uw] at r;cases r;exact .nil
 |k::ks,_,r=>by
  rw[Zl] at r;cases r with
  |cons h t=>exact .cons (WK h) (Du t)
abbrev KT (H:Hp):List (List TF×V)->List (List TF×Addr×Value)->Prop:=Paired λp q=>p.1=q.1/\H q.2.1=some (.tup (p.1.map kV))/\T3 p.2 q.2.2
def KT.val {H:Hp}{a:List (List TF×V)}{xs:List (List TF×Addr×Value)}(r:KT H a xs)(k:List TF):qC (j9 a k) ((atKey xs k).map (·.2)):=by
 induction r with
 |nil=>exact True.intro
 | @cons p q ps c h t g =>
  obtain⟨f,_,i⟩:=h;by_cases e:p.1=k
  .have d:q.1=k:=f.symm.trans e;have b:atKey (q::c) k=some q.2:=by simp[atKey,U5,d]
   rw[Ba e,b];exact i
  .have d:¬q.1=k:=λz=>e (f.trans z);have b:atKey (q::c) k=atKey c k:=by simp[atKey,U5,d]
   rw[Bb e,b];exact g
def KT.repl {H:Hp}{a:List (List TF×V)}{xs:List (List TF×Addr×Value)}(r:KT H a xs)(k:List TF){y:V}{u:Value}(f:T3 y u):
 KT H (a.map λc=>if c.1=k then(c.1,y) else c) (xs.map (putAt k u)):=by
 induction r with
 |nil=>exact .nil
 | @cons p q ps j h t g =>
  rw[Zl,Zl];refine .cons ?_ g;obtain⟨b,d,i⟩:=h;unfold putAt;by_cases e:p.1=k
  .rw[Zd e,Zd (b.symm.trans e)];exact⟨b,d,f⟩
  .rw[Ze e,Ze (λz=>e (b.trans z))];exact⟨b,d,i⟩
def KT.put {H:Hp}{a:List (List TF×V)}{xs:List (List TF×Addr×Value)}(r:KT H a xs)(k:List TF){b:Addr}{y:V}{u:Value}(d:H b=some (.tup (k.map kV)))(c:T3 y u):
 KT H (jD a k y) (storedH xs k b u):=by
 have e:(a.any λf=>decide (f.1=k))=(atKey xs k).isSome:=by
  rw[Dt,(r.val k).isSome_eq,Option.isSome_map]
 unfold jD storedH;rw[e];by_cases q:(atKey xs k).isSome=true
 .rw[Zd q,Zd q];exact r.repl k c
 .rw[Ze q,Ze q];exact Paired.snoc r ⟨rfl,d,c⟩
def KT.keeps {H H':Hp}{a:List (List TF×V)}{xs:List (List TF×Addr×Value)}(r:KT H a xs)(c:∀b ys,H b=some (.tup ys)->H' b=some (.tup ys)):KT H' a xs:=
 qE r λ_ _ z=>⟨z.1,c _ _ z.2.1,z.2.2⟩
section
variable {P:Program}{w:World}{H:Hp}{h:Heap}{a:Addr}
def Dv {u:HO}(ok:jP P w H h)(e:Rd H a u):jK P w H h a u:=e.ok ok
def KL {b:List (TF×V)}(ok:jP P w H h)(e:Rd H a (.dK b)):b.length<=sizeLine/\(a == sysModules)=false/\∃vs,KV b vs/\h.DictOf (Qy P w) a vs:=
 show jK P w H h a (.dK b) from Dv ok e
def Bd {b:List (TF×V)}(ok:jP P w H h)(e:H a=some (.dK b)):b.length<=sizeLine/\(a == sysModules)=false/\∃vs,KV b vs/\h.DictOf (Qy P w) a vs:=KL ok (.inl e)
def WL {ks:List TF}(ok:jP P w H h)(e:H a=some (.tup (ks.map kV))):(tupleKind (Qy P w)).is h ks a:=by
 obtain⟨_,b,r,o,c,d,n,f⟩:=(show jK P w H h a (.tup (ks.map kV)) from ok a _ e);exact⟨o,b.toArray,n,c,d,f,by simpa using Du r⟩
def Wg {b:List (List TF×V)}(ok:jP P w H h)(e:Rd H a (.dT b)):b.length<=sizeLine/\(a == sysModules)=false /\
 ∃xs,KT H b xs/\h.DictOfH (tupleKind (Qy P w)) a xs:=by
 obtain⟨z,y,xs,r,o,es,ep,d,f,g,i,j⟩:=(show jK P w H h a (.dT b) from Dv ok e);refine⟨z,y,xs,r,o,es,ep,d,f,g,i,λx hx=>?_,j⟩;have all:∀{l:List (List TF×V)} {m:List (List TF×Addr×Value)},KT H l m->∀x∈m,(tupleKind (Qy P w)).is h x.1 x.2.1:=by
  intro l m q
  induction q with
  |nil=>intro x hx;exact nomatch hx
  | @cons p q ps s c t n =>
   intro x hx;rcases UQ.mp hx with e|hx
   .subst e;exact WL ok (by rw[<- c.1];exact c.2.1)
   .exact n x hx
 exact all r x hx
def vQ {b:List (List TF×V)}(ok:jP P w H h)(e:H a=some (.dT b)):b.length<=sizeLine/\(a == sysModules)=false /\
 ∃xs,KT H b xs/\h.DictOfH (tupleKind (Qy P w)) a xs:=Wg ok (.inl e)
end
def qz (H:Hp)(a:Addr)(y:V)(r:Yy):Prop:=
 (∃c k,Rd H a (.dK c)/\y=kV k/\r=j9 c k)\/∃c k b,Rd H a (.dT c)/\y=.ref b/\H b=some (.tup (k.map kV))/\r=j9 c k
def y7 (H:Hp)(a:Addr)(y v:V)(H':Hp):Prop:=
 (∃c k,H a=some (.dK c)/\y=kV k/\c.length<sizeLine/\H'=TQ H a (.dK (jD c k v))) \/
 ∃c k b,H a=some (.dT c)/\y=.ref b/\H b=some (.tup (k.map kV))/\c.length<sizeLine/\H'=TQ H a (.dT (jD c k v))
theorem qz.k {H:Hp}{a:Addr}{b:List (TF×V)}{k:TF}(e:H a=some (.dK b)):qz H a (kV k) (j9 b k):=.inl ⟨b,k,.inl e,rfl,rfl⟩
theorem y7.k {H:Hp}{a:Addr}{b:List (TF×V)}{k:TF}{v:V}(e:H a=some (.dK b))(c:b.length<sizeLine):y7 H a (kV k) v (TQ H a (.dK (jD b k v))):=.inl ⟨b,k,e,rfl,c,rfl⟩
section
variable {X:Cx}{Y:Yb}{Z: St}{H:Hp}{s:Shared}{a:Addr}{y v:V}{u r:Value}{o:Yy}{A:Around}{E:Ya}
def Inv.big (I:Inv X Y Z H s):sysModules<s.heap.objs.size:=by
 have h:mainGlobals<s.heap.objs.size:=(I.mod.glob.keeps I.bk).lt;exact UN (by decide) h
def Lh {Q:Ya}(q:A.units+1<cLine)(I:Inv X Y Z H s)(g:qz H a y (some v))(n:T3 y u)(h:∀f s',Inv X Y Z H s'->T3 v f->Q f s'):
 wpAny (model X.prog X.w) A (getItem (.ref a) u) Q E s:=by
 rcases g with ⟨i,k,e,j,l⟩|⟨i,k,b,e,j,t,l⟩
 .subst j;obtain⟨z,w,vs,c,dd⟩:=KL I.hok e;obtain⟨f,hw,d⟩:=qs (v:=v) (o:=valueAt vs k) (by rw[l];exact c.val k);exact wpAny_getItem_of (WK n) dd.mapOf hw (h f _ (I.tok _) d)
 .subst j;cases (show u=Value.ref b from n);obtain⟨z,w,xs,c,dd⟩:=Wg I.hok e;obtain⟨f,hw,d⟩:=qs (v:=v) (o:=(atKey xs k).map (·.2)) (by rw[l];exact c.val k);obtain⟨p,hp,m⟩:=Jj.mp hw;refine wpAny_getItem_heap (tupleKind_room_in1 q) (WL I.hok t) dd hp ?_;rw[m];exact h f _ (I.tok _) d
def gD {Q:Ya}(m:A.units+1<cLine)(I:Inv X Y Z H s)(g:qz H a y o)(j:T3 y u)(h:∀s',Inv X Y Z H s'->Q (.bool o.isSome) s'):
 wpAny (model X.prog X.w) A (compareOp .In u (.ref a)) Q E s:=by
 rcases g with ⟨d,k,e,f,l⟩|⟨d,k,b,e,f,n,l⟩
 .subst f;obtain⟨z,i,vs,c,dd⟩:=KL I.hok e;refine wpAny_in_of (WK j) i dd.mapOf ?_;rw[<- (c.val k).isSome_eq,<- l];exact h _ (I.tok _)
 .subst f;cases (show u=Value.ref b from j);obtain⟨z,i,xs,c,dd⟩:=Wg I.hok e;refine wpAny_in_heap (tupleKind_room_in1 m) (WL I.hok n) i dd ?_;have q:=(c.val k).isSome_eq;rw[Option.isSome_map] at q;rw[<- q,<- l];exact h _ (I.tok _)
def Li {Q:Ya}(m:A.units+1<cLine)(I:Inv X Y Z H s)(g:qz H a y o)(j:T3 y u)(h:∀s',Inv X Y Z H s'->Q (.bool (!o.isSome)) s'):
 wpAny (model X.prog X.w) A (compareOp .NotIn u (.ref a)) Q E s:=by
 rcases g with ⟨d,k,e,f,l⟩|⟨d,k,b,e,f,n,l⟩
 .subst f;obtain⟨z,i,vs,c,dd⟩:=KL I.hok e;refine wpAny_notIn_of (WK j) i dd.mapOf ?_;rw[<- (c.val k).isSome_eq,<- l];exact h _ (I.tok _)
 .subst f;cases (show u=Value.ref b from j);obtain⟨z,i,xs,c,dd⟩:=Wg I.hok e;refine wpAny_notIn_heap (tupleKind_room_in1 m) (WL I.hok n) i dd ?_;have q:=(c.val k).isSome_eq;rw[Option.isSome_map] at q;rw[<- q,<- l];exact h _ (I.tok _)
def Dw {h':Heap}{t':Nat}{c:HO}(I:Inv X Y Z H s)(d:uq (H a))(hs:Heap.SameBut a s.heap h')(f:∃q,h'.get? a=some q)(new:jK X.prog X.w (TQ H a c) h' a c):
 Inv X Y Z (TQ H a c) { s with heap:=h',toks:=t' } :=
 I.write (x:=a) (e:=a) d (.inl rfl) (λb q g z=>(hs.2 b g).trans z) f new
def Dx {P:Program}{w:World}{H':Hp}{h':Heap}{b:List (TF×V)}{vs:List (TF×Value)}(z:b.length<=sizeLine)(d:(a == sysModules)=false)(c:KV b vs)(dd:h'.DictOf (Qy P w) a vs):
 jK P w H' h' a (.dK b):=⟨z,d,vs,c,dd⟩
def Lj {H':Hp}{Q:Unit->Yv}(F:A.units+1<cLine)(I:Inv X Y Z H s)(g:y7 H a y v H')(w:T3 y u)(x:T3 v r)(h:∀s',Inv X Y Z H' s'->Q Yq s'):
 wpAny (model X.prog X.w) A (setItem (.ref a) u r) Q E s:=by
 rcases g with ⟨d,k,e,m,l,n⟩|⟨d,k,b,e,m,B,l,n⟩
 .subst m n;obtain⟨z,p,vs,f,dd⟩:=Bd I.hok e;have hz:vs.length<=sizeLine:=by rw[<- f.length];exact z
  have t:(jD d k v).length<=sizeLine:=by have:=Bc d k v;lia
  refine wpAny_setItem_pairs (hsz:=hz) (WK w) dd λh' i hs=>h _ ?_;have G:∃q,h'.get? a=some q:=let ⟨q,_,_,j,_⟩:=i;⟨q,j⟩
  exact Dw I (by rw[e];exact True.intro) hs G (Dx t p (f.put k x) i)
 .subst m n;cases (show u=Value.ref b from w);obtain⟨z,p,xs,f,dd⟩:=vQ I.hok e;have hz:xs.length<=sizeLine:=by rw[<- Paired.length f];exact z
  have t:(jD d k v).length<=sizeLine:=by have:=Bc d k v;lia
  refine wpAny_setItem_heap (hsz:=hz) (tupleKind_room_in1 F) (WL I.hok B) dd λh' i hs=>h _ ?_;obtain⟨q,es,ep,j,J,K,L,_,M⟩:=i;refine Dw I (by rw[e];exact True.intro) hs ⟨q,j⟩ ⟨t,p,_,(f.put k B x).keeps λc ys C=>?_,q,es,ep,j,J,K,L,M⟩;rw[JL (vg C e (λz=>nomatch z))];exact C
end
section
variable {X:Cx}{Y:Yb}{Z: St}{H:Hp}{s:Shared}{a:Addr}{kvs:List (TF×V)}{k:TF}{u:Value}{A:Around}{E:Ya}
def vW {Q:Ya}(I:Inv X Y Z H s)(e:Rd H a (.dK kvs))(h:∀t s',Inv X Y Z H s'->Q (.int kvs.length t) s'):wpAny (model X.prog X.w) A (call (.builtin "len") [.ref a]) Q E s:=by
 obtain⟨z,c,vs,b,dd⟩:=KL I.hok e;refine call_len_dict c dd (by rw[<- b.length];rw[sizeLine_eq] at z;lia) ?_;rw[<- b.length];exact h _ _ (I.tok _)
end
def z3 (i:Expr):Prop:=∀a b,subscripted i false a b=operate [a,b] (getItem a b)
def Lk {prog:Program}{w:World}{A:Around}{E:Ya}{s:Shared}{env:Env}{b a:Expr}{d:Pos}{T id:String}{Q:Ya}
 (f:typeLookup (.type T) "__getitem__" = pure (some (.builtin id))) (hs:z3 a)
 (h:YC prog w A (eval b env) (λo s₁=>YC prog w A (eval a env) (λi s₂=>s₂.TypeIs o T/\YC prog w A (getItem o i) Q E s₂) E s₁) E s):
 YC prog w A (eval (.Subscript b a d) env) Q E s:=by
 refine Subscript_ (Zc h (λo s₁ h₁=>Zc h₁ (λi s₂ h₂=>?_) λ_ _ x=>x) λ_ _ x=>x);obtain⟨e,h₂⟩:=h₂;unfold subscriptTail;refine Za ?_;rw[getitemInPython_of_ne e.not_modules];refine Za (wpAny_specialOf e f ?_);have c:YC prog w A (subscripted a false o i) (λr s₃=>YC prog w A (letTemporaryGo b o r >>= λ_=>pure r) Q E s₃) E s₂:=by
  rw[hs o i];exact wpAny_operating (Zc h₂ (λr s₃ h₃=>Za (wpAny_letTemporaryGo (Zb h₃))) λ_ _ x=>x)
 first
  |exact Zb (Za c)
  |exact Za (Zb (Za c))
  |exact Za c
def Ll {X:Cx}{Y:Yb}{Z: St}{H:Hp}{s:Shared}{a:Addr}{y:V}{o:Yy}(I:Inv X Y Z H s)(g:qz H a y o):s.TypeIs (.ref a) "dict" := by
 rcases g with ⟨c,k,e,_,_⟩|⟨c,k,b,e,_,_,_⟩
 .obtain⟨_,_,vs,_,dd⟩:=KL I.hok e;exact dd.typeIs
 .obtain⟨_,_,xs,_,dd⟩:=Wg I.hok e;exact dd.typeIs
def wc (c d:TE):TE:=λZ H Q=>c Z H λx e=>d Z e λy b=>∃a v,x=.ref a/\qz b a y (some v)/\Q v b
def kK (c d:TE):TE:=λZ H Q=>c Z H λy e=>d Z e λx b=>∃a o,x=.ref a/\qz b a y o/\Q (.bl o.isSome) b
def Lm (c d:TE):TE:=λZ H Q=>c Z H λy e=>d Z e λx b=>∃a o,x=.ref a/\qz b a y o/\Q (.bl (!o.isSome)) b
def wj (c d e:TE):TS:=λD Z H=>e Z H λv f=>c Z f λx g=>d Z g λy h=>∃a b,x=.ref a/\y7 h a y v b/\D.nx Z b
section
variable {X:Cx}{o i e value:Expr}{pos pos' tpos:Pos}{td ty tv:TE}
def Ln (d:X.A.units+1<cLine)(f:PE X o td)(hi:PE X i ty)(hs:z3 i):PE X (.Subscript o i pos) (wc td ty):=by
 intro Y s Z H Q I h;refine Lk PySem.F.slot_dict_getitem.lookup hs (TZ (f Y s Z H _ I h) λu j ⟨x,l,m,n,p⟩=>TZ (hi Y j Z l _ m p) λA B ⟨y,q,c,r,a,v,t,g,w⟩=>?_);subst t;obtain rfl:u=Value.ref a:=n;exact⟨Ll c g,Lh d c g r λC E z b=>⟨v,q,z,b,w⟩⟩
def Lo (b:X.A.units+1<cLine)(hi:PE X i ty)(c:PE X o td):PC X .In i o (kK ty td):=by
 intro Y s Z H Q I h;refine TZ (hi Y s Z H _ I h) λz d ⟨y,f,j,l,m⟩=>TZ (c Y d Z f _ j m) λu A ⟨x,n,p,q,a,r,t,g,v⟩=>?_;subst t;obtain rfl:u=Value.ref a:=q;exact gD b p g l λB w=>⟨.bl r.isSome,n,w,rfl,v⟩
def Lp (b:X.A.units+1<cLine)(hi:PE X i ty)(c:PE X o td):PC X .NotIn i o (Lm ty td):=by
 intro Y s Z H Q I h;refine TZ (hi Y s Z H _ I h) λz d ⟨y,f,j,l,m⟩=>TZ (c Y d Z f _ j m) λu A ⟨x,n,p,q,a,r,t,g,v⟩=>?_;subst t;obtain rfl:u=Value.ref a:=q;exact Li b p g l λB w=>⟨.bl (!r.isSome),n,w,rfl,v⟩
def Lq (b:X.A.units+1<cLine)(c:PE X o td)(hi:PE X i ty)(d:PE X value tv)(hs:swapsWith value (some (.Subscript o i pos')) pos.line X.env=pure false):
 PS X (.Assign [.Subscript o i pos'] value pos) (wj td ty tv):=by
 intro Y s Z H D I h;refine wpAny_Assign_Subscript (TZ (d Y s Z H _ I h) λr f ⟨v,j,l,m,n⟩=>TZ (c Y f Z j _ l n) λu p ⟨x,q,t,w,z⟩=>TZ (hi Y p Z q _ t z) λJ K ⟨y,L,A,B,a,C,E,g,F⟩=>?_) hs;subst E;obtain rfl:u=Value.ref a:=w;exact Lj b A g B m λM G=>⟨Z,C,G,F⟩
end
def Lr {P:Program}{w:World}{H:Hp}(h:Heap)(a:sysModules<h.objs.size):jK P w H (h.push { cls:=.type "dict",data:=.dict #[] }) h.objs.size (.dK []):=
 ⟨Uc _,beq_eq_false_iff_ne.mpr (Ne.symm (Zi a)),[],.nil,Heap.DictOf.new h⟩
def Ls:TE:=λ_ H Q=>∀p,H p=none->Q (.ref p) (TQ H p (.dK []))
section
variable {X:Cx}{pos:Pos}
def Lu:PE X (.Dict [] [] pos) Ls:=λY s Z H Q I h =>
 wpAny_Dict_empty ⟨.ref s.heap.objs.size,_,I.laid (a:=s.heap.objs.size) (o:=.dK []) (t':=s.toks) (λ_ _ q=>Zq _ q) (Zf _) (Lr s.heap I.big),rfl,h _ (I.hok.fresh (Zf _))⟩
end
def Wh (a more:List (TF×V)):List (TF×V):=more.foldl (λb c=>jD b c.1 c.2) a
def yx:∀{more:List (TF×V)} {rs:List (TF×Value)} {a:List (TF×V)} {vs:List (TF×Value)},KV more rs->KV a vs->KV (Wh a more) (merged vs rs):=by
 intro more rs a vs r;unfold KV at r
 induction r generalizing a vs with
 |nil=>intro q;exact q
 | @cons p q ps d h t b =>
  intro c;have e:KV (jD a p.1 p.2) (stored vs q.1 q.2):=by
   have:=c.put p.1 h.2;rw[<- h.1];exact this
  exact b e
theorem Dy:∀(more a:List (TF×V)),(Wh a more).length<=a.length+more.length
 | [],a=>by show a.length<=a.length+0;lia
 |p::r,a=>by
  have b:=Dy r (jD a p.1 p.2);have c:=Bc a p.1 p.2;show(Wh (jD a p.1 p.2) r).length<=_;rw[Zu];lia
structure M2 (X:Cx)(o:Expr)(m:Str)(apos:Pos)(e f:Expr)(cpos:Pos):Prop where
 base:attributeBase o m X.env (eval o X.env)=eval o X.env
 few:((backTo cpos (starEach [e,f] X.env)).all (λx => !x.1)&&(backToKw cpos (keywordEach [] X.env)).all (λx=>x.1.isSome)
  && decide (([e,f]:Yk).length+([]:List Keyword).length+(if([]:List Keyword).isEmpty then 0 else 1)<30))=true
 line:(apos.endLine == cpos.line)=true
 trees:backTo cpos (starEach [e,f] X.env)=[(false,eval e X.env),(false,eval f X.env)]
def Tj (H:Hp)(a:Addr):Prop:=(∃b,Rd H a (.dK b))\/∃b,Rd H a (.dT b)
def Lv {X:Cx}{Y:Yb}{Z: St}{H:Hp}{s:Shared}{a:Addr}(I:Inv X Y Z H s)(d:Tj H a):
 s.TypeIs (.ref a) "dict" /\ (∀b,Value.ref a=.ref b->∃c,s.heap.get? b=some c/\c.dict=none)/\(a == sysModules)=false:=by
 rcases d with ⟨f,e⟩|⟨f,e⟩
 .obtain⟨_,g,vs,_,dd⟩:=KL I.hok e;refine⟨dd.typeIs,λb q=>?_,g⟩;cases q;obtain⟨c,_,_,h,i,_⟩:=dd;exact⟨c,h,i.2.1⟩
 .obtain⟨_,g,xs,_,dd⟩:=Wg I.hok e;refine⟨dd.typeIs,λb q=>?_,g⟩;cases q;obtain⟨c,_,_,h,i,_⟩:=dd;exact⟨c,h,i.2.1⟩
section
variable {X:Cx}{Y:Yb}{Z: St}{H:Hp}{s:Shared}{a:Addr}{y d:V}{u r:Value}{o:Yy}{A:Around}{E:Ya}
def Lw {Q:Ya}(q:A.units+1<cLine)(I:Inv X Y Z H s)(g:qz H a y o)(m:T3 y u)(n:T3 d r)(h:∀p s',Inv X Y Z H s'->T3 (o.getD d) p->Q p s'):
 wpAny (model X.prog X.w) A (call (.builtin "dict.get") [.ref a,u,r]) Q E s:=by
 rcases g with ⟨f,k,e,i,l⟩|⟨f,k,b,e,i,t,l⟩
 .subst i;obtain⟨z,j,vs,c,dd⟩:=KL I.hok e;refine call_meetsIn PySem.F.slot_dict_get dd.typeIs PySem.F.entry_dict_get (PySem.F.args_dict_get_3 _ _ _) (meets_dict_get_default (Qy X.prog X.w) a (WK m) j r) ⟨_,dd.mapOf,h _ _ (I.tok _) ?_⟩;rw[l];exact(c.val k).getD n
 .subst i;cases (show u=Value.ref b from m);obtain⟨z,j,xs,c,dd⟩:=Wg I.hok e;refine call_meetsIn PySem.F.slot_dict_get dd.typeIs PySem.F.entry_dict_get (PySem.F.args_dict_get_3 _ _ _) (meetsH_dict_get_default (tupleKind (Qy X.prog X.w)) a b j r) ⟨tupleKind_room_in1 q,k,xs,WL I.hok t,dd,h _ _ (I.tok _) ?_⟩;rw[l];exact(c.val k).getD n
end
def Lx (d e f:TE):TE:=λZ H Q=>d Z H λx b=>∃a,x=.ref a/\Tj b a/\e Z b λy g=>f Z g λz c=>∃o,qz c a y o/\Q (o.getD z) c
section
variable {X:Cx}{o e f:Expr}{apos cpos:Pos}{td ty tx:TE}
def Ly (i:X.A.units+1<cLine)(j:PE X o td)(l:PE X e ty)(n:PE X f tx)(m:M2 X o "get" apos e f cpos):PE X (.Call (.Attribute o "get" apos) [e,f] [] cpos) (Lx td ty tx):=by
 intro Y s Z H Q I h;refine wpAny_Call_method m.base m.few m.line PySem.F.plainAttrs_dict PySem.F.slot_dict_get PySem.F.type_dict_get (TZ (j Y s Z H _ I h) λu p ⟨x,q,c,r,a,t,d,v⟩=>?_);subst t;obtain rfl:u=Value.ref a:=r;obtain⟨w,A,_⟩:=Lv c d;refine⟨w,A,?_⟩;rw[m.trees];refine Calls.callWith_builtin rfl (Calls.evalArgs_plain (Calls.spliced_cons (TZ (l Y p Z q _ c v) λO B ⟨y,C,E,F,G⟩ =>
  Calls.spliced_cons (TZ (n Y B Z C _ E G) λP R ⟨z,J,K,L,S,g,M⟩=>Calls.spliced_nil ?_))))
 exact Lw i K g F L λT U N b=>⟨_,J,N,b,M⟩
end
end L2
namespace Att
open PySem PySem.W PySem.Calls PyProof.Rows
def Lz {P:Params}{h:Heap}:∀(ns:Yf) (vs:Yd),WellAll P h vs (ns.map WData.int)->IntsAre vs ns:=by
 intro ns
 induction ns with
 |nil =>
  intro vs w;rw[Uw] at w;cases w;exact .nil
 |cons n ns c =>
  intro vs w;rw[Zl] at w;cases w with
  |cons a b =>
   cases a;exact .cons _ _ (c _ b)
def L0 {l:OpenLaw}{n:Nat}(p:l.most=some n){P:Params}{h:Heap}{args:List WData}{b:Yd}
 (c:l.row.toRowW.claim.pre args=true) (j:WellAll P h b args):
 ∃a vs ns,b=[Value.ref a]/\args=[WData.list (ns.map WData.int)]/\h.get? a=some { cls:=.type "list",data:=.seq vs.toArray }/\IntsAre vs ns/\ns.length<=n:=by
 have m:WShape.hasAll [] args [.list .int]=true:=(pre_splitW c).1;have o:l.pre.holds [] { args:=args }=true:=(pre_splitW c).2;obtain⟨d,r,rfl,s,t⟩:=hasAllW_cons m;obtain rfl:=hasAllW_nil t;obtain⟨xs,rfl,u⟩:=hasW_list s;obtain⟨ns,rfl⟩:=items_int u;have e:ns.length<=n:=by
  unfold OpenLaw.pre at o;have g:(WTm.not (.lt (.lit (.int (n:Int))) (.len (.arg 0)))).holds [] { args:=[.list (ns.map .int)] }=true:=by
   have g:=(holds_andW o).1;rw[p] at g;exact g
  have i:=condW_of g (w_not (w_lt w_lit (w_len_list (w_arg rfl))));rw[Zql] at i;refine Nat.le_of_not_lt λq=>?_;have v:(n:Int)<((ns.length:Nat):Int):=()
  first
   | (rw[Zp v] at i;exact Zn i (by decide))
   | (simp at i;lia)
 cases j with
 |cons w x =>
  cases x;cases w with
  |list y f=>exact⟨_,_,ns,rfl,rfl,y,Lz ns _ f,e⟩
def L1 (l:OpenLaw)(args:List WData):l.row.toRowW.claim.post args (.bool true) args=true:=
 postW_of (r:=l.row.toRowW) (X:=(true == true))
  (show WShape.has [] (.bool true) .bool=true by first|rfl|decide|simp[WShape.has,WShape.arms,WShape.armsAll])
  (show(WTm.eq .res (.lit (.bool true))).value [] { args:=args,res:=some (.bool true),after:=args }=some (.bool (true == true)) from w_eq_bool (w_res rfl) w_lit) rfl
def attach_call {l:OpenLaw}{n:Nat}{q:Program}{b:Yi}{A:(Yc)->Heap->Prop}{B:World->Heap->Prop}{d:DefRec}
 (H:l.most=some n) (t:d.params.defaults=[])
 (call:∀(w:World) (s₀ s₁:Shared) (m u:Yc) (g:Addr) (o:Obj) (v p c:Value) (a:Addr) (vs:Yd) (ns:Yf),
  Ground q b [] A w s₀ m u s₁.heap->B w s₁.heap ->
  s₁.heap.get? g=some o->o.data=.func (docDef d.name d.params d.body d.scope v p c)->s₁.heap.CodeRec p d.name->m d.name=some (.ref g) ->
  s₁.heap.get? a=some { cls:=.type "list",data:=.seq vs.toArray }->IntsAre vs ns->ns.length<=n->s₁.gens = #[] ->
  codeAny (model l.prog w) callerA (.call (.ref g) ⟨[.ref a],[]⟩) (λr s'=>r=.ok (.ret (.bool true))/\OldK s₁.heap s'.heap/\s'.os=s₁.os/\AllBare s'.gens) s₁):
 WalkO q b A B l.row.toRowW d [] (λf vs=>PySem.call f vs):=by
 intro w s₀ s₁ m u G Yy g o v p c I kV J K x C y L args E as h F M z N;obtain rfl:I=.none:=Dflts.none C t;obtain rfl:kV=.none:=Dflts.noKw C;obtain⟨a,vs,ns,rfl,rfl,i,e,j⟩:=L0 H h z;refine enter_call (codeAny_mono (call w s₀ s₁ m u g o v p c a vs ns G Yy J (fd_plain K) x y i e j L) λr s' O=>?_);obtain⟨rfl,P,Q,R⟩:=O;exact⟨.inl ⟨.bool true,.bool true,[],rfl,λ_=>rfl,.bool true,L1 l _,λ_=>⟨List.Pairwise.nil,λ_ S=>(nomatch S)⟩⟩,P,Q,R⟩
end Att
namespace L2
def L3:∀{vs:Yd} {ns:Yf},IntsAre vs ns->T4 (ns.map V.int) vs:=λh=>by
 induction h with
 |nil=>exact .nil
 |cons n t _ a=>exact .cons ⟨t,rfl⟩ a
def z0 (H:Hp):Prop:=∀b,H b=none\/∃o xs,H b=some (.frz o (.lst xs))
def L4 {P:Program}{w:World}{K:W.Frag}{l I:Yc}{CX:yd}{k:Nat}{J a:Addr}{S:FuncData}{x:Str}{sp:Sp}{s₁:Shared}{vs:Yd}{ns:Yf}
 (T:K.In s₁.heap) (p:s₁.heap.Ns mainGlobals l) (f:s₁.heap.Ns builtinsNs I) (L:∀x:Str,x ≠ "__name__" -> I x=bootBuiltins x) (t:s₁.heap.NoLimit) (hg:s₁.gens = #[])
 (G:s₁.heap.get? a=some { cls:=.type "list",data:=.seq vs.toArray }) (hi:IntsAre vs ns) (U:ns.length<=sizeLine) (hr:Room k callerA)
 (F:∀base:Heap,K.In base->base.Ns mainGlobals l->FnOk P w K l base CX k J S [x] sp) (j:∀(s:Shared) (u:Value),BindsTo s S ⟨[u],[]⟩ [(x,u)])
 (M:∀H:Hp,z0 H->qh K H a (ns.map V.int)->sp [.ref a] H (λv _=>v=.bl true) λ_ _ _=>False)
 (N:∀H e s',CX [] H s₁ (λ_ _ _=>False) e s'->False):
 codeAny (model P w) callerA (.call (.ref J) ⟨[.ref a],[]⟩) (λr s'=>r=.ok (.ret (.bool true))/\OldK s₁.heap s'.heap/\s'.os=s₁.os/\AllBare s'.gens) s₁:=by
 have X:=L3 hi;have y:=hi.length;have i:∀H:Hp,z0 H->qh K H a (ns.map V.int)->jP P w H s₁.heap->(∀b,H b≠none->b=a)->(H a≠none->K.lookup a=none) ->
  codeAny (model P w) callerA (.call (.ref J) ⟨[.ref a],[]⟩) (λr s'=>r=.ok (.ret (.bool true))/\OldK s₁.heap s'.heap/\s'.os=s₁.os/\AllBare s'.gens) s₁:=by
  intro H Y hS A Z hK;have c:∀{b:Addr} {o:Obj},s₁.heap.get? b=some o->H b=none->(xo s₁.heap H).get? b=some o:=λe n=>HR e n;have O:∀{b:Addr} {o:Obj} {es:Array DictEntry} {ep:Nat},s₁.heap.get? b=some o->o.data=.dict es ep->H b=none:=λ{b o es ep} e d=>by
   cases q:H b with
   |none=>rfl
   |some u =>
    have Q:b=a:=Z b (by rw[q];simp);subst Q;rw[G] at e;cases e;have d':Data.seq vs.toArray _=Data.dict es ep:=d;cases d'
  have g:∀{b:Addr} {m:Yc},s₁.heap.Ns b m->(xo s₁.heap H).Ns b m:=λ{b m} ⟨o,es,ep,e,d,r⟩=>⟨o,es,ep,c e (O e d),d,r⟩;have B:K.In (xo s₁.heap H):=λb o e=>c (T b o e) (by
   cases q:H b with
   |none=>rfl
   |some u =>
    have Q:b=a:=Z b (by rw[q];simp);subst Q;rw[hK (by rw[q];simp)] at e;cases e)
  have hM:Mod K l (xo s₁.heap H):=⟨B,g p,⟨I,g f,L⟩,let ⟨mc,h1,h2⟩:=t;⟨mc,g h1,h2⟩⟩;have e0:Env0 P w K l (xo s₁.heap H) callerA [] s₁ H:=⟨rfl,hM,λb o e=>HS e,Yr (HQ _ _),trivial,λb f=>Zn (show b∈([]:Yj) from f) (),A,.of_eq hg⟩;refine codeAny_mono ((F _ B (g p)).run callerA [] s₁ H ⟨[.ref a],[]⟩ [.ref a] [.ref a] _ _ hr e0 (j s₁ (.ref a)) (.cons rfl .nil) (M H Y hS)) λr s' h=>?_;cases r with
  |error e=>exact(N H e s' h).elim
  |ok fl =>
   cases fl with
   |next=>exact False.elim h
   |brk=>exact False.elim h
   |cont=>exact False.elim h
   |ret u =>
    obtain⟨v,H',os,bare,un,C,r',q⟩:=h;have q':v=.bl true:=q;subst q';obtain rfl:u=Value.bool true:=r';refine⟨rfl,OldK.of_keep λb o e=>?_,os,bare⟩;cases q:H b with
    |none=>exact un.keep b o e q (by intro z;exact Zn (show b∈([]:Yj) from z) ()) ()
    |some u =>
     rcases Y b with z|⟨ob,xs,z⟩
     .rw[q] at z;cases z
     .have z2:=un.frzs b ob _ z;obtain⟨e1,_⟩:=A b _ z;obtain⟨e2,_⟩:=C b _ z2;rw[e] at e1;cases e1;exact e2
 cases R:K.lookup a with
 |some o =>
  have e:=T a o R;rw[G] at e;cases e;refine i (λ_=>none) (λ_=>.inl rfl) (.inr ⟨_,vs.toArray,_,R,rfl,rfl,rfl,by rw[Zm,y];exact U,by simpa using X⟩) (λb u z=>by have E:(none:Option HO)=some u:=z;cases E) (λb z=>Zn rfl z) λz=>Zn rfl z
 |none =>
  refine i (λb=>if b=a then some (.frz { cls:=.type "list",data:=.seq vs.toArray } (.lst (ns.map V.int))) else none) (λb=>?_) (.inl (.inr ⟨{ cls:=.type "list",data:=.seq vs.toArray },Zd rfl⟩)) (λb u z=>?_) (λb z=>?_) λ_=>R
  .by_cases f:b=a
   .exact .inr ⟨_,_,Zd f⟩
   .exact .inl (Ze f)
  .by_cases f:b=a
   .have E:=(Zd f).symm.trans z;cases E;subst f;exact⟨G,by rw[Zql];exact U,vs,_,X,G⟩
   .have E:=(Ze f).symm.trans z;cases E
  .by_cases f:b=a
   .exact f
   .exact Zn (Ze f) z
def walk_of {l:W.OpenLaw}{n k:Nat}{q:Program}{c:Yi}{E:(Yc)->Heap->Prop}{B:World->Heap->Prop}{d:DefRec}{K:Params->W.Frag}{CX:World->yd}{sp:World->Sp}{x:Str}
 (I:l.most=some n) (p:n<=sizeLine) (r:d.params.defaults=[]) (J:Room k callerA)
 (L:∀(w:World) (h:Heap),B w h->(K w.params).In h)
 (F:∀(w:World) (i:Yc) (m:Addr) (h:Heap),(K w.params).In h->h.Ns mainGlobals i->i d.name=some (.ref m) ->
  ∃t:FuncData,(∀(s:Shared) (u:Value),BindsTo s t ⟨[u],[]⟩ [(x,u)]) /\
   ∀base:Heap,(K w.params).In base->base.Ns mainGlobals i->FnOk l.prog w (K w.params) i base (CX w) k m t [x] (sp w))
 (y:∀(w:World) (H:Hp) (a:Addr) (ns:Yf),ns.length<=n->z0 H->qh (K w.params) H a (ns.map V.int)->sp w [.ref a] H (λv _=>v=.bl true) λ_ _ _=>False)
 (z:∀(w:World) (H:Hp) (s:Shared) (e:Value) (s':Shared),CX w [] H s (λ_ _ _=>False) e s'->False):
 W.WalkO q c E B l.row.toRowW d [] (λf vs=>PySem.call f vs):=by
 refine Att.attach_call I r λw s₀ s₁ i T m o U X M a vs ns G Yy Y Z N A j g b O=>?_;have C:=L w _ Yy;obtain⟨t,P,Q⟩:=F w i m _ C G.T.g A;exact L4 C G.T.g G.T.b G.T.builtins G.T.nolimit O j g (Zh b p) J Q P (λH R S=>y w H a ns b R S) λH e s'=>z w H s₁ e s'
def Wi (s:Stmt):Arguments:=match s with
 | .FunctionDef _ a _ _ _ _ _ _ _ _=>a
 |_=>{ posonlyargs:=[],args:=[],vararg:=none,kwonlyargs:=[],kw_defaults:=[],kwarg:=none,defaults:=[] }
def QX (s:Stmt):List Stmt:=match s with
 | .FunctionDef _ _ b _ _ _ _ _ _ _=>b
 |_=>[]
def JZ (s:Stmt):Scope:=match s with
 | .FunctionDef _ _ _ _ _ _ sc _ _ _=>sc
 |_=>{ kind:=.function,names:=[],isGenerator:=false,isCoroutine:=false }
abbrev xp:yd:=λ_ _ _ _ _ _=>False
abbrev E0:XK:=λ_ _ _=>False
def wG {X:Cx}:YX xp X E0:=λ_ _ _ _ _ _ _ h=>h.elim
structure Fun (K:W.Frag)(x qual:Str)(st:Stmt)(f:Addr)(fd:FuncData):Prop where
 ex:∃(oc:Value) (od:Option Addr) (kV doc pm:Value) (an:Option Addr) (cdv ct:Value) (osl:Array Ye),
  fd=W.fnOf x qual (Wi st) (QX st) (JZ st) .none kV doc pm an cdv ct/\K.lookup f=some ⟨oc,od,.func fd,osl⟩/\W.codeIn K cdv qual=true
 kp:W.keepIn K (.ref f)=true
section
variable {P:Program}{w:World}{K:W.Frag}{mg:Yc}{base:Heap}
def Fun.ok {x b:Str}{st:Stmt}{f:Addr}{i:FuncData}{N ps:Yi}{k:Nat}{sp:Sp}(F:Fun K x b st f i)(S:FnScope N ps (JZ st))(len:∀vs H Q E,sp vs H Q E->vs.length=ps.length)
 (d:∀(c:Value) (A:Around) (a:List Env) (s:Shared) (H:Hp) (vs:Yx) (Q:VK) (E:XK),Room k (A.deeper (envOfC b (JZ st) s.heap.objs.size f c))->sp vs H Q E ->
  ∃t,qJ (js xp P w K mg base N b (JZ st) f c A a s H E).nox (QX st) t/\t { nx:=λ_ H'=>Q .non H',rt:=Q } (start N vs) H):FnOk P w K mg base xp (k+1) f i ps sp:=by
 obtain⟨o,p,kV,j,r,u,c,ct,l,rfl,m,e⟩:=F.ex;refine Dm m e S len λA a s H vs Q E n g=>?_;obtain⟨t,h,q⟩:=d c A a s H vs Q E n g;exact⟨t,h.nox,q⟩
def Fun.binds {x a:Str}{st:Stmt}{f:Addr}{i:FuncData}{ps:Yi}(F:Fun K x a st f i)
 (h:∀(kV b d:Value) (e:Option Addr) (c ct:Value) (g:Yd),g.length=ps.length->bindArgs (W.fnOf x a (Wi st) (QX st) (JZ st) .none kV b d e c ct) ⟨g,[]⟩=pure (ps.zip g)):ze K i ps []:=by
 obtain⟨m,n,kV,b,d,e,c,ct,j,rfl,o,l⟩:=F.ex;exact .all (h kV b d e c ct)
def fun_mk {x a:Str}{st:Stmt}{f:Addr}{i:Value}{j g:Option Addr}{e:Array Ye}{kV d h b ct:Value}(l:K.lookup f=some ⟨i,j,.func (W.fnOf x a (Wi st) (QX st) (JZ st) .none kV d h g b ct),e⟩)
 (c:W.codeIn K b a=true) (k:W.keepIn K (.ref f)=true):Fun K x a st f (W.fnOf x a (Wi st) (QX st) (JZ st) .none kV d h g b ct):=⟨⟨i,j,kV,d,h,g,b,ct,e,rfl,l,c⟩,k⟩
end
def Q0 {A:Around}{k:Nat}(a:Room k A):A.units+1<cLine:=Vv (Nat.add_le_add_left (by decide:1<=64) _) a.units
def Dz {n:Nat}(h:n<=1000):n<sizeLine:=Vv h (by decide)
section
variable {X:Cx}
def pv (i:Nat){x:Str}{a:Pos}(c:X.N[i]? = some x:=by rfl)(d:ko X.env.scope x:=by first|exact Or.inl rfl|exact Or.inr (Or.inl rfl)|exact Or.inr (Or.inr rfl))(e:(x == ("__debug__" : Str))=false:=by decide)
 (b:(x == ("__classdict__" : Str))=false:=by decide):PE X (.Name x a) (xD i):=HV c d e b
end
def Tu (H H':Hp):Prop:=∀b o,H b=some o->H' b=some o
def Tu.refl (H:Hp):Tu H H:=λ_ _ h=>h
def Tu.trans {H d e:Hp}(a:Tu H d)(b:Tu d e):Tu H e:=λc o h=>b c o (a c o h)
def Tu.free {H H':Hp}(e:Tu H H'){l:Addr}(h:H' l=Option.none):H l=Option.none:=by
 cases q:H l with
 |none=>rfl
 |some o =>
  rw[e l o q] at h;cases h
def Tu.seq {K:W.Frag}{H H':Hp}{a:Addr}{xs:Yx}(e:Tu H H')(h:qh K H a xs):qh K H' a xs:=by
 rcases h with (h|⟨o,h⟩)|h
 .exact .inl (.inl (e _ _ h))
 .exact .inl (.inr ⟨o,e _ _ h⟩)
 .exact .inr h
section
variable {X:Cx}
def L5:jc X (.builtin "len") (λxs H Q=>∃a b,xs=[V.ref a]/\H a=some (.dK b)/\Q (.int b.length) H):=by
 intro Y s Z H xs f Q I r h;obtain⟨a,b,rfl,c,q⟩:=h;obtain⟨u,rfl,d⟩:=Q9 r;cases d;exact vW I (.inl c) λt s' e=>⟨.int b.length,H,e,⟨t,rfl⟩,q⟩
end
end L2
def J2 {P:Prop}{α: Type}{z:α}(h:none=some z):P:=by cases  h
def J6 {P:Prop}(h:false=true):P:=by cases  h
namespace L2
theorem Be (env:Env):∀(names:List (Str×NameKind)) (b:List (Str×Addr)),(∀y∈names,y.2=.free->∃c,env.cells.lookup y.1=some c) ->
 ∃d,(forIn names b λ(x:Str×NameKind) (r:List (Str×Addr))=>(match x with
  | (name,kind)=>if(kind == NameKind.free)=true then do let a <- cellOf env name;pure (ForInStep.yield ((name,a)::r)) else pure (ForInStep.yield r):Sem (ForInStep (List (Str×Addr)))))=(pure d:Sem (List (Str×Addr))) /\
  (∀x c,d.lookup x=some c->env.cells.lookup x=some c\/b.lookup x=some c)/\(∀x c,b.lookup x=some c->∃g,d.lookup x=some g)/\∀y∈names,y.2=.free->∃c,d.lookup y.1=some c
 | [],b,_=>⟨b,rfl,λ_ _ h=>.inr h,λx c h=>⟨c,h⟩,λ_ h=>nomatch h⟩
 | (n,k)::r,b,h=>by
  rw[List.forIn_cons];cases i:(k == NameKind.free) with
  |true =>
   have m:k=.free:=by cases k<;>first|rfl|(exact Zn i (by decide))
   obtain⟨c,s⟩:=h (n,k) Zqs m;obtain⟨d,e,o,j,p⟩:=Be env r ((n,c)::b) λy hy=>h y (Zqm _ hy);refine⟨d,?_,λx g hx=>?_,λx g hx=>?_,λy hy l=>?_⟩
   .simp only[i,if_true,cellOf,s];exact e
   .rcases o x g hx with q|q
    .exact .inl q
    .rw[Ul] at q;cases f:x == n with
     |true =>
      rw[f] at q;cases q;have:x=n:=by simpa using f
      subst this;exact .inl s
     |false=>rw[f] at q;exact .inr q
   .cases f:x == n with
    |true=>exact j x c (by rw[Ul,f])
    |false=>exact j x g (by rw[Ul,f];exact hx)
   .rcases UQ.mp hy with rfl|hy
    .exact j n c (by rw[Ul,beq_self_eq_true])
    .exact p y hy l
  |false =>
   obtain⟨d,e,o,j,p⟩:=Be env r b λy hy=>h y (Zqm _ hy);refine⟨d,?_,o,j,λy hy l=>?_⟩
   .simp only[i,Ud,if_false];exact e
   .rcases UQ.mp hy with rfl|hy
    .rw[show k=.free from l] at i;exact Zn i (by decide)
    .exact p y hy l
def L6 (env:Env)(a:Scope)(h:∀y∈a.names,y.2=.free->∃c,env.cells.lookup y.1=some c):
 ∃b,closureFor a env=pure b/\(∀x c,b.lookup x=some c->env.cells.lookup x=some c)/\∀y∈a.names,y.2=.free->∃c,b.lookup y.1=some c:=by
 obtain⟨b,e,d,_,f⟩:=Be env a.names [] h;refine⟨b,?_,λx c hx=>(d x c hx).elim id (λq=>by simp at q),f⟩;simp only[closureFor]
 first
 | (rw[e];rfl)
 |exact(Zt (· >>= λg=>pure g) e)
theorem YZ {env:Env}{x:Str}:∀{names:List (Str×NameKind)},
 (names.lookup x=some .free->(names.map λ(n,k)=>if(k == NameKind.free&&env.scope.kind == .function&&env.kindOf n == some .cell) then(n,NameKind.cell) else(n,k)).lookup x=some .cell\/(names.map λ(n,k)=>if(k == NameKind.free&&env.scope.kind == .function&&env.kindOf n == some .cell) then(n,NameKind.cell) else(n,k)).lookup x=some .free) /\
 (∀a,(names.map λ(n,k)=>if(k == NameKind.free&&env.scope.kind == .function&&env.kindOf n == some .cell) then(n,NameKind.cell) else(n,k)).lookup x=some a->(a=.cell\/a=.free)->names.lookup x=some .free\/names.lookup x=some .cell)
 | []=>⟨λh=>by simp at h,λ_ h=>by simp at h⟩
 | (n,k)::r=>by
  obtain⟨c,d⟩:=@YZ env x r;simp only[Zl];cases hx:x == n with
  |true =>
   refine⟨λh=>?_,λa h b=>?_⟩
   .simp only[Ul,hx] at h;obtain rfl:=Zqi h;by_cases e:(NameKind.free == NameKind.free&&env.scope.kind == .function&&env.kindOf n == some .cell)=true
    .rw[Zd e];simp[Ul,hx]
    .rw[Ze e];simp[Ul,hx]
   .rw[Ul,hx];by_cases f:(k == NameKind.free&&env.scope.kind == .function&&env.kindOf n == some .cell)=true
    .have:k=.free:=by
      cases k<;>first|rfl|(simp at f)
     rw[this];exact .inl rfl
    .rw[Ze f] at h;simp only[Ul,hx] at h;have h:k=a:=by simpa using h
     subst h;rcases b with z|z
     .rw[z];exact .inr rfl
     .rw[z];exact .inl rfl
  |false =>
   refine⟨λh=>?_,λa h b=>?_⟩
   .simp only[Ul,hx] at h
    split<;>simp only[Ul,hx]<;>exact c h
   .rw[Ul,hx];refine d a ?_ b
    split at h<;>simp only[Ul,hx] at h<;>exact h
theorem Xv:∀(names:List (Str×NameKind)) (n:Nat) (a:List (Str×Addr)),cellsFrom n names a=cellsFrom n names []++a
 | [],_,_=>rfl
 | (name,kind)::r,n,a=>by
  unfold cellsFrom
  split
  .rw[Xv r (n+1) ((name,n)::a),Xv r (n+1) [(name,n)],Uy];rfl
  .exact Xv r n a
theorem Bf:∀(names:List (Str×NameKind)) (n:Nat) (a:List (Str×Addr)),(x,c)∈cellsFrom n names a->(x,c)∈a\/(x,NameKind.cell)∈names
 | [],_,_,h=>.inl h
 | (name,kind)::r,n,a,h=>by
  unfold cellsFrom at h
  split at h
  .rename_i b;rcases Bf r (n+1) ((name,n)::a) h with z|z
   .rcases UQ.mp z with z|z
    .cases z;have:kind=.cell:=by cases kind<;>first|rfl|(exact Zn b (by decide))
     subst this;exact .inr Zqs
    .exact .inl z
   .exact .inr (Zqm _ z)
  .rcases Bf r n a h with z|z
   .exact .inl z
   .exact .inr (Zqm _ z)
def D0:Option NameKind->Bool
 |some .cell=>true
 |_=>false
def L7 (h:D0 o=true):o=some .cell:=by
 cases o with
 |none=>exact J6 h
 |some k=>cases k<;>first|rfl|exact J6 h
structure CellsAt (scope:Scope)(env:Env)(cl:List (Str×Addr))(C:Addr)(h1:Heap):Prop where
 from_:∀x c,cl.lookup x=some c->(env.cells.lookup x=some c/\scope.names.lookup x≠some .cell)\/(C<c/\h1.IsCell c none)
 free:∀x,scope.names.lookup x=some .free->∃c,cl.lookup x=some c/\env.cells.lookup x=some c
 own:∀x,scope.names.lookup x=some .cell->∃c,cl.lookup x=some c
 inj:∀x y c,cl.lookup x=some c->cl.lookup y=some c->x=y
def L8 (b:∀x c,cl.lookup x=some c->env.cells.lookup x=some c)(i:∀y∈a.names,y.2=.free->∃c,cl.lookup y.1=some c)
 (inj:∀x y c,env.cells.lookup x=some c->env.cells.lookup y=some c->x=y) (f:∀x c,env.cells.lookup x=some c->c<=C) (h:h0.objs.size=C+1) (j:∀y∈a.names,y.2=.cell->a.names.lookup y.1=some .cell):
 CellsAt a env (cellsFrom (C+1) a.names cl) C (pushCells h0 a.names):=by
 have ok:=cellsFrom_ok a.names h0 (C+1) [] ⟨λ_ _ l=>(nomatch l),List.Pairwise.nil⟩ (Yr h.symm);rw[h] at ok;have look:∀x c,(cellsFrom (C+1) a.names cl).lookup x=some c->((x,c)∈cellsFrom (C+1) a.names [])\/(cl.lookup x=some c/\a.names.lookup x≠some .cell):=λx c e=>by
  rw[Xv,List.lookup_append] at e;cases q:(cellsFrom (C+1) a.names []).lookup x with
  |some d =>
   rw[q] at e;have e:some d=some c:=e;obtain rfl:=Zqi e;exact .inl (PySem.mem_of_lookup q)
  |none =>
   rw[q] at e;refine .inr ⟨e,λz=>?_⟩;have:=W.cellsFrom_some a.names (C+1) [] (.inl z);rw[q] at this;exact J6 this
 refine⟨λx c e=>?_,λx e=>?_,λx e=>?_,λx y c m n=>?_⟩
 .rcases look x c e with z|⟨z1,z2⟩
  .exact .inr ⟨(ok.empty x c z).2,(ok.empty x c z).1⟩
  .exact .inl ⟨b x c z1,z2⟩
 .obtain⟨c,g⟩:=i (x,.free) (PySem.mem_of_lookup e) rfl;refine⟨c,?_,b x c g⟩;rw[Xv,List.lookup_append];cases q:(cellsFrom (C+1) a.names []).lookup x with
  |some d =>
   rcases Bf _ _ _ (PySem.mem_of_lookup q) with z|z
   .cases z
   .have:=j (x,.cell) z rfl;rw[e] at this;cases this
  |none=>exact g
 .exact Js.mp (W.cellsFrom_some a.names (C+1) cl (.inl e))
 .rcases look x c m with z|⟨z1,_⟩<;>rcases look y c n with w|⟨w1,_⟩
  .exact PySem.name_of_addr ok.apart z w
  .exact Zn (f y c (b y c w1)) (Nat.not_le_of_lt (ok.empty x c z).2)
  .exact Zn (f x c (b x c z1)) (Nat.not_le_of_lt (ok.empty y c w).2)
  .exact inj x y c (b x c z1) (b y c w1)
def L9
 (c:Q (newEnv scope s.heap.objs.size globals (cellsFrom (s.heap.objs.size+1) scope.names cl) qual none .none (some env) builtinsNs) { s with heap:=pushCells (s.heap.push { cls:=.type "dict",data:=.dict #[] }) scope.names }):
 wpAny M A (newFunctionEnv scope globals cl [] qual none .none (some env)) Q E s:=by
 simp only[newFunctionEnv,Option.isSome_some,if_true];refine Za (wpAny_alloc ?_);refine Za (wpAny_layCells _ (λname kind a=>by cases b:kind == NameKind.cell<;>simp[b]) _ _ _ _ ?_);rw[show({ s with heap:=s.heap.push { cls:=.type "dict",data:=.dict #[] } }:Shared).heap.objs.size=s.heap.objs.size+1 from Heap.size_push ..];rw[List.forIn_nil];exact Za (Zb (Zb c))
def Xw (X:Cx)(C:Addr):Ya:=λx s'=>∃m,s'.heap.Ns C m/\∀h',Heap.SameBut C s'.heap h'->∀a:Env,a.locals=C->YB X (passOn "comprehension.variables-let-go" x a:Sem Value) (λ_ _=>False) X.xe { s' with heap:=h' }
def JH (X:Cx)(a:Scope)(N:Yi)(b:List (Str×Addr))(C:Addr)(s:Shared)(H:Hp)(ex:Yj):Cx where
 prog:=X.prog
 w:=X.w
 K:=X.K
 mg:=X.mg
 base:=X.base
 A:=X.A
 N:=N
 s₀:=s
 H₀:=H
 env:=compEnvC a b C X.env
 outer:=X.stack
 stack:=X.stack
 ex:=ex
 fn:=λx=>D0 (a.names.lookup x)
 calm:=X.calm
 pn:=[]
 xe:=notedBy (model X.prog X.w) X.A (compEnvC a b C X.env) (Xw X C)
def Wj (X:Cx)(C:Addr)(s:Shared)(H:Hp)(a:Yj):Prop:=∃Y Z,Inv X Y Z H s/\(∀b∈a,xc X Y H b)/\s.heap.objs.size<=C
def Wl (cap:List (Option Nat))(Z: St):St:=cap.map λo=>o.bind λj=>(Z[j]?).join
structure CompOk (X:Cx)(scope:Scope)(N:Yi)(cap:List (Option Nat)):Prop where
 kind:scope.kind=.function
 loc:∀y∈scope.names,y.2=.local->scope.names.lookup y.1=some .local
 cell:∀y∈scope.names,y.2=.cell->scope.names.lookup y.1=some .cell
 free:∀y∈scope.names,y.2=.free->X.env.kindOf y.1=some .cell\/X.env.kindOf y.1=some .free
 len:cap.length=N.length
 cap:∀(i j:Nat) (x:Str),cap[i]? = some (some j)->N[i]? = some x->X.N[j]? = some x/\scope.names.lookup x=some .free
def QB (a:Scope)(env:Env)(b N:Yi)(cap:List (Option Nat)):Bool:=
 decide (a.kind=.function)&&a.names.all (λy => !decide (y.2=.local)||decide (a.names.lookup y.1=some .local))&&a.names.all (λy => !decide (y.2=.cell)||decide (a.names.lookup y.1=some .cell)) &&
 a.names.all (λy => !decide (y.2=.free)||(decide (env.kindOf y.1=some .cell)||decide (env.kindOf y.1=some .free)))&&decide (cap.length=b.length) &&
 (b.zip cap).all (λp=>match p.2 with|none=>true|some j=>decide (N[j]? = some p.1)&&decide (a.names.lookup p.1=some .free))
def CompOk.of {X:Cx}{a:Scope}{N:Yi}{cap:List (Option Nat)}(h:QB a X.env N X.N cap=true):CompOk X a N cap:=by
 unfold QB at h;simp only[Ue,UW,decide_eq_true_eq,UX,Bool.not_eq_true',decide_eq_false_iff_not] at h;obtain⟨⟨⟨⟨⟨d,e⟩,f⟩,g⟩,l⟩,m⟩:=h;refine⟨d,λy b c=>?_,λy b c=>?_,λy b n=>?_,l,λi j x o p=>?_⟩
 .rcases e y b with z|z
  .exact Zn c z
  .exact z
 .rcases f y b with z|z
  .exact Zn c z
  .exact z
 .rcases g y b with z|z
  .exact Zn n z
  .exact z
 .have r:(x,some j)∈N.zip cap:=by
   refine Uj (i:=i) ?_;rw[VL];exact⟨p,o⟩
  have q:=m (x,some j) r;simpa using q
section
variable {X:Cx}{scope:Scope}{N:Yi}{cap:List (Option Nat)}{Y:Yb}{Z: St}{H:Hp}{s:Shared}{cl:List (Str×Addr)}{C D:Addr}{fp:Yj}
def LA (ok:CompOk X scope N cap)(I:Inv X Y Z H s)(B:∀b∈fp,xc X Y H b)(y:∀b∈fp,b<s.heap.objs.size)
 (a:CellsAt scope X.env cl C h1)
 (t:s.heap.objs.size<=C) (g:∀b o,s.heap.get? b=some o->h1.get? b=some o) (E:h1.Ns C m):
 Inv (JH X scope N cl C s H fp) [] (Wl cap Z) H { s with heap:=h1,toks:=tk }:=by
 have L:∀x,(JH X scope N cl C s H fp).env.kindOf x=some .cell\/(JH X scope N cl C s H fp).env.kindOf x=some .free->scope.names.lookup x=some .free\/scope.names.lookup x=some .cell:=λx h=>by
  rcases h with h|h
  .exact(YZ (env:=X.env) (x:=x) (names:=scope.names)).2 _ h (.inl rfl)
  .exact(YZ (env:=X.env) (x:=x) (names:=scope.names)).2 _ h (.inr rfl)
 refine⟨⟨I.ok.mod,ok.kind,I.ok.glob,I.ok.blt,t,a.inj,λx h=>?_,λx c z e=>?_,I.ok.hd,I.ok.frames,.inl rfl,λb n=>⟨?_,λx c e=>?_⟩,I.bs,Zh I.ok.bsz I.sz,
  λb o e n=>?_,λb n z=>?_,I.stack,I.stkFree⟩,rfl,I.bare,Un.kept g,⟨m,E,λi x v F d U=>?_⟩,λx c e=>?_,I.hok.fresh t,λx c e=>?_,λp hp=>Zn hp (by show ¬p∈([]:Yb)++[];simp),I.hok.kept g,?_⟩
 .rcases L x h with q|q
  .obtain⟨c,e,_⟩:=a.free x q;exact⟨c,e⟩
  .exact a.own x q
 .rcases a.from_ x c e with ⟨_,q⟩|⟨q,_⟩
  .exact Zn (L7 z) q
  .exact Zh t (Zz q)
 .exact Zi (Zg (y b n) t)
 .rcases a.from_ x c e with ⟨q,_⟩|⟨q,_⟩
  .exact(B b n).2.2.2.2.1 x c q
  .exact UV (UN (Zg (y b n) t) q)
 .rcases(B b n).2.2.2.1 with z|z
  .exact I.ok.noex b o e z
  .exact Zn (Zg (Zk e) (Zh I.ok.bsz z)) (Zy _)
 .rcases UQ.mp (I.stkSub b z) with q|q
  .exact(B b n).2.1 q
  .exact(B b n).2.2.1 q
 .have F:N[i]? = some x:=F;have M:∃j,cap[i]? = some (some j) /\ Z[j]? = some (some v):=by
   have d:(cap.map λo=>o.bind λj=>(Z[j]?).join)[i]? = some (some v):=d;rw[Zv] at d;cases q:cap[i]? with
   |none=>rw[q] at d;exact J2 d
   |some o =>
    rw[q] at d;cases o with
    |none=>cases d
    |some j =>
     have d:some ((Z[j]?).join)=some (some v):=d;cases G:Z[j]? with
     |none=>rw[G] at d;cases d
     |some w=>rw[G] at d;exact⟨j,rfl,by cases d;exact G⟩
  obtain⟨j,O,P⟩:=M;obtain⟨Q,J⟩:=ok.cap i j x O F;obtain⟨m0,_,R⟩:=I.loc;have K:=ok.free (x,.free) (PySem.mem_of_lookup J) rfl;obtain⟨u,r,l⟩:=R j x v Q P (K.elim (λz=>.inr (.inl z)) λz=>.inr (.inr z));refine⟨u,r,.inr ⟨(YZ (env:=X.env) (x:=x) (names:=scope.names)).1 J,?_⟩⟩;rcases l with ⟨k,_⟩|⟨_,c,S,z⟩
  .have k:X.env.kindOf x=some .local:=k;rcases K with f|f<;>· rw[k] at f;cases f
  .obtain⟨c',T,A⟩:=a.free x J;rw[S] at A;obtain rfl:=Zqi A;exact⟨c,T,z.keeps g⟩
 .rcases a.from_ x c e with ⟨q,_⟩|⟨_,q⟩
  .obtain⟨v,z⟩:=I.cell x c q;exact⟨v,z.keeps g⟩
  .exact⟨none,q⟩
 .rcases a.from_ x c e with ⟨q,_⟩|⟨q,_⟩
  .exact I.freeC x c q
  .exact I.hok.fresh (Zh t (Zz q))
 .show(cap.map _).length=N.length;rw[Zql];exact ok.len
def LB (I:Inv X Y Z H s)(d:∀b∈fp,xc X Y H b)(h:s.heap.objs.size<=C)(i:s.heap.objs.size<=D)(f:D≠C)
 (J:Inv (JH X scope N cl C s H fp) [] Z' H' s') (j:s'.heap.get? D=some { cls:=.type "list",data:=.seq its.toArray k }) (l:H' D=none) (m:T4 ys its) (hz:ys.length<=sizeLine) (hs:Heap.SameBut C s'.heap h')
 (q:Q (.ref D) (TQ H' D (.lst ys))):EP X Y Z Q (.ref D) { s' with heap:=h' }:=by
 have g:∀b o,s.heap.get? b=some o->b≠C:=λb o e=>Zi (Zg (Zk e) h);have p:∀b o,s.heap.get? b=some o->b≠D:=λb o e=>Zi (Zg (Zk e) i);have tD:∀b u,H' b=some u->b≠D:=λb u e z=>by rw[z,l] at e;exact J2 e
 have tC:∀b u,H' b=some u->b≠C:=λb u e z=>by
  have:=J.free;rw[z] at e;rw[show H' C=none from this] at e;exact J2 e
 have B:Un (frs X.stack) fp H H' s.heap s'.heap:=J.base;refine⟨.ref D,TQ H' D (.lst ys),I.call' (s':={ s' with heap:=h' }) (ch:=fp) J.os ?_ ?_ J.bare (λb a=>⟨(d b a).2.2.2.1,(d b a).2.1,(d b a).2.2.2.2.1,(d b a).2.2.2.2.2⟩),rfl,q⟩
 .refine⟨λb o e n a hx=>(hs.2 b (g b o e)).trans (B.keep b o e n a hx),λb o e n a hx=>?_,λb o e n hx=>?_,λb o e hx=>?_,λb xs e=>?_,λb o u e=>?_,λb ps e=>?_⟩
  .obtain⟨r,z⟩:=B.slot b o e n a hx;exact⟨r,(hs.2 b (g b o e)).trans z⟩
  .rw[JL (p b o e)];exact B.free b o e n hx
  .obtain⟨t,z⟩:=B.there b o e hx;exact⟨t,(hs.2 b (g b o e)).trans z⟩
  .have z:=B.tups b xs e;rw[JL (tD b _ z)];exact z
  .have z:=B.frzs b o u e;rw[JL (tD b _ z)];exact z
  .obtain⟨more,z⟩:=B.tbls b ps e;exact⟨more,by rw[JL (tD b _ z)];exact z⟩
 .intro b u e;by_cases a:b=D
  .subst a;rw[JQ] at e;obtain rfl:=Zqi e;exact⟨hz,its,k,m,(hs.2 b f).trans j⟩
  .rw[JL a] at e;refine(J.hok b u e).stay (λc v hc z=>(hs.2 c ?_).trans z) (λc z=>by rw[JL (tD c _ z)];exact z) (λc xs z=>by rw[JL (tD c _ z)];exact z);rcases hc with hc|hc
   .rw[hc];exact tC b u e
   .exact tC c _ hc
end
def vY (cap:List (Option Nat))(g:TG)(te:TE)(Z: St)(Q:VK):It->Hp->Prop:=λJ e=>∃W:Nat->Nat->Yx->St->Hp->Prop,(∃m,W 0 m [] (Wl cap Z) e)/\∀i m ys a H',W i m ys a H'->ys.length<sizeLine /\
 (
  (J.stop i H'/\∀D,H' D=none->Q (.ref D) (TQ H' D (.lst ys))) \/
  (J.go i H'/\∀x b,J.yld i H' x b->g x a b λc f=>te c f λy h=>∃d,d<m/\W (i+1) d (ys++[y]) c h))
def WM (cap:List (Option Nat))(a:TI)(g:TG)(te:TE):TE:=λZ H Q=>a Z H (vY cap g te Z Q)
def LC (cap:List (Option Nat))(g:TG)(tt:TT)(te:TE)(Z: St)(Q:VK):It->Hp->Prop:=λJ h=>∃W:Nat->Nat->Yx->St->Hp->Prop,(∃m,W 0 m [] (Wl cap Z) h)/\∀i m ys d H',W i m ys d H'->ys.length<sizeLine /\
 (
  (J.stop i H'/\∀D,H' D=none->Q (.ref D) (TQ H' D (.lst ys))) \/
  (J.go i H'/\∀x e,J.yld i H' x e->g x d e λc j=>tt c j λb f=>if b=true then te c f (λy l=>∃a,a<m/\W (i+1) a (ys++[y]) c l) else ∃a,a<m/\W (i+1) a ys c f))
def Xx (cap:List (Option Nat))(a:TI)(g:TG)(tt:TT)(te:TE):TE:=λZ H Q=>a Z H (LC cap g tt te Z Q)
section
variable {X:Cx}{tg iter elt c:Expr}{scope:Scope}{pos:Pos}{wi:TI}{g:TG}{te:TE}{tt:TT}
def Xy (X:Cx)(Y:Yb)(Z: St)(Q:VK)(use:Option (Value->Sem Unit))(R:Ya):Prop:=
 ∀(C D:Addr) (m:Yc) (a:Shared) (r:Flow),a.heap.Ns C m->¬C=X.env.locals->C∉X.fs->X.s₀.heap.objs.size<=C->(∀x c,X.env.cells.lookup x=some c->c≠C)->(∀p∈X.pn++Y,p.1≠C) ->
  (∀h',Heap.SameBut C a.heap h'->EP X Y Z (λv H'=>H' C=none/\Q v H') (.ref D) { a with heap:=h' })->compPost (model X.prog X.w) X.A X.xe use R (.ref D) C (.ok r) a
def D1:Xy X Y Z Q none (EP X Y Z Q):=λC D m f r b _ _ _ _ _ k=>⟨m,b,λh' a=>by
 obtain⟨v,H',d,e,_,q⟩:=k h' a;exact⟨v,H',d,e,q⟩⟩
def ui (X:Cx)(tg elt:Expr)(it a:Value)(env:Env)(R:Result->Yv)(I:Nat->Yv)(test:(Bool->Yv)->Yv)(n:Nat)(s:Shared):Prop:=
 let E:Ya:=notedBy (model X.prog X.w) X.A env λe s'=>R (.error e) s'
 YB X (pyNext it) (λr b=>match r with
  |none=>R (.ok .next) b
  |some v=>YB X (letOwnedTupleGo tg it v) (λ_ f=>YB X (assign tg env v) (λ_ h=>test (λok d=>if ok=true then YB X (eval elt env) (λx i=>YB X (call (.builtin "list.append") [a,x]) (λ_ j=>∃m,m<n/\I m j) E i) E d else ∃m,m<n/\I m d) h) E f) E b) E s
def D2 {ifs:Yk}(N:Yi){test:Env->(Result->Yv)->(Bool->Yv)->Yv}
 (lp:∀{it acc:Value} {env:Env} {R:Result->Yv} {s:Shared} (I:Nat->Yv),(∀n s,I n s->ui X tg elt it acc env R I (test env R) n s)->∀n,I n s->codeAny (model X.prog X.w) X.A (.compLoop (.ListComp elt [⟨tg,iter,ifs,0⟩] scope pos) 0 it acc env) R s)
 (ht:∀w C s H U {Y:Yb} {s7:Shared} {Z7:St} {H7:Hp} {R:Result->Yv} {q:Bool->Hp->Prop} {Q:Bool->Yv},Wj X C s H U->(∀e s',Xw X C e s'->R (.error e) s')->Inv (JH X scope N w C s H U) Y Z7 H7 s7->tt Z7 H7 q->(∀b s8 H8,Inv (JH X scope N w C s H U) Y Z7 H8 s8->q b H8->Q b s8)->test (compEnvC scope w C X.env) R Q s7)
 (cap:List (Option Nat)) (hc:X.calm=true) (okB:QB scope X.env N X.N cap=true) (hi:PI X tg iter wi) (hg:∀w C s H U,PG (JH X scope N w C s H U) tg g) (he:∀w C s H U,Wj X C s H U->PE (JH X scope N w C s H U) elt te)
 (hs:∀x,foldedSetIterable iter X.env x=pure x) {use:Option (Value->Sem Unit)} {R:Ya} {fpos:Pos} {Y:Yb} {s:Shared} {Z: St} {H:Hp} {Q:VK} (I:Inv X Y Z H s) (h:Xx cap wi g tt te Z H Q) (fin:Xy X Y Z Q use R):
 YB X (comprehension (.ListComp elt [⟨tg,iter,ifs,0⟩] scope pos) scope X.env fpos (newList []) false (eval iter X.env) use) R X.xe s:=by
 have ok:=CompOk.of okB;obtain⟨cl0,hcl,hcl1,hcl2⟩:=L6 X.env scope λy hy hf=>I.ok.has y.1 (ok.free y hy hf);refine wpAny_comprehension_free (use:=use) rfl hs hcl ok.kind ok.loc (TZ (hi Y s Z H _ I h) λxv s1 h1=>TZ h1 λitv a h2=>?_);obtain⟨it,t,tn,J,E,e,B,T,st2,f2,W,⟨m0,w0⟩,turn⟩:=h2;subst e;have K:∀b∈t,b<a.heap.objs.size:=λb l=>let ⟨_,e,_⟩:=T.obj _ _ st2 b l;Zk e
 refine wpAny_newObj_type (L9 ?_);dsimp only;generalize hP:a.heap.push { cls:=.type "list",dict:=none,data:=.seq ([]:Yd).toArray }=P2;have hC:P2.objs.size=a.heap.objs.size+1:=by rw[<- hP,Heap.size_push]
 have L:a.heap.objs.size≠P2.objs.size:=by rw[hC];exact Zi (Nat.lt_succ_self _)
 have j:a.heap.objs.size<=P2.objs.size:=by rw[hC];exact Nat.le_succ _
 have below:∀b,b<a.heap.objs.size->b≠P2.objs.size/\b≠a.heap.objs.size:=λb l=>⟨by rw[hC];exact Zi (UB l),Zi l⟩;have M:CellsAt scope X.env (cellsFrom (P2.objs.size+1) scope.names cl0) P2.objs.size (pushCells (P2.push { cls:=.type "dict",data:=.dict #[] }) scope.names):=
  L8 hcl1 hcl2 B.ok.inj (λx c e=>Zh (Zz (let ⟨_,_,ho,_⟩:=B.cell x c e;Zk ho)) j) (Heap.size_push ..) ok.cell
 have hns1:(pushCells (P2.push { cls:=.type "dict",data:=.dict #[] }) scope.names).Ns P2.objs.size (λ_=>none):=(Heap.Ns.new P2 (.type "dict")).keeps (pushCells_keeps _ _);generalize cellsFrom (P2.objs.size+1) scope.names cl0=w at M ⊢;have O:∀b o,a.heap.get? b=some o->(pushCells (P2.push { cls:=.type "dict",data:=.dict #[] }) scope.names).get? b=some o:=λb o e=>pushCells_keeps _ _ b o (Zq _ (hP ▸ Zq _ e));have hacc:(pushCells (P2.push { cls:=.type "dict",data:=.dict #[] }) scope.names).get? a.heap.objs.size=some { cls:=.type "list",data:=.seq ([]:Yd).toArray 0 }:=pushCells_keeps _ _ _ _ (Zq _ (hP ▸ Zr _ rfl));generalize pushCells (P2.push { cls:=.type "dict",data:=.dict #[] }) scope.names=g1 at M hns1 O hacc ⊢;have F:∀{H':Hp} {pl:Yb},(∀b∈t,H' b=none)->(∀p∈pl,p.1∉t)->∀b∈t,xc (JH X scope N w P2.objs.size a E t) pl H' b:=λ{H' pl} hn hp b l=>by
  refine⟨hn b l,(below b (K b l)).1,λz=>?_,.inl l,λx c e=>?_,λp hq z=>?_⟩
  .rcases UQ.mp (B.stkSub b z) with q|q
   .exact(f2 b l).2.1 q
   .exact(f2 b l).2.2.1 q
  .rcases M.from_ x c e with ⟨q,_⟩|⟨q,_⟩
   .exact(f2 b l).2.2.2.2.1 x c q
   .exact UV (UN (Zg (K b l) j) q)
  .have hq:p∈([]:Yb)++pl:=hq;rw[List.nil_append] at hq;exact hp p hq (by rw[z];exact l)
 have nD:a.heap.objs.size∉t:=λz=>Zn (K _ z) (Zy _);have loop:∀s3:Shared,s3={ a with heap:=g1 } ->
  codeAny (model X.prog X.w) X.A (.compLoop (.ListComp elt [⟨tg,iter,ifs,0⟩] scope pos) 0 (.ref it) (.ref a.heap.objs.size) (compEnvC scope w P2.objs.size X.env))
   (compPost (model X.prog X.w) X.A X.xe use R (.ref a.heap.objs.size) P2.objs.size) s3:=by
  rintro s3 rfl;have I0:=LA (tk:=a.toks) ok B f2 K M j O hns1;refine lp (λn s'=>∃i ys A k Z' H',Inv (JH X scope N w P2.objs.size a E t) [] Z' H' s'/\tn i s'.heap/\(∀b∈t,H' b=none)/\s'.heap.get? a.heap.objs.size=some { cls:=.type "list",data:=.seq (List.toArray A) k } /\
   H' a.heap.objs.size=none/\T4 ys A/\W i n ys Z' H') ?_ m0
   ⟨0,[],[],0,Wl cap Z,E,I0,T.keep _ _ _ st2 (λb _ o e=>O b o e),λb l=>(f2 b l).1,hacc,B.hok.fresh (Zf _),.nil,w0⟩
  have cat:Wj X P2.objs.size a E t:=⟨_,_,B,f2,j⟩;have ce:∀e s',Xw X P2.objs.size e s'->compPost (model X.prog X.w) X.A X.xe use R (.ref a.heap.objs.size) P2.objs.size (.error e) s':=λe s' h=>by cases use<;>exact h
  have xe:∀e s',(JH X scope N w P2.objs.size a E t).xe e s'->notedBy (model X.prog X.w) X.A (compEnvC scope w P2.objs.size X.env) (λe s'=>compPost (model X.prog X.w) X.A X.xe use R (.ref a.heap.objs.size) P2.objs.size (.error e) s') e s':=λe s' h=>Zc h (λ_ a q=>ce e a q) λe a q=>ce e a q;rintro n s4 ⟨i,ys,A,k,Z4,H4,I4,st4,fr4,hd4,hn4,P,w4⟩;obtain⟨hz,tn4⟩:=turn i n ys Z4 H4 w4;have J4:Inv (JH X scope N w P2.objs.size a E t) [(a.heap.objs.size,{ cls:=.type "list",data:=.seq A.toArray k })] Z4 H4 s4:=I4.pins_of λp hp=>by
   have e:=Vt.mp hp;subst e;refine⟨hd4,hn4,L,?_,λv z=>by cases z⟩;exact λz=>Zn (Zg (by
    rcases UQ.mp (B.stkSub _ z) with q|q
    .exact Vv (Yr q) B.lt
    .obtain⟨_,o,ho,_⟩:=B.ok.funs.mem q;exact Zg (Zk ho) B.sz) (Zf a.heap.objs.size)) (Zy _)
  have np:∀p ∈ [(a.heap.objs.size,({ cls:=.type "list",data:=.seq A.toArray k }:Obj))],p.1∉t:=λp hp=>by
   have e:=Vt.mp hp;subst e;exact nD
  rcases tn4 with ⟨stop,qn⟩|⟨go,step⟩
  .refine Zc (T.done (JH X scope N w P2.objs.size a E t) rfl rfl rfl hc i _ s4 Z4 H4 (λ_ _=>False) J4 (F fr4 np) st4 stop) (λr s5 h5=>?_) λ_ _ f=>f.elim;obtain⟨rfl,I5⟩:=h5;obtain⟨m,hm,_⟩:=id I5.loc;have p5:=I5.pin (a.heap.objs.size,_) (Ug _ Zqs);refine fin _ _ m _ _ hm (UV (Zg B.lt j)) (B.nofs j) (Zh B.sz j) (λx c e z=>?_) (λp hp z=>?_) λh' hs'=>LB B f2 j (Zf _) L (I5.pins_of λp hp=>nomatch hp) p5.1 p5.2.1 P (Zz hz) hs' ⟨by rw[JL (Ne.symm L)];exact I5.free,qn _ p5.2.1⟩
   .obtain⟨v,o,ho,hd⟩:=B.cell x c e;have:=Zk ho;rw[z] at this;exact Zn (Zg this j) (Zy _)
   .have:=Zk (B.pin p hp).1;rw[z] at this;exact Zn (Zg this j) (Zy _)
  .refine Zc (T.item (JH X scope N w P2.objs.size a E t) rfl rfl rfl hc i _ s4 Z4 H4 (λ_ _=>False) J4 (F fr4 np) st4 go) (λr s5 h5=>?_) λ_ _ f=>f.elim;obtain⟨u,rfl,h5⟩:=h5;refine Zc h5 (λ_ s6 h6=>?_) λ_ _ f=>f.elim;obtain⟨x,H6,I6,r6,y6,S,fr6⟩:=h6;have I6':=I6.pinned (F fr6 np) (T.obj _ _ S);refine Zc (hg w P2.objs.size a E t _ s6 Z4 H6 x u _ I6' r6 (step x H6 y6)) (λ_ s7 h7=>?_) xe;obtain⟨Z7,H7,I7,q7⟩:=h7;refine ht w P2.objs.size a E t cat ce I7 q7 λbv s8 H8 I8 q8=>?_;have G:∀(H9:Hp) (s9:Shared) (Z9:St),Inv (JH X scope N w P2.objs.size a E t) ([(a.heap.objs.size,{ cls:=.type "list",data:=.seq A.toArray k })]++Xs t s6.heap) Z9 H9 s9->(∀b∈t,∀o,s6.heap.get? b=some o->s9.heap.get? b=some o)/\∀b∈t,H9 b=none:=λH9 s9 Z9 I9=>by
    refine⟨λb l o e=>(I9.pin (b,o) (Ug _ (Ug _ (YW l e)))).1,λb l=>?_⟩;obtain⟨o,e,d⟩:=T.obj _ _ S b l;exact(I9.pin (b,o) (Ug _ (Ug _ (YW l e)))).2.1
   have p8:=I8.pin (a.heap.objs.size,_) (Ug _ (Uu _ Zqs));cases bv with
   |false =>
    rw[Ze ()] at q8 ⊢;obtain⟨m',hm',w8⟩:=q8;obtain⟨z1,z2⟩:=G _ _ _ I8;exact⟨m',hm',i+1,ys,A,k,Z7,H8,I8.pins_of (λp hp=>nomatch hp),T.keep _ _ _ S z1,z2,p8.1,p8.2.1,P,w8⟩
   |true =>
    rw[Zd rfl] at q8 ⊢;refine Zc (he w P2.objs.size a E t cat _ s8 Z7 H8 _ I8 q8) (λyv s9 h9=>?_) xe;obtain⟨y,H9,I9,ry,m',hm',w9⟩:=h9;have p9:=I9.pin (a.heap.objs.size,_) (Ug _ (Uu _ Zqs));have hl:=P.length;refine append_at (hsz:=by show A.toArray.size<=sizeLine;rw[Zm,<- hl];exact Zz hz) p9.1 λh10 hs10 hd10=>?_;have I10:Inv (JH X scope N w P2.objs.size a E t) [] Z7 H9 { s9 with heap:=h10 }:=(I9.pins_of (Y':=[]) λp hp=>nomatch hp).turned (t':=s9.toks) (it:=a.heap.objs.size) (λb o l e=>(hs10.2 b l).trans e) p9.2.1 L (.inr (Zf _))
     (λx c e z=>by
      obtain⟨v,o,ho,hd⟩:=I9.cell x c e;rw[z,p9.1] at ho;cases ho;cases hd) (λp hp=>Zn hp (by show ¬p∈([]:Yb)++[];simp))
    obtain⟨z1,z2⟩:=G _ _ _ I9;refine⟨m',hm',i+1,ys++[y],A++[yv],k+1,Z7,H9,I10,T.keep _ _ _ S (λb l o e=>?_),z2,?_,p9.2.1,T4.append P (.cons ry .nil),w9⟩
    .have hb':b≠a.heap.objs.size:=λz=>nD (by rw[<- z];exact l);exact(hs10.2 b hb').trans (z1 b l o e)
    .refine hd10.trans ?_;simp
 exact codeAny_compStart_list (loop _ rfl) (T.self _ 0 _ _ _ (T.keep _ _ _ st2 (λb _ o e=>O b o e)) (loop _ rfl))
def D3 (N:Yi)(cap:List (Option Nat))(j:X.calm=true)(e:QB scope X.env N X.N cap=true)(hi:PI X tg iter wi)(l:∀f C s H d,PG (JH X scope N f C s H d) tg g)(m:∀f C s H d,Wj X C s H d->PE (JH X scope N f C s H d) elt te)
 (hs:∀x,foldedSetIterable iter X.env x=pure x) {use:Option (Value->Sem Unit)} {R:Ya} {a:Pos} {Y:Yb} {s:Shared} {Z: St} {H:Hp} {Q:VK} (I:Inv X Y Z H s) (h:WM cap wi g te Z H Q) (i:Xy X Y Z Q use R):
 YB X (comprehension (.ListComp elt [⟨tg,iter,[],0⟩] scope pos) scope X.env a (newList []) false (eval iter X.env) use) R X.xe s:=
 D2 (tt:=λ_ H q=>q true H) (test:=λ_ _ Q s=>Q true s) N (λI b n h=>W.kcp_loop I b n h) (λ_ _ _ _ _ _ _ _ _ _ _ _ _ _ I q k=>k true _ _ I q) cap j e hi l m hs I h i
def D4 (N:Yi)(cap:List (Option Nat))(e:X.calm=true)(b:QB scope X.env N X.N cap=true)(hi:PI X tg iter wi)(f:∀d C s H a,PG (JH X scope N d C s H a) tg g)(i:∀d C s H a,Wj X C s H a->PE (JH X scope N d C s H a) elt te)
 (hs:∀x,foldedSetIterable iter X.env x=pure x:=by intro _;rfl):PE X (.ListComp elt [⟨tg,iter,[],0⟩] scope pos) (WM cap wi g te):=by
 intro Y s Z H Q I h;rw[eval_ListComp];exact D3 N cap e b hi f i hs I h D1
def D5 (N:Yi)(cap:List (Option Nat))(e:X.calm=true)(d:QB scope X.env N X.N cap=true)(hi:PI X tg iter wi)(f:∀a C s H b,PG (JH X scope N a C s H b) tg g)(h:∀a C s H b,PE (JH X scope N a C s H b) elt te)
 (hs:∀x,foldedSetIterable iter X.env x=pure x:=by intro _;rfl):PE X (.ListComp elt [⟨tg,iter,[],0⟩] scope pos) (WM cap wi g te):=D4 N cap e d hi f (λa C s H b _=>h a C s H b) hs
end
mutual
def Is (H:Hp):PyData->V->Prop
 | .none,v=>v=.non
 | .bool b,v=>v=.bl b
 | .int i,v=>v=.int i
 | .str x,v=>v=.str x
 | .list ds,v=>∃a xs,v=.ref a/\H a=some (.lst xs)/\TU H ds xs
 | .tuple ds,v=>∃a xs,v=.ref a/\H a=some (.tup xs)/\TU H ds xs
 | .dict _,_=>False
def TU (H:Hp):List PyData->Yx->Prop
 | [],xs=>xs=[]
 |d::ds,xs=>∃x r,xs=x::r/\Is H d x/\TU H ds r
end
mutual
theorem Is.same (e:Tu H H'):∀(d:PyData) (v:V),Is H d v->Is H' d v
 | .none,_,h=>by unfold Is at h ⊢;exact h
 | .bool _,_,h=>by unfold Is at h ⊢;exact h
 | .int _,_,h=>by unfold Is at h ⊢;exact h
 | .str _,_,h=>by unfold Is at h ⊢;exact h
 | .list ds,v,h=>by
  unfold Is at h ⊢;obtain⟨a,xs,b,c,f⟩:=h;exact⟨a,xs,b,e _ _ c,TU.same e ds xs f⟩
 | .tuple ds,v,h=>by
  unfold Is at h ⊢;obtain⟨a,xs,b,c,f⟩:=h;exact⟨a,xs,b,e _ _ c,TU.same e ds xs f⟩
 | .dict _,_,h=>by unfold Is at h;exact h.elim
theorem TU.same (e:Tu H H'):∀(ds:List PyData) (xs:Yx),TU H ds xs->TU H' ds xs
 | [],_,h=>by unfold TU at h ⊢;exact h
 |d::ds,xs,h=>by
  unfold TU at h ⊢;obtain⟨x,r,a,b,c⟩:=h;exact⟨x,r,a,Is.same e d x b,TU.same e ds r c⟩
end
theorem TU.length:∀{ds:List PyData} {xs:Yx},TU H ds xs->xs.length=ds.length
 | [],_,h=>by unfold TU at h;subst h;rfl
 |d::ds,xs,h=>by
  unfold TU at h;obtain⟨x,r,rfl,_,a⟩:=h;rw[Zu,Zu,TU.length a]
theorem TU.get:∀{ds:List PyData} {xs:Yx} {i:Nat} {d:PyData},TU H ds xs->ds[i]? = some d->∃x,xs[i]? = some x/\Is H d x
 | [],_,_,_,_,e=>by simp at e
 |d::ds,xs,0,d',h,e=>by
  unfold TU at h;obtain⟨x,r,rfl,a,_⟩:=h;simp at e;subst e;exact⟨x,rfl,a⟩
 |d::ds,xs,i+1,d',h,e=>by
  unfold TU at h;obtain⟨x,r,rfl,_,b⟩:=h;obtain⟨y,c,f⟩:=TU.get (i:=i) b (by simpa using e);exact⟨y,by simpa using c,f⟩
theorem D6:∀(ns:Yf),TU H (ns.map PyData.int) (ns.map V.int)
 | []=>by show TU H [] [];unfold TU;rfl
 |n::ns=>by
  show TU H (PyData.int n::ns.map PyData.int) (V.int n::ns.map V.int);unfold TU;exact⟨_,_,rfl,by unfold Is;rfl,D6 ns⟩
theorem D7:∀{ns:Yf} {xs:Yx},TU H (ns.map PyData.int) xs->xs=ns.map V.int
 | [],_,h=>by
  have h:TU H [] _:=h;unfold TU at h;exact h
 |n::ns,xs,h=>by
  have h:TU H (PyData.int n::ns.map PyData.int) xs:=h;unfold TU at h;obtain⟨x,r,rfl,a,b⟩:=h;unfold Is at a;rw[a,D7 b];rfl
def qF:Is H (.list ds) v↔∃a xs,v=.ref a/\H a=some (.lst xs)/\TU H ds xs:=by unfold Is;exact Iff.rfl
def jh:Is H (.tuple ds) v↔∃a xs,v=.ref a/\H a=some (.tup xs)/\TU H ds xs:=by unfold Is;exact Iff.rfl
mutual
def Qg:PyData->Bool
 | .int _=>true
 | .list xs=>Kj xs
 | .tuple xs=>Kj xs
 | .none=>false
 | .bool _=>false
 | .str _=>false
 | .dict _=>false
def Kj:List PyData->Bool
 | []=>true
 |x::xs=>Qg x&&Kj xs
end
mutual
theorem Bg:∀d:PyData,Qg d=true->d.canLay0=true
 | .int _,_=>by unfold PyData.canLay0;rfl
 | .list xs,h=>by unfold Qg at h;unfold PyData.canLay0;exact Bh xs h
 | .tuple xs,h=>by unfold Qg at h;unfold PyData.canLay0;exact Bh xs h
 | .none,h=>by unfold Qg at h;exact J6 h
 | .bool _,h=>by unfold Qg at h;exact J6 h
 | .str _,h=>by unfold Qg at h;exact J6 h
 | .dict _,h=>by unfold Qg at h;exact J6 h
theorem Bh:∀xs:List PyData,Kj xs=true->PyData.canLayAll0 xs=true
 | [],_=>by unfold PyData.canLayAll0;rfl
 |x::xs,h=>by
  unfold Kj at h;obtain⟨a,b⟩:=Jq.mp h;unfold PyData.canLayAll0;rw[Bg x a,Bh xs b];rfl
end
mutual
theorem Bi:∀d e:PyData,Qg d=true->Qg e=true->(PyData.eqv d e=true↔d=e)
 | .int i,.int j,_,_=>by unfold PyData.eqv;simp
 | .int i,.list ys,_,_=>by unfold PyData.eqv;simp
 | .int i,.tuple ys,_,_=>by unfold PyData.eqv;simp
 | .list xs,.int j,_,_=>by unfold PyData.eqv;simp
 | .list xs,.list ys,h1,h2=>by
  unfold Qg at h1 h2;have q:=Bj xs ys h1 h2;unfold PyData.eqv;rw[q];simp
 | .list xs,.tuple ys,_,_=>by unfold PyData.eqv;simp
 | .tuple xs,.int j,_,_=>by unfold PyData.eqv;simp
 | .tuple xs,.list ys,_,_=>by unfold PyData.eqv;simp
 | .tuple xs,.tuple ys,h1,h2=>by
  unfold Qg at h1 h2;have q:=Bj xs ys h1 h2;unfold PyData.eqv;rw[q];simp
 | .none,_,h,_=>by unfold Qg at h;exact J6 h
 | .bool _,_,h,_=>by unfold Qg at h;exact J6 h
 | .str _,_,h,_=>by unfold Qg at h;exact J6 h
 | .dict _,_,h,_=>by unfold Qg at h;exact J6 h
 |_,.none,_,h=>by unfold Qg at h;exact J6 h
 |_,.bool _,_,h=>by unfold Qg at h;exact J6 h
 |_,.str _,_,h=>by unfold Qg at h;exact J6 h
 |_,.dict _,_,h=>by unfold Qg at h;exact J6 h
theorem Bj:∀xs ys:List PyData,Kj xs=true->Kj ys=true->(PyData.eqvAll xs ys=true↔xs=ys)
 | [],[],_,_=>by unfold PyData.eqvAll;simp
 | [],y::ys,_,_=>by unfold PyData.eqvAll;simp
 |x::xs,[],_,_=>by unfold PyData.eqvAll;simp
 |x::xs,y::ys,h1,h2=>by
  unfold Kj at h1 h2;obtain⟨a,b⟩:=Jq.mp h1;obtain⟨c,d⟩:=Jq.mp h2;unfold PyData.eqvAll;rw[Bool.and_eq_true_iff,Bi x y a c,Bj xs ys b d];simp
end
def LD (a:Qg d=true)(b:Qg e=true)(h:d≠e):PyData.eqv d e=false:=by
 cases q:PyData.eqv d e with
 |false=>rfl
 |true=>exact Zn ((Bi d e a b).mp q) h
def LF (a:Qg d=true):PyData.eqv d d=true:=(Bi d d a a).mpr rfl
section
variable {X:Cx}
def j8:Yf->Int
 | []=>0
 |x::r=>r.foldl max x
def qG:Yf->Int
 | []=>0
 |x::r=>r.foldl min x
theorem D8:∀(r:Yf) (x:Int),x<=r.foldl max x/\(∀y∈r,y<=r.foldl max x)/\(r.foldl max x=x\/r.foldl max x∈r)
 | [],x=>⟨U6 _,(λ_ h=>nomatch h),.inl rfl⟩
 |y::r,x=>by
  obtain⟨c,b,h3⟩:=D8 r (max x y);show x<=r.foldl max (max x y)/\(∀z∈y::r,z<=r.foldl max (max x y))/\(r.foldl max (max x y)=x\/r.foldl max (max x y)∈y::r);refine⟨(),λz hz=>?_,?_⟩
  .rcases UQ.mp hz with rfl|hz
   .omega
   .exact b z hz
  .rcases h3 with h3|h3
   .by_cases a:x<=y
    .right;rw[h3,Int.max_eq_right a];exact Zqs
    .left;rw[h3,Int.max_eq_left ()]
   .right;exact Zqm _ h3
def V6 (h:l ≠ []):j8 l∈l/\∀y∈l,y<=j8 l:=by
 cases l with
 |nil=>exact Zn rfl h
 |cons x r =>
  obtain⟨a,b,h3⟩:=D8 r x;refine⟨?_,λy hy=>?_⟩
  .rcases h3 with h3|h3
   .show r.foldl max x∈x::r;rw[h3];exact Zqs
   .exact Zqm _ h3
  .rcases UQ.mp hy with rfl|hy
   .exact a
   .exact b y hy
def Bk (c:M∈l)(d:∀y∈l,y<=M):M=j8 l:=by
 obtain⟨f,g⟩:=V6 (l:=l) (by intro e;rw[e] at c;cases c);have a:=g M c;have b:=d _ f;lia
theorem D9:∀(r:Yf) (x:Int),r.foldl min x<=x/\(∀y∈r,r.foldl min x<=y)/\(r.foldl min x=x\/r.foldl min x∈r)
 | [],x=>⟨U6 _,(λ_ h=>nomatch h),.inl rfl⟩
 |y::r,x=>by
  obtain⟨c,b,h3⟩:=D9 r (min x y);show r.foldl min (min x y)<=x/\(∀z∈y::r,r.foldl min (min x y)<=z)/\(r.foldl min (min x y)=x\/r.foldl min (min x y)∈y::r);refine⟨(),λz hz=>?_,?_⟩
  .rcases UQ.mp hz with rfl|hz
   .omega
   .exact b z hz
  .rcases h3 with h3|h3
   .by_cases a:x<=y
    .left;rw[h3,Int.min_eq_left a]
    .right;rw[h3,Int.min_eq_right ()];exact Zqs
   .right;exact Zqm _ h3
def Z1 (h:l ≠ []):qG l∈l/\∀y∈l,qG l<=y:=by
 cases l with
 |nil=>exact Zn rfl h
 |cons x r =>
  obtain⟨a,b,h3⟩:=D9 r x;refine⟨?_,λy hy=>?_⟩
  .rcases h3 with h3|h3
   .show r.foldl min x∈x::r;rw[h3];exact Zqs
   .exact Zqm _ h3
  .rcases UQ.mp hy with rfl|hy
   .exact a
   .exact b y hy
def Bl (c:M∈l)(d:∀y∈l,M<=y):M=qG l:=by
 obtain⟨f,g⟩:=Z1 (l:=l) (by intro e;rw[e] at c;cases c);have a:=g M c;have b:=d _ f;lia
def LG (m:X.calm=true):jc X (.builtin "max") (λxs H Q=>∃a ns,xs=[.ref a]/\qh X.K H a (ns.map V.int)/\ns ≠ []/\Q (.int (j8 ns)) H):=by
 intro Y s Z H xs B Q I r h;obtain⟨a,ns,rfl,n,f,q⟩:=h;obtain⟨u,rfl,o⟩:=Q9 r;obtain rfl:u=Value.ref a:=o;obtain⟨g,w,p,hz⟩:=I.list n;have hi:IntsAre g ns:=AX w;obtain⟨ys,e⟩:=hi.allInts.items;have c:ns=ys.toList.map (·.1):=by
  rw[<- hi.numsOf,<- nums_intItems,<- e]
 have hsz:0<ys.size:=by
  have i:0<ns.length:=Jm.mpr f;rw[c,Zql,Ui] at i;exact i
 have d:=p.isList;rw[e] at d;refine max_intList (I.ok.hd m) d hsz λv h' tk x y=>?_;obtain⟨t,rfl⟩:=intItems_at x;obtain⟨C,z⟩:=argBest_gt (numAt ys) (ys.size-1);refine⟨.int (j8 ns),H,I.kept y,⟨t,?_⟩,q⟩
 congr 1
 refine Bk ?_ λb l=>?_
 .rw[c,numAt_eq];exact PySem.getD_mem (by rw[Zql,Ui];lia)
 .rw[c] at l;obtain⟨j,A,rfl⟩:=PySem.mem_getD l;rw[Zql,Ui] at A;rw[<- numAt_eq];exact z j ()
def LH (m:X.calm=true):jc X (.builtin "min") (λxs H Q=>∃a ns,xs=[.ref a]/\qh X.K H a (ns.map V.int)/\ns ≠ []/\Q (.int (qG ns)) H):=by
 intro Y s Z H xs B Q I r h;obtain⟨a,ns,rfl,n,f,q⟩:=h;obtain⟨u,rfl,o⟩:=Q9 r;obtain rfl:u=Value.ref a:=o;obtain⟨g,w,p,hz⟩:=I.list n;have hi:IntsAre g ns:=AX w;obtain⟨ys,e⟩:=hi.allInts.items;have c:ns=ys.toList.map (·.1):=by
  rw[<- hi.numsOf,<- nums_intItems,<- e]
 have hsz:0<ys.size:=by
  have i:0<ns.length:=Jm.mpr f;rw[c,Zql,Ui] at i;exact i
 have d:=p.isList;rw[e] at d;refine min_intList (I.ok.hd m) d hsz λv h' tk x y=>?_;obtain⟨t,rfl⟩:=intItems_at x;obtain⟨C,z⟩:=argBest_lt (numAt ys) (ys.size-1);refine⟨.int (qG ns),H,I.kept y,⟨t,?_⟩,q⟩
 congr 1
 refine Bl ?_ λb l=>?_
 .rw[c,numAt_eq];exact PySem.getD_mem (by rw[Zql,Ui];lia)
 .rw[c] at l;obtain⟨j,A,rfl⟩:=PySem.mem_getD l;rw[Zql,Ui] at A;rw[<- numAt_eq];exact z j ()
def LI:jc X (.builtin "isinstance") (λxs H Q=>∃x n t b,xs=[x,.ty n]/\TyOf X.K H x t/\W.kitOne X.K t (.type n)=some b/\Q (.bl b) H):=by
 intro Y s Z H xs g Q I r h;obtain⟨x,n,t,b,rfl,a,e,q⟩:=h;obtain⟨u,c,rfl,d,f⟩:=Xu r;obtain rfl:c=Value.type n:=f;exact IJ I d a e λtk=>⟨.bl b,H,I.tok tk,rfl,q⟩
def ye (P:Program)(w:World)(K:W.Frag)(a:Yc)(base:Heap)(name:Str)(k:Nat)(ps:Yi)(sp:Sp):Prop:=
 ∃f b,FnOk P w K a base xp k f b ps sp/\ze K b ps []/\W.keepIn K (.ref f)=true/\a name=some (.ref f)
theorem ye.mono {P:Program}{w:World}{K:W.Frag}{a:Yc}{base:Heap}{name:Str}{j k:Nat}{ps:Yi}{sp:Sp}(c:ye P w K a base name j ps sp)(h:j<=k):ye P w K a base name k ps sp:=by
 obtain⟨f,b,F,r⟩:=c;exact⟨f,b,F.mono h,r⟩
def Z3 (c:ye X.prog X.w X.K X.mg X.base name k ps sp)(g:Room k X.A)(h:Gl X name)(i:PA X (e::es) t)
 (a:(name == ("__debug__" : Str))=false:=by decide) (j:starEach (e::es) X.env=(false,eval e X.env)::starEach es X.env:=by rfl) (d:(backTo pos (starEach es X.env)).any (·.1)=false:=by rfl):
 PE X (.Call (.Name name p) (e::es) [] pos) (AV sp [] E0 t):=by
 obtain⟨f,n,F,b,l,m⟩:=c;exact Dg F g h m l b .nil wG i a j d
end
def K6 (h:H p=none)(o:HO):Tu H (TQ H p o):=λb u q=>by rw[JL (Wf q h)];exact q
def Qz (h:n<=1000):n<=sizeLine:=Zz (Dz h)
def pD (p:Int×Int):PyData:=.tuple [.int p.1,.int p.2]
def rD (r:Jx):PyData:=.tuple (r.map pD)
def u3:Is H (pD p) v↔∃a,v=.ref a/\H a=some (.tup [.int p.1,.int p.2]):=by
 unfold pD;rw[jh];constructor
 .rintro⟨a,xs,b,c,d⟩;have e:xs=[.int p.1,.int p.2]:=D7 (ns:=[p.1,p.2]) d;subst e;exact⟨a,b,c⟩
 .rintro⟨a,b,c⟩;exact⟨a,_,b,c,D6 [p.1,p.2]⟩
def Bm (o:HO)(s:Tu H H')(h:H l=none):Tu H (TQ H' l o):=λb u e=>by
 rw[JL (Wf e h)];exact s b u e
theorem DA:∀ns:Yf,Kj (ns.map PyData.int)=true
 | []=>by show Kj []=true;unfold Kj;rfl
 |n::ns=>by
  show Kj (PyData.int n::ns.map PyData.int)=true;unfold Kj;rw[DA ns];unfold Qg;rfl
def Xz (p:Int×Int):Qg (pD p)=true:=by unfold pD Qg;exact DA [p.1,p.2]
theorem DB:∀ns:Yf,PyData.depthAll (ns.map PyData.int)=0
 | []=>by show PyData.depthAll []=0;unfold PyData.depthAll;rfl
 |n::ns=>by
  show PyData.depthAll (PyData.int n::ns.map PyData.int)=0;unfold PyData.depthAll;rw[DB ns];unfold PyData.depth;rfl
def QC:bootBuiltins "len" = some (.builtin "len"):=boot_len
def Z5:bootBuiltins "max" = some (.builtin "max"):=boot_max
def Bn:bootBuiltins "min" = some (.builtin "min"):=boot_min
def KM:bootBuiltins "isinstance" = some (.builtin "isinstance"):=boot_isinstance
def X0:bootBuiltins "sorted" = some (.builtin "sorted"):=boot_sorted
def LJ:bootBuiltins "sum" = some (.builtin "sum"):=boot_sum
def DC:bootBuiltins "int" = some (.type "int"):=boot_int
def LK:bootBuiltins "bool" = some (.type "bool"):=boot_bool
def DE:bootBuiltins "str" = some (.type "str"):=boot_str
def WN:bootBuiltins "list" = some (.type "list"):=boot_list
def Wm:bootBuiltins "tuple" = some (.type "tuple"):=boot_tuple
def DF:bootBuiltins "dict" = some (.type "dict"):=boot_dict
def bt_set:bootBuiltins "set" = some (.type "set"):=boot_set
def DG:entryFor table "dict.update.loop" = some Builtin.«dict.update.loop»:=entryFor_of_tree (by kernel_rfl)
def Z8:plainId "dict.update.loop" = true:=by decide +kernel
section
variable {prog:Program}{w:World}{K:Type}[DecidableEq K]{knd:KeyKind prog w K}
def vV (knd:KeyKind prog w K)(it t d:Addr)(c:Yl)(ps:List (K×Value))(z:Heap)(hlen:c.size=ps.length)
 (J:∀(j:Nat) k v,ps[j]? = some (k,v)->∃n h,c[j]? = some (.ref n)/\z.IsTuple n #[h,v]/\knd.is k h=true/\n≠it/\n≠d)
 (B:z.IsTuple t c) (n1:t≠it) (n2:t≠d) (L:d≠it) (m:Nat):
 ∀i:Nat,ps.length-i=m->∀(A:Around) (R:Result->Yv) (s:Shared) (a:List (K×Value)),A.handled=none->s.heap.IsTupleIter it t i->(∀b o,b≠it->b≠d->z.get? b=some o->s.heap.get? b=some o) ->
  s.heap.DictOf knd d a->a.length+(ps.length-i)<=sizeLine ->
  (∀h' tk,h'.DictOf knd d (merged a (ps.drop i))->(∀b o,b≠it->b≠d->z.get? b=some o->h'.get? b=some o)->R (.ok (.ret .none)) { s with heap:=h',toks:=tk }) ->
  wpAny (model prog w) A.in1 (Builtin.«dict.update.loop» ⟨[.ref d,.ref it,rawInt i,.none],[]⟩) (λq s'=>match q with | .done f=>R (.ok f) s' | .again c'=>c'.quiet=true/\codeAny (model prog w) A c' R s') (λe s'=>R (.error e) s') s:=by
 induction m with
 |zero =>
  intro i H A R s a M st keep N hz I;have hx:c[i]? = none:=by rw[Array.getElem?_eq_none_iff];lia
  have O:s.heap.IsTuple t c:=by
   obtain⟨o,l,r⟩:=B;exact⟨o,keep t o n1 n2 l,r⟩
  unfold Builtin.«dict.update.loop»;refine Za (wpAny_pyNext_tuple_end M st O hx λh' eb=>?_);have P:ps.drop i=[]:=VM ();rw[P] at I;have u:h'.DictOf knd d a:=by
   obtain⟨o,es,ep,l,r⟩:=N;exact⟨o,es,ep,eb d o L l,r⟩
  have q:=I h' s.toks u (λb o C E e=>eb b o C (keep b o C E e));unfold Builtin.Dict.addKeywords;exact Za (Zb (Zb q))
 |succ m ih =>
  intro i H A R s a M st keep N hz I;have x:i<ps.length:=()
  obtain⟨g,hkv⟩:∃g,ps[i]? = some g:=⟨_,Zqg x⟩;obtain⟨n,h,hx,Q,F,a1,a2⟩:=J i g.1 g.2 hkv;have O:s.heap.IsTuple t c:=by
   obtain⟨o,l,r⟩:=B;exact⟨o,keep t o n1 n2 l,r⟩
  unfold Builtin.«dict.update.loop»;refine Za (wpAny_pyNext_tuple_item st O hx λC S y=>?_);obtain⟨U,X,Y,nn,Z⟩:=Q;have p:C.get? n=some U:=(y.2 n a1).trans (keep n U a1 a2 X);have hD1:C.DictOf knd d a:=by
   obtain⟨o,es,ep,l,r⟩:=N;exact⟨o,es,ep,(y.2 d L).trans l,r⟩
  dsimp only;refine Za (wpAny_holding (Za (wpAny_tryCatch ?_)));unfold Builtin.Dict.pairItems;refine Za (wpAny_typeOf (T:= "tuple") ⟨U,p,Y⟩ ?_);rw[Zd (by decide)];refine Za (wpAny_seqItems p Z (Zb ?_));show wpAny _ _ (holding [h,g.2] (dictSet d h g.2)) _ _ _;refine wpAny_holding (wpAny_dictSet_pairs F hD1 (λE hD2 G=>?_) ());have hc:((i:Int)+1)=((i+1:Nat):Int):=by push_cast;rfl
  refine Zb ?_;rw[hc];have st2:E.IsTupleIter it t (i+1):=by
   obtain⟨o,l,r⟩:=S;exact⟨o,(G.2 it (Ne.symm L)).trans l,r⟩
  have k2:∀b o,b≠it->b≠d->z.get? b=some o->E.get? b=some o:=λb o b1 b2 e=>(G.2 b b2).trans ((y.2 b b1).trans (keep b o b1 b2 e));have z2:(stored a g.1 g.2).length+(ps.length-(i+1))<=sizeLine:=by
   have:(stored a g.1 g.2).length<=a.length+1:=by
    unfold stored
    split
    .rw[Zql];lia
    .rw[Ua,Uv];lia
   rw[H] at hz;rw[Nat.sub_succ,H];exact Zh (Nat.add_le_add_right this m) (Zh (Yr (Nat.succ_add_eq_add_succ a.length m)) hz)
  have e:merged a (ps.drop i)=merged (stored a g.1 g.2) (ps.drop (i+1)):=by
   rw[Uz x];have:ps[i]=g:=by
    have:=Zqg x;rw[this] at hkv;exact Zqi hkv
   rw[this];rfl
  exact⟨plainId_quiet Z8 _,codeAny_builtin DG (by
   rw[Around.under_plainId Z8 _];exact ih (i+1) (by rw[Nat.sub_succ,H];rfl) A R { s with heap:=E,toks:=s.toks+1 } (stored a g.1 g.2) M st2 k2 hD2 z2 λh' tk u kk=>I h' tk (by rw[e];exact u) kk)⟩
end
def LL:typeLookup (.type "tuple") "keys" = pure none:=by rw[typeLookup_type,builtinLookup_eq_fast];kernel_rfl
def LM
 (hx:s.heap.get? a=some o) (n:o.cls=.type "tuple") (f:o.data=.seq xs k) (p:o.dict=none) (i:typeLookup (.type "tuple") name=pure none) (j:(["__module__", "__name__", "__qualname__", "__doc__", "__annotations__"]:Yi).contains name=false) (r:A.handled=none)
 (h:∀h' tk,(∀b o,s.heap.get? b=some o->h'.get? b=some o)->Q none { s with heap:=h',toks:=tk }) (hsz:name.length+100<=sizeLine:=by size_fits):
 YC prog w A (getAttr? (.ref a) name) Q E s:=by
 obtain⟨c,t,u,v⟩:=o;simp only at n f p;subst n f p;obtain⟨hp,g,d,tk,os⟩:=s;have q:∀l,(⟨hp,g,d,l,os⟩:Shared).TypeIs (.ref a) "tuple" := λ_=>⟨_,hx,rfl⟩;have x:=sub_AttributeError;have y:=F.slot_tuple_getattribute.lookup;have z:=F.slot_tuple_getattribute.bind (.ref a);have B:=am_tuple_getattr_none;unfold getAttr? getAttrBy? getAttrBy
 repeat (any_goals (first|assumption|exact q _|((with_reducible show wpAny _ _ (call (Value.builtin "tuple.__getattribute__") _ _) _ _ _);refine call_meets F.slot_tuple_getattribute (q _) am_entry_tuple_getattribute (F.args_tuple_getattribute_2 _ _) (meets_getattribute_miss_tuple a xs k v name _ i j hsz) ⟨hx,r,λh' l e m=>?_⟩)|wp_step))
 obtain⟨t',C,G⟩:=m.there;show wpAny _ _ (getattributeRaised _ _ _ _ _ _ _) _ _ _;unfold getattributeRaised
 repeat (any_goals (first|assumption|wp_step))
 exact h _ _ m.of.keeps
section
variable {prog:Program}{w:World}{K:Type}[DecidableEq K]{A:Around}{E:Ya}{s:Shared}
def LN (knd:KeyKind prog w K)(L:A.handled=none)(B:s.heap.get? t=some o)(C:o.cls=.type "tuple")(i:o.data=.seq items n)(N:o.dict=none)
 (m:items.size=ps.length) (G:∀(j:Nat) k v,ps[j]? = some (k,v)->∃f a,items[j]? = some (.ref f)/\s.heap.IsTuple f #[a,v]/\knd.is k a=true) (hz:ps.length<=sizeLine)
 (h:∀h' tk,h'.DictOf knd s.heap.objs.size (merged [] ps)->(∀b u,s.heap.get? b=some u->h'.get? b=some u)->Q (.ref s.heap.objs.size) { s with heap:=h',toks:=tk }):
 YC prog w A (call (.type "dict") [.ref t]) Q E s:=by
 refine callType_codes (Q₁:=λp s₁=>p=.ref s.heap.objs.size/\s₁={ s with heap:=s.heap.push { cls:=.type "dict",data:=.dict #[] } }) F.kt_called_dict (F.kt_typeCall_dict_1 _) F.entry_dict_init (kt_code_dict_new _ ⟨rfl,rfl⟩) ?_;rintro p s₁ ⟨rfl,rfl⟩;have c:(s.heap.push { cls:=.type "dict",data:=.dict #[] }).DictOf knd s.heap.objs.size []:=Heap.DictOf.new s.heap;refine⟨c.typeIs,F.args_dict_init_2 _ _,?_⟩;have l:(s.heap.push { cls:=.type "dict",data:=.dict #[] }).get? t=some o:=Zq _ B;unfold Builtin.«dict.__init__»;refine Za ?_;unfold Builtin.Dict.selfAndRest;refine Za (wpAny_notOrdered_dict c.typeIs ?_);show wpAny _ _ (pure (s.heap.objs.size,[Value.ref t])) _ _ _;refine Zb ?_;show wpAny _ _ (Builtin.Dict.updateFrom "dict.__init__" s.heap.objs.size (.ref t) [] .none) _ _ _;unfold Builtin.Dict.updateFrom;refine Za (wpAny_typeOf (T:= "tuple") ⟨o,l,C⟩ ?_);rw[Zd (by decide)];refine Za (LM l C i N LL (by decide +kernel) L (λg O k2=>?_) (by decide));rw[Zd (by rfl)];have q:g.IsTuple t items:=⟨o,k2 _ _ l,C,n,i⟩;have lt:s.heap.objs.size<g.objs.size:=by
  obtain⟨y,_,_,e,_⟩:=c;exact Zk (k2 _ _ e)
 have P:g.DictOf knd s.heap.objs.size []:=by
  obtain⟨y,es,ep,e,r⟩:=c;exact⟨y,es,ep,k2 _ _ e,r⟩
 refine Za (wpAny_rule ?_);refine Za (wpAny_pyIter_tuple q ?_);have d:∀b u,s.heap.get? b=some u->b≠s.heap.objs.size/\b≠g.objs.size:=λb u e=>by
  have z:=Zk e;exact⟨Zi z,Zi (UN z lt)⟩
 have M:∀b u,s.heap.get? b=some u->g.get? b=some u:=λb u e=>k2 b u (Zq _ e);have x:∀(j:Nat) k v,ps[j]? = some (k,v)->∃f a,items[j]? = some (.ref f)/\g.IsTuple f #[a,v]/\knd.is k a=true/\f≠g.objs.size/\f≠s.heap.objs.size:=λj k v e=>by
  obtain⟨f,a,R,⟨H,I,S⟩,U⟩:=G j k v e;exact⟨f,a,R,⟨H,M _ _ I,S⟩,U,(d f H I).2,(d f H I).1⟩
 refine Zb ⟨plainId_quiet Z8 _,codeAny_builtin DG ?_⟩;rw[Around.under_plainId Z8 _];refine vV knd g.objs.size t s.heap.objs.size items ps g m x q (d t o B).2 (d t o B).1 (Zi lt) ps.length 0 () A.in1 _ _ [] L ⟨_,Zr _ rfl,rfl,rfl⟩ (λb u _ _ e=>Zq _ e) ?_ (by simpa using hz) ?_
 .obtain⟨y,es,ep,e,r⟩:=P;exact⟨y,es,ep,Zq _ e,r⟩
 .intro h' tk J kk;exact⟨rfl,h h' tk J λb u e=>kk b u (d b u e).2 (d b u e).1 (M b u e)⟩
end
def qA (r:Jx):List (TF×V):=r.map λp=>(Ub p.1,V.int p.2)
def X1 (r:Jx):List (TF×V):=Wh [] (qA r)
theorem DH (ok:jP P w H h):∀{r:Jx} {xs:Yx} {c:Yd},TU H (r.map pD) xs->T4 xs c ->
 ∃ps:List (TF×Value),KV (qA r) ps/\c.length=ps.length/\∀(j:Nat) k v,ps[j]? = some (k,v)->∃f d,c[j]? = some (.ref f)/\h.IsTuple f #[d,v]/\(Qy P w).is k d=true
 | [],xs,c,b,r=>by
  have b:TU H [] xs:=b;unfold TU at b;subst b;cases r;exact⟨[],.nil,rfl,λj k v e=>by simp at e⟩
 |p::r,xs,c,b,rv=>by
  have b:TU H (pD p::r.map pD) xs:=b;unfold TU at b;obtain⟨x,ys,rfl,i,l⟩:=b;cases rv with
  | @cons _ u _ m q s =>
   obtain⟨ps,k1,k2,k3⟩:=DH ok l s;obtain⟨a,rfl,y⟩:=u3.mp i;obtain rfl:u=Value.ref a:=q;obtain⟨_,z,A,o,B,C,n,E⟩:=(show jK P w H h a (.tup [.int p.1,.int p.2]) from ok a _ y);obtain⟨u1,u2,rfl,F,G⟩:=Xu A;obtain⟨g,rfl⟩:=(show ∃t,u1=Value.int p.1 t from F);refine⟨(Ub p.1,u2)::ps,.cons ⟨rfl,G⟩ k1,by rw[Zu,Zu,k2],λj k v e=>?_⟩;cases j with
   |zero =>
    have e:some ((Ub p.1:TF),u2)=some (k,v):=e;cases e;exact⟨a,.int p.1 g,rfl,⟨o,B,C,n,E⟩,CP p.1 g⟩
   |succ j =>
    exact k3 j k v (by simpa using e)
section
variable {X:Cx}
def LO (i:X.calm=true):jc X (.type "dict") (λxs H Q=>∃a r,xs=[.ref a]/\Is H (rD r) (.ref a)/\r.length<=100/\∀p,H p=none->Q (.ref p) (TQ H p (.dK (X1 r)))):=by
 intro Y s Z H xs O Q I l h;obtain⟨a,r,rfl,b,hz,q⟩:=h;obtain⟨u,rfl,m⟩:=Q9 l;obtain rfl:u=Value.ref a:=m;unfold rD at b;rw[jh] at b;obtain⟨P,xs,t,w,x⟩:=b;cases t;obtain⟨⟨R,S,d,y⟩,A,B,o,f,C,n,E⟩:=(show jK X.prog X.w H s.heap a (.tup xs) from I.hok a _ w);rw[d] at f;obtain rfl:=Zqi f;obtain⟨ps,k1,k2,k3⟩:=DH I.hok x B;have F:=k1.length;have g:(qA r).length=r.length:=Zql _;refine LN (Qy X.prog X.w) (I.ok.hd i) d C E y (by rw[Zm];exact k2) (λj k v e=>?_) (by rw[<- F,g];exact Qz ()) λh' tk G J=>?_
 .obtain⟨K,c,L,M,N⟩:=k3 j k v e;exact⟨K,c,by simpa using L,M,N⟩
 .refine⟨.ref s.heap.objs.size,TQ H s.heap.objs.size (.dK (X1 r)),I.laid (a:=s.heap.objs.size) (o:=.dK (X1 r)) (t':=tk) J (Zf _) ?_,rfl,q _ (I.hok.fresh (Zf _))⟩;refine Dx ?_ (beq_eq_false_iff_ne.mpr (Ne.symm (Zi I.big))) (yx k1 .nil) G;have z:=Dy (qA r) [];rw[ZC,g] at z;exact Qz (by unfold X1;lia)
end
def J5:Jx->Int->Option Int
 | [],_=>none
 |p::r,t=>match J5 r t with
  |some w=>some w
  |none=>if p.1=t then some p.2 else none
def LP (r s:Jx)(t:Int):J5 (r++s) t=match J5 s t with|some w=>some w|none=>J5 r t:=by
 induction r with
 |nil=>simp[J5];cases J5 s t<;>rfl
 |cons p r a =>
  rw[Vn,J5,a];cases J5 s t with
  |none=>rw[J5]
  |some w=>rfl
def Qp (h:J5 r t=some w):(t,w)∈r:=by
 induction r with
 |nil=>simp[J5] at h
 |cons p r a =>
  rw[J5] at h;cases q:J5 r t with
  |some v =>
   rw[q] at h;obtain rfl:=Zqi h;exact Zqm _ (a q)
  |none =>
   rw[q] at h;by_cases e:p.1=t
   .rw[Zd e] at h;obtain rfl:=Zqi h;subst e;exact Zqs
   .rw[Ze e] at h;exact J2 h
def DI (h:J5 r t=none):∀w,(t,w)∉r:=by
 induction r with
 |nil=>intro w hw;cases hw
 |cons p r a =>
  intro w hw;rw[J5] at h;cases q:J5 r t with
  |some v=>rw[q] at h;cases h
  |none =>
   rw[q] at h;rcases UQ.mp hw with e|e
   .rw[Zd (by rw[<- e])] at h;cases h
   .exact a q w e
def T5 (r:Jx):Prop:=(r.map (·.1)).Nodup
def T5.eq (h:T5 r)(a:(t,v)∈r)(c:(t,w)∈r):v=w:=by
 induction r with
 |nil=>cases a
 |cons p r d =>
  obtain⟨b,e⟩:=Ji.mp (show(p.1::r.map (·.1)).Nodup from h);rcases UQ.mp a with e1|e1<;>rcases UQ.mp c with e2|e2
  .rw[<- e1] at e2;cases e2;rfl
  .exact Zn (Ja.mpr ⟨(t,w),e2,by rw[<- e1]⟩) b
  .exact Zn (Ja.mpr ⟨(t,v),e1,by rw[<- e2]⟩) b
  .exact d e e1 e2
def T5.look (h:T5 r)(a:(t,w)∈r):J5 r t=some w:=by
 cases q:J5 r t with
 |none=>exact Zn a (DI q w)
 |some v=>rw[h.eq (Qp q) a]
def qS (o:Jx)(p:Int×Int):Bool:=match J5 o p.1 with
 |some w=>decide (p.2<=w)
 |none=>false
def J9 (r o:Jx):Bool:=r.all (qS o)
def LQ (h:T5 r)(d:∀p∈r,p.1<t):T5 (r++[(t,w)]):=by
 unfold T5 at h ⊢;rw[Uh,Vo];refine⟨h,(),?_⟩;intro a e b c;obtain⟨p,hp,rfl⟩:=Ja.mp e;have:=d p hp;simp at c;subst c;lia
def DJ {r o:Jx}{i:Nat}{p:Int×Int}(hp:r[i]? = some p)(h:qS o p=false):J9 r o=false:=by
 unfold J9;rw[List.all_eq_false];exact⟨p,Uj hp,by rw[h];simp⟩
def QD {α: Type}{r:List α}{p:α}(hp:r[i]? = some p):r.take (i+1)=r.take i++[p]:=by
 rw[List.take_succ,hp];rfl
def LR {r o:Jx}{i:Nat}{p:Int×Int}(hp:r[i]? = some p)(h:J9 (r.take i) o=true)(a:qS o p=true):J9 (r.take (i+1)) o=true:=by
 rw[QD hp];unfold J9 at h ⊢;rw[List.all_append,h,UH,a];rfl
open PySem PyProof.Rows
def DK (h:l<r)(c:r-l<=k-x):∃m,(l+r) / 2=m/\l<=m/\m<r/\m-l<=k-(x+1)/\r-(m+1)<=k-(x+1):=by
 have a:l<=(l+r) / 2:=()
 have b:(l+r) / 2<r:=()
 generalize (l+r) / 2=m at a b ⊢;exact⟨m,rfl,a,b,Nat.le_pred_of_lt (Zg (Nat.sub_lt_sub_right a b) c),Nat.pred_le_pred (Zh (Nat.sub_le_sub_left a r) c)⟩
structure Wk (lt:Nat->Nat->Bool):Prop where
 asy:∀i j,lt i j=true->lt j i=false
 neg:∀i j k,lt i k=true->lt i j=true\/lt j k=true
def xq (lt:Nat->Nat->Bool)(i j:Nat):Prop:=lt i j=true\/(lt j i=false/\i<j)
section
variable {lt:Nat->Nat->Bool}(W:Wk lt)
include W
theorem xq.no (h:xq lt i j):lt j i=false:=by
 rcases h with h|h
 .exact W.asy _ _ h
 .exact h.1
theorem xq.trans (c:xq lt i j)(d:xq lt j k):xq lt i k:=by
 have f:=xq.no W c;have e:=xq.no W d;have g:lt k i=false:=by
  cases q:lt k i with
  |false=>rfl
  |true =>
   rcases W.neg k j i q with z|z
   .rw[e] at z;exact J6 z
   .rw[f] at z;exact J6 z
 rcases c with a|a
 .rcases W.neg i k j a with z|z
  .exact .inl z
  .rw[e] at z;exact J6 z
 .rcases d with b|b
  .rcases W.neg j i k b with z|z
   .rw[a.1] at z;exact J6 z
   .exact .inl z
  .exact .inr ⟨g,()⟩
end
def LS:∀{n:Nat},2<=n->n<64->minRun' n n 0=n
 | 0,h,_=>()
 |f+1,_,h=>by
  rw[minRun'_succ,Zd h]
def gx (ix:Yg)(k:Nat):Nat:=(ix[k]?).getD 0
def DM (h:k<ix.size):ix[k]? = some (gx ix k):=by
 unfold gx;rw[Uo h];rfl
def ZD (hs:src<ix.size)(a:d<=src)(k:Nat):gx (bubble ix src d) k=if k=src-d then gx ix src else if src-d<k/\k<=src then gx ix (k-1) else gx ix k:=by
 unfold gx;rw[getElem?_bubble hs d a k]
 repeat' split
 all_goals rfl
def Kt (a:j<=ix.size)(k:Nat):gx (mirror ix i j ((j-i) / 2)) k=if i<=k/\k<j then gx ix (i+j-1-k) else gx ix k:=by
 unfold gx;rw[getElem?_mirror_all a k]
 split
 all_goals rfl
def LU {α β: Type}(f:α -> β)(xs:Array α)(i j:Nat):(xs.map f).swapIfInBounds i j=(xs.swapIfInBounds i j).map f:=by
 apply Array.ext_getElem?;intro k;by_cases hi:i<xs.size
 .by_cases a:j<xs.size
  .rw[getElem?_swapIB (by simpa using hi) (by simpa using a),UY,UY,UY,UY,getElem?_swapIB hi a]
   repeat' split
   all_goals rfl
  .rw[Vw,Vw,dif_pos (by simpa using hi),dif_neg (by simpa using a),dif_pos hi,dif_neg a]
 .rw[Vw,Vw,dif_neg (by simpa using hi),dif_neg hi]
theorem Bo {α β γ: Type}(f:α -> β)(p q:γ -> Nat):∀(l:List γ) (xs:Array α),l.foldl (λa k=>a.swapIfInBounds (p k) (q k)) (xs.map f)=(l.foldl (λa k=>a.swapIfInBounds (p k) (q k)) xs).map f
 | [],xs=>rfl
 |k::l,xs=>by
  rw[U7,U7,LU,Bo f p q l]
def LV {α β: Type}(f:α -> β)(xs:Array α)(a d:Nat):bubble (xs.map f) a d=(bubble xs a d).map f:=Bo f _ _ _ xs
def ZE {α β: Type}(f:α -> β)(xs:Array α)(i j d:Nat):mirror (xs.map f) i j d=(mirror xs i j d).map f:=Bo f _ _ _ xs
structure Pl (n:Nat)(ix:Yg)(k:Nat):Prop where
 size:ix.size=n
 perm:ix.Perm (Array.range n)
 pre:∀a,a<k->gx ix a<k
 suf:∀a,k<=a->a<n->gx ix a=a
def Pl.lt (h:Pl n ix k)(d:k<=n)(b:a<n):gx ix a<n:=by
 by_cases c:a<k
 .exact Zg (h.pre a c) d
 .rw[h.suf a () b];exact b
def Pl.succ (h:Pl n ix k)(b:k<n):Pl n ix (k+1):=by
 refine⟨h.size,h.perm,λa e=>?_,λa f d=>h.suf a () d⟩;by_cases c:a<k
 .have:=h.pre a c;lia
 .have:a=k:=()
  subst this;rw[h.suf a (Zf _) b];lia
def Pl.rev (h:Pl n ix k)(b:k<=n)(hi:i<=k):Pl n (mirror ix i k ((k-i) / 2)) k:=by
 have hz:k<=ix.size:=by rw[h.size];exact b
 refine⟨by rw[mirror_size];exact h.size,(mirror_perm _ _ _ _).trans h.perm,λa c=>?_,λa d e=>?_⟩
 .rw[Kt hz]
  split
  .exact h.pre _ ()
  .exact h.pre a c
 .rw[Kt hz,Ze ()];exact h.suf a d e
def Up (lt:Nat->Nat->Bool)(ix:Yg)(k:Nat):Prop:=∀a b,a<b->b<k->xq lt (gx ix a) (gx ix b)
def Dn (lt:Nat->Nat->Bool)(ix:Yg)(k:Nat):Prop:=∀a b,a<b->b<k->xq lt (gx ix b) (gx ix a)
structure SB (it:Nat->Keyed)(kind:SortKind)(ix:Yg)(st:SortSt):Prop where
 arr:arrOf st=ix.map it
 kd:kindOf st=kind
 fl:failedOf st=none
 pd:pendingOf st = #[]
def kr (prog:Program)(w:World)(A:Around)(s:Shared)(kind:SortKind)(it:Nat->Keyed)(lt:Nat->Nat->Bool)(n:Nat):Prop:=
 ∀i j,i<n->j<n->∀(E:Ya) (Q:Bool->Yv),Q (lt i j) s->YC prog w A (keyLt' kind (it i).1 (it j).1) Q E s
section
variable {prog:Program}{w:World}{A:Around}{E:Ya}{s:Shared}{kind:SortKind}{it:Nat->Keyed}{lt:Nat->Nat->Bool}{n:Nat}{ix:Yg}{st:SortSt}
def X2 {Q:Option Bool->SortSt->Prop}(O:kr prog w A s kind it lt n)(B:SB it kind ix st)(L:Pl n ix k)(c:k<=n)(d:a<n)(e:b<n)(h:Q (some (lt (gx ix a) (gx ix b))) st):
 YD prog w A E s (ltAt' a b) Q st:=by
 have f:(arrOf st)[a]? = some (it (gx ix a)):=by rw[B.arr,UY,DM (by rw[L.size];exact d)];rfl
 have g:(arrOf st)[b]? = some (it (gx ix b)):=by rw[B.arr,UY,DM (by rw[L.size];exact e)];rfl
 rw[ltAt'_eq];have go:YD prog w A E s (lt' (it (gx ix a)) (it (gx ix b))) Q st:=by
  rw[lt'_eq];refine Ym (wpS_get ?_);rw[B.kd];exact Ym (wpS_lift (wpAny_attempt (O _ _ (L.lt c d) (L.lt c e) _ _ ⟨rfl,Yn h⟩)))
 refine Ym (wpS_get ?_);show wpS _ _ _ _ (elem' (arrOf st) a >>= λx=>elem' (arrOf st) b >>= λy=>lt' x y) Q st;rw[elem'_eq,elem'_eq,f,g];exact Ym (Yn (Ym (Yn go)))
def SB.set (B:SB it kind ix st)(e:xs=jx.map it):SB it kind jx (setArr st xs):=⟨e,B.kd,B.fl,B.pd⟩
variable (W:Wk lt)(O:kr prog w A s kind it lt n)
include W O
theorem LW {Q:Bool->SortSt->Prop}(R:ok<=n)(h1:1<=ok)(B:SB it kind ix st)(L:Pl n ix ok)(U:Up lt ix ok)
 (h:∀d f,SB it kind d f->Pl n d n->Up lt d n->Q true f):YD prog w A E s (binarySort' 0 n ok) Q st:=by
 rw[binarySort'_eq];simp only[UO];have H:max ok 1=ok:=()
 rw[H];refine Ym (wpS_mono (Yo (I:=λk c f=>c=(none,Yq)/\∃d,SB it kind d f/\Pl n d k/\Up lt d k) (Q:=λc f=>c=(none,Yq)/\∃d,SB it kind d f/\Pl n d n/\Up lt d n) ?_ ?_ ⟨rfl,ix,B,L,U⟩) ?_)
 .rintro k c p S g ⟨rfl,d,J,j,K⟩;have C:gx d k=k:=j.suf k (Zf _) g;refine Ym (wpS_mono (Yo (I:=λx c o=>o=p/\∃l r,c=(none,l,r)/\l<=r/\r<=k/\r-l<=k-x/\(∀i,i<l->lt k (gx d i)=false)/\(∀i,r<=i->i<k->lt k (gx d i)=true))
   (Q:=λc o=>o=p/\∃l r,c=(none,l,r)/\l<=k/\(∀i,i<l->lt k (gx d i)=false)/\(∀i,l<=i->i<k->lt k (gx d i)=true)) ?_ ?_ ⟨rfl,0,k,rfl,(),(),(),λi hi=>(),λi a b=>()⟩) ?_)
  .rintro x c o _ hx ⟨rfl,l,r,rfl,T,t,u,lo,hi⟩;dsimp only;by_cases M:l ≥ r
   .rw[Zd M];have e:l=r:=()
    subst e;exact Yn ⟨rfl,l,l,rfl,t,lo,hi⟩
   .rw[Ze M];obtain⟨m,H,X,P,Y,Z⟩:=DK (Nat.lt_of_not_le M) u;rw[H];have mk:=Zg P t;refine Ym (X2 O J j (Zz g) g (UN mk g) ?_);rw[C];cases q:lt k (gx d m) with
    |true =>
     simp only[if_true];refine Yn ⟨rfl,l,m,rfl,X,Zz mk,Y,lo,λi a b=>?_⟩;by_cases v:i=m
     .rw[v];exact q
     .rcases W.neg k (gx d i) _ q with z|z
      .exact z
      .rw[xq.no W (K m i (Vx a (Ne.symm v)) b)] at z;exact J6 z
    |false =>
     simp only[Ud,if_false];refine Yn ⟨rfl,m+1,r,rfl,P,t,Z,λi a=>?_,hi⟩;by_cases v:i=m
     .rw[v];exact q
     .cases z:lt k (gx d i) with
      |false=>rfl
      |true =>
       rcases W.neg k (gx d m) _ z with y|y
       .rw[q] at y;exact J6 y
       .rw[xq.no W (K i m (Vx (Vy a) v) mk)] at y;exact J6 y
  .rintro c o ⟨rfl,l,r,rfl,T,t,u,lo,hi⟩;have e:l=r:=()
   subst e;exact⟨rfl,l,l,rfl,t,lo,hi⟩
  .rintro c o ⟨rfl,l,r,rfl,lk,lo,hi⟩;show wpS _ _ _ _ (moveDown' k l >>= λ_=>pure (ForInStep.yield (none,Yq))) _ _;rw[moveDown'_eq];have hs:k<d.size:=by rw[j.size];exact g
   refine Ym (wpS_modify (Yn ⟨rfl,bubble d k (k-l),J.set (by rw[J.arr,LV]),⟨by rw[bubble_size];exact j.size,(bubble_perm _ _ _).trans j.perm,λa ha=>?_,λa a1 a2=>?_⟩,λa b ab bk=>?_⟩))
   .rw[ZD hs ()]
    repeat' split
    .rw[C];lia
    .have:=j.pre (a-1) ();lia
    .by_cases c:a<k
     .have:=j.pre a c;lia
     .have:a=k:=()
      subst this;rw[C];lia
   .rw[ZD hs (),Ze (),Ze ()];exact j.suf a () a2
   .rw[ZD hs (),ZD hs (),show k-(k-l)=l by lia,C]
    repeat' split
    all_goals first
     | (exfalso;lia)
     |exact K _ _ () ()
     |exact .inl (hi _ () ())
     |exact .inr ⟨lo _ (),j.pre _ ()⟩
 .rintro c p ⟨rfl,d,N,F,G⟩;have e:max ok n=n:=()
  rw[e] at F G;exact⟨rfl,d,N,F,G⟩
 .rintro c p ⟨rfl,d,N,F,G⟩;exact Yn (h d p N F G)
theorem DN {Q:AscSt->SortSt->Prop}(v:1<=a)(l:a<=n)(B:SB it kind ix st)(L:Pl n ix a)(U:Up lt ix a)
 (h:∀m,a<=m->m<=n->Pl n ix m->Up lt ix m->(m=n\/lt m (gx ix (m-1))=true)->Q (none,m) st):YD prog w A E s (ascLoop a n) Q st:=by
 unfold ascLoop;refine Yo (I:=λx c o=>o=st/\c=(none,x)/\Pl n ix x/\Up lt ix x) ?_ ?_ ⟨rfl,rfl,L,U⟩
 .rintro x c o t p ⟨rfl,rfl,b,g⟩;dsimp only;refine Ym (X2 O B b () p () ?_);have r:gx ix x=x:=b.suf x (Zf _) p;rw[r];cases q:lt x (gx ix (x-1)) with
  |true =>
   simp only[if_true];exact Yn (h x t () b g (.inr q))
  |false =>
   simp only[Ud,if_false];refine Yn ⟨rfl,rfl,b.succ p,λi j u y=>?_⟩;have f:xq lt (gx ix (x-1)) x:=.inr ⟨q,b.pre _ ()⟩;by_cases c:j<x
   .exact g i j u c
   .have e:j=x:=()
    subst e;rw[r];by_cases d:i=j-1
    .rw[d];exact f
    .exact xq.trans W (g i (j-1) () ()) f
 .rintro c o ⟨rfl,rfl,b,g⟩;have e:max a n=n:=()
  rw[e] at b g ⊢;exact h n l (Zf _) b g (.inl rfl)
theorem DO {Q:Option Nat->SortSt->Prop}(g:1<=m)(d:m<=n)(B:SB it kind ix st)(L:Pl n ix m)(D:Dn lt ix m)
 (h:∀k e c,SB it kind e c->1<=k->k<=n->Pl n e k->Up lt e k->Q (some k) c):YD prog w A E s (tail3 m n) Q st:=by
 unfold tail3;have hz:m<=ix.size:=by rw[L.size];exact d
 refine Ym (wpS_reverse ?_);have f:SB it kind (mirror ix 0 m ((m-0) / 2)) (setArr st (mirror (arrOf st) 0 m ((m-0) / 2))):=B.set (by rw[B.arr,ZE]);refine Ym (DN W O g d f (L.rev d (Uc _)) (λa b ab bm=>?_) λk k1 k2 i j _=>Yn (h k _ _ f () k2 i j));rw[Kt hz,Kt hz,Zd (),Zd ()];exact D _ _ () ()
structure Eqs (lt:Nat->Nat->Bool)(ix:Yg)(x q:Nat):Prop where
 le:q+1<=x
 out:∀a b,a<b->b<x->a<x-(q+1)->lt (gx ix b) (gx ix a)=true\/(b<x-(q+1)/\xq lt (gx ix b) (gx ix a))
 same:∀a b,x-(q+1)<=a->a<x->x-(q+1)<=b->b<x->lt (gx ix a) (gx ix b)=false
 rise:∀a b,x-(q+1)<=a->a<b->b<x->gx ix a<gx ix b
omit O in
theorem Eqs.down (h:Eqs lt ix x q)(hz:x<=ix.size):Dn lt (mirror ix (x-(q+1)) x ((x-(x-(q+1))) / 2)) x:=by
 intro a b ab c;have d:=h.le;rw[Kt hz,Kt hz];by_cases e:x-(q+1)<=a
 .rw[Zd (),Zd ()];exact .inr ⟨h.same _ _ () () () (),h.rise _ _ () () ()⟩
 .rw[Ze (show ¬(x-(q+1)<=a/\a<x) from ())]
  split
  .rcases h.out a (x-(q+1)+x-1-b) () () () with z|z
   .exact .inl z
   .exact z.2
  .rcases h.out a b ab c () with z|z
   .exact .inl z
   .exact z.2
omit O in
theorem Eqs.down0 (h:Eqs lt ix x 0):Dn lt ix x:=by
 intro a b ab c;have d:=h.le;rcases h.out a b ab c () with z|z
 .exact .inl z
 .exact z.2
omit O in
theorem x8 (hx:1<=x)(D:Dn lt ix x)(yk:∀a,a<x-1->lt (gx ix (x-1)) (gx ix a)=true):Eqs lt ix x 0:=by
 refine⟨(),λa b ab d h=>?_,λa b e i j l=>?_,λa b e ab d=>()⟩
 .by_cases c:b=x-1
  .rw[c];exact .inl (yk a ())
  .exact .inr ⟨(),D a b ab d⟩
 .have f:a=x-1:=()
  have g:b=x-1:=()
  rw[f,g];cases z:lt (gx ix (x-1)) (gx ix (x-1)) with
  |false=>rfl
  |true=>have:=W.asy _ _ z;rw[z] at this;cases this
omit O in
theorem qy (hx:1<=x)(D:Dn lt ix x)(d:lt (gx ix x) (gx ix (x-1))=true):Eqs lt ix (x+1) 0:=by
 have yk:∀a,a<x->lt (gx ix x) (gx ix a)=true:=λa f=>by
  by_cases c:a=x-1
  .rw[c];exact d
  .rcases W.neg _ (gx ix a) _ d with z|z
   .exact z
   .rw[xq.no W (D a (x-1) () ())] at z;exact J6 z
 refine x8 W () (λa b ab g=>?_) λa f=>by
  rw[show x+1-1=x by lia];exact yk a ()
 by_cases c:b<x
 .exact D a b ab c
 .have e:b=x:=()
  rw[e];exact .inl (yk a ())
omit O in
theorem Eqs.more (h:Eqs lt ix x q)(hx:gx ix x=x)(e:∀a,a<x->gx ix a<x)(j:lt (gx ix x) (gx ix (x-1))=false)(g:lt (gx ix (x-1)) (gx ix x)=false):Eqs lt ix (x+1) (q+1):=by
 have r:=h.le;have l:∀k,lt (gx ix (x-1)) k=true->lt (gx ix x) k=true:=λk z=>by
  rcases W.neg _ (gx ix x) _ z with y|y
  .rw[g] at y;exact J6 y
  .exact y
 have m:∀k,lt k (gx ix x)=true->lt k (gx ix (x-1))=true:=λk z=>by
  rcases W.neg _ (gx ix (x-1)) _ z with y|y
  .exact y
  .rw[g] at y;exact J6 y
 have f:∀k,lt (gx ix x) k=true->lt (gx ix (x-1)) k=true:=λk z=>by
  rcases W.neg _ (gx ix (x-1)) _ z with y|y
  .rw[j] at y;exact J6 y
  .exact y
 refine⟨(),λa b ab o t=>?_,λa b p u v B=>?_,λa b p ab o=>?_⟩
 .by_cases c:b=x
  .rw[c];rcases h.out a (x-1) () () () with z|z
   .exact .inl (l _ z)
   .omega
  .rcases h.out a b ab () () with z|z
   .exact .inl z
   .exact .inr ⟨(),z.2⟩
 .by_cases i:a=x
  .by_cases d:b=x
   .rw[i,d];cases z:lt (gx ix x) (gx ix x) with
    |false=>rfl
    |true=>have:=W.asy _ _ z;rw[z] at this;cases this
   .rw[i];cases z:lt (gx ix x) (gx ix b) with
    |false=>rfl
    |true =>
     have y:=f _ z;rw[h.same (x-1) b () () () ()] at y;exact J6 y
  .by_cases d:b=x
   .rw[d];cases z:lt (gx ix a) (gx ix x) with
    |false=>rfl
    |true =>
     have y:=m _ z;rw[h.same a (x-1) () () () ()] at y;exact J6 y
   .exact h.same a b () () () ()
 .by_cases d:b=x
  .rw[d,hx];exact e a ()
  .exact h.rise a b () ab ()
theorem LX {Q:DescSt->SortSt->Prop}(u:1<=m)(o:m<=n)(B:SB it kind ix st)(L:Pl n ix m)(X:Eqs lt ix m 0)
 (h:∀k q a i,SB it kind a i->m<=k->k<=n->Pl n a k->Eqs lt a k q->Q (none,k,q) i):YD prog w A E s (descLoop m n) Q st:=by
 unfold descLoop;refine Yo (I:=λx c j=>∃q a,c=(none,x,q)/\SB it kind a j/\Pl n a x/\Eqs lt a x q) ?_ ?_ ⟨0,ix,rfl,B,L,X⟩
 .rintro x c j p g ⟨q,a,rfl,d,b,f⟩;dsimp only;have hz:x<=a.size:=by rw[b.size];lia
  have r:gx a x=x:=b.suf x (Zf _) g;refine Ym (X2 O d b () g () ?_);cases z:lt (gx a x) (gx a (x-1)) with
  |true =>
   simp only[if_true];by_cases l:q > 0
   .rw[Zd l];refine Ym (wpS_reverse (Yn ⟨0,mirror a (x-(q+1)) x ((x-(x-(q+1))) / 2),rfl,d.set (by rw[d.arr,ZE]),(b.rev () ()).succ g,qy W () (f.down W hz) ?_⟩));rw[Kt hz,Kt hz,Ze (show ¬(x-(q+1)<=x/\x<x) from ())];have v:=f.le;rw[Zd ()];rcases W.neg _ (gx a (x-(q+1)+x-1-(x-1))) _ z with y|y
    .exact y
    .rw[f.same _ _ () () () ()] at y;exact J6 y
   .rw[Ze l];have t:q=0:=()
    subst t;exact Yn ⟨0,a,rfl,d,b.succ g,qy W () (f.down0 W) z⟩
  |false =>
   simp only[Ud,if_false];refine Ym (X2 O d b () () g ?_);cases y:lt (gx a (x-1)) (gx a x) with
   |true =>
    simp only[if_true];exact Yn (h x q a j d p () b f)
   |false =>
    simp only[Ud,if_false];exact Yn ⟨q+1,a,rfl,d,b.succ g,f.more W r b.pre z y⟩
 .rintro c j ⟨q,a,rfl,d,b,f⟩;have e:max m n=n:=()
  rw[e] at b f ⊢;exact h n q a j d o (Zf _) b f
theorem DP {Q:Option Nat->SortSt->Prop}(g:m+1<=n)(B:SB it kind ix st)(L:Pl n ix (m+1))(X:Eqs lt ix (m+1) 0)
 (h:∀k a b,SB it kind a b->1<=k->k<=n->Pl n a k->Up lt a k->Q (some k) b):YD prog w A E s (descPart m n) Q st:=by
 unfold descPart;refine Ym (wpS_lift (wpAny_rule ⟨rfl,?_⟩));refine Ym (LX W O () g B L X λk q a j c k1 k2 d e=>?_);dsimp only;have hz:k<=a.size:=by rw[d.size];exact k2
 by_cases f:q > 0
 .rw[Zd f];have l:=e.le;exact Ym (wpS_reverse (DO W O () k2 (c.set (by rw[c.arr,ZE])) (d.rev k2 ()) (e.down W hz) h))
 .rw[Ze f];have i:q=0:=()
  subst i;exact DO W O () k2 c d (e.down0 W) h
theorem LY {Q:Option Nat->SortSt->Prop}(x:1<=n)(B:SB it kind ix st)(L:Pl n ix 1)
 (h:∀k j d,SB it kind j d->1<=k->k<=n->Pl n j k->Up lt j k->Q (some k) d):YD prog w A E s (countRun' 0 n) Q st:=by
 rw[countRun0_eq];refine Ym (DN W O (Zf 1) x B L (λa b ab C=>()) λm l e c f o=>?_);dsimp only;by_cases p:m=n
 .rw[Zd (by simpa using p)];exact Yn (h m ix st B l e c f)
 .rw[Ze (by simpa using p)];have r:lt m (gx ix (m-1))=true:=o.resolve_left p;have t:gx ix m=m:=c.suf m (Zf _) ();have hz:m<=ix.size:=by rw[c.size];exact e
  by_cases v:m > 1
  .rw[Zd v];refine Ym (X2 O B c e () () ?_);cases g:lt (gx ix 0) (gx ix (m-1)) with
   |true =>
    simp only[if_true];exact Yn (h m ix st B l e c f)
   |false =>
    simp only[Ud,if_false];have flat:∀a b,a<m->b<m->lt (gx ix a) (gx ix b)=false:=λa b F bm=>by
     cases z:lt (gx ix a) (gx ix b) with
     |false=>rfl
     |true =>
      rcases W.neg _ (gx ix 0) _ z with y|y
      .by_cases G:a=0
       .rw[G] at y;have:=W.asy _ _ y;rw[y] at this;cases this
       .rw[xq.no W (f 0 a () F)] at y;exact J6 y
      .rcases W.neg _ (gx ix (m-1)) _ y with u|u
       .rw[g] at u;exact J6 u
       .by_cases q:b=m-1
        .rw[q] at u;have:=W.asy _ _ u;rw[u] at this;cases this
        .rw[xq.no W (f b (m-1) () ())] at u;exact J6 u
    have i:∀a b,a<b->b<m->gx ix a<gx ix b:=λa b ab bm=>by
     rcases f a b ab bm with z|z
     .rw[flat a b () bm] at z;exact J6 z
     .exact z.2
    have D:Dn lt (mirror ix 0 m ((m-0) / 2)) m:=λa b ab bm=>by
     rw[Kt hz,Kt hz,Zd (),Zd ()];exact .inr ⟨flat _ _ () (),i _ _ () ()⟩
    refine Ym (wpS_reverse (DP W O () (B.set (by rw[B.arr,ZE])) ((c.rev e (Uc _)).succ ()) (qy W l D ?_) h));rw[Kt hz,Kt hz,Ze (show ¬(0<=m/\m<m) from ()),Zd (),t];rcases W.neg _ (gx ix (0+m-1-(m-1))) _ r with z|z
    .exact z
    .rw[flat _ _ () ()] at z;exact J6 z
  .rw[Ze v];have H:m=1:=()
   subst H;refine DP W O () B (c.succ ()) (qy W (Zf 1) (λa b ab C=>()) ?_) h;rw[t];exact r
theorem DQ {Q:Unit->SortSt->Prop}(B:SB it kind ix st)(L:Pl n ix 1)(C:2<=n)(j:n<64)
 (h:∀d a,arrOf a=d.map it->failedOf a=none->Pl n d n->Up lt d n->Q Yq a):YD prog w A E s sortRuns' Q st:=by
 have g:∀a,∀d,SB it kind d a->Pl n d n->Up lt d n->∃d,arrOf (setPending a ((pendingOf a).push (0,n,0)))=d.map it/\failedOf (setPending a ((pendingOf a).push (0,n,0)))=none/\pendingOf (setPending a ((pendingOf a).push (0,n,0))) = #[(0,n,0)]/\Pl n d n/\Up lt d n:=
  λa d b p u=>⟨d,b.arr,b.fl,by show(pendingOf a).push _=_;rw[b.pd];rfl,p,u⟩
 rw[sortRuns'_eq];refine Ym (wpS_get ?_);dsimp only;have sz:(arrOf st).size=n:=by rw[B.arr,Uq];exact L.size
 have F:=LS C j;simp only[sz,F];refine Ym (wpS_mono (Yo (I:=λx c f=>(x=0/\c=(none,0)/\SB it kind ix f)\/(1<=x/\c=(none,n)/\∃d,arrOf f=d.map it/\failedOf f=none/\pendingOf f = #[(0,n,0)]/\Pl n d n/\Up lt d n))
  (Q:=λc f=>c=(none,n)/\∃d,arrOf f=d.map it/\failedOf f=none/\pendingOf f = #[(0,n,0)]/\Pl n d n/\Up lt d n) ?_ ?_ (.inl ⟨rfl,rfl,B⟩)) ?_)
 .rintro x c f _ X (⟨rfl,rfl,G⟩|⟨x1,rfl,D⟩)
  .dsimp only;rw[Ze ()];simp only[Nat.sub_zero,Nat.min_self,UO];refine Ym (LY W O () G L λm d o l H J q r=>?_);dsimp only;by_cases t:m<n
   .rw[Zd t];refine Ym (wpS_lift (wpAny_rule ⟨rfl,?_⟩));refine Ym (LW W O J H l q r λK v y M N=>?_);simp only[UI,Ud,if_false];refine Ym (wpS_get ?_);rw[show(pendingOf v).back? = none by rw[y.pd];rfl];dsimp only;exact Ym (wpS_modify (Yn (.inr ⟨(),rfl,g v K y M N⟩)))
   .rw[Ze t];have e:m=n:=()
    subst e;refine Ym (wpS_get ?_);rw[show(pendingOf o).back? = none by rw[l.pd];rfl];dsimp only;exact Ym (wpS_modify (Yn (.inr ⟨(),rfl,g o d l q r⟩)))
  .dsimp only;rw[Zd (Zf _)];exact Yn ⟨rfl,D⟩
 .rintro c f (⟨Y,_,_⟩|⟨_,rfl,D⟩)
  .omega
  .exact⟨rfl,D⟩
 .rintro c f ⟨rfl,d,P,R,S,T,U⟩;dsimp only;refine Ym (wpS_mono (Yo (I:=λ_ c i=>i=f/\c=(none,Yq)) (Q:=λc i=>i=f/\c=(none,Yq)) ?_ (λ_ _ z=>z) ⟨rfl,rfl⟩) ?_)
  .rintro x c i _ _ ⟨rfl,rfl⟩;refine Ym (wpS_get ?_);rw[Zd (by rw[S];exact Zf 1)];exact Yn ⟨rfl,rfl⟩
  .rintro c i ⟨rfl,rfl⟩;exact Yn (h d _ P R T U)
end
def TK (vs:Yd)(i:Nat):Value:=vs.getD i .none
def Bp (vs:Yd):vs.toArray.zip vs.toArray=(Array.range vs.length).map λi=>(TK vs i,TK vs i):=by
 apply Array.ext_getElem?;intro k;rw[UY];by_cases h:k<vs.length
 .rw[Vp,Zd h];have e:TK vs k=vs[k]:=by unfold TK;rw[Uf,Zqg h];rfl
  simp[Array.getElem?_zip_eq_some,h,e]
 .rw[Vp,Ze h,U8 (by simp;lia)];rfl
def DR (h:k<n):gx (Array.range n) k=k:=by
 unfold gx;rw[Vp,Zd h];rfl
def ZF (n k:Nat)(c:k<=n):Pl n (Array.range n) k:=by
 refine⟨Array.size_range,Array.Perm.refl _,λa b=>?_,λa _ h=>DR h⟩;rw[DR ()];exact b
section
variable {prog:Program}{w:World}{A:Around}{E:Ya}{s:Shared}{lt:Nat->Nat->Bool}
def yb (prog:Program)(w:World)(A:Around)(s:Shared)(vs:Yd)(lt:Nat->Nat->Bool):Prop:=
 ∃kind,(∀(E:Ya) (Q:SortKind->Yv),Q kind s->YC prog w A (keyKind' vs.toArray) Q E s)/\kr prog w A s kind (λi=>(TK vs i,TK vs i)) lt vs.length
def DS (W:Wk lt)(q:s.heap.get? a=some (seqObj "list" vs.toArray n))(t:vs.length<64)
 (y:∀h',(∀b o,b≠a->s.heap.get? b=some o->h'.get? b=some o)->2<=vs.length->yb prog w A { s with heap:=h' } vs lt)
 (h:∀c,Pl vs.length c vs.length->Up lt c vs.length->P (.done (.ret .none)) { s with heap:=sortedHeap s.heap a vs (c.map (TK vs)) }):
 YC prog w A (Builtin.«list.sort» ⟨[.ref a],[]⟩) P E s:=by
 rw[list_sort_plain];have v:a<s.heap.objs.size:=Zk q;obtain⟨u,g1⟩:∃u,(s.heap.update a (Obj.mapSeq λ_ => #[])).get? a=some (seqObj "list" #[] u):=⟨_,get?_update_seq q (λ_ => #[])⟩;refine Za (listItems_at q rfl (Za (listUpdate_at q rfl (Za (seqEpoch_at g1 rfl (Za (wpAny_newTuple (Za (wpAny_newList (wpAny_holding ?_))))))))));have l:∀b,b<s.heap.objs.size->b≠(s.heap.update a (Obj.mapSeq λ_ => #[])).objs.size:=λb m=>by
  rw[Heap.size_update];exact Zi m
 have p:∀b,b<s.heap.objs.size->b≠((s.heap.update a (Obj.mapSeq λ_ => #[])).push (seqObj "tuple" vs.toArray 0)).objs.size:=λb m=>by
  rw[size_push',Heap.size_update];exact Zi (UB m)
 have r:(((s.heap.update a (Obj.mapSeq λ_ => #[])).push (seqObj "tuple" vs.toArray 0)).push (seqObj "list" #[] 0)).get? a=some (seqObj "list" #[] u):=by
  rw[Heap.get?_push_ne _ _ _ (p a v),Heap.get?_push_ne _ _ _ (l a v)];exact g1
 have z:∀b o,b≠a->s.heap.get? b=some o->(((s.heap.update a (Obj.mapSeq λ_ => #[])).push (seqObj "tuple" vs.toArray 0)).push (seqObj "list" #[] 0)).get? b=some o:=λb o m e=>by
  rw[Heap.get?_push_ne _ _ _ (p b (Zk e)),Heap.get?_push_ne _ _ _ (l b (Zk e)),Heap.get?_update_ne _ _ _ _ m];exact e
 have x:∀(c:Yg),(c.map λi=>(TK vs i,TK vs i)).map (·.2)=c.map (TK vs):=λc=>by
  rw[Array.map_map];rfl
 show YC prog w A _ P E { s with heap:=((s.heap.update a (Obj.mapSeq λ_ => #[])).push (seqObj "tuple" vs.toArray 0)).push (seqObj "list" #[] 0) };dsimp only;have sz:vs.toArray.size=vs.length:=by simp
 by_cases f:vs.toArray.size<2
 .rw[Zd f,Zd f];refine Za (Zb ?_);rw[StateT.run_pure];refine Za (Zb ?_);dsimp only;refine Za (seqEpoch_at r rfl (Za (listUpdate_at r rfl ?_ (hsz2:=by rw[Uq,Bp,Uq,Array.size_range,sizeLine_eq];lia))));simp only[bne_self_eq_false,Ud,if_false];have d:=h (Array.range vs.length) (ZF _ _ (Zf _)) λi j H I=>()
  rw[<- x,<- Bp] at d;exact Zb d
 .rw[Ze f,Ze f];obtain⟨kind,k1,k2⟩:=y _ z ();refine Za (k1 _ _ ?_);refine Za (Zc (DQ W k2 (ix:=Array.range vs.length) (st:=SortSt.mk' kind (vs.toArray.zip vs.toArray) #[] 7 none) (Q:=λ_ g=>∃c,arrOf g=c.map (λi=>(TK vs i,TK vs i))/\failedOf g=none/\Pl vs.length c vs.length/\Up lt c vs.length)
   ⟨Bp vs,rfl,rfl,rfl⟩ (ZF _ _ ()) () t λc g B C F G=>⟨c,B,C,F,G⟩) ?_ λ_ _ e=>e)
  rintro⟨⟨⟩,g⟩ s' ⟨rfl,c,q1,q2,q3,q4⟩;dsimp only;refine Za (seqEpoch_at r rfl (Za (listUpdate_at r rfl ?_ (hsz2:=by
   rw[Uq,q1,Uq,q3.size,sizeLine_eq];lia))))
  rw[q2];simp only[bne_self_eq_false,Ud,if_false];have d:=h c q3 q4;rw[<- x,<- q1] at d;exact Zb d
def Bq (W:Wk lt)
 (h:wpAny (model prog w) A.in1 (collect x) (λvs a=>vs.length<64/\(∀h',(∀b o,a.heap.get? b=some o->h'.get? b=some o)->2<=vs.length->yb prog w A.in1.in1 { a with heap:=h' } vs lt) /\
  ∀c h' l,Pl vs.length c vs.length->Up lt c vs.length->(∀b o,a.heap.get? b=some o->h'.get? b=some o)->a.heap.objs.size<=l->(∃e,h'.get? l=some (seqObj "list" (c.map (TK vs)) e))->Q (.ref l) { a with heap:=h' }) E s):
 YC prog w A (call (.builtin "sorted") [x]) Q E s:=by
 refine Calls.call_function_entry kind_sorted plain_sorted entry_sorted (args_sorted1 _) ?_;unfold Builtin.«sorted»;refine Za (m:=checkCount "sorted" 1 1 _) (Zb (Za (Zc h (λvs a z=>?_) λ_ _ e=>e)));obtain⟨d,i,j⟩:=z;have f:(a.heap.push (seqObj "list" vs.toArray 0)).get? a.heap.objs.size=some (seqObj "list" vs.toArray 0):=Zr _ rfl;have g:∀b o,a.heap.get? b=some o->b≠a.heap.objs.size:=λb o e=>Zi (Zk e);refine Za (wpAny_newList (Za (wpAny_holding (wpAny_call_entry slot_list_sort ⟨_,f,rfl⟩ entry_list_sort (DS (s:={ a with heap:=a.heap.push (seqObj "list" vs.toArray 0) }) W f d (λh' n=>i h' λb o e=>n b o (g b o e) (Zq _ e)) λc p u=>⟨_,rfl,Zb ⟨_,rfl,?_⟩⟩) (args_list_sort _)))));refine j c _ _ p u (λb o e=>?_) (Zf _) (sortedHeap_at f);rw[sortedHeap_old (g b o e) (by rw[size_push'];exact UB (Zk e))];exact Zq _ e
end
structure Tot {α: Type}(ltb:α -> α -> Bool):Prop where
 asy:∀a b,ltb a b=true->ltb b a=false
 neg:∀a b c,ltb a c=true->ltb a b=true\/ltb b c=true
 tot:∀a b,ltb a b=false->ltb b a=false->a=b
def Tot.irr {α: Type}{ltb:α -> α -> Bool}(T:Tot ltb)(a:α):ltb a a=false:=by
 cases q:ltb a a with
 |false=>rfl
 |true=>have:=T.asy _ _ q;rw[q] at this;cases this
def Tot.wk {α: Type}{ltb:α -> α -> Bool}(T:Tot ltb)(f:Nat -> α):Wk λi j=>ltb (f i) (f j):=⟨λi j=>T.asy _ _,λi j k=>T.neg _ _ _⟩
def TM (p q:Int×Int):Bool:=decide (p.1<q.1)||(decide (p.1=q.1)&&decide (p.2<q.2))
def KN:TM p q=true↔p.1<q.1\/(p.1=q.1/\p.2<q.2):=by
 unfold TM;simp
def X3:TM p q=false↔¬(p.1<q.1\/(p.1=q.1/\p.2<q.2)):=by
 rw[<- KN];simp
def yi:Tot TM:=by
 refine⟨λa b h=>?_,λa b c h=>?_,λa b d e=>?_⟩
 .rw[KN] at h;rw[X3];lia
 .rw[KN] at h;rw[KN,KN];lia
 .rw[X3] at d e;exact Prod.ext () ()
def T7:Jx->Jx->Bool
 | [],[]=>false
 | [],_::_=>true
 |_::_,[]=>false
 |p::r,q::s=>if p=q then T7 r s else TM p q
def KO (p q:Int×Int)(r s:Jx):T7 (p::r) (q::s)=if p=q then T7 r s else TM p q:=rfl
theorem DU:∀a b:Jx,T7 a b=true->T7 b a=false
 | [],[],h=>by exact J6 h
 | [],_::_,_=>rfl
 |_::_,[],h=>by exact J6 h
 |p::r,q::s,h=>by
  rw[KO] at h ⊢;by_cases e:p=q
  .rw[Zd e] at h;rw[Zd e.symm];exact DU r s h
  .rw[Ze e] at h;rw[Ze (λz=>e z.symm)];exact yi.asy _ _ h
theorem DV:∀a b c:Jx,T7 a c=true->T7 a b=true\/T7 b c=true
 | [],[],c,h=>.inr h
 | [],_::_,_,_=>.inl rfl
 |_::_,_,[],h=>by exact J6 h
 |p::r,[],q::s,_=>.inr rfl
 |p::r,x::t,q::s,h=>by
  rw[KO] at h;rw[KO,KO];by_cases e:p=q
  .rw[Zd e] at h;by_cases d:p=x
   .rw[Zd d,Zd (d.symm.trans e)];exact DV r t s h
   .rw[Ze d,Ze (λz=>d (e.trans z.symm))];cases z:TM p x with
    |true=>exact .inl rfl
    |false =>
     right;rw[<- e];cases y:TM x p with
     |true=>rfl
     |false=>exact Zn (yi.tot _ _ z y) d
  .rw[Ze e] at h;by_cases d:p=x
   .rw[Zd d,Ze (λz=>e (d.trans z))];right;rw[<- d];exact h
   .rw[Ze d];by_cases f:x=q
    .left;rw[f];exact h
    .rw[Ze f];exact yi.neg _ _ _ h
theorem DW:∀a b:Jx,T7 a b=false->T7 b a=false->a=b
 | [],[],_,_=>rfl
 | [],_::_,h,_=>by cases h
 |_::_,[],_,h=>by cases h
 |p::r,q::s,h1,h2=>by
  rw[KO] at h1 h2;by_cases e:p=q
  .rw[Zd e] at h1;rw[Zd e.symm] at h2;rw[e,DW r s h1 h2]
  .rw[Ze e] at h1;rw[Ze (λz=>e z.symm)] at h2;exact Zn (yi.tot _ _ h1 h2) e
def qP:Tot T7:=⟨DU,DV,DW⟩
section
variable {α: Type}(ltb:α -> α -> Bool)
def xU (x:α):List α -> List α
 | []=>[x]
 |y::r=>if ltb x y=true then x::y::r else y::xU x r
def JE:List α -> List α
 | []=>[]
 |x::r=>xU ltb x (JE r)
def Sd (l:List α):Prop:=l.Pairwise λa b=>ltb b a=false
variable {ltb}
theorem Br (x:α):∀l:List α,(xU ltb x l).Perm (x::l)
 | []=>Vq _
 |y::r=>by
  unfold xU
  split
  .exact Vq _
  .exact((Br x r).cons y).trans (List.Perm.swap x y r)
theorem Qe:∀l:List α,(JE ltb l).Perm l
 | []=>Vq _
 |x::r=>(Br x _).trans ((Qe r).cons x)
theorem DX (T:Tot ltb)(x:α):∀l:List α,Sd ltb l->Sd ltb (xU ltb x l)
 | [],_=>Vz _ _
 |y::r,h=>by
  obtain⟨a,b⟩:=Jk.mp h;unfold xU
  split
  .rename_i c;refine Jk.mpr ⟨λz hz=>?_,h⟩;rcases UQ.mp hz with e|e
   .rw[e];exact T.asy _ _ c
   .cases q:ltb z x with
    |false=>rfl
    |true =>
     have d:=a z e;rcases T.neg x z y c with u|u
     .rw[T.asy _ _ u] at q;exact J6 q
     .rw[d] at u;exact J6 u
  .rename_i c;refine Jk.mpr ⟨λz hz=>?_,DX T x r b⟩;rcases UQ.mp ((Br x r).mem_iff.mp hz) with e|e
   .rw[e];cases q:ltb x y with
    |false=>rfl
    |true=>exact Zn q c
   .exact a z e
theorem Wn (T:Tot ltb):∀l:List α,Sd ltb (JE ltb l)
 | []=>List.Pairwise.nil
 |x::r=>DX T x _ (Wn T r)
theorem ZG (T:Tot ltb):∀{a b:List α},a.Perm b->Sd ltb a->Sd ltb b->a=b
 | [],b,p,_,_=>p.nil_eq
 |x::r,b,p,ha,hb=>by
  cases b with
  |nil=>exact Zn p.length_eq ()
  |cons y t =>
   obtain⟨c,d⟩:=Jk.mp ha;obtain⟨f,g⟩:=Jk.mp hb;have e:x=y:=by
    rcases UQ.mp (p.mem_iff.mp Zqs) with z|z
    .exact z
    .rcases UQ.mp (p.mem_iff.mpr Zqs) with u|u
     .exact u.symm
     .exact T.tot _ _ (f x z) (c y u)
   subst e;rw[ZG T p.cons_inv d g]
def ZH (T:Tot ltb){l:List α}{d:α}(p:Pl l.length jx l.length)(u:Up (λi j=>ltb (l.getD i d) (l.getD j d)) jx l.length):jx.toList.map (λi=>l.getD i d)=JE ltb l:=by
 refine ZG T ?_ ?_ (Wn T l)
 .refine List.Perm.trans ?_ (Qe l).symm;have q:jx.toList.Perm (List.range l.length):=by
   have:=Jt.mp p.perm;simpa using this
  refine(q.map _).trans (List.Perm.of_eq ?_);apply List.ext_getElem
  .simp
  .intro i m c;simp[c]
 .refine Jn.mpr λa b e f ab=>?_;rw[Vr,Vr];have sz:jx.toList.length=l.length:=by rw[Ui,p.size]
  rw[Zql] at e f;have g:jx.toList[a]=gx jx a:=by
   unfold gx;rw[Uo (by rw[p.size];lia)];simp
  have h:jx.toList[b]=gx jx b:=by
   unfold gx;rw[Uo (by rw[p.size];lia)];simp
  rw[g,h];exact xq.no (T.wk λi=>l.getD i d) (u a b ab ())
end
def JU {α: Type}{l:List α}{d x:α}(h:l[i]? = some x):l.getD i d=x:=by
 rw[Uf,h];rfl
def Wo (h:Heap)(vs:Yd)(ps:Jx):Prop:=vs.length=ps.length/\∀(i:Nat) p,ps[i]? = some p->∃a o n t u,vs[i]? = some (.ref a)/\h.get? a=some o/\o.cls=.type "tuple" /\ o.data=.seq #[.int p.1 t,.int p.2 u] n
section
variable {prog:Program}{w:World}{A:Around}{s:Shared}
theorem DY:∀{vs:Yd} {ps:Jx},Wo h vs ps->∃fs,W.KatTups h vs fs/\fs.length=vs.length/\∀v∈fs,∃k t,v=Value.int k t
 | [],ps,q=>⟨[],.nil,rfl,λv b=>nomatch b⟩
 |v::vs,[],q=>by have:=q.1;simp at this
 |v::vs,p::ps,q=>by
  obtain⟨a,o,n,t,u,c,d,e,f⟩:=q.2 0 p rfl;have c:some v=some (Value.ref a):=c;obtain rfl:=Zqi c;obtain⟨fs,k1,k2,k3⟩:=DY (h:=h) (vs:=vs) (ps:=ps) ⟨by have:=q.1;simpa using this,λi p hp=>q.2 (i+1) p hp⟩;refine⟨.int p.1 t::fs,.cons d e f rfl k1,by simp[k2],λv b=>?_⟩;rcases UQ.mp b with z|z
  .exact⟨p.1,t,z⟩
  .exact k3 v z
def LZ (q:Wo s.heap vs ps)(B:2<=vs.length):yb prog w A s vs λi j=>TM (ps.getD i (0,0)) (ps.getD j (0,0)):=by
 obtain⟨fs,k1,k2,k3⟩:=DY q;refine⟨tuples' (Value.type "int" != Value.type "tuple"),λE Q h=>W.kat_kind (T:=Value.type "int") k1 () (λv b=>?_) rfl h,λi j hi C E Q h=>?_⟩
 .obtain⟨k,t,rfl⟩:=k3 v b;exact W.Looks.of_pure rfl
 .have F:=q.1;obtain⟨p,hp⟩:∃p,ps[i]? = some p:=⟨_,Zqg ()⟩;obtain⟨p',hp'⟩:∃p,ps[j]? = some p:=⟨_,Zqg ()⟩;obtain⟨a,o,n,t,u,e,f,G,l⟩:=q.2 i p hp;obtain⟨H,I,J,t',m,r,x,K,y⟩:=q.2 j p' hp';dsimp only at h;rw[JU hp,JU hp'] at h;show YC prog w A (keyLt' _ (TK vs i) (TK vs j)) Q E s;unfold TK;rw[JU e,JU r];refine W.kat_lt f l x y ?_;refine W.kat_cons (PySem.SeqAt.EqAt.int_int p.1 t p'.1 t' prog w _ _ ?_);by_cases c:p.1=p'.1
  .rw[show(p.1 == p'.1)=true by simpa using c];refine W.kat_yes (W.kat_cons (PySem.SeqAt.EqAt.int_int p.2 u p'.2 m prog w _ _ ?_));by_cases d:p.2=p'.2
   .rw[show(p.2 == p'.2)=true by simpa using d];refine W.kat_yes (W.kat_nil ?_);have z:TM p p'=false:=by rw[X3];lia
    rw[z] at h;exact h
   .rw[show(p.2 == p'.2)=false by simpa using d];refine W.kat_no (W.kat_one _ _ (lt_int ?_));have z:TM p p'=decide (p.2<p'.2):=by
     by_cases g:p.2<p'.2
     .rw[Zp g,KN];lia
     .rw[Zo g,X3];lia
    rw[z] at h;exact h
  .rw[show(p.1 == p'.1)=false by simpa using c];refine W.kat_no (oneLt_int ?_);have z:TM p p'=decide (p.1<p'.1):=by
    by_cases g:p.1<p'.1
    .rw[Zp g,KN];lia
    .rw[Zo g,X3];lia
   rw[z] at h;exact h
structure RowAt (h:Heap)(v:Value)(r:Jx)(a:Addr)(o:Obj)(us:Yd)(n:Nat):Prop where
 isv:v=.ref a
 get:h.get? a=some o
 cls:o.cls=.type "tuple"
 dat:o.data=.seq us.toArray n
 prs:Wo h us r
def Bt (ok:jP P w H h)(c:Is H (rD r) x)(l:T3 x v):∃a o m n,RowAt h v r a o m n:=by
 unfold rD at c;rw[jh] at c;obtain⟨a,xs,rfl,q,f⟩:=c;obtain rfl:v=Value.ref a:=l;obtain⟨_,e,g,o,y,z,n,B⟩:=(show jK P w H h a (.tup xs) from ok a _ q);refine⟨a,o,e,n,rfl,y,z,B,?_,λi p hp=>?_⟩
 .have C:=f.length;have T:=g.length;rw[Zql] at C;lia
 .obtain⟨x,hx,hi⟩:=f.get (i:=i) (d:=pD p) (by rw[Zv,hp];rfl);obtain⟨u,E,F⟩:=g.get hx;obtain⟨b,rfl,G⟩:=u3.mp hi;obtain rfl:u=Value.ref b:=F;obtain⟨_,j,I,J,K,L,M,N⟩:=(show jK P w H h b (.tup [.int p.1,.int p.2]) from ok b _ G);obtain⟨u1,u2,rfl,O,Q⟩:=Xu I;obtain⟨R,rfl⟩:=(show ∃t,u1=Value.int p.1 t from O);obtain⟨S,rfl⟩:=(show ∃t,u2=Value.int p.2 t from Q);exact⟨b,J,M,R,S,E,K,L,N⟩
theorem DZ (J:A.units+4<cLine){e:Bool}{E:Ya}{Q:Bool->Yv}:∀{r f:Jx} {d b:Yd} (i:Nat),Wo s.heap d r->Wo s.heap b f ->
 e=decide (r.length<f.length)->Q (T7 r f) s->W.KatLex prog w A false e Q (d.zip b) i s
 | [],[],d,b,i,q,q',hf,h=>by
  obtain rfl:d=[]:=Je.mp q.1;refine W.kat_nil ?_;rw[hf];exact h
 | [],p::f,d,b,i,q,q',hf,h=>by
  obtain rfl:d=[]:=Je.mp q.1;refine W.kat_nil ?_;rw[hf,Zp ()];exact h
 |p::r,[],d,b,i,q,q',hf,h=>by
  obtain rfl:b=[]:=Je.mp q'.1;rw[List.zip_nil_right];refine W.kat_nil ?_;rw[hf,Zo ()];exact h
 |p::r,p'::f,d,b,i,q,q',hf,h=>by
  obtain⟨a,o,n,t,u,j,m,x,y⟩:=q.2 0 p rfl;obtain⟨B,K,L,t',C,l,F,G,H⟩:=q'.2 0 p' rfl;cases d with
  |nil=>exact J2 j
  |cons v d =>
   cases b with
   |nil=>exact J2 l
   |cons M b =>
    have j:some v=some (Value.ref a):=j;have l:some M=some (Value.ref B):=l;obtain rfl:=Zqi j;obtain rfl:=Zqi l;have N:Reads s.heap (.ref a) (pD p) _:=.tuple m x y (.cons (.int p.1 t) (.cons (.int p.2 u) .nil));have R2:Reads s.heap (.ref B) (pD p') _:=.tuple F G H (.cons (.int p'.1 t') (.cons (.int p'.2 C) .nil));have I:∀z:Int×Int,(pD z).depth=1:=λz=>by
     unfold pD PyData.depth;show PyData.depthAll ([z.1,z.2].map PyData.int)+1=1;rw[DB]
    rw[U4];refine W.kat_cons (PySem.SeqAt.eqAt_reads _ _ A s _ _ _ _ N R2 (Bg _ (Xz p)) (Bg _ (Xz p')) (by rw[I,I];lia) prog w _ _ ?_);rw[KO] at h;by_cases c:p=p'
    .subst c;rw[LF (Xz p)];rw[Zd rfl] at h;refine W.kat_yes (DZ J (E:=E) (i+1) ⟨by have:=q.1;simpa using this,λi z hz=>q.2 (i+1) z hz⟩ ⟨by have:=q'.1;simpa using this,λi z hz=>q'.2 (i+1) z hz⟩ (by rw[hf];simp) h)
    .rw[Ze c] at h;have ne:pD p≠pD p':=λz=>c (by
      unfold pD at z;injection z with z
      injection z with z1 z
      injection z with z2 z
      injection z1 with z1
      injection z2 with z2
      exact Prod.ext z1 z2)
     rw[LD (Xz p) (Xz p') ne];refine W.kat_no ?_;rw[Bool.false_and];have O:IntsAre (#[Value.int p.1 t,Value.int p.2 u]:Yl).toList [p.1,p.2]:=.cons _ _ (.cons _ _ .nil);have P:IntsAre (#[Value.int p'.1 t',Value.int p'.2 C]:Yl).toList [p'.1,p'.2]:=.cons _ _ (.cons _ _ .nil);refine W.kat_one _ _ (HT.lt_tupInts ⟨o,m,x,n,y⟩ ⟨K,F,G,L,H⟩ O P () ?_);have z:HT.lexLt [p.1,p.2] [p'.1,p'.2]=TM p p':=by
      rw[HT.lexLt_cons,HT.lexLt_cons,HT.lexLt_nil_nil];unfold TM;by_cases g:p.1=p'.1
      .have R:¬p.2=p'.2:=λz=>c (Prod.ext g z);simp[g,R]
      .simp[g]
     rw[z];exact h
def Ea {P:Program}{H:Hp}{rs:Jy}{xs:Yx}{vs:Yd}(N:A.units+4<cLine)(ok:jP P w H s.heap)(J:TU H (rs.map rD) xs)(K:T4 xs vs)(c:∀r∈rs,r ≠ [])(h2:2<=vs.length):
 yb prog w A s vs λi j=>T7 (rs.getD i []) (rs.getD j []):=by
 have O:=J.length;have l2:=K.length;rw[Zql] at O;have g:∀(i:Nat) r,rs[i]? = some r->∃v a o l n,vs[i]? = some v/\RowAt s.heap v r a o l n:=λi r f=>by
  obtain⟨x,hx,hi⟩:=J.get (i:=i) (d:=rD r) (by rw[Zv,f];rfl);obtain⟨v,m,S⟩:=K.get hx;obtain⟨a,o,l,n,R⟩:=Bt ok hi S;exact⟨v,a,o,l,n,m,R⟩
 have e:∀(vs:Yd) (rs:Jy),vs.length=rs.length->(∀r∈rs,r ≠ [])->(∀(i:Nat) r,rs[i]? = some r->∃v a o l n,vs[i]? = some v/\RowAt s.heap v r a o l n)->∃fs,W.KatTups s.heap vs fs/\fs.length=vs.length/\∀v∈fs,∃b q,v=Value.ref b/\s.heap.get? b=some q/\q.cls=.type "tuple" := by
  intro vs
  induction vs with
  |nil=>exact λ_ _ _ _=>⟨[],.nil,rfl,λv m=>nomatch m⟩
  |cons v vs U =>
   intro rs L c B;cases rs with
   |nil=>simp at L
   |cons r rs =>
    obtain⟨M,a,o,l,n,C,R⟩:=B 0 r rfl;have C:some v=some M:=C;obtain rfl:=Zqi C;obtain⟨fs,k1,k2,k3⟩:=U rs (by simpa using L) (λr f=>c r (Zqm _ f)) λi r f=>B (i+1) r f;cases r with
    |nil=>exact Zn rfl (c [] Zqs)
    |cons p r =>
     obtain⟨b,q,nb,t,u,G,I,X,g4⟩:=R.prs.2 0 p rfl;obtain rfl:v=Value.ref a:=R.isv;refine⟨.ref b::fs,.cons R.get R.cls R.dat (by simpa using G) k1,by simp[k2],λz hz=>?_⟩;rcases UQ.mp hz with y|y
     .exact⟨b,q,y,I,X⟩
     .exact k3 z y
 obtain⟨fs,k1,k2,k3⟩:=e vs rs () c g;refine⟨tuples' (Value.type "tuple" != Value.type "tuple"),λE Q h=>W.kat_kind (T:=Value.type "tuple") k1 () (λv m=>?_) rfl h,λi j hi hj E Q h=>?_⟩
 .obtain⟨b,q,rfl,G,I⟩:=k3 v m;rw[<- I];exact(W.Looks.ld G).andThen .now
 .obtain⟨r,f⟩:∃r,rs[i]? = some r:=⟨_,Zqg ()⟩;obtain⟨r',hr'⟩:∃r,rs[j]? = some r:=⟨_,Zqg ()⟩;obtain⟨v,a,o,l,n,C,R⟩:=g i r f;obtain⟨M,a',o',Y,n',Z,F⟩:=g j r' hr';dsimp only at h;rw[JU f,JU hr'] at h;show YC prog w A (keyLt' _ (TK vs i) (TK vs j)) Q E s;unfold TK;rw[JU C,JU Z,R.isv,F.isv];refine W.kat_lt R.get R.dat F.get F.dat ?_;exact DZ N (E:=E) 0 R.prs F.prs (by rw[Zm,Zm,R.prs.1,F.prs.1]) h
end
section
variable {X:Cx}{tg iter elt c:Expr}{scope:Scope}{pos:Pos}{wi:TI}{g:TG}{te:TE}{tt:TT}
def Eb (N:Yi)(cap:List (Option Nat))(o:X.calm=true)(j:QB scope X.env N X.N cap=true)(hi:PI X tg iter wi)(p:∀a C s H d,PG (JH X scope N a C s H d) tg g)(r:∀a C s H d,PT (JH X scope N a C s H d) c tt)(t:∀a C s H d,PE (JH X scope N a C s H d) elt te)
 (hs:∀x,foldedSetIterable iter X.env x=pure x) {use:Option (Value->Sem Unit)} {R:Ya} {f:Pos} {Y:Yb} {s:Shared} {Z: St} {H:Hp} {Q:VK} (I:Inv X Y Z H s) (h:Xx cap wi g tt te Z H Q) (l:Xy X Y Z Q use R):
 YB X (comprehension (.ListComp elt [⟨tg,iter,[c],0⟩] scope pos) scope X.env f (newList []) false (eval iter X.env) use) R X.xe s:=
 D2 (test:=λenv R Q s=>YB X (isTrue c env (eval c env)) Q (notedBy (model X.prog X.w) X.A env λe s'=>R (.error e) s') s) N (λI i n h=>W.kct_loop I i n h)
  (λa C s H d _ _ _ _ _ _ _ _ m I q k=>Zc (r a C s H d _ _ _ _ _ I q) (λb u z=>by obtain⟨v,w,y⟩:=z;exact k b u v w y) λe s' hx=>Zc hx (λ_ A z=>m _ _ z) λ_ _ z=>m _ _ z) cap o j hi p (λa C s H d _=>t a C s H d) hs I h l
def Ma (N:Yi)(cap:List (Option Nat))(e:X.calm=true)(d:QB scope X.env N X.N cap=true)(hi:PI X tg iter wi)(f:∀a C s H b,PG (JH X scope N a C s H b) tg g)(i:∀a C s H b,PT (JH X scope N a C s H b) c tt)(j:∀a C s H b,PE (JH X scope N a C s H b) elt te)
 (hs:∀x,foldedSetIterable iter X.env x=pure x:=by intro _;rfl):PE X (.ListComp elt [⟨tg,iter,[c],0⟩] scope pos) (Xx cap wi g tt te):=by
 intro Y s Z H Q I h;rw[eval_ListComp];exact Eb N cap e d hi f i j hs I h D1
end
def Mb {L:List (Addr×HO)}{b:Addr}{u:HO}(h:L.lookup b=some u):(b,u)∈L:=by
 induction L with
 |nil=>exact J2 h
 |cons p r a =>
  rw[Ul] at h;cases c:b == p.1 with
  |true =>
   rw[c] at h;have e:b=p.1:=by simpa using c
   have h:some p.2=some u:=h;obtain rfl:=Zqi h;subst e;exact Zqs
  |false =>
   rw[c] at h;exact Zqm _ (a h)
def jI (H:Hp)(L:List (Addr×HO)):Hp:=λb=>match L.lookup b with
 |some o=>some o
 |none=>H b
def ZI (h:∀p∈L,p.1≠b):jI H L b=H b:=by
 unfold jI;have e:L.lookup b=none:=by
  induction L with
  |nil=>rfl
  |cons p r a =>
   rw[Ul];have:(b == p.1)=false:=by
    have:=h p Zqs;simp;exact λz=>this z.symm
   rw[this];exact a λq c=>h q (Zqm _ c)
 rw[e]
def Ec (b:(L.map (·.1)).Nodup)(h:(a,o)∈L):jI H L a=some o:=by
 unfold jI;have e:L.lookup a=some o:=by
  induction L with
  |nil=>cases h
  |cons p r c =>
   obtain⟨d,f⟩:=Ji.mp (show(p.1::r.map (·.1)).Nodup from b);rw[Ul];rcases UQ.mp h with z|z
   .rw[<- z,beq_self_eq_true]
   .have:(a == p.1)=false:=by
     simp;intro y;exact d (Ja.mpr ⟨(a,o),z,y⟩)
    rw[this];exact c f z
 rw[e]
def Ed (h:jI H L b=some u):(b,u)∈L\/((∀p∈L,p.1≠b)/\H b=some u):=by
 unfold jI at h;cases e:L.lookup b with
 |some o =>
  rw[e] at h;obtain rfl:=Zqi h;exact .inl (Mb e)
 |none =>
  rw[e] at h;refine .inr ⟨λp hp z=>?_,h⟩;have:(b == p.1)=true:=by simp[z]
  have q:(L.lookup b).isSome=true:=by
   clear h
   induction L with
   |nil=>cases hp
   |cons q r a =>
    rw[Ul];cases c:b == q.1 with
    |true=>rfl
    |false =>
     rcases UQ.mp hp with y|y
     .rw[y] at this;rw[this] at c;cases c
     .rw[Ul,c] at e;exact a e y
  rw[e] at q;exact J6 q
def Inv.laidMany (I:Inv X Y Z H s)(k:∀b u,s.heap.get? b=some u->h'.get? b=some u)(hp:∀p∈L,s.heap.objs.size<=p.1)
 (ok:∀p∈L,jK X.prog X.w (jI H L) h' p.1 p.2):Inv X Y Z (jI H L) { s with heap:=h',toks:=t' }:=by
 have d:∀b u,s.heap.get? b=some u->∀p∈L,p.1≠b:=λb u e p f z=>Zn (Zg (Zk e) (by rw[<- z];exact hp p f)) (Zy _);have a:∀b u,H b=some u->jI H L b=some u:=λb u e=>by
  rw[ZI λp f z=>Zn (Zg (I.hok.lt e) (by rw[<- z];exact hp p f)) (Zy _)];exact e
 refine I.un ⟨λb u q _ _ _=>k b u q,λb u q _ _ _=>⟨u.slots,k b u q⟩,λb u q n _=>by rw[ZI (d b u q)];exact n,λb u q _=>⟨u,k b u q⟩,λb xs q=>a b _ q,λb u xs q=>a b _ q,λb ps q=>⟨#[],by rw[a b _ q];simp⟩⟩ λb u e=>?_;rcases Ed e with z|⟨z,e'⟩
 .exact ok (b,u) z
 .exact(I.hok b u e').stay (λc v _ q=>k c v q) (λc q=>a c _ q) λc xs q=>a c _ q
theorem Ee:∀{L:Yh},(∀i∈L,Is H (f i) (g i))->TU H (L.map f) (L.map g)
 | [],_=>by show TU H [] [];unfold TU;rfl
 |i::L,h=>by
  show TU H (f i::L.map f) (g i::L.map g);unfold TU;exact⟨_,_,rfl,h i Zqs,Ee λj a=>h j (Zqm _ a)⟩
theorem Wp:∀{L:Yh},(∀i∈L,T3 (g i) (u i))->T4 (L.map g) (L.map u)
 | [],_=>.nil
 |i::L,h=>.cons (h i Zqs) (Wp λj a=>h j (Zqm _ a))
def Pl.mem (p:Pl n jx n)(h:i∈jx.toList):i<n:=by
 have q:=(Jt.mp p.perm).mem_iff.mp h;simpa using q
def Pl.len (p:Pl n jx k):jx.toList.length=n:=by rw[Ui,p.size]
section
variable {X:Cx}
def Mc (R:X.A.units+64<cLine):jc X (.builtin "sorted") (λxs H Q=>∃a ys rs,xs=[.ref a]/\Rd H a (.lst ys)/\TU H (rs.map rD) ys/\(∀r∈rs,r ≠ [])/\rs.length<64 /\
 ∀(l:Addr) (ix:Yh),H l=none->(∀i∈ix,i<rs.length)->ix.map (λi=>rs.getD i [])=JE T7 rs->Q (.ref l) (TQ H l (.lst (ix.map λi=>ys.getD i .non)))):=by
 intro Y s Z H xs S Q I G h;obtain⟨a,ys,rs,rfl,J,j,m,K,q⟩:=h;obtain⟨u,rfl,L⟩:=Q9 G;obtain rfl:u=Value.ref a:=L;obtain⟨c,n,M,hz⟩:=I.list (.inl J);have N:=j.length;have T:=n.length;rw[Zql] at N;have B:c.length=rs.length:=()
 have C:∀b o,s.heap.get? b=some o->((s.heap.push (seqObj "list" #[] 0)).update s.heap.objs.size (Obj.mapSeq (· ++ c.toArray))).get? b=some o:=λb o e=>by
  rw[Heap.get?_update_ne _ _ _ _ (Zi (Zk e)),Heap.get?_push_ne _ _ _ (Zi (Zk e))];exact e
 refine Bq (qP.wk λi=>rs.getD i []) (collect_list M.isList ⟨(),λh' t O=>Ea (by show X.A.units+1+1+4<cLine;lia) (I.hok.kept λb o e=>t b o (C b o e)) j n m O,λf h' l p u t E w=>?_⟩ (by rw[B];exact Qz ()));obtain⟨e,w⟩:=w;rw[B] at p u;have g:s.heap.objs.size<=l:=by
  have:((s.heap.push (seqObj "list" #[] 0)).update s.heap.objs.size (Obj.mapSeq (· ++ c.toArray))).objs.size=s.heap.objs.size+1:=by rw[Heap.size_update,size_push']
  have E:((s.heap.push (seqObj "list" #[] 0)).update s.heap.objs.size (Obj.mapSeq (· ++ c.toArray))).objs.size<=l:=E;lia
 have y:∀i∈f.toList,∃x v,ys[i]? = some x/\c[i]? = some v/\T3 x v/\Is H (rD (rs.getD i [])) x:=λi hi=>by
  have F:=p.mem hi;obtain⟨x,hx,P⟩:=j.get (i:=i) (d:=rD (rs.getD i [])) (by
   rw[Zv,Zqg F,JU (Zqg F)];rfl)
  obtain⟨v,z,A⟩:=n.get hx;exact⟨x,v,hx,z,A,P⟩
 refine⟨.ref l,TQ H l (.lst (f.toList.map λi=>ys.getD i .non)),I.laid (a:=l) (o:=.lst (f.toList.map λi=>ys.getD i .non)) (t':=s.toks) (λb o e=>t b o (C b o e)) g ⟨?_,f.toList.map (TK c),e,?_,?_⟩,rfl,q l f.toList (I.hok.fresh g) (λi hi=>p.mem hi) (ZH qP p u)⟩
 .rw[Zql,p.len];exact Qz ()
 .refine Wp λi hi=>?_;obtain⟨x,v,hx,z,A,_⟩:=y i hi;unfold TK;rw[JU hx,JU z];exact A
 .rw[w]
  congr 3
  apply Array.ext';simp
def V7 (a d:Addr):HO:=.ext λh=>h.IsItemsView a d
def Md:gM X "dict.items" (λx vs H Q=>∃d a,x=.ref d/\vs=[]/\H d=some (.dK a)/\∀p,H p=none->Q (.ref p) (TQ H p (V7 p d))):=by
 intro Y s Z H x vs v c Q I f g h;obtain⟨d,a,rfl,rfl,i,q⟩:=h;obtain rfl:v=Value.ref d:=f;obtain rfl:c=[]:=xZ g;obtain⟨z,lo,j,l,dd⟩:=Bd I.hok i;refine call_meetsIn PySem.F.slot_dict_items dd.typeIs PySem.F.entry_dict_items (PySem.F.args_dict_items_1 _) (meets_dict_items (Qy X.prog X.w) d lo) ⟨⟨j,dd⟩,?_⟩;refine⟨.ref s.heap.objs.size,TQ H s.heap.objs.size (V7 s.heap.objs.size d),I.laid (t':=s.toks) (λb o e=>Zq _ e) (Zf _) ?_,rfl,q _ (I.hok.fresh (Zf _))⟩;exact⟨⟨_,Zr _ rfl,rfl,rfl⟩,⟨_,Zr _ rfl⟩,λm n z kk=>by
  obtain⟨o,e,r⟩:=z;exact⟨o,kk o e,r⟩⟩
def Me (hc:X.calm=true):jc X (.builtin "sorted") (λxs H Q=>∃f d r,xs=[.ref f]/\H f=some (V7 f d)/\H d=some (.dK (qA r))/\r ≠ []/\r.length<64 /\
 ∀l L,(∀p∈L,H p.1=none)->(L.map (·.1)).Nodup->(∀G,Is (jI G L) (.list ((JE TM r).map pD)) (.ref l))->Q (.ref l) (jI H L)):=by
 intro Y s Z H xs us Q I rv h;obtain⟨f,d,r,rfl,hv,hd,O,h64,q⟩:=h;obtain⟨u,rfl,ru⟩:=Q9 rv;obtain rfl:u=Value.ref f:=ru;obtain⟨j,_,_⟩:=(show jK X.prog X.w H s.heap f (V7 f d) from I.hok f _ hv);obtain⟨z,lo,ws,C,od,es,ep,d1,d2,d3,d4,d5,d6⟩:=Bd I.hok hd;have lk:=C.length;have lr:(qA r).length=r.length:=Zql _;have P:s.heap.DictAt (Qy X.prog X.w) d ws ep:=⟨od,es,d1,d2,d3,d4,d5,d6⟩;refine Bq (yi.wk λi=>r.getD i (0,0)) (W.kdx_collect (knd:=Qy X.prog X.w) (I.ok.hd hc) j P (by rw[<- lk,lr];exact Qz ()) λh1 tk as R la G=>?_);have S:(as.map Value.ref).length=r.length:=by rw[Zql];lia
 have pa:∀h',(∀b o,h1.get? b=some o->h'.get? b=some o)->Wo h' (as.map Value.ref) r:=λh' n=>by
  refine⟨S,λi p hp=>?_⟩;have hi:i<as.length:=by
   have:=(Jd.mp hp).1;lia
  obtain⟨v,k,x,g1,g2,T⟩:=G.pairs i as[i] (Zqg hi);have kv:KV (qA r) ws:=C;have hk:(qA r)[i]? = some (Ub p.1,V.int p.2):=by unfold qA;rw[Zv,hp];rfl
  have E:∀{U:List (TF×V)} {l2:List (TF×Value)} {i:Nat} {a:TF×V} {b:TF×Value},KV U l2->U[i]? = some a->l2[i]? = some b->a.1=b.1/\T3 a.2 b.2:=by
   intro U l2 i a b F;unfold KV at F
   induction F generalizing i with
   |nil=>intro e;simp at e
   |cons hh tt ih =>
    cases i with
    |zero =>
     intro g w;simp at g w;subst g w;exact hh
    |succ i =>
     intro g w;exact ih (by simpa using g) (by simpa using w)
  obtain⟨b1,b2⟩:=E kv hk g1;have b1:(Ub p.1:TF)=k:=b1;subst b1;obtain⟨t1,rfl⟩:=(show ∃t,x=Value.int p.2 t from b2);obtain⟨t0,rfl⟩:∃t,v=Value.int p.1 t:=by
   rcases K3 (show V4 (Ub p.1) v=true from g2) with ⟨i0,t,g,w⟩|⟨x0,t,g,w⟩
   .cases g;exact⟨t,w⟩
   .cases g
  exact⟨as[i],_,_,t0,t1,by rw[Zv,Zqg hi];rfl,n _ _ T,rfl,rfl⟩
 refine⟨(),λh' n h2=>LZ (pa h' n) h2,λjx h' l p u n hl gl=>?_⟩;obtain⟨e,gl⟩:=gl;rw[S] at p u;have kk:∀b o,s.heap.get? b=some o->h'.get? b=some o:=λb o e=>n b o (R b o e);have J:∀a∈as,s.heap.objs.size<a:=G.above;have K:∀a∈as,a<l:=λa ha=>Zg (G.there ha) hl;have szl:s.heap.objs.size<=l:=by
  cases as with
  |nil=>exact Zn (Je.mp (by rw[<- S];rfl)) O
  |cons a as'=>exact Zz (UN (J a Zqs) (K a Zqs))
 obtain⟨L,hL⟩:∃L:List (Addr×HO),L=(l,.lst (jx.toList.map λi=>V.ref (as.getD i 0)))::(as.zip r).map λz=>(z.1,HO.tup [.int z.2.1,.int z.2.2]):=⟨_,rfl⟩;have c:L.map (·.1)=l::as:=by
  rw[hL,Zl,Zw];show l::(as.zip r).map (λz=>z.1)=_;rw[List.map_fst_zip ()]
 have nd:(L.map (·.1)).Nodup:=by
  rw[c];refine Ji.mpr ⟨λm=>Zy _ (K l m),?_⟩;exact G.rise.imp λhlt=>Zi hlt
 have M:∀p∈L,s.heap.objs.size<=p.1:=λp hp=>by
  have:p.1∈L.map (·.1):=Ja.mpr ⟨p,hp,rfl⟩;rw[c] at this;rcases UQ.mp this with z|z
  .rw[z];exact szl
  .exact Zz (J _ z)
 have A:∀(G:Hp) (i:Nat) p,r[i]? = some p->jI G L (as.getD i 0)=some (.tup [.int p.1,.int p.2]):=λG i p hp=>by
  have hi:i<as.length:=by
   have:=(Jd.mp hp).1;lia
  refine Ec nd ?_;rw[hL];refine Zqm _ (Ja.mpr ⟨(as[i],p),?_,by rw[JU (Zqg hi)]⟩);refine Uj (i:=i) ?_;rw[VL];exact⟨Zqg hi,hp⟩
 refine⟨.ref l,jI H L,I.laidMany (t':=tk) kk M λy hy=>?_,rfl,q l L (λp hp=>I.hok.fresh (M p hp)) nd λG'=>?_⟩
 .rw[hL] at hy;rcases UQ.mp hy with z'|z'
  .rw[z'];refine⟨?_,jx.toList.map (TK (as.map Value.ref)),e,?_,?_⟩
   .rw[Zql,p.len];exact Qz ()
   .refine Wp λi hi=>?_;have hn:=p.mem hi;have N:i<as.length:=()
    unfold TK;rw[JU (Zqg N),JU (x:=Value.ref as[i]) (by rw[Zv,Zqg N];rfl)];rfl
   .rw[gl]
    congr 3
    apply Array.ext';simp
  .obtain⟨⟨a,p'⟩,hm,rfl⟩:=Ja.mp z';obtain⟨i,hi⟩:=List.mem_iff_getElem?.mp hm;rw[VL] at hi;obtain⟨i1,i2⟩:=hi;obtain⟨a',o',n',t',u',f1,f2,f3,f4⟩:=(pa h' n).2 i p' i2;rw[Zv,i1] at f1;cases f1;obtain⟨v,k,x,g1,g2,T⟩:=G.pairs i a i1;have B:=n _ _ T;rw[B] at f2;obtain rfl:=Zqi f2;exact⟨⟨(by show 2<=sizeLine;decide),_,B,rfl⟩,[.int p'.1 t',.int p'.2 u'],.cons ⟨t',rfl⟩ (.cons ⟨u',rfl⟩ .nil),_,B,rfl,n',f4⟩
 .rw[qF];refine⟨l,_,rfl,Ec nd (by rw[hL];exact Zqs),?_⟩;rw[<- ZH yi p u,Zw];refine Ee λi hi=>?_;have hn:=p.mem hi;refine u3.mpr ⟨as.getD i 0,rfl,?_⟩;have:=A G' i (r.getD i (0,0)) (by rw[JU (Zqg hn)];exact Zqg hn);exact this
end
def jC (r:Jx)(t w:Int):Jx:=if(r.any λp=>decide (p.1=t))=true then r.map (λp=>if p.1=t then(p.1,w) else p) else r++[(t,w)]
def Ef:decide ((Ub a:TF)=Ub b)=decide (a=b):=by
 by_cases h:a=b
 .rw[h,Zp rfl,Zp rfl]
 .rw[Zo h,Zo (λz=>h (by injection z))]
def Mf (r:Jx)(t w:Int):jD (qA r) (Ub t) (V.int w)=qA (jC r t w):=by
 have e:((qA r).any λa=>decide (a.1=Ub t))=r.any λp=>decide (p.1=t):=by
  unfold qA;rw[List.any_map]
  congr 1
  funext p
  exact Ef
 unfold jD jC;rw[e]
 split
 .unfold qA;rw[Zw,Zw];apply UJ;intro p _;by_cases c:p.1=t
  .simp[c]
  .have b:¬(Ub p.1:TF)=Ub t:=λz=>c (by injection z);simp[c]
 .unfold qA;rw[Uh];rfl
def WO (p:Int×Int)(r:Jx)(t:Int):J5 (p::r) t=match J5 r t with|some w=>some w|none=>if p.1=t then some p.2 else none:=rfl
def Mg (r:Jx)(t w j:Int):J5 (r.map λp=>if p.1=t then(p.1,w) else p) j=(J5 r j).map λx=>if j=t then w else x:=by
 induction r with
 |nil=>rfl
 |cons p r a =>
  rw[Zl,WO,WO,a];cases q:J5 r j with
  |some x=>rfl
  |none =>
   dsimp only[Option.map];by_cases c:p.1=t
   .rw[Zd c];by_cases d:p.1=j
    .rw[Zd d,Zd d];show some w=some (if j=t then w else p.2);rw[Zd (d.symm.trans c)]
    .rw[Ze d,Ze d]
   .rw[Ze c];by_cases d:p.1=j
    .rw[Zd d];show some p.2=some (if j=t then w else p.2);rw[Ze (λz=>c (d.trans z))]
    .rw[Ze d]
def Mh (r:Jx)(t:Int):(r.any λp=>decide (p.1=t))=(J5 r t).isSome:=by
 cases q:J5 r t with
 |none =>
  rw[Option.isSome_none,Ve];rintro⟨a,b⟩ hm;by_cases e:a=t
  .subst e;exact Zn hm (DI q b)
  .simp[e]
 |some w =>
  rw[Option.isSome_some,U9];exact⟨_,Qp q,()⟩
def Mi (r:Jx)(t w j:Int):J5 (jC r t w) j=if j=t then some w else J5 r j:=by
 unfold jC;rw[Mh];by_cases a:(J5 r t).isSome=true
 .rw[Zd a,Mg];by_cases e:j=t
  .rw[Zd e,e];obtain⟨x,hx⟩:=Js.mp a;rw[hx];simp
  .rw[Ze e];cases J5 r j with
   |none=>rfl
   |some x=>simp[e]
 .rw[Ze a,LP];have n:J5 r t=none:=by
   cases q:J5 r t with
   |none=>rfl
   |some x=>rw[q] at a;exact Zn rfl a
  rw[WO];show(match (if t=j then some w else none) with|some w=>some w|none=>J5 r j)=_;by_cases e:j=t
  .rw[Zd e,Zd e.symm]
  .rw[Ze e,Ze (λz=>e z.symm)]
def Mj (r:Jx)(t w:Int):(jC r t w).map (·.1)=if(r.any λp=>decide (p.1=t))=true then r.map (·.1) else r.map (·.1)++[t]:=by
 unfold jC
 split
 .rw[Zw];apply UJ;intro p _;by_cases c:p.1=t
  .simp[c]
  .simp[c]
 .rw[Uh];rfl
def Mk (h:T5 r):T5 (jC r t w):=by
 unfold T5;rw[Mj]
 split
 .exact h
 .rename_i c;unfold T5 at h;rw[Vo];refine⟨h,(),λa f b d=>?_⟩;simp at d;subst d;rintro rfl;obtain⟨p,hp,e⟩:=Ja.mp f;exact c (U9.mpr ⟨p,hp,by simp[e]⟩)
def Ml (r:Jx)(t w:Int):(jC r t w).length<=r.length+1:=by
 unfold jC
 split
 .rw[Zql];lia
 .rw[Ua];exact Zf _
theorem Eg:∀(r b:Jx),Wh (qA b) (qA r)=qA (r.foldl (λa p=>jC a p.1 p.2) b)
 | [],b=>rfl
 |p::r,b=>by
  have e:Wh (qA b) (qA (p::r))=Wh (jD (qA b) (Ub p.1) (V.int p.2)) (qA r):=rfl;rw[e,Mf,Eg r];rfl
theorem Eh:∀(r b:Jx),T5 (b++r)->r.foldl (λa p=>jC a p.1 p.2) b=b++r
 | [],b,_=>by simp
 |p::r,b,h=>by
  have c:(b.any λq=>decide (q.1=p.1))=false:=by
   rw[Ve];intro q d;simp;intro e;unfold T5 at h;rw[Uh,Vo] at h;exact h.2.2 q.1 (Ja.mpr ⟨q,d,rfl⟩) p.1 () e
  have e:jC b p.1 p.2=b++[p]:=by
   unfold jC;rw[c];simp
  rw[U7,e,Eh r (b++[p]) (by rw[Uy];exact h),Uy];rfl
def jw:Option Int->Option Int->Option Int
 |none,b=>b
 |some x,none=>some x
 |some x,some y=>some (if x > y then x else y)
def QY (a:Jx)(p:Int×Int):Jx:=jC a p.1 (if(J5 a p.1).getD p.2 > p.2 then(J5 a p.1).getD p.2 else p.2)
def JG (r o:Jx):Jx:=o.foldl QY r
def Mm (a:Jx)(p:Int×Int)(t:Int):J5 (QY a p) t=if t=p.1 then jw (J5 a t) (some p.2) else J5 a t:=by
 unfold QY;rw[Mi];by_cases e:t=p.1
 .rw[Zd e,Zd e,e];cases J5 a p.1 with
  |none=>simp[jw]
  |some x=>simp[jw]
 .rw[Ze e,Ze e]
theorem ZJ (t:Int):∀(o r:Jx),T5 o->J5 (JG r o) t=jw (J5 r t) (J5 o t)
 | [],r,_=>by
  show J5 r t=jw (J5 r t) none;cases J5 r t<;>rfl
 |p::o,r,h=>by
  obtain⟨a,b⟩:=Ji.mp (show(p.1::o.map (·.1)).Nodup from h);have e:JG r (p::o)=JG (QY r p) o:=rfl;rw[e,ZJ t o _ b,Mm,WO];by_cases c:t=p.1
  .have n:J5 o t=none:=by
    cases q:J5 o t with
    |none=>rfl
    |some w=>exact Zn (Ja.mpr ⟨_,Qp q,c⟩) a
   rw[Zd c,n];dsimp only;rw[Zd c.symm];cases jw (J5 r t) (some p.2)<;>rfl
  .rw[Ze c];cases J5 o t with
   |some w=>rfl
   |none =>
    dsimp only;rw[Ze (λz=>c z.symm)]
theorem WP:∀(o r:Jx),T5 r->T5 (JG r o)
 | [],r,h=>h
 |p::o,r,h=>WP o _ (Mk h)
theorem X4:∀(o r:Jx),(JG r o).length<=r.length+o.length
 | [],r=>Zf _
 |p::o,r=>by
  have a:=X4 o (QY r p);have b:(QY r p).length<=r.length+1:=Ml _ _ _;show(JG (QY r p) o).length<=_;rw[Zu];lia
def Ei (h:r ≠ [])(b:T5 o):JG r o ≠ []:=by
 intro z;cases r with
 |nil=>exact h rfl
 |cons p r =>
  have q:=ZJ p.1 o (p::r) b;rw[z] at q;have:∃x,J5 (p::r) p.1=some x:=by
   rw[WO];cases J5 r p.1 with
   |some x=>exact⟨x,rfl⟩
   |none=>exact⟨p.2,Zd rfl⟩
  obtain⟨x,hx⟩:=this;rw[hx] at q;cases a:J5 o p.1 with
  |none=>rw[a] at q;exact J2 q
  |some y=>rw[a] at q;exact J2 q
def Ej (h:T5 r):(t,w)∈r↔J5 r t=some w:=⟨λm=>h.look m,Qp⟩
theorem V8 {α: Type}{ltb:α -> α -> Bool}(T:Tot ltb):∀{a b:List α},a.Pairwise (λx y=>ltb x y=true)->b.Pairwise (λx y=>ltb x y=true)->(∀x,x∈a↔x∈b)->a=b
 | [],[],_,_,_=>rfl
 | [],y::b,_,_,h=>by
  have z:y∈([]:List α):=(h y).mpr Zqs;cases z
 |x::a,[],_,_,h=>by
  have z:x∈([]:List α):=(h x).mp Zqs;cases z
 |x::a,y::b,ha,hb,h=>by
  obtain⟨c,f⟩:=Jk.mp ha;obtain⟨d,g⟩:=Jk.mp hb;have e:x=y:=by
   rcases UQ.mp ((h x).mp Zqs) with z|z
   .exact z
   .rcases UQ.mp ((h y).mpr Zqs) with u|u
    .exact u.symm
    .have:=T.asy _ _ (d x z);rw[c y u] at this;cases this
  subst e
  congr 1
  refine V8 T f g λz=>⟨λhz=>?_,λhz=>?_⟩
  .rcases UQ.mp ((h z).mp (Zqm _ hz)) with u|u
   .rw[u] at hz;have:=c x hz;rw[T.irr] at this;exact J6 this
   .exact u
  .rcases UQ.mp ((h z).mpr (Zqm _ hz)) with u|u
   .rw[u] at hz;have:=d x hz;rw[T.irr] at this;exact J6 this
   .exact u
theorem Ek {α β: Type}(f:α -> β):∀{l:List α},(l.map f).Nodup->l.Nodup
 | [],_=>UZ
 |x::r,h=>by
  rw[Zl,List.nodup_cons] at h;exact Ji.mpr ⟨λm=>h.1 (List.mem_map_of_mem m),Ek f h.2⟩
def Mn (h:T5 r):(JE TM r).Pairwise λx y=>TM x y=true:=by
 have hp:=Qe (ltb:=TM) r;have b:(JE TM r).Nodup:=hp.nodup_iff.mpr (Ek (λp:Int×Int=>p.1) h);have sd:=Wn yi r;have a:(JE TM r).Pairwise λx y=>TM y x=false/\x≠y:=List.Pairwise.and sd b;refine a.imp λ{x y} z=>?_;cases q:TM x y with
 |true=>rfl
 |false=>exact Zn (yi.tot _ _ q z.1) z.2
end L2
namespace L2.DL
def Bu {c:Prop}{_:Decidable c}{α: Type}{a z:α}(h:(if c then some a else none)=some z):c/\a=z:=by
 by_cases q:c
 .rw[Zd q] at h;exact⟨q,Zqi h⟩
 .rw[Ze q] at h;exact J2 h
inductive D where
 |non|bl (b:Bool)|int (i:Int)|str (x:Str)|ty (n:String)|scr (ns:Yf)
 |tup (ds:List D)|lst (ds:List D)|dct (ks:List TF) (ds:List D)|ins (c:Str) (fs:Yi) (ds:List D)
 |exc (c:Str)|ucl (c:Str)
 |exr (c:Str) (n:Int)
 |adr (a:Addr)|dcf (ks:List TF) (ds:List D)
 |pin (a:Addr) (d:D)
abbrev _root_.Yz:=List D
abbrev _root_.YA:=Option D
inductive Res (α: Type) where
 |ok (a:α)|ex (c:Str) (fs:Yz)|no
noncomputable def Res.bind {α β: Type}(r:Res α)(g:α -> Res β):Res β:= match r with
 | .ok a=>g a
 | .ex c fs=>.ex c fs
 | .no=>.no
def Res.need {α: Type}(r:Res α)(p:α -> Prop)(q:Str->Yz->Prop):Prop:=match r with
 | .ok a=>p a
 | .ex c fs=>q c fs
 | .no=>False
@[simp]def Res.bind_ok {α β: Type}(a:α)(g:α -> Res β):(Res.ok a).bind g=g a:=rfl
@[simp]def zk {α β: Type}(c:Str)(fs:Yz)(g:α -> Res β):(Res.ex c fs:Res α).bind g=.ex c fs:=rfl
@[simp]def zj {α β: Type}(g:α -> Res β):(Res.no:Res α).bind g=.no:=rfl
def Res.need_bind {α β: Type}{r:Res α}{g:α -> Res β}{p:β -> Prop}(h:(r.bind g).need p q):r.need (λa=>(g a).need p q) q:=by
 cases r<;>exact h
def Res.need.mono {α: Type}{r:Res α}{p b: α -> Prop}(h:r.need p q)(hp:∀a,p a->b a)(d:∀c fs,q c fs->q' c fs):r.need b q':=by
 cases r with
 |ok a=>exact hp a h
 |ex c fs=>exact d c fs h
 |no=>exact h
def Res.need.monoE {α: Type}{r:Res α}{p b: α -> Prop}(h:r.need p q)(hp:∀a,r=.ok a->p a->b a)(d:∀c fs,q c fs->q' c fs):r.need b q':=by
 cases r with
 |ok a=>exact hp a rfl h
 |ex c fs=>exact d c fs h
 |no=>exact h
def uu (C x:Addr):HO:=.ext λh=>∃o,h.get? x=some o/\o.cls=.ref C
def ut (C p x:Addr):HO:=.ext λh=>∃o,h.get? x=some o/\o.cls=.ref C/\o.dict=some p/\W.notCls o=true
def zz (p:Addr)(n:Int):HO:=.ext λh=>∃a u,h.Ns1 p a/\a "row" = some u/\T3 (.int n) u
def xa (_:W.Frag)(H:Hp)(a:Addr)(xs:Yx):Prop:=H a=some (.tup xs)
def xa.same {K:W.Frag}{H H':Hp}{a:Addr}{xs:Yx}(e:Tu H H')(h:xa K H a xs):xa K H' a xs:=e _ _ h
def xa.of {K:W.Frag}{H:Hp}{a:Addr}{xs:Yx}(h:H a=some (.tup xs)):xa K H a xs:=h
def xa.sq {K:W.Frag}{H:Hp}{a:Addr}{xs:Yx}(h:xa K H a xs):xh K H a xs:=xh.of h
def qu (_:W.Frag)(H:Hp)(a:Addr)(xs:Yx):Prop:=Rd H a (.lst xs)
def qu.same {K:W.Frag}{H H':Hp}{a:Addr}{xs:Yx}(e:Tu H H')(h:qu K H a xs):qu K H' a xs:=h.imp (λq=>e _ _ q) λ⟨o,q⟩=>⟨o,e _ _ q⟩
def qu.of {K:W.Frag}{H:Hp}{a:Addr}{xs:Yx}(h:H a=some (.lst xs)):qu K H a xs:=.inl h
def qu.sq {K:W.Frag}{H:Hp}{a:Addr}{xs:Yx}(h:qu K H a xs):qh K H a xs:=.inl h
section
variable (K:W.Frag)
mutual
def Tj (H:Hp):D->V->Prop
 | .non,v=>v=.non
 | .bl b,v=>v=.bl b
 | .int i,v=>v=.int i
 | .str x,v=>v=.str x
 | .ty n,v=>v=.ty n
 | .scr ns,v=>∃a,v=.ref a/\qh K H a (ns.map V.int)
 | .tup ds,v=>∃a xs,v=.ref a/\xa K H a xs/\Ti H ds xs
 | .lst ds,v=>∃a xs,v=.ref a/\qu K H a xs/\Ti H ds xs
 | .dct ks ds,v=>∃a xs,v=.ref a/\H a=some (.dK (ks.zip xs))/\ks.length=xs.length/\Ti H ds xs
 | .ins c fs ds,v=>∃a C e xs,v=.ref a/\W.nsIn K mainGlobals c=some (some (.ref C))/\H a=some (.ins C e (fs.zip xs))/\fs.length=xs.length/\Ti H ds xs
 | .exc c,v=>∃a C,v=.ref a/\W.nsIn K mainGlobals c=some (some (.ref C))/\H a=some (uu C a)
 | .exr c n,v=>∃a C p,v=.ref a/\W.nsIn K mainGlobals c=some (some (.ref C))/\H a=some (ut C p a)/\H p=some (zz p n)
 | .ucl c,v=>∃C,v=.ref C/\W.nsIn K mainGlobals c=some (some (.ref C))
 | .adr a,v=>v=.ref a
 | .dcf ks ds,v=>∃a o xs,v=.ref a/\H a=some (.frz o (.dK (ks.zip xs)))/\ks.length=xs.length/\Ti H ds xs
 | .pin a d,v=>v=.ref a/\Tj H d v
def Ti (H:Hp):Yz->Yx->Prop
 | [],xs=>xs=[]
 |d::ds,xs=>∃x r,xs=x::r/\Tj H d x/\Ti H ds r
end
end
section
variable {K:W.Frag}{H H':Hp}
def T9:Tj K H .non v↔v=.non:=.rfl
def Tv:Tj K H (.bl b) v↔v=.bl b:=.rfl
def Tk:Tj K H (.int i) v↔v=.int i:=.rfl
def Tw:Tj K H (.str x) v↔v=.str x:=.rfl
def qm:Tj K H (.ty n) v↔v=.ty n:=.rfl
def TN:Tj K H (.scr ns) v↔∃a,v=.ref a/\qh K H a (ns.map V.int):=.rfl
def Tq:Tj K H (.tup ds) v↔∃a xs,v=.ref a/\xa K H a xs/\Ti K H ds xs:=.rfl
def Tl:Tj K H (.lst ds) v↔∃a xs,v=.ref a/\qu K H a xs/\Ti K H ds xs:=.rfl
def TH:Tj K H (.dct ks ds) v↔∃a xs,v=.ref a/\H a=some (.dK (ks.zip xs))/\ks.length=xs.length/\Ti K H ds xs:=.rfl
def je:Tj K H (.ins c fs ds) v↔∃a C b xs,v=.ref a/\W.nsIn K mainGlobals c=some (some (.ref C))/\H a=some (.ins C b (fs.zip xs))/\fs.length=xs.length/\Ti K H ds xs:=.rfl
def jW:Tj K H (.exc c) v↔∃a C,v=.ref a/\W.nsIn K mainGlobals c=some (some (.ref C))/\H a=some (uu C a):=.rfl
def jV:Tj K H (.exr c n) v↔∃a C p,v=.ref a/\W.nsIn K mainGlobals c=some (some (.ref C))/\H a=some (ut C p a)/\H p=some (zz p n):=.rfl
def x5:Tj K H (.ucl c) v↔∃C,v=.ref C/\W.nsIn K mainGlobals c=some (some (.ref C)):=.rfl
def j7:Tj K H (.adr a) v↔v=.ref a:=.rfl
def j6:Tj K H (.dcf ks ds) v↔∃a o xs,v=.ref a/\H a=some (.frz o (.dK (ks.zip xs)))/\ks.length=xs.length/\Ti K H ds xs:=.rfl
def j5:Tj K H (.pin a d) v↔v=.ref a/\Tj K H d v:=.rfl
def Ti.nil_iff:Ti K H [] xs↔xs=[]:=.rfl
def Tp:Ti K H (d::ds) xs↔∃x r,xs=x::r/\Tj K H d x/\Ti K H ds r:=.rfl
mutual
theorem Tj.same (e:Tu H H'):∀(d:D) (v:V),Tj K H d v->Tj K H' d v
 | .non,_,h=>h
 | .bl _,_,h=>h
 | .int _,_,h=>h
 | .str _,_,h=>h
 | .ty _,_,h=>h
 | .scr _,_,h=>by
  obtain⟨a,b,f⟩:=TN.mp h;exact TN.mpr ⟨a,b,Tu.seq e f⟩
 | .tup ds,_,h=>by
  obtain⟨a,xs,b,f,g⟩:=Tq.mp h;exact Tq.mpr ⟨a,xs,b,f.same e,Ti.same e ds xs g⟩
 | .lst ds,_,h=>by
  obtain⟨a,xs,b,f,g⟩:=Tl.mp h;exact Tl.mpr ⟨a,xs,b,f.same e,Ti.same e ds xs g⟩
 | .dct ks ds,_,h=>by
  obtain⟨a,xs,b,f,i,g⟩:=TH.mp h;exact TH.mpr ⟨a,xs,b,e _ _ f,i,Ti.same e ds xs g⟩
 | .ins c fs ds,_,h=>by
  obtain⟨a,C,j,xs,b,l,f,i,g⟩:=je.mp h;exact je.mpr ⟨a,C,j,xs,b,l,e _ _ f,i,Ti.same e ds xs g⟩
 | .exc _,_,h=>by
  obtain⟨a,C,b,f,g⟩:=jW.mp h;exact jW.mpr ⟨a,C,b,f,e _ _ g⟩
 | .exr _ _,_,h=>by
  obtain⟨a,C,p,b,f,g,i⟩:=jV.mp h;exact jV.mpr ⟨a,C,p,b,f,e _ _ g,e _ _ i⟩
 | .ucl _,_,h=>h
 | .adr _,_,h=>h
 | .dcf ks ds,_,h=>by
  obtain⟨a,o,xs,b,f,i,g⟩:=j6.mp h;exact j6.mpr ⟨a,o,xs,b,e _ _ f,i,Ti.same e ds xs g⟩
 | .pin a d,v,h=>j5.mpr ⟨(j5.mp h).1,Tj.same e d v (j5.mp h).2⟩
theorem Ti.same (e:Tu H H'):∀(ds:Yz) (xs:Yx),Ti K H ds xs->Ti K H' ds xs
 | [],_,h=>h
 |d::ds,_,h=>by
  obtain⟨x,r,a,b,c⟩:=Tp.mp h;exact Tp.mpr ⟨x,r,a,Tj.same e d x b,Ti.same e ds r c⟩
end
def Ti.mk (h:Tj K H d x)(r:Ti K H ds xs):Ti K H (d::ds) (x::xs):=Tp.mpr ⟨x,xs,rfl,h,r⟩
def Ti.nil:Ti K H [] []:=Ti.nil_iff.mpr rfl
theorem Ti.length:∀{ds:Yz} {xs:Yx},Ti K H ds xs->xs.length=ds.length
 | [],xs,h=>by rw[Ti.nil_iff] at h;subst h;rfl
 |d::ds,xs,h=>by
  rw[Tp] at h;obtain⟨x,r,rfl,_,a⟩:=h;rw[Zu,Zu,Ti.length a]
theorem Ti.get:∀{ds:Yz} {xs:Yx} {i:Nat} {d:D},Ti K H ds xs->ds[i]? = some d->∃x,xs[i]? = some x/\Tj K H d x
 | [],_,_,_,_,e=>by exact J2 e
 |d::ds,xs,i,e,h,q=>by
  rw[Tp] at h;obtain⟨x,r,rfl,a,b⟩:=h;cases i with
  |zero=>cases q;exact⟨x,rfl,a⟩
  |succ i=>exact Ti.get (i:=i) b q
def Ti.getV {ds:Yz}{xs:Yx}{i:Nat}{x:V}(h:Ti K H ds xs)(q:xs[i]? = some x):∃d,ds[i]? = some d/\Tj K H d x:=by
 have b:=h.length;have hi:i<ds.length:=by rw[<- b];exact(Jd.mp q).1
 obtain⟨y,a,c⟩:=h.get (Zqg hi);rw[q] at a;obtain rfl:=Zqi a;exact⟨_,Zqg hi,c⟩
theorem Ti.append:∀{ds es:Yz} {xs ys:Yx},Ti K H ds xs->Ti K H es ys->Ti K H (ds++es) (xs++ys)
 | [],_,xs,_,h,h'=>by rw[Ti.nil_iff] at h;subst h;exact h'
 |d::ds,_,xs,_,h,h'=>by
  rw[Tp] at h;obtain⟨x,r,rfl,a,b⟩:=h;exact Ti.mk a (Ti.append b h')
def Ti.snoc (h:Ti K H ds xs)(h':Tj K H d x):Ti K H (ds++[d]) (xs++[x]):=h.append (.mk h' .nil)
theorem jd:∀(ns:Yf),Ti K H (ns.map D.int) (ns.map V.int)
 | []=>.nil
 |n::ns=>.mk (Tk.mpr rfl) (jd ns)
theorem jn:∀{ns:Yf} {xs:Yx},Ti K H (ns.map D.int) xs->xs=ns.map V.int
 | [],_,h=>Ti.nil_iff.mp h
 |n::ns,xs,h=>by
  rw[Zl,Tp] at h;obtain⟨x,r,rfl,a,b⟩:=h;rw[Tk] at a;rw[a,jn b];rfl
end
structure Ext (F H F' H':Hp):Prop where
 ff:Tu F F'
 fh:Tu F' H'
 hh:Tu H H'
 new:∀a,F a=none->H a≠none->F' a=none
theorem Ext.refl (h:Tu F H):Ext F H F H:=⟨.refl _,h,.refl _,λ_ e _=>e⟩
theorem Ext.trans (a:Ext F H F1 H1)(b:Ext F1 H1 F2 H2):Ext F H F2 H2:=
 ⟨a.ff.trans b.ff,b.fh,a.hh.trans b.hh,λx e n=>b.new x (a.new x e n) (by
  cases q:H x with
  |none=>exact Zn q n
  |some o=>rw[a.hh _ _ q];simp)⟩
def Qh (h:Tu F H)(hp:H p=none):F p=none:=h.free hp
def jG (h:Tu F H)(hp:H p=none)(o:HO):Ext F H (TQ F p o) (TQ H p o):=
 ⟨K6 (h.free hp) o,λb u e=>by
  by_cases q:b=p
  .subst q;rw[JQ] at e ⊢;exact e
  .rw[JL q] at e ⊢;exact h _ _ e,K6 hp o,λa e n=>by
  have q:a≠p:=λz=>n (by rw[z];exact hp);rw[JL q];exact e⟩
def Ext.keep (h:Tu F H)(hp:H p=none)(o:HO):Ext F H F (TQ H p o):=
 ⟨.refl _,h.trans (K6 hp o),K6 hp o,λ_ e _=>e⟩
def Ext.grow (h:Tu F H)(a:Tu H H'):Ext F H F H':=⟨.refl _,h.trans a,a,λ_ e _=>e⟩
inductive SV where
 |val (d:D)|own (p:Bool) (d:D)
structure Bs where
 F0:Hp
 H0:Hp
 pa:Nat->Option (Addr×Yx)
abbrev SD:=List (Option SV)
def xu (K:W.Frag)(F H:Hp)(l:Addr):D->Prop
 | .lst ds=>∃xs,H l=some (.lst xs)/\Ti K F ds xs
 | .dct ks ds=>∃xs,H l=some (.dK (ks.zip xs))/\ks.length=xs.length/\Ti K F ds xs
 | .ins c fs ds=>∃C a xs,W.nsIn K mainGlobals c=some (some (.ref C))/\H l=some (.ins C a (fs.zip xs))/\fs.length=xs.length/\Ti K F ds xs
 |_=>False
def xu.has {K:W.Frag}{F H:Hp}{l:Addr}{d:D}(h:xu K F H l d):∃o,H l=some o:=by
 cases d with
 |lst ds=>obtain⟨xs,e,_⟩:=h;exact⟨_,e⟩
 |dct ks ds=>obtain⟨xs,e,_⟩:=h;exact⟨_,e⟩
 |ins c fs ds=>obtain⟨C,a,xs,_,e,_⟩:=h;exact⟨_,e⟩
 |_=>exact False.elim h
def xu.ext {K:W.Frag}{F H F' H':Hp}{l:Addr}{d:D}(h:xu K F H l d)(a:Tu F F')(b:∀o,H l=some o->H' l=some o):xu K F' H' l d:=by
 cases d with
 |lst ds=>obtain⟨xs,e,q⟩:=h;exact⟨xs,b _ e,Ti.same a _ _ q⟩
 |dct ks ds=>obtain⟨xs,e,z,q⟩:=h;exact⟨xs,b _ e,z,Ti.same a _ _ q⟩
 |ins c fs ds=>obtain⟨C,f,xs,k,e,z,q⟩:=h;exact⟨C,f,xs,k,b _ e,z,Ti.same a _ _ q⟩
 |_=>exact False.elim h
def xu.frz {K:W.Frag}{F H:Hp}{l:Addr}{d:D}{o:HO}(h:xu K F H l d)(e:H l=Option.some o)(n:F l=none):Tj K (TQ F l o) d (.ref l):=by
 cases d with
 |lst ds =>
  obtain⟨xs,a,q⟩:=h;rw[e] at a;obtain rfl:=Zqi a;exact Tl.mpr ⟨l,xs,rfl,.of JQ,Ti.same (K6 n _) _ _ q⟩
 |dct ks ds =>
  obtain⟨xs,a,z,q⟩:=h;rw[e] at a;obtain rfl:=Zqi a;exact TH.mpr ⟨l,xs,rfl,JQ,z,Ti.same (K6 n _) _ _ q⟩
 |ins c fs ds =>
  obtain⟨C,b,xs,k,a,z,q⟩:=h;rw[e] at a;obtain rfl:=Zqi a;exact je.mpr ⟨l,C,b,xs,rfl,k,JQ,z,Ti.same (K6 n _) _ _ q⟩
 |_=>exact False.elim h
def uy (H:Hp)(l:Addr)(o:Option (Addr×Yx)):Prop:=∃xs,o=some (l,xs)/\H l=some (.lst xs)
structure RS (K:W.Frag)(B:Bs)(F H:Hp)(sd:SD)(Z: St):Prop where
 ext:Ext B.F0 B.H0 F H
 len:Z.length=sd.length
 val:∀{i:Nat} {d:D},sd[i]? = some (~~~d)->∃v,Z[i]? = some (some v)/\Tj K F d v
 own:∀{i:Nat} {p:Bool} {d:D},sd[i]? = some (some (.own p d))->∃l,Z[i]? = some (some (.ref l))/\B.H0 l=none/\F l=none/\xu K F H l d/\(p=true->uy H l (B.pa i))
 apart:∀{i j:Nat} {p q:Bool} {d e:D} {l:Addr},i≠j->sd[i]? = some (some (.own p d))->sd[j]? = some (some (.own q e)) -> Z[i]? = some (some (.ref l)) -> Z[j]? ≠ some (some (.ref l))
section
variable {K:W.Frag}{B:Bs}{F H F' H':Hp}{sd:SD}{Z: St}
def uy.mono (h:uy H l o)(k:∀u,H l=some u->H' l=some u):uy H' l o:=let ⟨xs,h1,h2⟩:=h;⟨xs,h1,k _ h2⟩
def RS.step (r:RS K B F H sd Z)(e:Ext F H F' H'):RS K B F' H' sd Z where
 ext:=r.ext.trans e
 len:=r.len
 val:=λh=>let ⟨v,a,b⟩:=r.val h;⟨v,a,Tj.same e.ff _ _ b⟩
 own:=λh=>by
  obtain⟨l,a,b,d,c,f⟩:=r.own h;obtain⟨o,g⟩:=c.has;exact⟨l,a,b,e.new l d (by rw[g];simp),c.ext e.ff λo q=>e.hh _ _ q,λp=>(f p).mono λu q=>e.hh _ _ q⟩
 apart:=r.apart
def QF {α: Type}{l:List α}{a:α}(h:i≠j):(l.set i a)[j]? = l[j]?:= Zx h
def Kd {α: Type}{l:List α}{a b:α}(h:(l.set i a)[i]? = some b):b=a/\i<l.length:=by
 have hi:i<l.length:=by
  have:=(Jd.mp h).1
  rwa [U0] at this
 rw[UU hi] at h;exact⟨(Zqi h).symm,hi⟩
def RS.setVal (r:RS K B F H sd Z)(h:Tj K F d v):RS K B F H (sd.set i (~~~d)) (Z.set i (some v)) where
 ext:=r.ext
 len:=by rw[U0,U0,r.len]
 val:=λ{j e} q=>by
  by_cases z:i=j
  .subst z;obtain⟨a,hi⟩:=Kd q;cases a;exact⟨v,UU (by rw[r.len];exact hi),h⟩
  .rw[QF z] at q ⊢;exact r.val q
 own:=λ{j p e} q=>by
  by_cases z:i=j
  .subst z;obtain⟨a,_⟩:=Kd q;cases a
  .rw[QF z] at q ⊢;exact r.own q
 apart:=λ{j k o s t u l} n b c f=>by
  have g:i≠j:=λz=>by subst z;obtain⟨a,_⟩:=Kd b;cases a
  have m:i≠k:=λz=>by subst z;obtain⟨a,_⟩:=Kd c;cases a
  rw[QF g] at b f;rw[QF m] at c ⊢;exact r.apart n b c f
def RS.setOwn (r:RS K B F H sd Z)(t:B.H0 l=none)(u:F l=none)(h:xu K F H l d)(g:∀(j:Nat) (p:Bool) (e:D),sd[j]? = some (some (SV.own p e)) -> Z[j]? ≠ some (some (.ref l))):
 RS K B F H (sd.set i (some (.own false d))) (Z.set i (some (.ref l))) where
 ext:=r.ext
 len:=by rw[U0,U0,r.len]
 val:=λ{j e} q=>by
  by_cases z:i=j
  .subst z;obtain⟨f,_⟩:=Kd q;cases f
  .rw[QF z] at q ⊢;exact r.val q
 own:=λ{j p e} q=>by
  by_cases z:i=j
  .subst z;obtain⟨f,hi⟩:=Kd q;cases f;exact⟨l,UU (by rw[r.len];exact hi),t,u,h,λz=>by cases z⟩
  .rw[QF z] at q ⊢;exact r.own q
 apart:=λ{j k v w x y m} n c a b=>by
  by_cases o:i=j
  .subst o;obtain⟨_,hi⟩:=Kd c;rw[QF n] at a ⊢;rw[UU (by rw[r.len];exact hi)] at b;cases b;exact g k w y a
  .rw[QF o] at c b;by_cases s:i=k
   .subst s;obtain⟨_,hi⟩:=Kd a;rw[UU (by rw[r.len];exact hi)];intro e;cases e;exact g j v x c b
   .rw[QF s] at a ⊢;exact r.apart n c a b
def RS.chg {i:Nat}{p:Bool}{d d':D}{l:Addr}{o:HO}(r:RS K B F H sd Z)(hi:sd[i]? = some (some (.own p d)))(b:Z[i]? = some (some (.ref l)))(h:xu K F (TQ H l o) l d'):
 RS K B F (TQ H l o) (sd.set i (some (.own false d'))) Z:= by
 obtain⟨N,a,f,s,_,_⟩:=r.own hi;rw[b] at a;cases a;have x:i<sd.length:=(Jd.mp hi).1;refine⟨⟨r.ext.ff,Bm o r.ext.fh s,Bm o r.ext.hh f,r.ext.new⟩,by rw[U0,r.len],λ{j e} q=>?_,λ{j p e} q=>?_,λ{j k t v O P m} n y A C=>?_⟩
 .by_cases z:i=j
  .subst z;obtain⟨a,_⟩:=Kd q;cases a
  .rw[QF z] at q;exact r.val q
 .by_cases z:i=j
  .subst z;obtain⟨a,_⟩:=Kd q;cases a;exact⟨l,b,f,s,h,λz=>by cases z⟩
  .rw[QF z] at q;obtain⟨m,w,E,G,I,J⟩:=r.own q;have ne:m≠l:=λe=>r.apart z hi q b (by rw[<- e];exact w);exact⟨m,w,E,G,I.ext (.refl _) λu c=>by rw[JL ne];exact c,λp=>(J p).mono λu c=>by rw[JL ne];exact c⟩
 .have g:∀{j:Nat} {p:Bool} {e:D},(sd.set i (some (.own false d')))[j]? = some (some (.own p e))->∃L M,sd[j]? = some (some (.own L M)):=λ{j p e} q=>by
   by_cases z:i=j
   .subst z;exact⟨_,d,hi⟩
   .rw[QF z] at q;exact⟨p,e,q⟩
  obtain⟨_,_,t⟩:=g y;obtain⟨_,_,v⟩:=g A;exact r.apart n t v C
def RS.frz1 (r:RS K B F H sd Z)(hi:sd[i]? = some (some (.own p d))):∃F',Tu F F'/\RS K B F' H (sd.set i (~~~d)) Z:= by
 obtain⟨l,s,A,t,w,_⟩:=r.own hi;obtain⟨o,e⟩:=w.has;have C:i<sd.length:=(Jd.mp hi).1;have h:Tu F (TQ F l o):=K6 t o;refine⟨TQ F l o,h,⟨r.ext.ff.trans h,λb u q=>?_,r.ext.hh,λa g f=>?_⟩,by rw[U0,r.len],λ{j x} q=>?_,λ{j p x} q=>?_,λ{j k R S T U m} n g f E=>?_⟩
 .by_cases z:b=l
  .subst z;rw[JQ] at q;cases q;exact e
  .rw[JL z] at q;exact r.ext.fh _ _ q
 .have z:a≠l:=λz=>f (by rw[z];exact A);rw[JL z];exact r.ext.new a g f
 .by_cases z:i=j
  .subst z;obtain⟨c,_⟩:=Kd q;cases c;exact⟨_,s,w.frz e t⟩
  .rw[QF z] at q;obtain⟨v,G,I⟩:=r.val q;exact⟨v,G,Tj.same h _ _ I⟩
 .by_cases z:i=j
  .subst z;obtain⟨c,_⟩:=Kd q;cases c
  .rw[QF z] at q;obtain⟨m,y,J,L,M,N⟩:=r.own q;have ne:m≠l:=λe=>r.apart z hi q s (by rw[<- e];exact y);exact⟨m,y,J,by rw[JL ne];exact L,M.ext h λu O=>O,N⟩
 .have P:i≠j:=λz=>by subst z;obtain⟨c,_⟩:=Kd g;cases c
  have Q:i≠k:=λz=>by subst z;obtain⟨c,_⟩:=Kd f;cases c
  rw[QF P] at g;rw[QF Q] at f;exact r.apart n g f E
def j0:Yh->SD->SD
 | [],sd=>sd
 |i::is,sd=>j0 is (match sd[i]? with
  |some (some (.own _ d))=>sd.set i (~~~d)
  |_=>sd)
theorem RS.frz:∀(is:Yh) {F:Hp} {sd:SD},RS K B F H sd Z -> ∃F',Tu F F'/\RS K B F' H (j0 is sd) Z
 | [],F,sd,r=>⟨F,.refl _,r⟩
 |i::is,F,sd,r=>by
  unfold j0
  split
  .rename_i p d h;obtain⟨g,a,b⟩:=r.frz1 h;obtain⟨c,e,f⟩:=RS.frz is b;exact⟨c,a.trans e,f⟩
  .exact RS.frz is r
end
def uv (K:W.Frag)(F H:Hp)(c:Str)(fs:Yz)(b:Value)(a:Option Addr):Prop:=
 ∃C,b=.ref C/\W.nsIn K mainGlobals c=some (some (.ref C))/\(fs=[]\/∃p n,fs=[.int n]/\a=some p/\F p=some (zz p n))
def XW (K:W.Frag)(E:XK)(F H:Hp)(c:Str)(fs:Yz):Prop:=∀b a F' H',Ext F H F' H'->uv K F' H' c fs b a->E b a H'
def XW.ext {K:W.Frag}{E:XK}{F H F' H':Hp}{c:Str}{fs:Yz}(h:XW K E F H c fs)(e:Ext F H F' H'):XW K E F' H' c fs:=λb a d f g q=>h b a d f (e.trans g) q
abbrev FE:=SD->Res D
abbrev FT:=SD->Res Bool
abbrev FA:=SD->Res Yz
def x3 (K:W.Frag)(F H:Hp)(Q:VK)(d:D):Prop:=∀v F' H',Ext F H F' H'->Tj K F' d v->Q v H'
def zE (F H:Hp)(Q:Bool->Hp->Prop)(b:Bool):Prop:=∀F' H',Ext F H F' H'->Q b H'
def fy (K:W.Frag)(F H:Hp)(Q:Yx->Hp->Prop)(ds:Yz):Prop:=∀vs F' H',Ext F H F' H'->Ti K F' ds vs->Q vs H'
def xb (K:W.Frag)(F H:Hp)(Q:VK)(d:D):Prop:=∀l F' H',Ext F H F' H'->H l=none->F' l=none->xu K F' H' l d->Q (.ref l) H'
def tD (K:W.Frag)(E:XK)(f:FE):TE:=λZ H Q=>∃B F sd,RS K B F H sd Z /\ (f sd).need (x3 K F H Q) (XW K E F H)
def zA (K:W.Frag)(E:XK)(f:FT):TT:=λZ H Q=>∃B F sd,RS K B F H sd Z /\ (f sd).need (zE F H Q) (XW K E F H)
def gY (K:W.Frag)(E:XK)(f:FA):TA:=λZ H Q=>∃B F sd,RS K B F H sd Z /\ (f sd).need (fy K F H Q) (XW K E F H)
def wb (K:W.Frag)(E:XK)(f:FE):TE:=λZ H Q=>∃B F sd,RS K B F H sd Z /\ (f sd).need (xb K F H Q) (XW K E F H)
abbrev QE (X:Cx)(E:XK)(e:Expr)(f:FE):Prop:=PE X e (tD X.K E f)
abbrev QT (X:Cx)(E:XK)(e:Expr)(f:FT):Prop:=PT X e (zA X.K E f)
abbrev QW (X:Cx)(E:XK)(e:Expr)(f:FT):Prop:=PW X e (zA X.K E f)
abbrev QA (X:Cx)(E:XK)(es:Yk)(f:FA):Prop:=PA X es (gY X.K E f)
abbrev QN (X:Cx)(E:XK)(e:Expr)(f:FE):Prop:=PE X e (wb X.K E f)
def PE.weak (h:PE X e t)(w:∀Z H Q,t' Z H Q->t Z H Q):PE X e t':=λY s Z H Q I q=>h Y s Z H Q I (w _ _ _ q)
def PT.weak (h:PT X e t)(w:∀Z H Q,t' Z H Q->t Z H Q):PT X e t':=λY s Z H Q I q=>h Y s Z H Q I (w _ _ _ q)
def PW.weak (h:PW X e t)(w:∀Z H Q,t' Z H Q->t Z H Q):PW X e t':=λa Y s Z H Q I q=>h a Y s Z H Q I (w _ _ _ q)
def PA.weak (h:PA X e t)(w:∀Z H Q,t' Z H Q->t Z H Q):PA X e t':=λa Y s Z H Q I q=>h a Y s Z H Q I (w _ _ _ q)
def PS.weak (h:PS X e t)(w:∀D Z H,t' D Z H->t D Z H):PS X e t':=λY s Z H D I q=>h Y s Z H D I (w _ _ _ q)
def qJ.weak (h:qJ X e t)(w:∀D Z H,t' D Z H->t D Z H):qJ X e t':=λY s Z H D I q=>h Y s Z H D I (w _ _ _ q)
def PI.weak (h:PI X tg e t)(w:∀Z H R,t' Z H R->t Z H R):PI X tg e t':=λY s Z H R I q=>h Y s Z H R I (w _ _ _ q)
section
variable {K:W.Frag}{E:XK}{F H F' H':Hp}
def x3.ext (h:x3 K F H Q d)(e:Ext F H F' H'):x3 K F' H' Q d:=λv a b c q=>h v a b (e.trans c) q
def zE.ext (h:zE F H Q b)(e:Ext F H F' H'):zE F' H' Q b:=λa c d=>h a c (e.trans d)
def xb.ext (h:xb K F H Q d)(e:Ext F H F' H'):xb K F' H' Q d:=λl a b c q=>h l a b (e.trans c) (Qh e.hh q)
def Bv {Q:VK}{r:Res D}(h:r.need (x3 K F H Q) (XW K E F H))(e:Ext F H F' H'):r.need (x3 K F' H' Q) (XW K E F' H'):=h.mono (λ_ q=>q.ext e) λ_ _ q=>q.ext e
def El {Q:Bool->Hp->Prop}{r:Res Bool}(h:r.need (zE F H Q) (XW K E F H))(e:Ext F H F' H'):r.need (zE F' H' Q) (XW K E F' H'):=h.mono (λ_ q=>q.ext e) λ_ _ q=>q.ext e
def Bw {Q:VK}{r:Res D}(h:r.need (xb K F H Q) (XW K E F H))(e:Ext F H F' H'):r.need (xb K F' H' Q) (XW K E F' H'):=h.mono (λ_ q=>q.ext e) λ_ _ q=>q.ext e
theorem x3.new (h:x3 K F H Q d):xb K F H Q d:=λl F' H' e n c o=>by
 obtain⟨u,f⟩:=o.has;refine h (.ref l) (TQ F' l u) H' ⟨e.ff.trans (K6 c u),λb v q=>?_,e.hh,λa i g=>?_⟩ (o.frz f c)
 .by_cases z:b=l
  .subst z;rw[JQ] at q;cases q;exact f
  .rw[JL z] at q;exact e.fh _ _ q
 .have z:a≠l:=λz=>g (by rw[z];exact n);rw[JL z];exact e.new a i g
end
section
variable {X:Cx}{E:XK}
def Tz (h:QN X E e f):QE X E e f:=PE.weak h λZ H Q ⟨B,F,sd,r,n⟩=>⟨B,F,sd,r,n.mono (λ_ q=>q.new) λ_ _ q=>q⟩
def Tf (i:Nat):FE:=λsd=>match sd[i]? with
 |some (~~~d)=>.ok d
 |_=>.no
def dC (d:D):FE:=λ_=>.ok d
def wx (h:PE X e (xD i)):QE X E e (Tf i):=PE.weak h λZ H Q a=>by
 obtain⟨B,F,sd,r,n⟩:=a;unfold Tf at n
 split at n
 .rename_i d q;obtain⟨v,b,c⟩:=r.val q;exact⟨v,b,n v F H (.refl r.ext.fh) c⟩
 .exact n.elim
def ZK (h:PE X e (tC v))(i:∀F,Tj X.K F d v):QE X E e (dC d):=PE.weak h λZ H Q ⟨B,F,sd,r,n⟩=>n v F H (.refl r.ext.fh) (i F)
def JF {i j pos}:QE X E (.Constant (.int i) j pos) (dC (.int i)):=ZK HW λ_=>Tk.mpr rfl
def Ke {b j pos}:QE X E (.Constant (.bool b) j pos) (dC (.bl b)):=ZK wF λ_=>Tv.mpr rfl
def KP {j pos}:QE X E (.Constant .none j pos) (dC .non):=ZK HX λ_=>T9.mpr rfl
def Res.ofO {α: Type}:Option α -> Res α
 |some a=>.ok a
 |none=>.no
@[simp]def yR {α: Type}(a:α):Res.ofO (some a)=.ok a:=rfl
@[simp]def yS {α: Type}:Res.ofO (none:Option α)=.no:=rfl
def Tt {α: Type}{o:Option α}{p:α -> Prop}(h:(Res.ofO o).need p q):∃a,o=some a/\p a:=by
 cases o with
 |none=>exact h.elim
 |some a=>exact⟨a,rfl,h⟩
def T1 (g:D->D->YA)(a b:FE):FE:=λsd=>(a sd).bind λx=>(b sd).bind λy=>.ofO (g x y)
def xJ (g:D->YA)(a:FE):FE:=λsd=>(a sd).bind λx=>.ofO (g x)
def wq (K:W.Frag)(g:D->D->YA):R2:=λv w H Q=>∃F d e z,Tu F H/\Tj K F d v/\Tj K F e w/\g d e=some z/\x3 K F H Q z
def wo (K:W.Frag)(g:D->D->YA):R2:=λv w H Q=>∃F d e z,Tu F H/\Tj K F d v/\Tj K F e w/\g d e=some z/\xb K F H Q z
def kT (K:W.Frag)(g:D->YA):V->Hp->VK->Prop:=λv H Q=>∃F d z,Tu F H/\Tj K F d v/\g d=some z/\x3 K F H Q z
def yp (K:W.Frag)(g:Yz->YA):Yx->Hp->VK->Prop:=λvs H Q=>∃F ds z,Tu F H/\Ti K F ds vs/\g ds=some z/\x3 K F H Q z
def xF (K:W.Frag)(g:Yz->YA):Yx->Hp->VK->Prop:=λvs H Q=>∃F ds z,Tu F H/\Ti K F ds vs/\g ds=some z/\xb K F H Q z
def X5 {K:W.Frag}{g:D->D->YA}{c d:FE}{Z: St}{H:Hp}{Q:VK}(h:tD K E (T1 g c d) Z H Q):zn (wq K g) (tD K E c) (tD K E d) Z H Q:=by
 obtain⟨B,F,sd,r,n⟩:=h;refine⟨B,F,sd,r,(Res.need_bind n).mono (λx e v f o a i=>?_) λ_ _ q=>q⟩;refine⟨B,f,sd,r.step a,(Res.need_bind e).mono (λy j w l p b m=>?_) λ_ _ q=>q.ext a⟩;obtain⟨z,hz,q⟩:=Tt j;exact⟨l,x,y,z,b.fh,Tj.same b.ff _ _ i,m,hz,q.ext (a.trans b)⟩
def Mo {K:W.Frag}{g:D->D->YA}{c d:FE}{Z: St}{H:Hp}{Q:VK}(h:wb K E (T1 g c d) Z H Q):zn (wo K g) (tD K E c) (tD K E d) Z H Q:=by
 obtain⟨B,F,sd,r,n⟩:=h;refine⟨B,F,sd,r,(Res.need_bind n).mono (λx e v f o a i=>?_) λ_ _ q=>q⟩;refine⟨B,f,sd,r.step a,(Res.need_bind e).mono (λy j w l p b m=>?_) λ_ _ q=>q.ext a⟩;obtain⟨z,hz,q⟩:=Tt j;exact⟨l,x,y,z,b.fh,Tj.same b.ff _ _ i,m,hz,q.ext (a.trans b)⟩
def wa {K:W.Frag}{g:D->YA}{a:FE}{Z: St}{H:Hp}{Q:VK}(h:tD K E (xJ g a) Z H Q):gX (kT K g) (tD K E a) Z H Q:=by
 obtain⟨B,F,sd,r,n⟩:=h;refine⟨B,F,sd,r,(Res.need_bind n).mono (λx c v d f b e=>?_) λ_ _ q=>q⟩;obtain⟨z,hz,q⟩:=Tt c;exact⟨d,x,z,b.fh,e,hz,q.ext b⟩
abbrev xA (X:Cx)(f:Value->Value->Sem Value)(g:D->D->YA):Prop:=ql X f (wq X.K g)
abbrev um (X:Cx)(f:Value->Value->Sem Value)(g:D->D->YA):Prop:=ql X f (wo X.K g)
def ql.weak (h:ql X f r)(w:∀x y H Q,r' x y H Q->r x y H Q):ql X f r':=λY s Z H x y v u Q I a b q=>h Y s Z H x y v u Q I a b (w _ _ _ _ q)
def yQ.weak (h:yQ X f r)(w:∀x H Q,r' x H Q->r x H Q):yQ X f r':=λY s Z H x v Q I a q=>h Y s Z H x v Q I a (w _ _ _ q)
def jc.weak (h:jc X f r)(w:∀x H Q,r' x H Q->r x H Q):jc X f r':=λY s Z H x v Q I a q=>h Y s Z H x v Q I a (w _ _ _ q)
def xP.weak (h:xP X r)(w:∀x y H Q,r' x y H Q->r x y H Q):xP X r':=λa b Y s Z H x y v u Q I c d q e=>h a b Y s Z H x y v u Q I c d (w _ _ _ _ q) e
variable {a b:Expr}{fa fb:FE}{pos:Pos}
def TD (c:xA X (binaryOp op) g)(d:QE X E a fa)(e:QE X E b fb):QE X E (.BinOp a op b pos) (T1 g fa fb):=PE.weak (Db c d e) λ_ _ _ h=>X5 h
def wy (c:um X (binaryOp op) g)(d:QE X E a fa)(e:QE X E b fb):QN X E (.BinOp a op b pos) (T1 g fa fb):=PE.weak (Db c d e) λ_ _ _ h=>Mo h
def kU (c:yQ X (unaryOp op) (kT X.K g))(d:QE X E a fa):QE X E (.UnaryOp op a pos) (xJ g fa):=PE.weak (wD c d) λ_ _ _ h=>wa h
def Bx (c:xA X (compareOp op) g)(d:QE X E a fa)(e:QE X E b fb)(f:behindInMarks op b=false):QE X E (.Compare a [op] [b] pos) (T1 g fa fb):=PE.weak (ID c d e f) λ_ _ _ h=>X5 h
def JC (fa:FE):FT:=λsd=>(fa sd).bind λx=>match x with
 | .bl b=>.ok b
 |_=>.no
def Wq {K:W.Frag}{Z: St}{H:Hp}{Q:Bool->Hp->Prop}(h:zA K E (JC fa) Z H Q):tD K E fa Z H (λx H'=>∃k,x=.bl k/\Q k H'):=by
 obtain⟨B,F,sd,r,n⟩:=h;refine⟨B,F,sd,r,(Res.need_bind n).mono (λx c v d e f g=>?_) λ_ _ q=>q⟩;cases x with
 |bl k=>exact⟨k,Tv.mp g,c d e f⟩
 |_=>exact c.elim
def Qt {op:CmpOp}{g:D->D->YA}(c:xA X (compareOp op) g)(d:QE X E a fa)(e:QE X E b fb)(f:behindInMarks op b=false):QT X E (.Compare a [op] [b] pos) (JC (T1 g fa fb)):=
 PT.weak (AT c d e f) λZ H Q h=>by
  have h:=Wq h;exact X5 h
def Kk (d:QE X E a fa)(e:∀c,isTrue a X.env c=(do let v <- c;standAt a.pos;holding [v] (truthy v)):=by intro _;rfl):QT X E a (JC fa):=PT.weak (Ib d e) λZ H Q q=>Wq q
def QZ (f:FT):FT:=λsd=>(f sd).bind λb=>.ok (!b)
def ZL (f g:FT):FT:=λsd=>(f sd).bind λb=>if b then g sd else .ok false
def xz (f g:FT):FT:=λsd=>(f sd).bind λb=>if b then .ok true else g sd
variable {f g:FT}{rest:Yk}
def V9 (c:QT X E a f):QT X E (.UnaryOp .Not a pos) (QZ f):=PT.weak (Ih c) λZ H Q ⟨B,F,sd,r,n⟩ =>
 ⟨B,F,sd,r,(Res.need_bind n).mono (λ_ q=>q) λ_ _ q=>q⟩
def Mp (c:QT X E a f):QW X E (.BoolOp .And [a] pos) f:=Ic c
def X6 (c:QT X E a f):QW X E (.BoolOp .Or [a] pos) f:=Ie c
def Mq (h:QT X E a f)(i:QW X E (.BoolOp .And (b::rest) pos) g):QW X E (.BoolOp .And (a::b::rest) pos) (ZL f g):=PW.weak (Ig h i) λZ H Q j=>by
 obtain⟨B,F,sd,r,n⟩:=j;refine⟨B,F,sd,r,(Res.need_bind n).mono (λk d e l c=>?_) λ_ _ q=>q⟩;cases k with
 |true=>exact⟨B,e,sd,r.step c,El d c⟩
 |false=>exact d e l c
def WQ (h:QT X E a f)(i:QW X E (.BoolOp .Or (b::rest) pos) g):QW X E (.BoolOp .Or (a::b::rest) pos) (xz f g):=PW.weak (wA h i) λZ H Q j=>by
 obtain⟨B,F,sd,r,n⟩:=j;refine⟨B,F,sd,r,(Res.need_bind n).mono (λk d e l c=>?_) λ_ _ q=>q⟩;cases k with
 |true=>exact d e l c
 |false=>exact⟨B,e,sd,r.step c,El d c⟩
def xi (h:QW X E e f):QT X E e f:=ul h
def Ws (fa fb:FE):FE:=λsd=>(JC fa sd).bind λb=>if b then fb sd else .ok (.bl false)
def Bz (fa:FE):FE:=λsd=>(JC fa sd).bind λb=>.ok (.bl !b)
def ZM {op}(h:QE X E a fa):QE X E (.BoolOp op [a] pos) fa:=Ii h
def X7 (j:QE X E a fa)(l:QE X E (.BoolOp .And (b::rest) pos) fb):QE X E (.BoolOp .And (a::b::rest) pos) (Ws fa fb):=PE.weak (Ij j l) λZ H Q m=>by
 obtain⟨B,F,sd,r,n⟩:=m;refine Wq (K:=X.K) (E:=E) (Q:=λc d=>if c=true then tD X.K E fb Z d Q else Q (.bl false) d) ⟨B,F,sd,r,(Res.need_bind n).mono (λk h i d e=>?_) λ_ _ q=>q⟩;cases k with
 |true=>exact⟨B,i,sd,r.step e,Bv h e⟩
 |false=>exact h _ i d e (Tv.mpr rfl)
def w5 (e:QE X E a fa):QE X E (.UnaryOp .Not a pos) (Bz fa):=PE.weak (Ik e) λZ H Q h=>by
 obtain⟨B,F,sd,r,n⟩:=h;refine Wq (K:=X.K) (E:=E) (Q:=λc d=>Q (.bl (!c)) d) ⟨B,F,sd,r,(Res.need_bind n).mono (λk i j d l=>?_) λ_ _ q=>q⟩;exact i _ j d l (Tv.mpr rfl)
def Th:FA:=λ_=>.ok []
def Jz (fa:FE)(c:FA):FA:=λsd=>(fa sd).bind λx=>(c sd).bind λxs=>.ok (x::xs)
def J1:QA X E [] Th:=PA.weak WH λZ H Q ⟨B,F,sd,r,n⟩=>n [] F H (.refl r.ext.fh) .nil
def J0 (h:QE X E e fe)(i:QA X E es fr)(hs:starEach (e::es) X.env=(false,eval e X.env)::starEach es X.env:=by rfl):QA X E (e::es) (Jz fe fr):=
 PA.weak (WI h i hs) λZ H Q j=>by
  obtain⟨B,F,sd,r,n⟩:=j;refine⟨B,F,sd,r,(Res.need_bind n).mono (λx l v m w c o=>?_) λ_ _ q=>q⟩;refine⟨B,m,sd,r.step c,(Res.need_bind l).mono (λxs p vs s t d u=>?_) λ_ _ q=>q.ext c⟩;exact p _ s t (c.trans d) (.mk (Tj.same d.ff _ _ o) u)
def j1 (c:FA):FE:=λsd=>(c sd).bind λxs=>if xs.length<=1000 then .ok (.lst xs) else .no
def jr (c:FA):FE:=λsd=>(c sd).bind λxs=>if xs.length<=1000 then .ok (.tup xs) else .no
def QM (h:QA X E es fr):QN X E (.List es pos) (j1 fr):=PE.weak (IL h) λZ H Q i=>by
 obtain⟨B,F,sd,r,n⟩:=i;refine⟨B,F,sd,r,(Res.need_bind n).mono (λxs d vs j l c e=>?_) λ_ _ q=>q⟩
 split at d
 .rename_i m;have hz:=e.length;refine⟨Qz (),λp hp=>?_⟩;exact d p j (TQ l p (.lst vs)) (c.trans (.keep c.fh hp _)) (Qh c.hh hp) (Qh c.fh hp) ⟨vs,JQ,e⟩
 .exact d.elim
def K7 {x1}(h:QA X E es fr):QE X E (.Tuple es x1 pos) (jr fr):=PE.weak (IK h) λZ H Q j=>by
 obtain⟨B,F,sd,r,n⟩:=j;refine⟨B,F,sd,r,(Res.need_bind n).mono (λxs c vs l m d e=>?_) λ_ _ q=>q⟩
 split at c
 .rename_i o;have hz:=e.length;refine⟨Qz (),λp hp=>?_⟩;have i:=jG d.fh hp (.tup vs);exact c _ _ _ (d.trans i) (Tq.mpr ⟨p,vs,rfl,.of JQ,Ti.same i.ff _ _ e⟩)
 .exact c.elim
def qr (K:W.Frag)(c:Yz->Res D):Sp:=λvs H Q _=>∃F ds,Tu F H/\Ti K F ds vs/\(c ds).need (x3 K F H Q) (XW K E0 F H)
def xL (K:W.Frag)(c:Yz->Res D):Sp:=λvs H Q _=>∃F ds,Tu F H/\Ti K F ds vs/\(c ds).need (xb K F H Q) (XW K E0 F H)
def J3 (c:Yz->Res D)(d:FA):FE:=λsd=>(d sd).bind c
def jb {name:Str}{k:Nat}{ps:Yi}{d:Yz->Res D}{p:Pos}{e:Expr}{es:Yk}{j:FA}(c:ye X.prog X.w X.K X.mg X.base name k ps (qr X.K d))(m:Room k X.A)(o:Gl X name)(s:QA X E0 (e::es) j)
 (h:(name == ("__debug__" : Str))=false:=by decide) (t:starEach (e::es) X.env=(false,eval e X.env)::starEach es X.env:=by rfl) (i:(backTo pos (starEach es X.env)).any (·.1)=false:=by rfl):
 QE X E0 (.Call (.Name name p) (e::es) [] pos) (J3 d j):=PE.weak (Z3 c m o s h t i) λZ H Q u=>by
 obtain⟨B,F,sd,r,n⟩:=u;refine⟨B,F,sd,r,(Res.need_bind n).mono (λxs v vs w x l y=>?_) λ_ _ q=>q⟩;show qr X.K d (vs++[]) x Q E0;rw[ZA];exact⟨w,xs,l.fh,y,Bv v l⟩
def KQ {name:Str}{k:Nat}{ps:Yi}{d:Yz->Res D}{p:Pos}{e:Expr}{es:Yk}{j:FA}(c:ye X.prog X.w X.K X.mg X.base name k ps (xL X.K d))(m:Room k X.A)(o:Gl X name)(s:QA X E0 (e::es) j)
 (h:(name == ("__debug__" : Str))=false:=by decide) (t:starEach (e::es) X.env=(false,eval e X.env)::starEach es X.env:=by rfl) (i:(backTo pos (starEach es X.env)).any (·.1)=false:=by rfl):
 QN X E0 (.Call (.Name name p) (e::es) [] pos) (J3 d j):=PE.weak (Z3 c m o s h t i) λZ H Q u=>by
 obtain⟨B,F,sd,r,n⟩:=u;refine⟨B,F,sd,r,(Res.need_bind n).mono (λxs v vs w x l y=>?_) λ_ _ q=>q⟩;show xL X.K d (vs++[]) x Q E0;rw[ZA];exact⟨w,xs,l.fh,y,Bw v l⟩
def T2 (g:Yz->YA)(c:FA):FE:=λsd=>(c sd).bind λxs=>.ofO (g xs)
def JT {id:String}{x:Str}{p:Pos}{e:Expr}{es:Yk}{g:Yz->YA}{h:FA}(j:jc X (.builtin id) (yp X.K g))(l:Gl X x)(m:X.mg x=none)(o:bootBuiltins x=some (.builtin id))(s:QA X E (e::es) h)(t:x ≠ "__name__" := by decide)(c:(x == ("__debug__" : Str))=false:=by decide)
 (u:starEach (e::es) X.env=(false,eval e X.env)::starEach es X.env:=by rfl) (d:(backTo pos (starEach es X.env)).any (·.1)=false:=by rfl):QE X E (.Call (.Name x p) (e::es) [] pos) (T2 g h):=
 PE.weak (YY j l m o s t c u d) λZ H Q v=>by
  obtain⟨B,F,sd,r,n⟩:=v;refine⟨B,F,sd,r,(Res.need_bind n).mono (λxs w vs y C i A=>?_) λ_ _ q=>q⟩;obtain⟨z,hz,q⟩:=Tt w;exact⟨y,xs,z,i.fh,A,hz,q.ext i⟩
def B0 {id:String}{x:Str}{p:Pos}{e:Expr}{es:Yk}{g:Yz->YA}{h:FA}(j:jc X (.builtin id) (xF X.K g))(l:Gl X x)(m:X.mg x=none)(o:bootBuiltins x=some (.builtin id))(s:QA X E (e::es) h)(t:x ≠ "__name__" := by decide)(c:(x == ("__debug__" : Str))=false:=by decide)
 (u:starEach (e::es) X.env=(false,eval e X.env)::starEach es X.env:=by rfl) (d:(backTo pos (starEach es X.env)).any (·.1)=false:=by rfl):QN X E (.Call (.Name x p) (e::es) [] pos) (T2 g h):=
 PE.weak (YY j l m o s t c u d) λZ H Q v=>by
  obtain⟨B,F,sd,r,n⟩:=v;refine⟨B,F,sd,r,(Res.need_bind n).mono (λxs w vs y C i A=>?_) λ_ _ q=>q⟩;obtain⟨z,hz,q⟩:=Tt w;exact⟨y,xs,z,i.fh,A,hz,q.ext i⟩
def X8 {T:String}{x:Str}{p:Pos}{e:Expr}{es:Yk}{g:Yz->YA}{h:FA}(j:jc X (.type T) (yp X.K g))(l:Gl X x)(m:X.mg x=none)(o:bootBuiltins x=some (.type T))(s:QA X E (e::es) h)(t:x ≠ "__name__" := by decide)(c:(x == ("__debug__" : Str))=false:=by decide)
 (u:starEach (e::es) X.env=(false,eval e X.env)::starEach es X.env:=by rfl) (d:(backTo pos (starEach es X.env)).any (·.1)=false:=by rfl):QE X E (.Call (.Name x p) (e::es) [] pos) (T2 g h):=
 PE.weak (AW j l m o s t c u d) λZ H Q v=>by
  obtain⟨B,F,sd,r,n⟩:=v;refine⟨B,F,sd,r,(Res.need_bind n).mono (λxs w vs y C i A=>?_) λ_ _ q=>q⟩;obtain⟨z,hz,q⟩:=Tt w;exact⟨y,xs,z,i.fh,A,hz,q.ext i⟩
def WR {T:String}{x:Str}{p:Pos}{e:Expr}{es:Yk}{g:Yz->YA}{h:FA}(j:jc X (.type T) (xF X.K g))(l:Gl X x)(m:X.mg x=none)(o:bootBuiltins x=some (.type T))(s:QA X E (e::es) h)(t:x ≠ "__name__" := by decide)(c:(x == ("__debug__" : Str))=false:=by decide)
 (u:starEach (e::es) X.env=(false,eval e X.env)::starEach es X.env:=by rfl) (d:(backTo pos (starEach es X.env)).any (·.1)=false:=by rfl):QN X E (.Call (.Name x p) (e::es) [] pos) (T2 g h):=
 PE.weak (AW j l m o s t c u d) λZ H Q v=>by
  obtain⟨B,F,sd,r,n⟩:=v;refine⟨B,F,sd,r,(Res.need_bind n).mono (λxs w vs y C i A=>?_) λ_ _ q=>q⟩;obtain⟨z,hz,q⟩:=Tt w;exact⟨y,xs,z,i.fh,A,hz,q.ext i⟩
def Wt:D->Bool
 | .tup _=>false
 | .lst _=>false
 | .dct _ _=>false
 | .ins _ _ _=>false
 | .exc _=>false
 | .exr _ _=>false
 | .dcf _ _=>false
 | .pin _ _=>false
 | .scr _=>false
 |_=>true
def Tj.scal {K:W.Frag}{F F':Hp}{d:D}{v:V}(s:Wt d=true)(h:Tj K F d v):Tj K F' d v:=by
 cases d with
 |tup _=>exact J6 s
 |lst _=>exact J6 s
 |dct _ _=>exact J6 s
 |ins _ _ _=>exact J6 s
 |exc _=>exact J6 s
 |exr _ _=>exact J6 s
 |dcf _ _=>exact J6 s
 |pin _ _=>exact J6 s
 |scr _=>exact J6 s
 |_=>exact h
def Res.bare {α: Type}(r:Res α):Res α:= match r with
 | .ok a=>.ok a
 | .ex c []=>.ex c []
 |_=>.no
def qj {α: Type}{K:W.Frag}{F H e:Hp}{r:Res α}{p:α -> Prop}(i:Tu F H)(h:r.bare.need p (XW K E0 F H)):r.need p (XW K E0 e H):=by
 cases r with
 |ok a=>exact h
 |no=>exact h
 |ex c fs =>
  cases fs with
  |nil=>exact λj a q l m ⟨C,n,o,_⟩=>h j none F l (.grow i m.hh) ⟨C,n,o,.inl rfl⟩
  |cons d r=>exact h.elim
def xW (is:Yh)(f:FE):FE:=λsd=>(f (j0 is sd)).bare.bind λd=>if Wt d then .ok d else .no
def B4 (is:Yh)(f:FT):FT:=λsd=>(f (j0 is sd)).bare
def ZN {e:Expr}{j:FE}(is:Yh)(h:QE X E0 e j):QE X E0 e (xW is j):=PE.weak h λZ H Q l=>by
 obtain⟨B,F,sd,r,n⟩:=l;obtain⟨m,u,o⟩:=r.frz is;refine⟨B,m,_,o,(qj r.ext.fh (Res.need_bind n)).mono (λd i v w p s t=>?_) λc fs q=>q⟩
 split at i
 .rename_i hs;exact i v F p (.grow r.ext.fh s.hh) (t.scal hs)
 .exact i.elim
def Mr {e:Expr}{i:FT}(is:Yh)(h:QT X E0 e i):QT X E0 e (B4 is i):=PT.weak h λZ H Q j=>by
 obtain⟨B,F,sd,r,n⟩:=j;obtain⟨l,t,m⟩:=r.frz is;refine⟨B,l,_,m,(qj r.ext.fh n).mono (λd o u p s=>?_) λc fs q=>q⟩;exact o F p (.grow r.ext.fh s.hh)
end
inductive Out where
 |next (sd:SD)|ret (d:D)|brk (sd:SD)|cont (sd:SD)
def fN (K:W.Frag)(F H:Hp)(Q:VK)(d:D):Prop:=if Wt d=true then x3 K F H Q d else xb K F H Q d
def uj (K:W.Frag)(m:Option Bool)(B:Bs)(Q:VK)(d:D):Prop:=match m with
 |some true=>xb K B.F0 B.H0 Q d
 |some false=>x3 K B.F0 B.H0 Q d
 |none=>fN K B.F0 B.H0 Q d
def yg (K:W.Frag)(m:Option Bool)(B:Bs)(F:Hp)(T:Ends):Out->Prop
 | .next sd=>∀Z F' H',Tu F F'->RS K B F' H' sd Z -> T.nx Z H'
 | .brk sd=>∀Z F' H',Tu F F'->RS K B F' H' sd Z -> T.bk Z H'
 | .cont sd=>∀Z F' H',Tu F F'->RS K B F' H' sd Z -> T.ct Z H'
 | .ret d=>uj K m B T.rt d
abbrev FS:=SD->Res Out
def zB (K:W.Frag)(E:XK)(m:Option Bool)(g:FS):TS:=λT Z H=>∃B F sd,RS K B F H sd Z /\ (g sd).need (yg K m B F T) (XW K E B.F0 B.H0)
abbrev QS (X:Cx)(E:XK)(m:Option Bool)(st:Stmt)(g:FS):Prop:=PS X st (zB X.K E m g)
abbrev ya (X:Cx)(E:XK)(m:Option Bool)(st:List Stmt)(g:FS):Prop:=qJ X st (zB X.K E m g)
section
variable {K:W.Frag}{E:XK}{m:Option Bool}{B:Bs}{F F' H:Hp}{T:Ends}
def yg.mono (h:yg K m B F T o)(e:Tu F F'):yg K m B F' T o:=by
 cases o with
 |next sd=>exact λZ a b s r=>h Z a b (e.trans s) r
 |brk sd=>exact λZ a b s r=>h Z a b (e.trans s) r
 |cont sd=>exact λZ a b s r=>h Z a b (e.trans s) r
 |ret d=>exact h
end
section
variable {X:Cx}{E:XK}{m:Option Bool}{st:Stmt}{sts:List Stmt}{g g1 g2:FS}{pos:Pos}
def JX:FS:=λsd=>.ok (.next sd)
def Tx (g1 g2:FS):FS:=λsd=>(g1 sd).bind λo=>match o with
 | .next sd'=>g2 sd'
 |o=>.ok o
def Qm:ya X E m [] JX:=qJ.weak CU λT Z H ⟨B,F,sd,r,n⟩=>n Z F H (.refl _) r
def J7 (h:QS X E m st g):ya X E m [st] g:=CW h
def JA (b:QS X E m st g1)(c:ya X E m sts g2):ya X E m (st::sts) (Tx g1 g2):=qJ.weak (CV b c) λT Z H e=>by
 obtain⟨B,F,sd,r,n⟩:=e;refine⟨B,F,sd,r,(Res.need_bind n).mono (λo a=>?_) λ_ _ q=>q⟩;cases o with
 |next sd'=>exact λh F' H' s f=>⟨B,F',sd',f,a.mono (λo q=>q.mono s) λ_ _ q=>q⟩
 |ret d=>exact a
 |brk sd'=>exact a
 |cont sd'=>exact a
def Wu (is:Yh)(h:QS X E m st g):QS X E m st (λsd=>g (j0 is sd)):=PS.weak h λT Z H a=>by
 obtain⟨B,F,sd,r,n⟩:=a;obtain⟨b,c,d⟩:=r.frz is;exact⟨B,b,_,d,n.mono (λ_ q=>q.mono c) λ_ _ q=>q⟩
def zr:FS:=λsd=>.ok (.brk sd)
def Ms:QS X E m (.Break pos) zr:=PS.weak Im λT Z H ⟨B,F,sd,r,n⟩=>n Z F H (.refl _) r
variable {e:Expr}{fe:FE}
def TC (i:Nat)(f:FE):FS:=λsd=>(f sd).bind λd=>.ok (.next (sd.set i (~~~d)))
def jH (i:Nat)(f:FE):FS:=λsd=>(f sd).bind λd=>.ok (.next (sd.set i (some (.own false d))))
def JO (b:X.N.Nodup)(hi:X.N[i]? = some x)(hx:x4 X.env.scope x)(c:QE X E e fe)(hs:swapsWith e (some (.Name x pos')) pos.line X.env=pure false:=by rfl)
 (f:X.fn x=true\/X.env.scope.names.lookup x=some .local:=by trivial):QS X E m (.Assign [.Name x pos'] e pos) (TC i fe):=PS.weak (AR b hi hx c hs f) λT Z H h=>by
 obtain⟨B,F,sd,r,n⟩:=h;refine⟨B,F,sd,r,(Res.need_bind n).mono (λd j v l o a p=>?_) λ_ _ q=>q.ext r.ext⟩;exact j _ l o a.ff ((r.step a).setVal p)
def Ku (h:X.N.Nodup)(hi:X.N[i]? = some x)(hx:x4 X.env.scope x)(s:QN X E e fe)(hs:swapsWith e (some (.Name x pos')) pos.line X.env=pure false:=by rfl)
 (t:X.fn x=true\/X.env.scope.names.lookup x=some .local:=by trivial):QS X E m (.Assign [.Name x pos'] e pos) (jH i fe):=PS.weak (AR h hi hx s hs t) λT Z H u=>by
 obtain⟨B,F,sd,r,n⟩:=u;refine⟨B,F,sd,r,(Res.need_bind n).mono (λd v l w y a b z A=>?_) λ_ _ q=>q.ext r.ext⟩;refine v _ w y a.ff ((r.step a).setOwn (Qh r.ext.hh b) z A λj p d' C c=>?_);obtain⟨J,G,_,_,I,_⟩:=r.own C;rw[G] at c;cases c;obtain⟨o,f⟩:=I.has;rw[b] at f;exact J2 f
def T6 (f:FE):FS:=λsd=>(f sd).bind λd=>.ok (.ret d)
def JR (a:QE X E e fe):QS X E false (.Return (some e) pos) (T6 fe):=PS.weak (YV a) λT Z H b=>by
 obtain⟨B,F,sd,r,n⟩:=b;refine⟨B,F,sd,r,(Res.need_bind n).mono (λd c v f h i j=>?_) λ_ _ q=>q.ext r.ext⟩;exact c v f h (r.ext.trans i) j
def KR (a:QN X E e fe):QS X E true (.Return (some e) pos) (T6 fe):=PS.weak (YV a) λT Z H b=>by
 obtain⟨B,F,sd,r,n⟩:=b;refine⟨B,F,sd,r,(Res.need_bind n).mono (λd c l f h i j o p=>?_) λ_ _ q=>q.ext r.ext⟩;exact c l f h (r.ext.trans i) (Qh r.ext.hh j) o p
def Kv (i:Nat):FS:=λsd=>match sd[i]? with
 |some (some (.own _ d))=>.ok (.ret d)
 |_=>.no
def X9 (a:PE X e (xD i)):QS X E true (.Return (some e) pos) (Kv i):=PS.weak (YV a) λT Z H b=>by
 obtain⟨B,F,sd,r,n⟩:=b;unfold Kv at n
 split at n
 .rename_i d q;obtain⟨l,c,f,h,j,_⟩:=r.own q;exact⟨.ref l,c,n l F H r.ext f h j⟩
 .exact n.elim
def jQ (c:FT)(g1 g2:FS):FS:=λsd=>(c sd).bind λb=>if b then g1 sd else g2 sd
def Qi (i:QT X E c fc)(j:ya X E m a g1)(l:ya X E m b g2):QS X E m (.If c a b pos) (jQ fc g1 g2):=PS.weak (CY i j l) λT Z H o=>by
 obtain⟨B,F,sd,r,n⟩:=o;refine⟨B,F,sd,r,(Res.need_bind n).mono (λb f h p d=>?_) λ_ _ q=>q.ext r.ext⟩;cases b with
 |true=>exact⟨B,h,sd,r.step d,f.mono (λ_ q=>q.mono d.ff) λ_ _ q=>q⟩
 |false=>exact⟨B,h,sd,r.step d,f.mono (λ_ q=>q.mono d.ff) λ_ _ q=>q⟩
def Kw (i:Nat)(f:FE):FS:=λsd=>match sd[i]? with
 |some (some (.own false (.lst ds)))=>(f sd).bind λd=>if ds.length<sizeLine then .ok (.next (sd.set i (some (.own false (.lst (ds++[d])))))) else .no
 |_=>.no
def XA (A:PE X o (xD i))(C:QE X E e fe)
 (hp:∀{j:TE} {t:TA},PE X o j->PA X [e] t->PE X (.Call (.Attribute o "append" apos) [e] [] cpos) (uB X.K "list" AZ j t))
 (hs:swapsWith (.Call (.Attribute o "append" apos) [e] [] cpos) none pos.line X.env=pure false:=by rfl)
 (f:starEach [e] X.env=(false,eval e X.env)::starEach [] X.env:=by rfl):QS X E m (.Expr (.Call (.Attribute o "append" apos) [e] [] cpos) pos) (Kw i fe):=
 PS.weak (AQ (hp A (J0 C J1 f)) hs) λT Z H G=>by
  obtain⟨B,F,sd,r,n⟩:=G;unfold Kw at n
  split at n
  .rename_i ds hi;obtain⟨l,p,L,M,⟨xs,s,u⟩,_⟩:=r.own hi;refine⟨.ref l,p,.inl ⟨rfl,xs,qh.of s⟩,B,F,sd,r,?_⟩;unfold Jz Th;show((fe sd).bind λx=>.ok [x]).need _ _;have a:=Res.need_bind n;cases q:fe sd with
   |no=>rw[q] at a;exact a
   |ex c fs=>rw[q] at a;exact a.ext r.ext
   |ok d =>
    rw[q] at a;intro vs I N b y;rw[Tp] at y;obtain⟨v,w,rfl,J,z⟩:=y;rw[Ti.nil_iff] at z;subst z;have h:(if ds.length<sizeLine then Res.ok (Out.next (sd.set i (some (.own false (.lst (ds++[d])))))) else .no).need (yg X.K m B F T) (XW X.K E B.F0 B.H0):=a
    split at h
    .rename_i hz;have O:=u.length;refine⟨l,xs,v,rfl,rfl,b.hh _ _ s,(),?_⟩;have K:=r.step b;exact h Z I _ b.ff (K.chg hi p ⟨xs++[v],JQ,(Ti.same b.ff _ _ u).snoc J⟩)
    .exact h.elim
  .exact n.elim
def KS (i:Nat)(f:FE):FS:=λsd=>match sd[i]? with
 |some (some (.own false (.lst ds)))=>(f sd).bind λd=>match d with
  | .lst es=>if ds.length+es.length<=sizeLine then .ok (.next (sd.set i (some (.own false (.lst (ds++es)))))) else .no
  |_=>.no
 |_=>.no
def Em (v:PE X o (xD i))(w:QN X E e fe)
 (hp:∀{h:TE} {t:TA},PE X o h->PA X [e] t->PE X (.Call (.Attribute o "extend" apos) [e] [] cpos) (uB X.K "list" Dr h t))
 (hs:swapsWith (.Call (.Attribute o "extend" apos) [e] [] cpos) none pos.line X.env=pure false:=by rfl)
 (c:starEach [e] X.env=(false,eval e X.env)::starEach [] X.env:=by rfl):QS X E m (.Expr (.Call (.Attribute o "extend" apos) [e] [] cpos) pos) (KS i fe):=
 PS.weak (AQ (hp v (WI w WH c)) hs) λT Z H x=>by
  obtain⟨B,F,sd,r,n⟩:=x;unfold KS at n
  split at n
  .rename_i ds hi;obtain⟨l,j,G,I,⟨xs,p,s⟩,_⟩:=r.own hi;refine⟨.ref l,j,.inl ⟨rfl,xs,qh.of p⟩,B,F,sd,r,(Res.need_bind n).mono (λd u b y J a K L z=>?_) λ_ _ q=>q.ext r.ext⟩;cases d with
   |lst es =>
    obtain⟨ys,g1,g2⟩:=z;have f:(if ds.length+es.length<=sizeLine then Res.ok (Out.next (sd.set i (some (.own false (.lst (ds++es)))))) else .no).need (yg X.K m B F T) (XW X.K E B.F0 B.H0):=u
    split at f
    .rename_i hz;have M:=s.length;have A:=g2.length;refine⟨l,b,xs,ys,rfl,rfl,a.hh _ _ p,g1,(),?_⟩;have C:=r.step a;exact f Z y _ a.ff (C.chg hi j ⟨xs++ys,JQ,(Ti.same a.ff _ _ s).append g2⟩)
    .exact f.elim
   |_=>exact u.elim
  .exact n.elim
inductive Tg where
 |one (i:Nat)|tup (is:Yh)
def setAll:Yh->Yz->SD->SD
 |i::is,d::ds,sd=>setAll is ds (sd.set i (~~~d))
 |_,_,sd=>sd
def JS:Tg->D->SD->Res SD
 | .one i,d,sd=>.ok (sd.set i (~~~d))
 | .tup is,.tup ds,sd=>if ds.length=is.length then .ok (setAll is ds sd) else .no
 |_,_,_=>.no
def ZO:Yh->Yx->St->St
 |i::is,v::vs,Z => ZO is vs (Z.set i (some v))
 |_,_,Z => Z
theorem RS.setAll {K:W.Frag}{B:Bs}{F H:Hp}:∀{is:Yh} {ds:Yz} {vs:Yx} {sd:SD} {Z: St},RS K B F H sd Z -> Ti K F ds vs->RS K B F H (setAll is ds sd) (ZO is vs Z)
 | [],ds,vs,sd,Z,r,_=>r
 |i::is,[],vs,sd,Z,r,h=>by
  rw[Ti.nil_iff] at h;subst h;exact r
 |i::is,d::ds,vs,sd,Z,r,h=>by
  rw[Tp] at h;obtain⟨v,w,rfl,a,b⟩:=h;exact RS.setAll (is:=is) (ds:=ds) (vs:=w) (r.setVal (i:=i) a) b
def RS.forget {K:W.Frag}{B:Bs}{F H:Hp}{sd sd':SD}{Z: St}(r:RS K B F H sd Z)(a:sd'.length=sd.length)(h:∀(i:Nat) (x:SV),sd'[i]? = some (some x)->sd[i]? = some (some x)):RS K B F H sd' Z:=
 ⟨r.ext,by rw[r.len,a],λq=>r.val (h _ _ q),λq=>r.own (h _ _ q),λn b c d=>r.apart n (h _ _ b) (h _ _ c) d⟩
def gT:Tg->W.Frag->TG
 | .one i,_=>KG i
 | .tup is,K=>λv Z H Q=>∃a xs,v=.ref a/\xh K H a xs/\xs.length=is.length/\Q (ZO is xs Z) H
def XB {K:W.Frag}{tg:Tg}{B:Bs}{F H:Hp}{sd:SD}{Z: St}{d:D}{v:V}{p:SD->Prop}{q:Str->Yz->Prop}{Q:St->Hp->Prop}(r:RS K B F H sd Z)(hi:Tj K F d v)(n:(JS tg d sd).need p q)
 (h:∀sd' f,p sd'->JS tg d sd=.ok sd'->RS K B F H sd' f->Q f H):gT tg K v Z H Q:=by
 cases tg with
 |one i=>exact h _ _ n rfl (r.setVal hi)
 |tup is =>
  cases d with
  |tup ds =>
   rw[Tq] at hi;obtain⟨a,xs,rfl,l,j⟩:=hi;have b:JS (.tup is) (.tup ds) sd=if ds.length=is.length then .ok (setAll is ds sd) else .no:=rfl
   by_cases c:ds.length=is.length
   .rw[Zd c] at b;rw[b] at n;exact⟨a,xs,rfl,(l.same r.ext.fh).sq,by rw[j.length,c],h _ _ n b (r.setAll j)⟩
   .rw[Ze c] at b;rw[b] at n;exact n.elim
  |_=>exact n.elim
abbrev QG (X:Cx)(e:Expr)(tg:Tg):Prop:=PG X e (gT tg X.K)
def yO (K:W.Frag)(h:Hp)(J:It)(ds:Yz):Prop:=∀(i:Nat) (b a:Hp),Tu h b->Tu b a ->
 (i<ds.length->J.go i a/\∀x c,J.yld i a x c->∃d f,ds[i]? = some d/\Ext b a f c/\Tj K f d x)/\(ds.length<=i->J.stop i a)
def uA (K:W.Frag)(E:XK)(f:FA):TI:=λZ H R=>∃B F sd,RS K B F H sd Z /\ (f sd).need (λds=>∀J F' H',Ext F H F' H'->yO K F' J ds->R J H') (XW K E F H)
abbrev QI (X:Cx)(E:XK)(tg iter:Expr)(f:FA):Prop:=PI X tg iter (uA X.K E f)
def qX (b:D->FS):Yz->FS
 | [],sd=>.ok (.next sd)
 |x::xs,sd=>(b x sd).bind λo=>match o with
  | .next sd'=>qX b xs sd'
  | .cont sd'=>qX b xs sd'
  | .brk sd'=>.ok (.next sd')
  | .ret d=>.ok (.ret d)
def jp (it:FA)(tg:Tg)(b:FS):FS:=λsd=>(it sd).bind λds=>qX (λx sd=>(JS tg x sd).bind b) ds sd
def Qu (hp:PassesOwn (model X.prog X.w) X.A X.env X.xe)(P:X.calm=true)(hi:QI X E tg iter fi)(Q:QG X tg t)(R:ya X E m body g)
 (w:∀x,foldedSetIterable iter X.env x=pure x:=by intro _;rfl):QS X E m (.For tg iter body [] pos) (jp fi t g):=PS.weak (Da hp P hi Q R w) λT Z H S=>by
 obtain⟨B,F,sd,r,n⟩:=S;refine⟨B,F,sd,r,(Res.need_bind n).mono (λds U J z H1 M wk=>?_) λ_ _ q=>q.ext r.ext⟩;refine⟨λi k Z H=>k=ds.length-i/\i<=ds.length/\∃j sd,Tu z j/\RS X.K B j H sd Z /\ (qX (λx sd=>(JS t x sd).bind g) (ds.drop i) sd).need (yg X.K m B j T) (XW X.K E B.F0 B.H0),
  ⟨ds.length,rfl,Uc _,z,sd,.refl _,r.step M,U.mono (λ_ q=>q.mono M.ff) λ_ _ q=>q⟩,?_⟩
 rintro i k Y N ⟨rfl,hi,j,sd2,A,C,l⟩;obtain⟨w1,w2⟩:=wk i j N A C.ext.fh;by_cases a:i<ds.length
 .obtain⟨go,yl⟩:=w1 a;refine .inr ⟨go,λG H'=>∃f b,Tu z f/\RS X.K B f H' b G/\(qX (λx sd=>(JS t x sd).bind g) (ds.drop (i+1)) b).need (yg X.K m B f T) (XW X.K E B.F0 B.H0),
   λG H' ⟨f,b,q1,q2,q3⟩=>⟨ds.length-(i+1),(),rfl,a,f,b,q1,q2,q3⟩,λx H3 y=>?_⟩
  obtain⟨d,f,O,p,i3⟩:=yl x H3 y;rw[Uz a] at l;have I:ds[i]=d:=by rw[Zqg a] at O;exact Zqi O
  rw[I] at l;have r3:=C.step p;unfold qX at l;have n3:=Res.need_bind (Res.need_bind l);refine XB r3 i3 n3 λsd' G n4 _ r4=>?_;refine⟨B,f,sd',r4,n4.mono (λo v=>?_) λ_ _ q=>q⟩;cases o with
  |next c=>exact λK s L h u=>⟨s,c,(A.trans p.ff).trans h,u,v.mono (λ_ q=>q.mono (p.ff.trans h)) λ_ _ q=>q⟩
  |cont c=>exact λK s L h u=>⟨s,c,(A.trans p.ff).trans h,u,v.mono (λ_ q=>q.mono (p.ff.trans h)) λ_ _ q=>q⟩
  |brk c=>exact λK s L h u=>v K s L (p.ff.trans h) u
  |ret d=>exact v
 .have he:i=ds.length:=()
  refine .inl ⟨w2 (),?_⟩;subst he;rw[UK] at l;exact l Y j N (.refl _) C
def xm {α β: Type}(f:α -> Res β):List α -> Res (List β)
 | []=>.ok []
 |x::xs=>(f x).bind λy=>(xm f xs).bind λys=>.ok (y::ys)
def jg (cap:List (Option Nat))(sd:SD):SD:=cap.map λo=>o.bind λj=>match sd[j]? with
 |some (~~~d)=>~~~d
 |_=>none
def KU (sd:SD)(i:Nat):Bool:=match sd[i]? with
 |some none=>true
 |_=>false
def KW (sd:SD):Tg->Bool
 | .one i=>KU sd i
 | .tup is=>is.all (KU sd)
def JV (cap:List (Option Nat))(it:FA)(tg:Tg)(f:FE):FE:=λsd=>(it sd).bind λds=>if KW (jg cap sd) tg=true/\ds.length<sizeLine then
 (xm (λx=>(JS tg x (jg cap sd)).bind f) ds).bind λys=>.ok (.lst ys) else .no
theorem RS.cap {K:W.Frag}{B:Bs}{F H:Hp}{sd:SD}{Z: St}(cap:List (Option Nat))(r:RS K B F H sd Z):RS K B F H (jg cap sd) (Wl cap Z):=by
 have a:∀{i:Nat} {x:SV},(jg cap sd)[i]? = some (some x)->∃j d,cap[i]? = some (some j)/\sd[j]? = some (~~~d)/\x=.val d:=λ{i x} q=>by
  unfold jg at q;rw[Zv] at q;cases h:cap[i]? with
  |none=>rw[h] at q;exact J2 q
  |some o =>
   rw[h] at q;cases o with
   |none=>cases q
   |some j =>
    have q:(match sd[j]? with
     |some (~~~d)=>some (SV.val d)
     |_=>none)=some x:=Zqi q
    split at q
    .rename_i d n;exact⟨j,d,rfl,n,(Zqi q).symm⟩
    .exact J2 q
 refine⟨r.ext,by unfold jg Wl;rw[Zql,Zql],λ{i d} q=>?_,λ{i p d} q=>?_,λ{i j p u d e l} _ q=>?_⟩
 .obtain⟨j,d',c,f,b⟩:=a q;cases b;obtain⟨v,s,t⟩:=r.val f;refine⟨v,?_,t⟩;unfold Wl;rw[Zv,c];show some (Option.bind (some j) λj=>(Z[j]?).join)=_;rw[Option.bind_some,s];rfl
 .obtain⟨j,d',c,f,b⟩:=a q;cases b
 .obtain⟨j,d',c,f,b⟩:=a q;cases b
theorem B7:∀(is:Yh) (ds:Yz) (sd0 sd:SD),is.all (KU sd0)=true->sd.length=sd0.length->(∀(i:Nat) (x:SV),sd0[i]? = some (some x)->sd[i]? = some (some x)) ->
 (setAll is ds sd).length=sd0.length/\∀(i:Nat) (x:SV),sd0[i]? = some (some x)->(setAll is ds sd)[i]? = some (some x)
 | [],ds,sd0,sd,_,hl,h=>⟨hl,h⟩
 |i::is,[],sd0,sd,_,hl,h=>⟨hl,h⟩
 |i::is,d::ds,sd0,sd,hn,hl,h=>by
  rw[UH,Ue] at hn;refine B7 is ds sd0 (sd.set i (~~~d)) hn.2 (by rw[U0,hl]) λj x q=>?_;have ne:i≠j:=λz=>by
   subst z;have:=hn.1;unfold KU at this;rw[q] at this;exact J6 this
  rw[QF ne];exact h j x q
def B8 (a:KW sd0 tg=true)(h:JS tg d sd0=.ok sd):sd0.length=sd.length/\∀(i:Nat) (x:SV),sd0[i]? = some (some x)->sd[i]? = some (some x):=by
 cases tg with
 |one i =>
  cases h;have:=B7 [i] [d] sd0 sd0 (by rw[UH,List.all_nil,Bool.and_true];exact a) rfl λ_ _ q=>q;exact⟨this.1.symm,this.2⟩
 |tup is =>
  cases d with
  |tup ds =>
   have b:JS (.tup is) (.tup ds) sd0=if ds.length=is.length then .ok (setAll is ds sd0) else .no:=rfl
   rw[b] at h
   split at h
   .cases h;have:=B7 is ds sd0 sd0 a rfl λ_ _ q=>q;exact⟨this.1.symm,this.2⟩
   .cases h
  |_=>cases h
def Mt {α β: Type}{f:α -> Res β}{xs:List α}{x:α}{p:List β -> Prop}(hx:xs[i]? = some x)(h:(xm f (xs.drop i)).need p q):(f x).need (λy=>(xm f (xs.drop (i+1))).need (λys=>p (y::ys)) q) q:=by
 have a:i<xs.length:=(Jd.mp hx).1;rw[Uz a] at h;have e:xs[i]=x:=by rw[Zqg a] at hx;exact Zqi hx
 rw[e] at h;unfold xm at h;refine(Res.need_bind h).mono (λy b=>?_) λ_ _ z=>z;exact(Res.need_bind b).mono (λys c=>c) λ_ _ z=>z
def B9 {K:W.Frag}{t:Tg}{C:FA}{f:FE}{cap:List (Option Nat)}{Z: St}{H:Hp}{Q:VK}(o:wb K E (JV cap C t f) Z H Q):WM cap (uA K E C) (gT t K) (tD K E f) Z H Q:=by
 obtain⟨B,F,sd,r,n⟩:=o;refine⟨B,F,sd,r,(Res.need_bind n).mono (λds p J G L l wk=>?_) λ_ _ q=>q⟩
 split at p
 .rename_i o;obtain⟨M,hz⟩:=o;refine⟨λi k ys Z b=>k=ds.length-i/\i<=ds.length/\∃a es,Ext G L a b/\RS K B a b (jg cap sd) Z /\ Ti K a es ys/\es.length=i /\
   (xm (λx=>(JS t x (jg cap sd)).bind f) (ds.drop i)).need (λrs=>xb K a b Q (.lst (es++rs))) (XW K E a b),⟨ds.length,rfl,Uc _,G,[],.refl l.fh,(r.step l).cap cap,.nil,rfl,?_⟩,?_⟩
  .exact(Res.need_bind p).mono (λrs q=>(show xb K F H Q (.lst rs) from q).ext l) λ_ _ q=>q.ext l
  rintro i k ys Z2 b ⟨rfl,hi,a,es,s,u,w,N,z⟩;have ly:=w.length;refine⟨(),?_⟩;obtain⟨O,P⟩:=wk i a b s.ff s.fh;by_cases h:i<ds.length
  .obtain⟨go,R⟩:=O h;refine .inr ⟨go,λx S y=>?_⟩;obtain⟨d,T,U,c,Y⟩:=R x S y;have n3:=Mt U z;have r3:=u.step c;refine XB (K:=K) r3 Y (Res.need_bind n3) λsd' Z' n4 hb I=>?_;obtain⟨b1,b2⟩:=B8 M hb;refine⟨B,T,sd',I,n4.mono (λy n5 v F4 H4 j i4=>?_) λ_ _ q=>q.ext c⟩;refine⟨ds.length-(i+1),(),rfl,h,F4,es++[y],(s.trans c).trans j,(I.step j).forget b1 b2,(Ti.same (c.ff.trans j.ff) _ _ w).snoc i4,by rw[Ua,N];rfl,?_⟩;refine n5.mono (λrs q=>?_) λ_ _ q=>q.ext (c.trans j);rw[Uy];exact q.ext (c.trans j)
  .have he:i=ds.length:=()
   subst he;refine .inl ⟨P (Zf _),λD A=>?_⟩;rw[UK] at z;have q:xb K a b Q (.lst (es++[])):=z;rw[ZA] at q;exact q D a _ (.keep u.ext.fh A _) A (Qh u.ext.fh A) ⟨ys,JQ,w⟩
 .exact p.elim
def Q2 (N:Yi)(cap:List (Option Nat))(d:X.calm=true)(a:QB scope X.env N X.N cap=true)(hi:QI X E tg iter fi)
 (i:∀b C s H c,QG (JH X scope N b C s H c) tg t) (j:∀b C s H c,QE (JH X scope N b C s H c) E elt f) (hs:∀x,foldedSetIterable iter X.env x=pure x:=by intro _;rfl):
 QN X E (.ListComp elt [⟨tg,iter,[],0⟩] scope pos) (JV cap fi t f):=PE.weak (D5 (g:=gT t X.K) (te:=tD X.K E f) N cap d a hi i j hs) λ_ _ _ h=>B9 h
def Qv (n:Nat)(ds:Yz):SD:=ds.map (λd=>~~~d)++List.replicate (n-ds.length) none
def TX (n a:Nat)(g:FS)(ds:Yz):Res D:=if ds.length=a then(g (Qv n ds)).bind λo=>match o with
 | .ret d=>.ok d
 | .next _=>.ok .non
 |_=>.no else .no
def jk (n a:Nat)(g:FS)(ds:Yz):Res D:=if ds.length=a then(g (Qv n ds)).bind λo=>match o with
 | .ret d=>.ok d
 |_=>.no else .no
theorem RS.start {K:W.Frag}{F H:Hp}{N:Yi}{ds:Yz}{vs:Yx}(s:Tu F H)(h:Ti K F ds vs):RS K ⟨F,H,λ_=>none⟩ F H (Qv N.length ds) (start N vs):=by
 have a:∀{i:Nat} {x:SV},(Qv N.length ds)[i]? = some (some x)->∃d,ds[i]? = some d/\x=.val d:=λ{i x} q=>by
  unfold Qv at q;by_cases hi:i<ds.length
  .rw[Vu (by rw[Zql];exact hi),Zv,Zqg hi] at q;exact⟨ds[i],Zqg hi,(Zqi (Zqi q)).symm⟩
  .rw[VJ (by rw[Zql];lia),List.getElem?_replicate] at q
   split at q<;>(first|exact J2 q|cases q)
 refine⟨.refl s,by unfold Qv L2.start;simp[h.length],λ{i d} q=>?_,λ{i p d} q=>?_,λ{i j p o d e l} _ q=>?_⟩
 .obtain⟨d',f,b⟩:=a q;cases b;obtain⟨v,c,n⟩:=h.get f;refine⟨v,?_,n⟩;unfold L2.start;rw[Vu (by rw[Zql];exact(Jd.mp c).1),Zv,c];rfl
 .obtain⟨_,_,b⟩:=a q;cases b
 .obtain⟨_,_,b⟩:=a q;cases b
section
variable {P:Program}{w:World}{K:W.Frag}{mg:Yc}{base:Heap}{x qual:Str}{f:Addr}{fd:FuncData}{N ps:Yi}{k:Nat}
def jJ (F:Fun K x qual st f fd)(S:FnScope N ps (JZ st))
 (i:∀(b:Value) (A:Around) (a:List Env) (s:Shared) (H:Hp) (E:XK),Room k (A.deeper (envOfC qual (JZ st) s.heap.objs.size f b))->ya (js xp P w K mg base N qual (JZ st) f b A a s H E).nox E0 false (QX st) g):
 FnOk P w K mg base xp (k+1) f fd ps (qr K (TX N.length ps.length g)):=by
 refine F.ok S (λvs H Q E ⟨F,ds,_,h,n⟩=>?_) λb A a s H vs Q E j ⟨F,ds,hs,h,n⟩=>⟨_,i b A a s H E j,?_⟩
 .unfold TX at n
  split at n
  .rw[h.length];assumption
  .exact n.elim
 .unfold TX at n
  split at n
  .refine⟨⟨F,H,λ_=>none⟩,F,_,RS.start hs h,(Res.need_bind n).mono (λo c=>?_) λ_ _ q=>q⟩;cases o with
   |next sd=>exact λZ F' H' _ r=>c .non F' H' r.ext (T9.mpr rfl)
   |ret d=>exact c
   |brk sd=>exact c.elim
   |cont sd=>exact c.elim
  .exact n.elim
def qY (F:Fun K x qual st f fd)(S:FnScope N ps (JZ st))
 (i:∀(b:Value) (A:Around) (a:List Env) (s:Shared) (H:Hp) (E:XK),Room k (A.deeper (envOfC qual (JZ st) s.heap.objs.size f b))->ya (js xp P w K mg base N qual (JZ st) f b A a s H E).nox E0 true (QX st) g):
 FnOk P w K mg base xp (k+1) f fd ps (xL K (jk N.length ps.length g)):=by
 refine F.ok S (λvs H Q E ⟨F,ds,_,h,n⟩=>?_) λb A a s H vs Q E j ⟨F,ds,hs,h,n⟩=>⟨_,i b A a s H E j,?_⟩
 .unfold jk at n
  split at n
  .rw[h.length];assumption
  .exact n.elim
 .unfold jk at n
  split at n
  .refine⟨⟨F,H,λ_=>none⟩,F,_,RS.start hs h,(Res.need_bind n).mono (λo c=>?_) λ_ _ q=>q⟩;cases o with
   |next sd=>exact c.elim
   |ret d=>exact c
   |brk sd=>exact c.elim
   |cont sd=>exact c.elim
  .exact n.elim
end
end
def ja (p:Int×Int):D:=.tup [.int p.1,.int p.2]
def Ts (r:Jx):D:=.tup (r.map ja)
def XC:D->Option (Int×Int)
 | .tup [.int i,.int j]=>some (i,j)
 |_=>none
def Qq {α: Type}(f:D->Option α):Yz->Option (List α)
 | []=>some []
 |d::ds=>(f d).bind λx=>(Qq f ds).map λxs=>x::xs
def Kx:D->Option Jx
 | .tup ds=>Qq XC ds
 |_=>none
def Wv:D->Option Int
 | .int i=>some i
 |_=>none
theorem XD {α β: Type}{f:D->Option α}{g:β -> D}{k:β -> α}(h:∀x,f (g x)=some (k x)):∀l:List β,Qq f (l.map g)=some (l.map k)
 | []=>rfl
 |x::r=>by rw[Zl];unfold Qq;rw[h,XD h r];rfl
theorem XE {α: Type}{f:D->Option α}{g:α -> D}(h:∀d x,f d=some x->d=g x):∀{ds:Yz} {l:List α},Qq f ds=some l->ds=l.map g
 | [],l,e=>by cases e;rfl
 |d::ds,l,e=>by
  unfold Qq at e;cases a:f d with
  |none=>rw[a] at e;exact J2 e
  |some x =>
   cases b:Qq f ds with
   |none=>rw[a,b] at e;exact J2 e
   |some xs =>
    rw[a,b] at e;obtain rfl:=Zqi e;rw[Zl,<- h d x a,<- XE h b]
def Mu (p:Int×Int):XC (ja p)=some p:=rfl
def Mv (h:XC d=some p):d=ja p:=by
 cases d with
 |tup ds =>
  cases ds with
  |nil=>exact J2 h
  |cons x ds =>
   cases x with
   |int i =>
    cases ds with
    |nil=>exact J2 h
    |cons y ds =>
     cases y with
     |int j =>
      cases ds with
      |nil=>obtain rfl:=Zqi h;rfl
      |cons _ _=>exact J2 h
     |_=>exact J2 h
   |_=>exact J2 h
 |_=>exact J2 h
def En (r:Jx):Kx (Ts r)=some r:=by
 show Qq XC (r.map ja)=some r;rw[XD (k:=id) Mu,List.map_id]
def Eo (h:Kx d=some r):d=Ts r:=by
 cases d with
 |tup ds=>unfold Ts;rw[<- XE (λ_ _=>Mv) (show Qq XC ds=some r from h)]
 |_=>exact J2 h
def Mw (h:Wv d=some i):d=.int i:=by
 cases d with
 |int j=>cases h;rfl
 |_=>exact J2 h
def Mx (h:Qq Wv ds=some l):ds=l.map D.int:=XE (λ_ _=>Mw) h
def Ep (l:Yf):Qq Wv (l.map D.int)=some l:=by
 have h:=XD (f:=Wv) (g:=D.int) (k:=λi:Int=>i) (λ_=>rfl) l;rw[h,List.map_id']
def BA (l:Jy):Qq Kx (l.map Ts)=some l:=by rw[XD (k:=id) En,List.map_id]
def BB (h:Qq Kx ds=some l):ds=l.map Ts:=XE (λ_ _=>Eo) h
section
variable {K:W.Frag}{H:Hp}
def gR:Tj K H (ja p) v↔Is H (pD p) v:=by
 rw[u3];unfold ja;rw[Tq];constructor
 .rintro⟨a,xs,rfl,b,c⟩;have:xs=[p.1,p.2].map V.int:=jn (ns:=[p.1,p.2]) c;subst this;exact⟨a,rfl,b⟩
 .rintro⟨a,rfl,b⟩;exact⟨a,_,rfl,b,jd [p.1,p.2]⟩
theorem zG:∀{r:Jx} {xs:Yx},Ti K H (r.map ja) xs↔TU H (r.map pD) xs
 | [],xs=>by rw[Uw,Uw,Ti.nil_iff];unfold TU;exact Iff.rfl
 |p::r,xs=>by
  rw[Zl,Zl,Tp];constructor
  .rintro⟨x,w,rfl,a,b⟩;unfold TU;exact⟨x,w,rfl,gR.mp a,zG.mp b⟩
  .intro h;unfold TU at h;obtain⟨x,w,e,a,b⟩:=h;exact⟨x,w,e,gR.mpr a,zG.mpr b⟩
def kw:Tj K H (Ts r) v↔Is H (rD r) v:=by
 unfold Ts rD;rw[Tq,jh];constructor
 .rintro⟨a,xs,e,b,c⟩;exact⟨a,xs,e,b,zG.mp c⟩
 .rintro⟨a,xs,e,b,c⟩;exact⟨a,xs,e,b,zG.mpr c⟩
theorem y9:∀{r:Jy} {xs:Yx},Ti K H (r.map Ts) xs↔TU H (r.map rD) xs
 | [],xs=>by rw[Uw,Uw,Ti.nil_iff];unfold TU;exact Iff.rfl
 |p::r,xs=>by
  rw[Zl,Zl,Tp];constructor
  .rintro⟨x,w,rfl,a,b⟩;unfold TU;exact⟨x,w,rfl,kw.mp a,y9.mp b⟩
  .intro h;unfold TU at h;obtain⟨x,w,e,a,b⟩:=h;exact⟨x,w,e,kw.mpr a,y9.mpr b⟩
end
section
variable {X:Cx}{E:XK}
def gI (f:Int->Int->D):D->D->YA
 | .int i,.int j=>some (f i j)
 |_,_=>none
def vy (c:Int->Int->Bool)(f:Int->Int->D):D->D->YA
 | .int i,.int j=>if c i j then some (f i j) else none
 |_,_=>none
def ZP (o:ql X h (zf g))(a:∀i j F,Tj X.K F (f i j) (g i j)):xA X h (gI f):=ql.weak o λx y H Q b=>by
 obtain⟨F,d,e,z,c,id,l,hz,q⟩:=b;cases d with
 |int i =>
  cases e with
  |int j=>cases hz;exact⟨i,j,Tk.mp id,Tk.mp l,q _ F H (.refl c) (a i j F)⟩
  |_=>exact J2 hz
 |_=>exact J2 hz
def ZQ (o:ql X h (rI C g))(b:∀i j,c i j=true->C i j)(l:∀i j F,Tj X.K F (f i j) (g i j)):xA X h (vy c f):=ql.weak o λx y H Q m=>by
 obtain⟨F,d,e,z,n,id,p,hz,q⟩:=m;cases d with
 |int i =>
  cases e with
  |int j =>
   have hz:(if c i j then some (f i j) else none)=some z:=hz
   split at hz
   .rename_i a;cases hz;exact⟨i,j,Tk.mp id,Tk.mp p,b i j a,q _ F H (.refl n) (l i j F)⟩
   .exact J2 hz
  |_=>exact J2 hz
 |_=>exact J2 hz
def xt (i:Int)(F:Hp):Tj X.K F (.int i) (.int i):=Tk.mpr rfl
def yt (b:Bool)(F:Hp):Tj X.K F (.bl b) (.bl b):=Tv.mpr rfl
def yH:=gI λi j=>.int (i-j)
def yN:Nat:=10715086071862673209484250490600018105614048117055336074437503883703510511249361224931983788156958581275946729175531468251871452856923140435984577574698574803934567774824230985421074605062371141877954182153046474983581941267398767559165543946077062914571196477686542167660429831652624386837205668069376
def Kl (i j:Int):Bool:=(UC i.natAbs 18446744073709551616||UC j.natAbs 18446744073709551616)||(UC i.natAbs yN&&UC j.natAbs yN)
def Er (h:k.natAbs<yN):Builtin.Int.intBits k<=2 ^ 20:=by
 have e:yN<=2 ^ 1000:=Nat.le_of_ble_eq_true rfl;have a:k.natAbs<2 ^ 1000:=Zg h e;unfold Builtin.Int.intBits
 split
 .exact Uc _
 .have l:k.natAbs.log2<1000:=by
   rcases Nat.eq_zero_or_pos k.natAbs with h0|hp
   .rw[h0];decide
   .exact(Nat.log2_lt (UV hp)).mpr a
  have e:(2:Nat) ^ 20=1048576:=by decide
  lia
def Mz (h:Kl i j=true):IntMulOk i j:=by
 unfold Kl at h;rw[UX,UX,Ue,Ur,Ur,Ur,Ur] at h;rcases h with (h|h)|⟨h1,h2⟩
 .exact .of_left (intBits_le_64 () ())
 .exact .of_right (intBits_le_64 () ())
 .exact .of_bits (Er h1) (Er h2)
def M0:ql X (binaryOp .Mult) (rI (λi j=>Kl i j=true) λi j=>.int (i*j)):=uD λ_ _ _ _ _ _ _ a q=>mul_int q (Mz a)
def qM:=vy Kl λi j=>.int (i*j)
def Km:=vy (λ_ j=>UC 0 j.toNat&&UC j.toNat 1073741824) λi j=>.int (i / j)
def jz:=vy (λ_ j=>UC 0 j.toNat) λi j=>.int (i % j)
def zw:=vy (λi j=>Nat.ble (-j).toNat 0&&(Nat.ble j.toNat 1000000&&UC i.natAbs 18446744073709551616)) λi j=>.int (i ^ j.toNat)
def gc:=gI λi j=>.bl (decide (i<j))
def uI:=gI λi j=>.bl (decide (i<=j))
def yJ:=gI λi j=>.bl (decide (j<i))
def Es:xA X (binaryOp .Sub) yH:=ZP Iz λ_ _ F=>xt _ F
def XF:xA X (binaryOp .Mult) qM:=ZQ M0 (λi j h=>h) λ_ _ F=>xt _ F
def VP:xA X (binaryOp .FloorDiv) Km:=ZQ I1 (λi j h=>by rw[Ue,Ur,Ur] at h;unfold ux;lia) λ_ _ F=>xt _ F
def QP:xA X (binaryOp .Mod) jz:=ZQ IA (λi j h=>by rw[Ur] at h;lia) λ_ _ F=>xt _ F
def vb:xA X (binaryOp .Pow) zw:=ZQ IB (λi j h=>by rw[Ue,Ue,UP,UP,Ur] at h;unfold uw;lia) λ_ _ F=>xt _ F
def kX:xA X (compareOp .Lt) gc:=ZP wO λ_ _ F=>yt _ F
def kY:xA X (compareOp .LtE) uI:=ZP wP λ_ _ F=>yt _ F
def xG:xA X (compareOp .Gt) yJ:=ZP wQ λ_ _ F=>yt _ F
def zx:D->YA
 | .int i=>some (.int (-i))
 |_=>none
def zS:yQ X (unaryOp .USub) (kT X.K zx):=yQ.weak IC λx H Q a=>by
 obtain⟨F,d,z,b,id,hz,q⟩:=a;cases d with
 |int i=>cases hz;exact⟨i,Tk.mp id,q _ F H (.refl b) (xt _ F)⟩
 |_=>exact J2 hz
def TL:D->D->YA
 | .int i,.int j=>some (.int (i+j))
 | .str x,.str y=>if x.length+y.length<=sizeLine then some (.str (x++y)) else none
 | .tup a,.tup b=>if a ≠ []/\b ≠ []/\a.length+b.length<=sizeLine then some (.tup (a++b)) else none
 | .lst a,.lst b=>if a.length+b.length<=sizeLine then some (.lst (a++b)) else none
 |_,_=>none
def wu (K:W.Frag):R2:=λx y H Q=>∃l b xs a,x=.ref l/\y=.ref b/\qu K H l xs/\qu K H b a/\xs.length+a.length<=sizeLine/\∀p,H p=none->Q (.ref p) (TQ H p (.lst (xs++a)))
def Et:ql X (binaryOp .Add) (wu X.K):=by
 intro Y s Z H x y v u Q I f g h;obtain⟨l,b,xs,w,rfl,rfl,i,j,hz,q⟩:=h;obtain rfl:v=Value.ref l:=f;obtain rfl:u=Value.ref b:=g;obtain⟨_,c,n,d,m⟩:=i.ok I.hok;obtain⟨_,a,z,e,o⟩:=j.ok I.hok;have p:=d.length;have r:=e.length;refine PySem.P.add_list m o ?_ (by rw[Zm,Zm];lia);have t:c.toArray++a.toArray=(c++a).toArray:=by simp
 rw[t];exact⟨.ref _,_,I.lnew (t':=s.toks) (d.append e) (by rw[Ua];lia),rfl,q _ I.fresh⟩
def Qn:xA X (binaryOp .Add) TL:=by
 intro Y s Z H x y v u Q I n o ⟨F,d,e,z,c,id,f,hz,q⟩;cases d with
 |int i =>
  cases e with
  |int j=>cases hz;exact Iy Y s Z H x y v u Q I n o ⟨i,j,Tk.mp id,Tk.mp f,q _ F H (.refl c) (xt _ F)⟩
  |_=>exact J2 hz
 |str a =>
  cases e with
  |str b =>
   have hz:(if a.length+b.length<=sizeLine then some (D.str (a++b)) else none)=some z:=hz
   split at hz
   .rename_i g;cases hz;exact IE Y s Z H x y v u Q I n o ⟨a,b,Tw.mp id,Tw.mp f,g,q _ F H (.refl c) (Tw.mpr rfl)⟩
   .exact J2 hz
  |_=>exact J2 hz
 |tup a =>
  cases e with
  |tup b =>
   have hz:(if a ≠ []/\b ≠ []/\a.length+b.length<=sizeLine then some (D.tup (a++b)) else none)=some z:=hz
   split at hz
   .rename_i g;obtain rfl:=Zqi hz;rw[Tq] at id f;obtain⟨r,xs,rfl,t,h⟩:=id;obtain⟨w,ys,rfl,A,l⟩:=f;have B:=h.length;have C:=l.length;have G:xs ≠ []:=λz=>g.1 (Je.mp (by rw[<- B,z];rfl));have J:ys ≠ []:=λz=>g.2.1 (Je.mp (by rw[<- C,z];rfl));refine IX Y s Z H _ _ v u Q I n o ⟨r,w,xs,ys,rfl,rfl,(t.same c).sq,(A.same c).sq,G,by have:=g.2.2;lia,λz=>Zn z J,λ_ p hp=>?_⟩;have m:=jG c hp (.tup (xs++ys));exact q _ _ _ m (Tq.mpr ⟨p,_,rfl,.of JQ,Ti.same m.ff _ _ (h.append l)⟩)
   .exact J2 hz
  |_=>exact J2 hz
 |lst a =>
  cases e with
  |lst b =>
   have hz:(if a.length+b.length<=sizeLine then some (D.lst (a++b)) else none)=some z:=hz
   split at hz
   .rename_i g;obtain rfl:=Zqi hz;rw[Tl] at id f;obtain⟨r,xs,rfl,t,h⟩:=id;obtain⟨w,ys,rfl,A,l⟩:=f;have B:=h.length;have C:=l.length;refine Et Y s Z H _ _ v u Q I n o ⟨r,w,xs,ys,rfl,rfl,t.same c,A.same c,(),λp hp=>?_⟩;have m:=jG c hp (.lst (xs++ys));exact q _ _ _ m (Tl.mpr ⟨p,_,rfl,.of JQ,Ti.same m.ff _ _ (h.append l)⟩)
   .exact J2 hz
  |_=>exact J2 hz
 |_=>exact J2 hz
mutual
def jZ:D->PyData
 | .non=>.none
 | .bl b=>.bool b
 | .int i=>.int i
 | .str x=>.str x
 | .tup ds=>.tuple (KH ds)
 | .lst ds=>.list (KH ds)
 | .ty _=>.none
 | .scr _=>.none
 | .dct _ _=>.none
 | .ins _ _ _=>.none
 | .exc _=>.none
 | .exr _ _=>.none
 | .ucl _=>.none
 | .adr _=>.none
 | .dcf _ _=>.none
 | .pin _ _=>.none
def KH:Yz->List PyData
 | []=>[]
 |d::ds=>jZ d::KH ds
end
def jy:Nat->D->Bool
 | 0,_=>false
 |_+1,.int _=>true
 |_+1,.str x=>PyData.strOk x
 |_+1,.non=>true
 |n+1,.tup ds=>ds.all (jy n)
 |n+1,.lst ds=>ds.all (jy n)
 |_+1,_=>false
def WS:∀(n:Nat) (d:D),jy n d=true->(jZ d).canLay0=true/\(jZ d).depth<=n:=λn=>by
 induction n with
 |zero=>intro _ h;exact J6 h
 |succ n a =>
  intro d h;have all:∀ds:Yz,ds.all (jy n)=true->PyData.canLayAll0 (KH ds)=true/\PyData.depthAll (KH ds)<=n:=by
   intro ds
   induction ds with
   |nil=>intro _;exact⟨rfl,Uc _⟩
   |cons d ds b =>
    intro h;rw[UH,Ue] at h;obtain⟨c,e⟩:=a d h.1;obtain⟨f,g⟩:=b h.2;exact⟨Jq.mpr ⟨c,f⟩,Nat.max_le.mpr ⟨e,g⟩⟩
  cases d with
  |int i=>exact⟨rfl,Uc _⟩
  |str i=>exact⟨h,Uc _⟩
  |non=>exact⟨rfl,Uc _⟩
  |tup ds=>exact⟨(all ds h).1,VA (all ds h).2⟩
  |lst ds=>exact⟨(all ds h).1,VA (all ds h).2⟩
  |_=>exact J6 h
def D.ne {d e:D}(h:(d.ctorIdx == e.ctorIdx)=false):¬d=e:=λq=>by
 rw[q,beq_self_eq_true] at h;cases  h
def BC:∀(n:Nat) (d e:D),jy n d=true->jy n e=true->(PyData.eqv (jZ d) (jZ e)=true↔d=e):=λn=>by
 induction n with
 |zero=>intro _ _ h;exact J6 h
 |succ n a =>
  intro d e h h';have all:∀ds es:Yz,ds.all (jy n)=true->es.all (jy n)=true->(PyData.eqvAll (KH ds) (KH es)=true↔ds=es):=by
   intro ds
   induction ds with
   |nil =>
    intro es _ _;cases es with
    |nil=>exact iff_of_true rfl rfl
    |cons e es=>exact Zs Zj (λq=>List.cons_ne_nil _ _ q.symm)
   |cons d ds f =>
    intro es b c;cases es with
    |nil=>exact Zs Zj (List.cons_ne_nil _ _)
    |cons e es =>
     rw[UH,Ue] at b c;show(PyData.eqv (jZ d) (jZ e)&&PyData.eqvAll (KH ds) (KH es))=true↔_;rw[Bool.and_eq_true_iff,a d e b.1 c.1,f es b.2 c.2,List.cons.injEq]
  cases d with
  |int i =>
   cases e with
   |int j=>exact⟨λq=>Zt D.int (Yp.mp q),λq=>Yp.mpr (D.int.inj q)⟩
   |str _=>exact Zs Zj (D.ne rfl)
   |non=>exact Zs Zj (D.ne rfl)
   |tup _=>exact Zs Zj (D.ne rfl)
   |lst _=>exact Zs Zj (D.ne rfl)
   |_=>exact J6 h'
  |str i =>
   cases e with
   |str j=>exact⟨λq=>Zt D.str (of_decide_eq_true q),λq=>Zp (D.str.inj q)⟩
   |int _=>exact Zs Zj (D.ne rfl)
   |non=>exact Zs Zj (D.ne rfl)
   |tup _=>exact Zs Zj (D.ne rfl)
   |lst _=>exact Zs Zj (D.ne rfl)
   |_=>exact J6 h'
  |non =>
   cases e with
   |non=>exact iff_of_true rfl rfl
   |int _=>exact Zs Zj (D.ne rfl)
   |str _=>exact Zs Zj (D.ne rfl)
   |tup _=>exact Zs Zj (D.ne rfl)
   |lst _=>exact Zs Zj (D.ne rfl)
   |_=>exact J6 h'
  |tup ds =>
   cases e with
   |tup es=>exact(all ds es h h').trans ⟨λq=>Zt D.tup q,λq=>D.tup.inj q⟩
   |int _=>exact Zs Zj (D.ne rfl)
   |str _=>exact Zs Zj (D.ne rfl)
   |non=>exact Zs Zj (D.ne rfl)
   |lst _=>exact Zs Zj (D.ne rfl)
   |_=>exact J6 h'
  |lst ds =>
   cases e with
   |lst es=>exact(all ds es h h').trans ⟨λq=>Zt D.lst q,λq=>D.lst.inj q⟩
   |int _=>exact Zs Zj (D.ne rfl)
   |str _=>exact Zs Zj (D.ne rfl)
   |non=>exact Zs Zj (D.ne rfl)
   |tup _=>exact Zs Zj (D.ne rfl)
   |_=>exact J6 h'
  |_=>exact J6 h
theorem Ww {P:Program}{w:World}{K:W.Frag}{H:Hp}{h:Heap}(ok:jP P w H h):∀(n:Nat) (d:D) (v:V) (u:Value),jy n d=true->Tj K H d v->T3 v u->∃as,Reads h u (jZ d) as
 | 0,_,_,_,p,_,_=>by exact J6 p
 |n+1,d,v,u,p,q,r=>by
  have all:∀(ds:Yz) (xs:Yx) (m:Yd),ds.all (jy n)=true->Ti K H ds xs->T4 xs m->∃as,ReadsAll h m (KH ds) as:=by
   intro ds
   induction ds with
   |nil =>
    intro xs m _ g b;rw[Ti.nil_iff] at g;subst g;cases b;exact⟨_,.nil⟩
   |cons d ds y =>
    intro xs m hp g b;rw[UH,Ue] at hp;rw[Tp] at g;obtain⟨x,rs,rfl,j,z⟩:=g;cases b with
    |cons A B =>
     obtain⟨as,l⟩:=Ww ok n d x _ hp.1 j A;obtain⟨bs,C⟩:=y rs _ hp.2 z B;exact⟨_,.cons l C⟩
  cases d with
  |int i =>
   rw[Tk] at q;subst q;obtain⟨t,rfl⟩:=(show ∃t,u=Value.int i t from r);exact⟨_,.int i t⟩
  |str x =>
   rw[Tw] at q;subst q;obtain⟨t,rfl⟩:=(show ∃t,u=Value.str x t from r);exact⟨_,.str x t⟩
  |non =>
   rw[T9] at q;subst q;obtain rfl:u=Value.none:=r;exact⟨_,.none⟩
  |tup ds =>
   rw[Tq] at q;obtain⟨a,xs,rfl,b,j⟩:=q;obtain rfl:u=Value.ref a:=r;obtain⟨_,f,s,o,e,c,F,G⟩:=(show jK P w H h a (.tup xs) from ok a _ b);obtain⟨as,l⟩:=all ds xs f p j s;exact⟨_,.tuple e c G (by simpa using l)⟩
  |lst ds =>
   rw[Tl] at q;obtain⟨a,xs,rfl,b,j⟩:=q;obtain rfl:u=Value.ref a:=r;obtain⟨_,f,F,s,e⟩:=b.ok ok;obtain⟨as,l⟩:=all ds xs f p j s;exact⟨_,.list e rfl rfl (by simpa using l)⟩
  |_=>exact J6 p
section
open Classical
def Qj (d e:D):Bool:=decide (d=e)
def Ky (d:D):Qj d d=true:=Zp rfl
def ky:Qj d e=true↔d=e:=decide_eq_true_iff
def z7:Qj d e=false↔d≠e:=decide_eq_false_iff_not
def xg:D->D->YA
 | .bl a,.bl b=>some (.bl (a == b))
 |d,e=>if jy 12 d&&jy 12 e then some (.bl (Qj d e)) else none
def x9:D->D->YA
 | .bl a,.bl b=>some (.bl (a != b))
 |d,e=>if jy 12 d&&jy 12 e then some (.bl (!Qj d e)) else none
end
def VQ (a:jy 12 d=true)(b:jy 12 e=true):xg d e=some (.bl (Qj d e)):=by
 unfold xg
 split
 .exact J6 a
 .rw[a,b];rfl
def ZR (a:jy 12 d=true)(b:jy 12 e=true):x9 d e=some (.bl (!Qj d e)):=by
 unfold x9
 split
 .exact J6 a
 .rw[a,b];rfl
def M1 (i j:Int):xg (.int i) (.int j)=some (.bl (decide (i=j))):=by
 rw[VQ rfl rfl]
 congr 2
 by_cases h:i=j
 .rw[Zp h,h,Ky]
 .rw[Zo h,z7.mpr λz=>h (by injection z)]
def M3 (i j:Int):x9 (.int i) (.int j)=some (.bl (!decide (i=j))):=by
 rw[ZR rfl rfl]
 congr 3
 by_cases h:i=j
 .rw[Zp h,h,Ky]
 .rw[Zo h,z7.mpr λz=>h (by injection z)]
def qU (o:X.A.units+64<cLine):xA X (compareOp .Eq) xg:=by
 intro Y s Z H x y v u Q I g h ⟨F,d,e,z,c,id,f,hz,q⟩;unfold xg at hz
 split at hz
 .rename_i a b;obtain rfl:=Zqi hz;refine wR Y s Z H x y v u Q I g h ⟨?_,?_⟩
  .rw[Tv.mp id,Tv.mp f];rfl
  .rw[Tv.mp id,Tv.mp f];refine q _ F H (.refl c) ?_;rw[Tv];cases a<;>cases b<;>rfl
 .split at hz
  .rename_i hp;rw[Ue] at hp;obtain rfl:=Zqi hz;obtain⟨as,i⟩:=Ww I.hok 12 d x v hp.1 (Tj.same c _ _ id) g;obtain⟨bs,j⟩:=Ww I.hok 12 e y u hp.2 (Tj.same c _ _ f) h;obtain⟨l,p⟩:=WS 12 d hp.1;obtain⟨m,r⟩:=WS 12 e hp.2;refine PySem.SeqAt.compareEq_reads i j l m () ?_;have n:PyData.eqv (jZ d) (jZ e)=Qj d e:=U1.mpr ((BC 12 d e hp.1 hp.2).trans ky.symm);rw[n];exact⟨.bl _,H,I,rfl,q _ F H (.refl c) (yt _ F)⟩
  .exact J2 hz
def xS (o:X.A.units+64<cLine):xA X (compareOp .NotEq) x9:=by
 intro Y s Z H x y v u Q I g h ⟨F,d,e,z,c,id,f,hz,q⟩;unfold x9 at hz
 split at hz
 .rename_i a b;obtain rfl:=Zqi hz;refine wN Y s Z H x y v u Q I g h ⟨?_,?_⟩
  .rw[Tv.mp id,Tv.mp f];rfl
  .rw[Tv.mp id,Tv.mp f];refine q _ F H (.refl c) ?_;rw[Tv];cases a<;>cases b<;>rfl
 .split at hz
  .rename_i hp;rw[Ue] at hp;obtain rfl:=Zqi hz;obtain⟨as,i⟩:=Ww I.hok 12 d x v hp.1 (Tj.same c _ _ id) g;obtain⟨bs,j⟩:=Ww I.hok 12 e y u hp.2 (Tj.same c _ _ f) h;obtain⟨l,p⟩:=WS 12 d hp.1;obtain⟨m,r⟩:=WS 12 e hp.2;refine PySem.SeqAt.compareNe_reads i j l m () ?_;have n:PyData.eqv (jZ d) (jZ e)=Qj d e:=U1.mpr ((BC 12 d e hp.1 hp.2).trans ky.symm);rw[n];exact⟨.bl _,H,I,rfl,q _ F H (.refl c) (yt _ F)⟩
  .exact J2 hz
end
def PE.or (h:PE X e t)(h':PE X e t'):PE X e (λZ H Q=>t Z H Q\/t' Z H Q):=λY s Z H Q I q=>q.elim (h Y s Z H Q I) (h' Y s Z H Q I)
def PT.or (h:PT X e t)(h':PT X e t'):PT X e (λZ H Q=>t Z H Q\/t' Z H Q):=λY s Z H Q I q=>q.elim (h Y s Z H Q I) (h' Y s Z H Q I)
def Ka:D->Option TF
 | .int i=>some (.inl i)
 | .str x=>some (.inr x)
 |_=>none
def ZS {K:W.Frag}{H:Hp}{d:D}{k:TF}{v:V}(h:Ka d=some k)(i:Tj K H d v):v=kV k:=by
 cases d with
 |int j=>cases h;exact Tk.mp i
 |str x=>cases h;exact Tw.mp i
 |_=>exact J2 h
def jt:List TF->Yz->TF->YA
 |k::ks,d::ds,q=>if k=q then some d else jt ks ds q
 |_,_,_=>none
def M4 (k q:TF)(v:V)(r:List (TF×V)):j9 ((k,v)::r) q=if k=q then some v else j9 r q:=by
 unfold j9;rw[U5];by_cases h:k=q
 .rw[Zd h,Zp h];rfl
 .rw[Ze h,Zo h]
def Eu:jt (k::ks) (d::ds) q=if k=q then some d else jt ks ds q:=rfl
theorem ZT {K:W.Frag}{H:Hp}(q:TF):∀{ks:List TF} {ds:Yz} {xs:Yx},ks.length=xs.length->Ti K H ds xs ->
 (∀d,jt ks ds q=some d->∃x,j9 (ks.zip xs) q=some x/\Tj K H d x)/\(jt ks ds q=none->j9 (ks.zip xs) q=none)
 | [],ds,xs,hl,h=>by
  have:xs=[]:=Je.mp hl.symm;subst this;refine⟨λd e=>?_,λ_=>rfl⟩;cases ds<;>exact J2 e
 |k::ks,[],xs,hl,h=>by
  rw[Ti.nil_iff] at h;subst h;cases hl
 |k::ks,d::ds,xs,hl,h=>by
  rw[Tp] at h;obtain⟨x,r,rfl,b,c⟩:=h;have f:=ZT q (ks:=ks) (Vf hl) c;rw[U4,M4];rw[Eu];by_cases a:k=q
  .rw[Zd a,Zd a];exact⟨λd' e=>by cases e;exact⟨x,rfl,b⟩,λe=>by cases e⟩
  .rw[Ze a,Ze a];exact f
def xY:List TF->Yz->TF->D->Yz
 |k::ks,d::ds,q,v=>(if k=q then v else d)::xY ks ds q v
 |_,_,_,_=>[]
def xX:List TF->Yx->TF->V->Yx
 |k::ks,d::ds,q,v=>(if k=q then v else d)::xX ks ds q v
 |_,_,_,_=>[]
def Ew:xY (k::ks) (d::ds) q v=(if k=q then v else d)::xY ks ds q v:=rfl
def M5:xX (k::ks) (d::ds) q v=(if k=q then v else d)::xX ks ds q v:=rfl
theorem Ex {K:W.Frag}{H:Hp}{q:TF}{d:D}{v:V}(c:Tj K H d v):∀{ks:List TF} {ds:Yz} {xs:Yx},ks.length=xs.length->Ti K H ds xs->Ti K H (xY ks ds q d) (xX ks xs q v)/\(xX ks xs q v).length=ks.length /\
 (ks.zip xs).map (λb=>if b.1=q then(b.1,v) else b)=ks.zip (xX ks xs q v)
 | [],ds,xs,hl,h=>by
  have:xs=[]:=Je.mp hl.symm;subst this;refine⟨?_,rfl,rfl⟩;cases ds<;>exact .nil
 |k::ks,[],xs,hl,h=>by
  rw[Ti.nil_iff] at h;subst h;cases hl
 |k::ks,d'::ds,xs,hl,h=>by
  rw[Tp] at h;obtain⟨x,r,rfl,e,f⟩:=h;obtain⟨g,i,j⟩:=Ex (q:=q) c (ks:=ks) (Vf hl) f;rw[Ew,M5];refine⟨Ti.mk ?_ g,by rw[Zu,i];rfl,?_⟩
  .by_cases a:k=q
   .rw[Zd a,Zd a];exact c
   .rw[Ze a,Ze a];exact e
  .rw[U4,Zl,j,U4];by_cases a:k=q
   .rw[Zd a,Zd a]
   .rw[Ze a,Ze a]
def xV (q:TF)(ks:List TF):Bool:=ks.any λk=>decide (k=q)
theorem Ey (q:TF):∀{ks:List TF} {xs:Yx},ks.length=xs.length->((ks.zip xs).any λa=>decide (a.1=q))=xV q ks
 | [],xs,_=>rfl
 |k::ks,[],h=>by cases h
 |k::ks,x::xs,h=>by
  rw[U4,List.any_cons,Ey q (Vf h)];rfl
def Wx (ks:List TF)(q:TF):List TF:=if xV q ks=true then ks else ks++[q]
def WT (ks:List TF)(ds:Yz)(q:TF)(v:D):Yz:=if xV q ks=true then xY ks ds q v else ds++[v]
def M6 {K:W.Frag}{H:Hp}{q:TF}{d:D}{v:V}{ks:List TF}{ds:Yz}{xs:Yx}(b:ks.length=xs.length)(h:Ti K H ds xs)(c:Tj K H d v):
 ∃ys,jD (ks.zip xs) q v=(Wx ks q).zip ys/\(Wx ks q).length=ys.length/\Ti K H (WT ks ds q d) ys:=by
 unfold jD Wx WT;rw[Ey q b];by_cases a:xV q ks=true
 .rw[Zd a,Zd a,Zd a];obtain⟨e,f,g⟩:=Ex (q:=q) c b h;exact⟨_,g,f.symm,e⟩
 .rw[Ze a,Ze a,Ze a];exact⟨xs++[v],by rw[List.zip_append b];rfl,by simp[b],h.snoc c⟩
section
variable {X:Cx}{E:XK}{m:Option Bool}{a b o i e:Expr}{fa fb fo fi fv:FE}{pos pos' apos cpos:Pos}
def Ez {K:W.Frag}{H:Hp}{ds:Yz}{xs:Yx}{k:Int}{d:D}(h:Ti K H ds xs)(e:jY ds k=some d):∃x,jY xs k=some x/\Tj K H d x:=by
 unfold jY at e ⊢;rw[h.length];cases c:yG ds.length k with
 |none=>rw[c] at e;exact J2 e
 |some j =>
  rw[c] at e;exact h.get e
def qi:D->D->YA
 | .lst ds,.int k=>jY ds k
 | .tup ds,.int k=>jY ds k
 | .scr ns,.int k=>(jY ns k).map .int
 | .str x,.int k=>if x.length<=sizeLine then(jY x.cps.toList k).map λc=>.str ⟨#[c]⟩ else none
 | .dct ks ds,k=>(Ka k).bind λq=>jt ks ds q
 | .dcf ks ds,k=>(Ka k).bind λq=>jt ks ds q
 |_,_=>none
def BD {K:W.Frag}{H:Hp}{d:D}{ks:List TF}{ds:Yz}{v:V}(j:d=.dct ks ds\/d=.dcf ks ds)(h:Tj K H d v):∃a xs,v=.ref a/\Rd H a (.dK (ks.zip xs))/\ks.length=xs.length/\Ti K H ds xs:=by
 rcases j with rfl|rfl
 .obtain⟨a,xs,c,f,g⟩:=TH.mp h;exact⟨a,xs,c,.inl f,g⟩
 .obtain⟨a,o,xs,c,f,g⟩:=j6.mp h;exact⟨a,xs,c,.inr ⟨o,f⟩,g⟩
def XG {H H':Hp}{a:Addr}{u:HO}(e:Tu H H')(h:Rd H a u):Rd H' a u:=h.imp (λq=>e _ _ q) λ⟨o,q⟩=>⟨o,e _ _ q⟩
def E1 {H:Hp}{a:Addr}{c:List (TF×V)}{k:TF}(e:Rd H a (.dK c)):qz H a (kV k) (j9 c k):=.inl ⟨c,k,e,rfl,rfl⟩
def M7:xP X (wq X.K λd e=>match d with
 | .dct _ _=>none
 | .dcf _ _=>none
 |d=>qi d e):=xP.weak La λx y H Q ⟨F,d,e,z,f,id,l,hz,q⟩=>by
 cases d with
 |lst ds =>
  cases e with
  |int k =>
   rw[Tl] at id;obtain⟨p,xs,rfl,g,n⟩:=id;obtain⟨x,hx,r⟩:=Ez n (show jY ds k=some z from hz);exact .inl ⟨p,xs,k,x,rfl,Tk.mp l,(g.same f).sq,hx,q _ F H (.refl f) r⟩
  |_=>exact J2 hz
 |tup ds =>
  cases e with
  |int k =>
   rw[Tq] at id;obtain⟨p,xs,rfl,g,n⟩:=id;obtain⟨x,hx,r⟩:=Ez n (show jY ds k=some z from hz);exact .inr (.inl ⟨p,xs,k,x,rfl,Tk.mp l,(g.same f).sq,hx,q _ F H (.refl f) r⟩)
  |_=>exact J2 hz
 |scr ns =>
  cases e with
  |int k =>
   rw[TN] at id;obtain⟨p,rfl,g⟩:=id;obtain⟨j,h,hz⟩:=Jj.mp (show(jY ns k).map D.int=some z from hz);subst hz;refine .inl ⟨p,_,k,.int j,rfl,Tk.mp l,Tu.seq f g,?_,q _ F H (.refl f) (xt _ F)⟩;unfold jY at h ⊢;rw[Zql];cases hx:yG ns.length k with
   |none=>rw[hx] at h;exact J2 h
   |some i=>rw[hx] at h;show(ns.map V.int)[i]? = _;rw[Zv,show ns[i]? = some j from h];rfl
  |_=>exact J2 hz
 |str t =>
  cases e with
  |int k =>
   have hz:(if t.length<=sizeLine then(jY t.cps.toList k).map λc=>D.str ⟨#[c]⟩ else none)=some z:=hz
   split at hz
   .rename_i u;cases s:jY t.cps.toList k with
    |none=>rw[s] at hz;exact J2 hz
    |some c =>
     rw[s] at hz;obtain rfl:=Zqi hz;exact .inr (.inr ⟨t,k,c,Tw.mp id,Tk.mp l,u,s,q _ F H (.refl f) (Tw.mpr rfl)⟩)
   .exact J2 hz
  |_=>exact J2 hz
 |_=>exact J2 hz
def QQ (A:X.A.units+1<cLine)(s:QE X E a fa)(t:QE X E b fb)(hs:Dp b)(j:z3 b):QE X E (.Subscript a b pos) (T1 qi fa fb):=
 PE.weak (PE.or (Ln A s t j) (wE (M7) s t hs)) λZ H Q h=>by
  obtain⟨B,F,sd,r,n⟩:=h;by_cases f:∃d ks ds,fa sd=.ok d/\(d=.dct ks ds\/d=.dcf ks ds)
  .obtain⟨d,ks,ds,f,u⟩:=f;refine .inl ⟨B,F,sd,r,(Res.need_bind n).monoE (λx hx C v G S g I=>?_) λ_ _ q=>q⟩;rw[f] at hx;cases hx;refine⟨B,G,sd,r.step g,(Res.need_bind C).mono (λy J w K L l M=>?_) λ_ _ q=>q.ext g⟩;obtain⟨z,hz,q⟩:=Tt J;obtain⟨k,N,hz⟩:=Jh.mp (show(Ka y).bind (λq=>jt ks ds q)=some z by rcases u with rfl|rfl<;>exact hz);obtain⟨p,xs,rfl,O,P,R⟩:=BD u I;obtain⟨x,hx,ix⟩:=(ZT k P R).1 z hz;refine⟨p,x,rfl,?_,q x K L (g.trans l) (Tj.same l.ff _ _ ix)⟩;rw[ZS N M,<- hx];exact E1 (XG l.hh (XG g.fh O))
  .refine .inr (X5 ⟨B,F,sd,r,?_⟩);unfold T1 at n ⊢;cases hx:fa sd with
   |ok d =>
    rw[hx] at n;cases d with
    |dct ks ds=>exact Zn ⟨_,ks,ds,hx,.inl rfl⟩ f
    |dcf ks ds=>exact Zn ⟨_,ks,ds,hx,.inr rfl⟩ f
    |_=>exact n
   |no=>rw[hx] at n;exact n
   |ex c fs=>rw[hx] at n;exact n
def yI (c:Bool):D->D->YA
 |k,.dct ks ds=>(Ka k).map λq=>.bl (if c then !(jt ks ds q).isSome else(jt ks ds q).isSome)
 |k,.dcf ks ds=>(Ka k).map λq=>.bl (if c then !(jt ks ds q).isSome else(jt ks ds q).isSome)
 |d,.lst ds=>if jy 12 d&&ds.all (jy 12) then some (.bl (if c then !ds.any (λe=>Qj e d) else ds.any λe=>Qj e d)) else none
 |d,.tup ds=>if jy 12 d&&ds.all (jy 12) then some (.bl (if c then !ds.any (λe=>Qj e d) else ds.any λe=>Qj e d)) else none
 |_,_=>none
theorem E2 {K:W.Frag}{H:Hp}:∀(n:Nat) (d e:D) (v:V),jy n d=true->jy n e=true->Tj K H d v->Tj K H e v->d=e
 | 0,_,_,_,h,_,_,_=>by exact J6 h
 |n+1,d,e,v,hd,he,f,c=>by
  have all:∀(ds es:Yz) (xs:Yx),ds.all (jy n)=true->es.all (jy n)=true->Ti K H ds xs->Ti K H es xs->ds=es:=by
   intro ds
   induction ds with
   |nil =>
    intro es xs _ _ f c;rw[Ti.nil_iff] at f;subst f;have:=c.length;exact(Je.mp this.symm).symm
   |cons d ds B =>
    intro es xs w y f c;rw[UH,Ue] at w;rw[Tp] at f;obtain⟨x,r,rfl,C,F⟩:=f;cases es with
    |nil=>rw[Ti.nil_iff] at c;cases c
    |cons e es =>
     rw[UH,Ue] at y;rw[Tp] at c;obtain⟨J,L,s,G,I⟩:=c;cases s;rw[E2 n d e x w.1 y.1 C G,B es r w.2 y.2 F I]
  have ne:∀{a:Addr} {xs ys:Yx},xa K H a xs->qu K H a ys->False:=λ{a xs ys} g l=>by
   rcases l with l|⟨o,l⟩
   .rw[g] at l;cases l
   .rw[g] at l;cases l
  cases d with
  |int i =>
   rw[Tk] at f;subst f;cases e with
   |int j=>rw[Tk] at c;cases c;rfl
   |str j=>rw[Tw] at c;cases c
   |non=>rw[T9] at c;cases c
   |tup es=>rw[Tq] at c;obtain⟨_,_,z,_⟩:=c;cases z
   |lst es=>rw[Tl] at c;obtain⟨_,_,z,_⟩:=c;cases z
   |_=>exact J6 he
  |str i =>
   rw[Tw] at f;subst f;cases e with
   |int j=>rw[Tk] at c;cases c
   |str j=>rw[Tw] at c;cases c;rfl
   |non=>rw[T9] at c;cases c
   |tup es=>rw[Tq] at c;obtain⟨_,_,z,_⟩:=c;cases z
   |lst es=>rw[Tl] at c;obtain⟨_,_,z,_⟩:=c;cases z
   |_=>exact J6 he
  |non =>
   rw[T9] at f;subst f;cases e with
   |int j=>rw[Tk] at c;cases c
   |str j=>rw[Tw] at c;cases c
   |non=>rfl
   |tup es=>rw[Tq] at c;obtain⟨_,_,z,_⟩:=c;cases z
   |lst es=>rw[Tl] at c;obtain⟨_,_,z,_⟩:=c;cases z
   |_=>exact J6 he
  |tup ds =>
   rw[Tq] at f;obtain⟨a,xs,rfl,g,l⟩:=f;cases e with
   |int j=>rw[Tk] at c;cases c
   |str j=>rw[Tw] at c;cases c
   |non=>rw[T9] at c;cases c
   |tup es =>
    rw[Tq] at c;obtain⟨A,p,s,q,t⟩:=c;cases s;have u:H a=some (.tup xs):=g;rw[show H a=some (.tup p) from q] at u;cases u;rw[all ds es _ hd he l t]
   |lst es =>
    rw[Tl] at c;obtain⟨A,p,s,q,t⟩:=c;cases s;exact(ne g q).elim
   |_=>exact J6 he
  |lst ds =>
   rw[Tl] at f;obtain⟨a,xs,rfl,g,l⟩:=f;cases e with
   |int j=>rw[Tk] at c;cases c
   |str j=>rw[Tw] at c;cases c
   |non=>rw[T9] at c;cases c
   |tup es =>
    rw[Tq] at c;obtain⟨A,p,s,q,t⟩:=c;cases s;exact(ne q g).elim
   |lst es =>
    rw[Tl] at c;obtain⟨A,p,s,q,t⟩:=c;cases s;have:xs=p:=by
     rcases g with g|⟨_,g⟩<;>rcases q with q|⟨_,q⟩<;>rw[g] at q<;>cases q<;>rfl
    subst this;rw[all ds es _ hd he l t]
   |_=>exact J6 he
  |_=>exact J6 hd
def uh (K:W.Frag)(H:Hp)(d:D)(u:Value):Prop:=∃v,T3 v u/\Tj K H d v
def qq (K:W.Frag)(H:Hp)(d:D)(u:Value):Bool:=@decide (uh K H d u) (Classical.propDecidable _)
def M8 {K:W.Frag}{H:Hp}{d e:D}{v:V}{u:Value}(c:jy 12 d=true)(f:jy 12 e=true)(h:Tj K H e v)(r:T3 v u):qq K H d u=Qj e d:=by
 unfold qq;by_cases q:e=d
 .rw[q,Ky];exact @decide_eq_true _ (Classical.propDecidable _) ⟨v,r,q ▸ h⟩
 .rw[z7.mpr q];refine @decide_eq_false _ (Classical.propDecidable _) λ⟨j,g,h'⟩=>q ?_;rw[g.inj r] at h';exact E2 12 e d v f c h h'
def E3 {P:Program}{w:World}{K:W.Frag}{A:Around}{s:Shared}{H:Hp}(j:A.units+60<cLine)(ok:jP P w H s.heap){d:D}{x:V}{v:Value}(hp:jy 12 d=true)(hx:Tj K H d x)(p:T3 x v):
 ∀{ds:Yz} {xs:Yx} {f:Yd},ds.all (jy 12)=true->Ti K H ds xs->T4 xs f->f.map (qq K H d)=ds.map (λe=>Qj e d)/\∀u∈f,SeqAt.EqAt A s u v (qq K H d u):=by
 intro ds
 induction ds with
 |nil =>
  intro xs f _ g h;rw[Ti.nil_iff] at g;subst g;cases h;exact⟨rfl,λu j=>nomatch j⟩
 |cons e ds q =>
  intro xs f c g h;rw[UH,Ue] at c;rw[Tp] at g;obtain⟨y,rs,rfl,l,r⟩:=g;cases h with
  |cons n t =>
   obtain⟨z,B⟩:=q c.2 r t;obtain⟨as,C⟩:=Ww ok 12 e y _ c.1 l n;obtain⟨F,G⟩:=Ww ok 12 d x v hp hx p;obtain⟨I,L⟩:=WS 12 e c.1;obtain⟨J,M⟩:=WS 12 d hp;have es:=M8 hp c.1 l n;refine⟨by rw[Zl,Zl,z,es],λu hm=>?_⟩;rcases UQ.mp hm with hm|hm
   .subst hm;rw[es,<- (U1.mpr ((BC 12 e d c.1 hp).trans ky.symm):PyData.eqv (jZ e) (jZ d)=Qj e d)];exact SeqAt.eqAt_reads (jZ e) (jZ d) A s _ v as F C G I J ()
   .exact B u hm
def ZU {α: Type}{f:α -> Bool}{l:List α}:l.any f=(l.map f).any id:=by rw[List.any_map];rfl
def E4 (J:X.A.units+64<cLine)(f:Bool):ql X (compareOp (if f then .NotIn else .In)) (wq X.K λd e=>match e with
 | .dct _ _=>none
 | .dcf _ _=>none
 |e=>yI f d e):=by
 intro Y s Z H x y v u Q I B C ⟨F,d,e,z,g,id,l,hz,q⟩;have id':=Tj.same g _ _ id;cases e with
 |lst ds =>
  have hz:(if jy 12 d&&ds.all (jy 12) then some (D.bl (if f then !ds.any (λe=>Qj e d) else ds.any λe=>Qj e d)) else none)=some z:=hz
  split at hz
  .rename_i hp;rw[Ue] at hp;obtain rfl:=Zqi hz;rw[Tl] at l;obtain⟨p,xs,rfl,n,r⟩:=l;obtain rfl:u=Value.ref p:=C;obtain⟨c,t,h,G⟩:=I.list (n.same g).sq;obtain⟨k1,k2⟩:=E3 (A:=X.A.in1) (by show X.A.units+1+60<cLine;lia) I.hok hp.1 id' B hp.2 (Ti.same g _ _ r) t;have j:c.toArray.any (qq X.K H d)=ds.any (λe=>Qj e d):=by
    rw[show c.toArray.any (qq X.K H d)=c.any (qq X.K H d) by simp,ZU,k1,<- ZU]
   cases f with
   |true =>
    refine SeqAt.notIn_listAt (qq X.K H d) h.isList (λw hw=>k2 w (by simpa using hw)) ⟨.bl _,H,I,rfl,?_⟩;rw[j];exact q _ F H (.refl g) (yt _ F)
   |false =>
    refine SeqAt.in_listAt (qq X.K H d) h.isList (λw hw=>k2 w (by simpa using hw)) ⟨.bl _,H,I,rfl,?_⟩;rw[j];exact q _ F H (.refl g) (yt _ F)
  .exact J2 hz
 |tup ds =>
  have hz:(if jy 12 d&&ds.all (jy 12) then some (D.bl (if f then !ds.any (λe=>Qj e d) else ds.any λe=>Qj e d)) else none)=some z:=hz
  split at hz
  .rename_i hp;rw[Ue] at hp;obtain rfl:=Zqi hz;rw[Tq] at l;obtain⟨p,xs,rfl,n,r⟩:=l;obtain rfl:u=Value.ref p:=C;obtain⟨c,t,h,G⟩:=I.tuple (n.same g).sq;obtain⟨k1,k2⟩:=E3 (A:=X.A.in1) (by show X.A.units+1+60<cLine;lia) I.hok hp.1 id' B hp.2 (Ti.same g _ _ r) t;have j:c.toArray.any (qq X.K H d)=ds.any (λe=>Qj e d):=by
    rw[show c.toArray.any (qq X.K H d)=c.any (qq X.K H d) by simp,ZU,k1,<- ZU]
   cases f with
   |true =>
    refine SeqAt.notIn_tupleAt (qq X.K H d) h (λw hw=>k2 w (by simpa using hw)) ⟨.bl _,H,I,rfl,?_⟩;rw[j];exact q _ F H (.refl g) (yt _ F)
   |false =>
    refine SeqAt.in_tupleAt (qq X.K H d) h (λw hw=>k2 w (by simpa using hw)) ⟨.bl _,H,I,rfl,?_⟩;rw[j];exact q _ F H (.refl g) (yt _ F)
  .exact J2 hz
 |_=>exact J2 hz
def E5 {K:W.Frag}{f:Bool}{Z: St}{H:Hp}{Q:VK}(h:tD K E (T1 (yI f) fa fb) Z H Q):
 (λZ H Q=>tD K E fa Z H λy t=>tD K E fb Z t λx l=>∃a o,x=.ref a/\qz l a y o/\Q (.bl (if f then !o.isSome else o.isSome)) l) Z H Q\/zn (wq K λd e=>match e with
 | .dct _ _=>none
 | .dcf _ _=>none
 |e=>yI f d e) (tD K E fa) (tD K E fb) Z H Q:=by
 obtain⟨B,F,sd,r,n⟩:=h;by_cases j:∃d ks ds,fb sd=.ok d/\(d=.dct ks ds\/d=.dcf ks ds)
 .obtain⟨d,ks,ds,j,u⟩:=j;refine .inl ⟨B,F,sd,r,(Res.need_bind n).mono (λx G v I t s J=>?_) λ_ _ q=>q⟩;refine⟨B,I,sd,r.step s,(Res.need_bind G).monoE (λy g L w M l A N=>?_) λ_ _ q=>q.ext s⟩;rw[j] at g;cases g;obtain⟨z,hz,q⟩:=Tt L;obtain⟨k,O,hz⟩:=Jj.mp (show(Ka x).map (λq=>D.bl (if f then !(jt ks ds q).isSome else(jt ks ds q).isSome))=some z by rcases u with rfl|rfl<;>exact hz);subst hz;obtain⟨p,xs,rfl,P,R,S⟩:=BD u N;obtain⟨T,U⟩:=ZT k R S;refine⟨p,j9 (ks.zip xs) k,rfl,?_,?_⟩
  .rw[ZS O J];exact E1 (XG A.fh P)
  .have es:(j9 (ks.zip xs) k).isSome=(jt ks ds k).isSome:=by
    cases C:jt ks ds k with
    |none=>rw[U C];rfl
    |some d=>obtain⟨x,hx,_⟩:=T d C;rw[hx];rfl
   rw[es];exact q _ M l (s.trans A) (Tv.mpr rfl)
 .refine .inr (X5 ⟨B,F,sd,r,?_⟩);unfold T1 at n ⊢;cases hx:fa sd with
  |ok d =>
   rw[hx] at n;cases g:fb sd with
   |ok e =>
    rw[g] at n;cases e with
    |dct ks ds=>exact Zn ⟨_,ks,ds,g,.inl rfl⟩ j
    |dcf ks ds=>exact Zn ⟨_,ks,ds,g,.inr rfl⟩ j
    |_=>exact n
   |no=>rw[g] at n;exact n
   |ex c fs=>rw[g] at n;exact n
  |no=>rw[hx] at n;exact n
  |ex c fs=>rw[hx] at n;exact n
def ww (g:X.A.units+64<cLine)(c:QE X E a fa)(d:QE X E b fb)(f:behindInMarks .In b=false:=by rfl):QT X E (.Compare a [.In] [b] pos) (JC (T1 (yI false) fa fb)):=
 PT.weak (PT.or (AO (Lo () c d) f) (AT (E4 g false) c d f)) λZ H Q h=>E5 (Wq h)
def M9 (g:X.A.units+64<cLine)(c:QE X E a fa)(d:QE X E b fb)(f:behindInMarks .NotIn b=false:=by rfl):QT X E (.Compare a [.NotIn] [b] pos) (JC (T1 (yI true) fa fb)):=
 PT.weak (PT.or (AO (Lp () c d) f) (AT (E4 g true) c d f)) λZ H Q h=>E5 (Wq h)
end
section
variable {X:Cx}{E:XK}{m:Option Bool}{a b o i e f tg:Expr}{fa fb fo fi fv:FE}{fr:FA}{pos pos' apos cpos p:Pos}
def Qw {K:W.Frag}{H:Hp}{d:D}{vs:Yx}(h:Ti K H [d] vs):∃v,vs=[v]/\Tj K H d v:=by
 rw[Tp] at h;obtain⟨v,r,rfl,g,c⟩:=h;rw[Ti.nil_iff] at c;subst c;exact⟨v,rfl,g⟩
def BE {K:W.Frag}{H:Hp}{d e:D}{vs:Yx}(h:Ti K H [d,e] vs):∃v w,vs=[v,w]/\Tj K H d v/\Tj K H e w:=by
 rw[Tp] at h;obtain⟨v,r,rfl,c,g⟩:=h;obtain⟨w,rfl,j⟩:=Qw g;exact⟨v,w,rfl,c,j⟩
def TV:Yz->YA
 | [.lst ds]=>some (.int ds.length)
 | [.tup ds]=>some (.int ds.length)
 | [.dct ks _]=>some (.int ks.length)
 | [.scr ns]=>some (.int ns.length)
 | [.str x]=>if x.length<=sizeLine then some (.int x.length) else none
 |_=>none
def gO (ds:Yz)(z:D):Prop:=(∃es,ds=[.lst es]/\z=.int es.length)\/(∃es,ds=[.tup es]/\z=.int es.length)\/(∃ks es,ds=[.dct ks es]/\z=.int ks.length)\/(∃ns,ds=[.scr ns]/\z=.int ns.length)\/∃x,x.length<=sizeLine/\ds=[.str x]/\z=.int x.length
def MA (hz:TV ds=some z):gO ds z:=by
 cases ds with
 |nil=>exact J2 hz
 |cons d ds =>
  cases ds with
  |nil =>
   cases d with
   |lst ds=>exact .inl ⟨_,rfl,(Zqi hz).symm⟩
   |tup ds=>exact .inr (.inl ⟨_,rfl,(Zqi hz).symm⟩)
   |dct ks ds=>exact .inr (.inr (.inl ⟨_,_,rfl,(Zqi hz).symm⟩))
   |scr ns=>exact .inr (.inr (.inr (.inl ⟨_,rfl,(Zqi hz).symm⟩)))
   |str x=>exact let q:=Bu hz;.inr (.inr (.inr (.inr ⟨_,q.1,rfl,q.2.symm⟩)))
   |_=>exact J2 hz
  |cons e ds=>cases d<;>exact J2 hz
def QH:jc X (.builtin "len") (yp X.K TV):=jc.weak (jc.or Lb (jc.or L5 Lc)) λxs H Q j=>by
 obtain⟨F,ds,z,c,id,hz,q⟩:=j;rcases MA hz with ⟨es,rfl,rfl⟩|⟨es,rfl,rfl⟩|⟨ks,es,rfl,rfl⟩|⟨ns,rfl,rfl⟩|⟨x,l,rfl,rfl⟩
 .obtain⟨v,rfl,h⟩:=Qw id;rw[Tl] at h;obtain⟨a,ys,rfl,d,g⟩:=h;rw[<- g.length] at q;exact .inl ⟨a,ys,rfl,.inl (d.same c).sq,q _ F H (.refl c) (xt _ F)⟩
 .obtain⟨v,rfl,h⟩:=Qw id;rw[Tq] at h;obtain⟨a,ys,rfl,d,g⟩:=h;rw[<- g.length] at q;exact .inl ⟨a,ys,rfl,.inr (d.same c).sq,q _ F H (.refl c) (xt _ F)⟩
 .obtain⟨v,rfl,h⟩:=Qw id;rw[TH] at h;obtain⟨a,ys,rfl,d,g,n⟩:=h;refine .inr (.inl ⟨a,_,rfl,c _ _ d,?_⟩);rw[List.length_zip,<- g,Nat.min_self];exact q _ F H (.refl c) (xt _ F)
 .obtain⟨v,rfl,h⟩:=Qw id;rw[TN] at h;obtain⟨a,rfl,d⟩:=h;refine .inl ⟨a,_,rfl,.inl (Tu.seq c d),?_⟩;rw[Zql];exact q _ F H (.refl c) (xt _ F)
 .obtain⟨v,rfl,h⟩:=Qw id;rw[Tw] at h;subst h;exact .inr (.inr ⟨_,rfl,l,q _ F H (.refl c) (xt _ F)⟩)
def WU:Yz->YA
 | [.int i,.int j]=>some (.int (if j > i then j else i))
 |_=>none
def ZV:Yz->YA
 | [.int i,.int j]=>some (.int (if j<i then j else i))
 |_=>none
def E6 (ds:Yz):Prop:=∃i j,ds=[.int i,.int j]
def MB (hz:WU ds=some z):E6 ds:=by
 cases ds with
 |nil=>exact J2 hz
 |cons d ds =>
  cases ds with
  |nil=>cases d<;>exact J2 hz
  |cons e ds =>
   cases d with
   |int i =>
    cases e with
    |int j =>
     cases ds with
     |nil=>exact⟨_,_,rfl⟩
     |cons _ _=>exact J2 hz
    |_=>exact J2 hz
   |_=>exact J2 hz
def MC (hz:ZV ds=some z):E6 ds:=by
 cases ds with
 |nil=>exact J2 hz
 |cons d ds =>
  cases ds with
  |nil=>cases d<;>exact J2 hz
  |cons e ds =>
   cases d with
   |int i =>
    cases e with
    |int j =>
     cases ds with
     |nil=>exact⟨_,_,rfl⟩
     |cons _ _=>exact J2 hz
    |_=>exact J2 hz
   |_=>exact J2 hz
def BF (c:X.calm=true):jc X (.builtin "max") (yp X.K WU):=jc.weak (IF c) λxs H Q d=>by
 obtain⟨F,ds,z,g,id,hz,q⟩:=d;obtain⟨i,j,rfl⟩:=MB hz;obtain rfl:=Zqi hz;obtain⟨v,w,rfl,h,l⟩:=BE id;exact⟨_,_,by rw[Tk.mp h,Tk.mp l],q _ F H (.refl g) (xt _ F)⟩
def MD (c:X.calm=true):jc X (.builtin "min") (yp X.K ZV):=jc.weak (IG c) λxs H Q d=>by
 obtain⟨F,ds,z,g,id,hz,q⟩:=d;obtain⟨i,j,rfl⟩:=MC hz;obtain rfl:=Zqi hz;obtain⟨v,w,rfl,h,l⟩:=BE id;exact⟨_,_,by rw[Tk.mp h,Tk.mp l],q _ F H (.refl g) (xt _ F)⟩
def KI:D->Option Yf
 | .lst ds=>Qq Wv ds
 |_=>none
def ZW {K:W.Frag}{H:Hp}{d:D}{ns:Yf}{v:V}(h:KI d=some ns)(i:Tj K H d v):∃a,v=.ref a/\qu K H a (ns.map V.int):=by
 cases d with
 |lst ds =>
  rw[Tl] at i;obtain⟨a,xs,rfl,c,g⟩:=i;rw[Mx (show Qq Wv ds=some ns from h)] at g;rw[jn g] at c;exact⟨a,rfl,c⟩
 |_=>exact J2 h
def BG (ns:Yf):KI (.lst (ns.map D.int))=some ns:=Ep ns
def XH:Yz->YA
 | [d]=>(KI d).bind λns=>if ns=[] then none else some (.int (j8 ns))
 |_=>none
def WV:Yz->YA
 | [d]=>(KI d).bind λns=>if ns=[] then none else some (.int (qG ns))
 |_=>none
def ME (d:X.calm=true):jc X (.builtin "max") (yp X.K XH):=jc.weak (LG d) λxs H Q g=>by
 obtain⟨F,ds,z,c,id,hz,q⟩:=g;unfold XH at hz
 split at hz
 .obtain⟨ns,j,hz⟩:=Jh.mp hz
  split at hz
  .exact J2 hz
  .rename_i l;obtain rfl:=Zqi hz;obtain⟨v,rfl,h⟩:=Qw id;obtain⟨a,rfl,n⟩:=ZW j h;exact⟨a,ns,rfl,(n.same c).sq,l,q _ F H (.refl c) (xt _ F)⟩
 .exact J2 hz
def E7 (d:X.calm=true):jc X (.builtin "min") (yp X.K WV):=jc.weak (LH d) λxs H Q g=>by
 obtain⟨F,ds,z,c,id,hz,q⟩:=g;unfold WV at hz
 split at hz
 .obtain⟨ns,j,hz⟩:=Jh.mp hz
  split at hz
  .exact J2 hz
  .rename_i l;obtain rfl:=Zqi hz;obtain⟨v,rfl,h⟩:=Qw id;obtain⟨a,rfl,n⟩:=ZW j h;exact⟨a,ns,rfl,(n.same c).sq,l,q _ F H (.refl c) (xt _ F)⟩
 .exact J2 hz
def u7:D->Option String
 | .non=>some "NoneType"
 | .bl _=>some "bool"
 | .int _=>some "int"
 | .str _=>some "str"
 | .lst _=>some "list"
 | .tup _=>some "tuple"
 | .dct _ _=>some "dict"
 |_=>none
def yE (t n:String):Bool:=(t == n)||(t == "bool" && n == "int")
def XI (t n:String):Bool:=["NoneType", "bool", "int", "str", "list", "tuple", "dict"].contains t&&["bool", "int", "str", "list", "tuple", "dict"].contains n
def MF (K:W.Frag)(t n:String)(h:XI t n=true):W.kitOne K (.type t) (.type n)=some (yE t n):=by
 unfold XI at h;rw[Ue,List.contains_iff_mem,List.contains_iff_mem] at h;obtain⟨c,d⟩:=h;simp only[UQ,Vg,or_false] at c d;rcases c with rfl|rfl|rfl|rfl|rfl|rfl|rfl<;>rcases d with rfl|rfl|rfl|rfl|rfl|rfl<;>first|rfl|kernel_rfl
def ju:Yz->YA
 | [d,.ty n]=>(u7 d).bind λt=>if XI t n then some (.bl (yE t n)) else none
 |_=>none
def MG {K:W.Frag}{H:Hp}{d:D}{v:V}{t:String}(h:u7 d=some t)(i:Tj K H d v):TyOf K H v (.type t):=by
 cases d with
 |non=>cases h;rw[T9.mp i];exact .non
 |bl b=>cases h;rw[Tv.mp i];exact .bl b
 |int j=>cases h;rw[Tk.mp i];exact .int j
 |str x=>cases h;rw[Tw.mp i];exact .str x
 |lst ds =>
  obtain rfl:=Zqi h;rw[Tl] at i;obtain⟨a,xs,rfl,g,_⟩:=i;rcases g with g|⟨o,g⟩
  .exact .lst g
  .exact .frz g
 |tup ds =>
  obtain rfl:=Zqi h;rw[Tq] at i;obtain⟨a,xs,rfl,g,_⟩:=i;exact .tup g
 |dct ks ds =>
  obtain rfl:=Zqi h;rw[TH] at i;obtain⟨a,xs,rfl,g,_⟩:=i;exact .dK g
 |ty n=>exact J2 h
 |scr n=>exact J2 h
 |ins C fs ds=>exact J2 h
 |exc c=>exact J2 h
 |exr c n=>exact J2 h
 |ucl c=>exact J2 h
 |adr c=>exact J2 h
 |dcf c ds=>exact J2 h
 |pin c ds=>exact J2 h
def gP (ds:Yz)(z:D):Prop:=∃d n t,ds=[d,.ty n]/\u7 d=some t/\XI t n=true/\z=.bl (yE t n)
def MH (hz:ju ds=some z):gP ds z:=by
 cases ds with
 |nil=>exact J2 hz
 |cons d ds =>
  cases ds with
  |nil=>exact J2 hz
  |cons e ds =>
   cases ds with
   |nil =>
    cases e with
    |ty n =>
     obtain⟨t,c,hz⟩:=Jh.mp (show(u7 d).bind (λt=>if XI t n then some (D.bl (yE t n)) else none)=some z from hz);exact⟨d,n,t,rfl,c,(Bu hz).1,(Bu hz).2.symm⟩
    |_=>exact J2 hz
   |cons _ _=>cases e<;>exact J2 hz
def KY:jc X (.builtin "isinstance") (yp X.K ju):=jc.weak LI λxs H Q g=>by
 obtain⟨F,ds,z,c,id,hz,q⟩:=g;obtain⟨d,n,t,rfl,h,j,rfl⟩:=MH hz;obtain⟨v,w,rfl,l,r⟩:=BE id;exact⟨v,_,_,_,by rw[qm.mp r],MG h (Tj.same c _ _ l),MF _ _ _ j,q _ F H (.refl c) (yt _ F)⟩
def KZ (c:Gl X x)(d:X.mg x=none)(g:bootBuiltins x=some u)(r:T3 (.ty n) u)(h:x ≠ "__name__" := by decide)(j:(x == ("__debug__" : Str))=false:=by decide):QE X E (.Name x pos) (dC (.ty n)):=
 ZK (HZ (v:=.ty n) c d g r h j) λ_=>qm.mpr rfl
def K8:Yz->YA
 | [.lst ds]=>some (.lst ds)
 | [.tup ds]=>some (.lst ds)
 | [.scr ns]=>some (.lst (ns.map .int))
 |_=>none
def ur (ds:Yz)(z:D):Prop:=(∃es,ds=[.lst es]/\z=.lst es)\/(∃es,ds=[.tup es]/\z=.lst es)\/∃ns,ds=[.scr ns]/\z=.lst (ns.map .int)
def MI (hz:K8 ds=some z):ur ds z:=by
 cases ds with
 |nil=>exact J2 hz
 |cons d ds =>
  cases ds with
  |nil =>
   cases d with
   |lst ds=>exact .inl ⟨_,rfl,(Zqi hz).symm⟩
   |tup ds=>exact .inr (.inl ⟨_,rfl,(Zqi hz).symm⟩)
   |scr ns=>exact .inr (.inr ⟨_,rfl,(Zqi hz).symm⟩)
   |_=>exact J2 hz
  |cons e ds=>cases d<;>exact J2 hz
def BH:jc X (.type "list") (xF X.K K8):=jc.weak Ld λxs H Q r=>by
 obtain⟨F,ds,z,d,id,hz,q⟩:=r;have c:∀{es:Yz} {ys:Yx},Ti X.K F es ys->xb X.K F H Q (.lst es)->∀l,H l=none->Q (.ref l) (TQ H l (.lst ys)):=λ{es ys} h q l j =>
  q l F _ (.keep d j _) j (Qh d j) ⟨ys,JQ,h⟩
 rcases MI hz with ⟨es,rfl,rfl⟩|⟨es,rfl,rfl⟩|⟨ns,rfl,rfl⟩
 .obtain⟨v,rfl,h⟩:=Qw id;rw[Tl] at h;obtain⟨a,ys,rfl,g,n⟩:=h;exact⟨a,ys,rfl,.inl (g.same d).sq,c n q⟩
 .obtain⟨v,rfl,h⟩:=Qw id;rw[Tq] at h;obtain⟨a,ys,rfl,g,n⟩:=h;exact⟨a,ys,rfl,.inr (g.same d).sq,c n q⟩
 .obtain⟨v,rfl,h⟩:=Qw id;rw[TN] at h;obtain⟨a,rfl,g⟩:=h;exact⟨a,_,rfl,.inl (Tu.seq d g),c (jd _) q⟩
def Uk:Yz->YA
 | [.lst ds]=>some (.tup ds)
 | [.tup ds]=>some (.tup ds)
 |_=>none
def gJ (ds:Yz)(z:D):Prop:=(∃es,ds=[.lst es]/\z=.tup es)\/∃es,ds=[.tup es]/\z=.tup es
def MJ (hz:Uk ds=some z):gJ ds z:=by
 cases ds with
 |nil=>exact J2 hz
 |cons d ds =>
  cases ds with
  |nil =>
   cases d with
   |lst ds=>exact .inl ⟨_,rfl,(Zqi hz).symm⟩
   |tup ds=>exact .inr ⟨_,rfl,(Zqi hz).symm⟩
   |_=>exact J2 hz
  |cons e ds=>cases d<;>exact J2 hz
def XJ:jc X (.type "tuple") (yp X.K Uk):=jc.weak Le λxs H Q n=>by
 obtain⟨F,ds,z,c,id,hz,q⟩:=n;rcases MJ hz with ⟨es,rfl,rfl⟩|⟨es,rfl,rfl⟩
 .obtain⟨v,rfl,h⟩:=Qw id;rw[Tl] at h;obtain⟨a,ys,rfl,d,g⟩:=h;refine⟨a,ys,rfl,.inl ⟨(d.same c).sq,λl r=>?_⟩⟩;have j:=jG c r (.tup ys);exact q _ _ _ j (Tq.mpr ⟨l,ys,rfl,.of JQ,Ti.same j.ff _ _ g⟩)
 .obtain⟨v,rfl,h⟩:=Qw id;have h':=h;rw[Tq] at h;obtain⟨a,ys,rfl,d,g⟩:=h;exact⟨a,ys,rfl,.inr ⟨(d.same c).sq,q _ F H (.refl c) h'⟩⟩
def qI (r:Jx):D:=.dct (r.map λp=>.inl p.1) (r.map λp=>.int p.2)
def WW (r:Jx):Jx:=r.foldl (λa p=>jC a p.1 p.2) []
def MK (r:Jx):X1 r=qA (WW r):=Eg r []
def ML (h:T5 r):WW r=r:=by
 have:=Eh r [] (by simpa using h);unfold WW;simpa using this
def E8 (r:Jx):qA r=(r.map λp=>(Ub p.1:TF)).zip (r.map λp=>V.int p.2):=by
 unfold qA
 induction r with
 |nil=>rfl
 |cons p r c=>rw[Zl,c];rfl
def MM (K:W.Frag)(F:Hp)(r:Jx):Ti K F (r.map λp=>D.int p.2) (r.map λp=>V.int p.2):=by
 have:=jd (K:=K) (H:=F) (r.map (·.2));rw[Zw,Zw] at this;exact this
def Wy:Yz->YA
 | [d]=>(Kx d).bind λr=>if r.length<=100 then some (qI (WW r)) else none
 |_=>none
def E9 (d:X.calm=true):jc X (.type "dict") (xF X.K Wy):=jc.weak (LO d) λxs H Q g=>by
 obtain⟨F,ds,z,c,id,hz,q⟩:=g;unfold Wy at hz
 split at hz
 .obtain⟨r,j,hz⟩:=Jh.mp hz
  split at hz
  .rename_i l;obtain rfl:=Zqi hz;obtain⟨v,rfl,h⟩:=Qw id;rw[Eo j,kw] at h;have h':=Is.same c _ _ h;obtain⟨a,ys,e,_⟩:=(show ∃a xs,v=.ref a/\_ by unfold rD at h;rw[jh] at h;exact h);subst e;refine⟨a,r,rfl,h',l,λp hp=>?_⟩;refine q p F _ (.keep c hp _) hp (Qh c hp) ⟨(WW r).map λp=>V.int p.2,?_,(),MM _ _ _⟩;rw[JQ,MK,E8]
  .exact J2 hz
 .exact J2 hz
def BI:FE:=λ_=>.ok (.dct [] [])
def MN:QN X E (.Dict [] [] pos) BI:=PE.weak Lu λZ H Q ⟨B,F,sd,r,n⟩=>λp hp=>n p F _ (.keep r.ext.fh hp _) hp (Qh r.ext.fh hp) ⟨[],JQ,rfl,.nil⟩
def XL (fo c g:FE):FE:=λsd=>(fo sd).bind λd=>match d with
 | .dct ks ds=>(c sd).bind λk=>(g sd).bind λx=>.ofO ((Ka k).map λq=>(jt ks ds q).getD x)
 |_=>.no
def EA (G:X.A.units+1<cLine)(I:QE X E o fo)(J:QE X E e fa)(K:QE X E f fb)(L:M2 X o "get" apos e f cpos):QE X E (.Call (.Attribute o "get" apos) [e,f] [] cpos) (XL fo fa fb):=PE.weak (Ly G I J K L) λZ H Q M=>by
 obtain⟨B,F,sd,r,n⟩:=M;refine⟨B,F,sd,r,(Res.need_bind n).mono (λd s v N H1 c t=>?_) λ_ _ q=>q⟩;cases d with
 |dct ks ds =>
  rw[TH] at t;obtain⟨p,xs,rfl,O,P,R⟩:=t;have hp:=c.fh _ _ O;refine⟨p,rfl,.inl ⟨_,.inl hp⟩,B,N,sd,r.step c,(Res.need_bind s).mono (λk S w T H2 g U=>?_) λ_ _ q=>q.ext c⟩;refine⟨B,T,sd,(r.step c).step g,(Res.need_bind S).mono (λx Y u A C h i3=>?_) λ_ _ q=>q.ext (c.trans g)⟩;obtain⟨z,hz,q⟩:=Tt Y;obtain⟨l,hk,hz⟩:=Jj.mp hz;subst hz;obtain⟨g1,g2⟩:=ZT l P R;refine⟨j9 (ks.zip xs) l,?_,?_⟩
  .rw[ZS hk U];exact qz.k (h.hh _ _ (g.hh _ _ hp))
  .cases j:jt ks ds l with
   |none =>
    rw[j] at q;rw[g2 j];exact q _ A C ((c.trans g).trans h) i3
   |some d =>
    rw[j] at q;obtain⟨y,hy,iy⟩:=g1 d j;rw[hy];exact q _ A C ((c.trans g).trans h) (Tj.same (g.ff.trans h.ff) _ _ iy)
 |_=>exact s.elim
def Wz (i:Nat)(c fv:FE):FS:=λsd=>(fv sd).bind λv=>match sd[i]? with
 |some (some (.own false (.dct ks ds)))=>(c sd).bind λk=>match Ka k with
  |some q=>if ks.length<sizeLine then .ok (.next (sd.set i (some (.own false (.dct (Wx ks q) (WT ks ds q v)))))) else .no
  |none=>.no
 |_=>.no
def EB (x:X.A.units+1<cLine)(y:PE X o (xD j))(hi:QE X E i fi)(z:QE X E e fv)(hs:swapsWith e (some (.Subscript o i pos')) pos.line X.env=pure false:=by rfl):
 QS X E m (.Assign [.Subscript o i pos'] e pos) (Wz j fi fv):=PS.weak (Lq x y hi z hs) λT Z H A=>by
 obtain⟨B,F,sd,r,n⟩:=A;refine⟨B,F,sd,r,(Res.need_bind n).mono (λd s v C U c G=>?_) λ_ _ q=>q.ext r.ext⟩
 split at s
 .rename_i ks ds t;obtain⟨l,u,Y,h3,⟨xs,I,J,L⟩,_⟩:=(r.step c).own t;refine⟨.ref l,u,B,C,sd,r.step c,(Res.need_bind s).mono (λk g w M H2 h N=>?_) λ_ _ q=>q.ext (r.step c).ext⟩
  split at g
  .rename_i q O
   split at g
   .rename_i hz;obtain⟨ys,P,Q,R⟩:=M6 (K:=X.K) (q:=q) J (Ti.same h.ff _ _ L) (Tj.same h.ff _ _ G);have S:=h.hh _ _ I;refine⟨l,_,rfl,(by rw[ZS O N];exact y7.k S (by rw[List.length_zip];lia)),?_⟩;exact g Z M _ (c.ff.trans h.ff) (((r.step c).step h).chg t u ⟨ys,by rw[JQ,P],Q,R⟩)
   .exact g.elim
  .exact g.elim
 .exact s.elim
def zO:D->Option Yz
 | .lst ds=>some ds
 | .scr ns=>some (ns.map .int)
 |_=>none
def zI:D->Option Yz
 | .tup ds=>some ds
 |_=>none
def iL (f:FE):FA:=λsd=>(f sd).bind λd=>.ofO (zO d)
def iT (f:FE):FA:=λsd=>(f sd).bind λd=>.ofO (zI d)
def BJ {K:W.Frag}{j:Hp}{J:It}{ds:Yz}{xs:Yx}{S:Hp->Prop}(h:Ti K j ds xs)(t:∀F H,Tu j F->Tu F H->S H)(g:∀i H x,S H->xs[i]? = some x->J.go i H)(st:∀i H,S H->xs.length<=i->J.stop i H)
 (u:∀i H x H',S H->J.yld i H x H'->H'=H/\xs[i]? = some x):yO K j J ds:=λi q c r s=>by
 have l:=t q c r s;refine⟨λhi=>?_,λhi=>st i c l (by rw[h.length];exact hi)⟩;obtain⟨x,hx,_⟩:=h.get (Zqg hi);refine⟨g i c x l hx,λy v w=>?_⟩;obtain⟨rfl,n⟩:=u i c y v l w;obtain⟨d,z,id⟩:=h.getV n;exact⟨d,q,z,.refl s,Tj.same r _ _ id⟩
def MO (h:QE X E e fa):QI X E tg e (iL fa):=PI.weak (Ir h) λZ H R z=>by
 obtain⟨B,F,sd,r,n⟩:=z;refine⟨B,F,sd,r,(Res.need_bind n).mono (λd A v w y l s=>?_) λ_ _ q=>q⟩;obtain⟨ds,hz,q⟩:=Tt A;cases d with
 |lst es =>
  obtain rfl:=Zqi hz;rw[Tl] at s;obtain⟨a,xs,rfl,g,C⟩:=s;refine⟨a,rfl,⟨xs,(g.same l.fh).sq⟩,q _ w y l (BJ (S:=λH=>qh X.K H a xs) C (λF H t u=>((g.same t).same u).sq) (λi H x c hx=>⟨xs,x,c,hx⟩) (λi H c hi=>⟨xs,c,hi⟩) λi H x H' c j=>⟨j.1,j.2 xs c⟩)⟩
 |scr ns =>
  obtain rfl:=Zqi hz;rw[TN] at s;obtain⟨a,rfl,g⟩:=s;refine⟨a,rfl,⟨_,Tu.seq l.fh g⟩,q _ w y l (BJ (S:=λH=>qh X.K H a (ns.map V.int)) (jd ns) (λF H t u=>Tu.seq u (Tu.seq t g)) (λi H x c hx=>⟨_,x,c,hx⟩) (λi H c hi=>⟨_,c,hi⟩) λi H x H' c j=>⟨j.1,j.2 _ c⟩)⟩
 |_=>exact J2 hz
def MP (h:QE X E e fa):QI X E tg e (iT fa):=PI.weak (Iu h) λZ H R t=>by
 obtain⟨B,F,sd,r,n⟩:=t;refine⟨B,F,sd,r,(Res.need_bind n).mono (λd u v w y g j=>?_) λ_ _ q=>q⟩;obtain⟨ds,hz,q⟩:=Tt u;cases d with
 |tup es =>
  obtain rfl:=Zqi hz;rw[Tq] at j;obtain⟨a,xs,rfl,l,z⟩:=j;refine⟨a,rfl,⟨xs,(l.same g.fh).sq⟩,q _ w y g (BJ (S:=λH=>xh X.K H a xs) z (λF H A C=>((l.same A).same C).sq) (λi H x c hx=>⟨xs,x,c,hx⟩) (λi H c hi=>⟨xs,c,hi⟩) λi H x H' c s=>⟨s.1,s.2 xs c⟩)⟩
 |_=>exact J2 hz
def gL {X:Cx}{tg e:Expr}{t t':TI}(h:PI X tg e t)(h':PI X tg e t'):PI X tg e (λZ H R=>t Z H R\/t' Z H R):=λY s Z H R I q=>q.elim (h Y s Z H R I) (h' Y s Z H R I)
def W0:D->Option Yz
 | .lst ds=>some ds
 | .scr ns=>some (ns.map .int)
 | .tup ds=>some ds
 |_=>none
def iS (f:FE):FA:=λsd=>(f sd).bind λd=>.ofO (W0 d)
def JN (h:QE X E e fa):QI X E tg e (iS fa):=PI.weak (gL (MO (E:=E) h) (MP (E:=E) h)) λZ H R j=>by
 obtain⟨B,F,sd,r,n⟩:=j;by_cases g:∃ds,fa sd=.ok (.tup ds)
 .obtain⟨ds,g⟩:=g;refine .inr ⟨B,F,sd,r,?_⟩;unfold iS at n;unfold iT;rw[g] at n ⊢;exact n
 .refine .inl ⟨B,F,sd,r,?_⟩;unfold iS at n;unfold iL;cases hx:fa sd with
  |ok d =>
   rw[hx] at n;cases d with
   |tup ds=>exact Zn ⟨ds,hx⟩ g
   |_=>exact n
  |no=>rw[hx] at n;exact n
  |ex c fs=>rw[hx] at n;exact n
def JK (lo:Int)(n:Nat):Yz:=(List.range n).map λk:Nat=>.int (lo+k)
def WX (j:Int):Bool:=Nat.ble j.toNat 1000000000&&Nat.ble (-j).toNat 1000000000
def EC (h:WX j=true): -(2 ^ 62)<=j/\j<2 ^ 62:=by
 unfold WX at h;rw[Ue,UP,UP] at h;lia
def MQ (c: -1000000000<=j)(d:j<=1000000000):WX j=true:=by
 unfold WX;rw[Ue,UP,UP];lia
def qW (fr:FA):FA:=λsd=>(fr sd).bind λds=>match ds with
 | [.int j]=>if WX j then .ok (JK 0 j.toNat) else .no
 |_=>.no
def MR {K:W.Frag}{c:Hp}(lo:Int)(n:Nat):yO K c (ku lo n) (JK lo n):=λi d l q g=>by
 have h:(JK lo n).length=n:=by unfold JK;rw[Zql,ZB]
 rw[h];refine⟨λhi=>⟨hi,λx r j=>?_⟩,λhi=>hi⟩;obtain⟨rfl,rfl⟩:=j;refine⟨.int (lo+i),d,?_,.refl g,Tk.mpr rfl⟩;unfold JK;rw[Zv,List.getElem?_range hi];rfl
def Kn {a:Expr}(g:Gl X "range")(l:X.mg "range" = none)(s:QA X E [a] fr)(hs:starEach [a] X.env=[(false,eval a X.env)]:=by rfl):QI X E tg (.Call (.Name "range" p) [a] [] pos) (qW fr):=PI.weak (Iw g l s hs) λZ H R t=>by
 obtain⟨B,F,sd,r,n⟩:=t;refine⟨B,F,sd,r,(Res.need_bind n).mono (λds c vs u w x y=>?_) λ_ _ q=>q⟩
 split at c
 .split at c
  .rename_i j d;obtain⟨v,rfl,h⟩:=Qw y;rw[Tk.mp h];exact⟨j,rfl,(EC d).1,(EC d).2,c _ u w x (MR 0 _)⟩
  .exact c.elim
 .exact c.elim
end
section
variable {X:Cx}{E:XK}{m:Option Bool}{a b o i e f tg:Expr}{fa fb fo fi fv:FE}{fr:FA}{pos pos' apos cpos p:Pos}
def PG.weak (h:PG X e t)(w:∀v Z H Q,t' v Z H Q->t v Z H Q):PG X e t':=λY s Z H v u Q I r q=>h Y s Z H v u Q I r (w _ _ _ _ q)
def BK:Yh->zi
 | []=>vp
 |i::is=>CZ (KG i) (BK is)
theorem ED:∀{is:Yh} {xs:Yx} {Z: St} {H:Hp} {Q:St->Hp->Prop},xs.length=is.length->Q (ZO is xs Z) H->BK is xs Z H Q
 | [],xs,Z,H,Q,hl,q=>⟨Je.mp hl,q⟩
 |i::is,[],Z,H,Q,hl,q=>by cases hl
 |i::is,x::xs,Z,H,Q,hl,q=>⟨x,xs,rfl,ED (is:=is) (xs:=xs) (Vf hl) q⟩
def JM {i:Nat}{e:Expr}(h:PG X e (KG i)):QG X e (.one i):=h
def K9 (is:Yh)(h:PG X e (vk X.K is.length (BK is))):QG X e (.tup is):=PG.weak h λv Z H Q ⟨a,xs,e,d,c,q⟩=>⟨a,xs,e,d,c,ED c q⟩
def Ko (tg:Tg)(c:FT)(f:FE)(sd:SD):Yz->Res Yz
 | []=>.ok []
 |x::xs=>(JS tg x sd).bind λs=>(c s).bind λb=>if b then(f s).bind λy=>(Ko tg c f sd xs).bind λys=>.ok (y::ys) else Ko tg c f sd xs
def VR (cap:List (Option Nat))(it:FA)(tg:Tg)(c:FT)(f:FE):FE:=λsd=>(it sd).bind λds=>if KW (jg cap sd) tg=true/\ds.length<sizeLine then
 (Ko tg c f (jg cap sd) ds).bind λys=>.ok (.lst ys) else .no
def EE {K:W.Frag}{t:Tg}{fi:FA}{w:FT}{f:FE}{cap:List (Option Nat)}{Z: St}{H:Hp}{Q:VK}(I:wb K E (VR cap fi t w f) Z H Q):Xx cap (uA K E fi) (gT t K) (zA K E w) (tD K E f) Z H Q:=by
 obtain⟨B,F,sd,r,n⟩:=I;refine⟨B,F,sd,r,(Res.need_bind n).mono (λds L J P H1 z wk=>?_) λ_ _ q=>q⟩
 split at L
 .rename_i I;obtain⟨hn,hz⟩:=I;refine⟨λi k ys Z l=>k=ds.length-i/\i<=ds.length/\∃j es,Ext P H1 j l/\RS K B j l (jg cap sd) Z /\ Ti K j es ys/\es.length<=i /\
   (Ko t w f (jg cap sd) (ds.drop i)).need (λrs=>xb K j l Q (.lst (es++rs))) (XW K E j l),⟨ds.length,rfl,Uc _,P,[],.refl z.fh,(r.step z).cap cap,.nil,Zf _,?_⟩,?_⟩
  .exact(Res.need_bind L).mono (λrs q=>(show xb K F H Q (.lst rs) from q).ext z) λ_ _ q=>q.ext z
  rintro i k ys Z2 l ⟨rfl,hi,j,es,A,M,C,R,s⟩;have ly:=C.length;refine⟨(),?_⟩;obtain⟨w1,w2⟩:=wk i j l A.ff A.fh;by_cases g:i<ds.length
  .obtain⟨go,yl⟩:=w1 g;refine .inr ⟨go,λx H3 y=>?_⟩;obtain⟨d,F3,S,h,i3⟩:=yl x H3 y;rw[Uz g] at s;have N:ds[i]=d:=by rw[Zqg g] at S;exact Zqi S
   rw[N] at s;unfold Ko at s;have r3:=M.step h;refine XB (K:=K) r3 i3 (Res.need_bind s) λsd' Z' n4 hb G=>?_;obtain⟨T,U⟩:=B8 hn hb;refine⟨B,F3,sd',G,(Res.need_bind n4).mono (λb Y F4 H4 c=>?_) λ_ _ q=>q.ext h⟩;cases b with
   |true =>
    refine⟨B,F4,sd',G.step c,(Res.need_bind Y).mono (λy n6 v F5 H5 u i5=>?_) λ_ _ q=>q.ext (h.trans c)⟩;refine⟨ds.length-(i+1),(),rfl,g,F5,es++[y],((A.trans h).trans c).trans u,((G.step c).step u).forget T U,(Ti.same ((h.ff.trans c.ff).trans u.ff) _ _ C).snoc i5,by rw[Ua];exact VA R,?_⟩;refine(Res.need_bind n6).mono (λrs q=>?_) λ_ _ q=>q.ext ((h.trans c).trans u);rw[Uy];exact(show xb K j l Q (.lst (es++y::rs)) from q).ext ((h.trans c).trans u)
   |false =>
    refine⟨ds.length-(i+1),(),rfl,g,F4,es,(A.trans h).trans c,(G.step c).forget T U,Ti.same (h.ff.trans c.ff) _ _ C,Nat.le_succ_of_le R,?_⟩;exact(show(Ko t w f (jg cap sd) (ds.drop (i+1))).need _ _ from Y).mono (λrs q=>q.ext (h.trans c)) λ_ _ q=>q.ext (h.trans c)
  .have he:i=ds.length:=()
   subst he;refine .inl ⟨w2 (Zf _),λD O=>?_⟩;rw[UK] at s;have q:xb K j l Q (.lst (es++[])):=s;rw[ZA] at q;exact q D j _ (.keep M.ext.fh O _) O (Qh M.ext.fh O) ⟨ys,JQ,C⟩
 .exact L.elim
def BL {tg j l c:Expr}{d:Scope}{t:Tg}{fi:FA}{r:FT}{f:FE}(N:Yi)(cap:List (Option Nat))(v:X.calm=true)(u:QB d X.env N X.N cap=true)(hi:QI X E tg j fi)
 (w:∀n C s H q,QG (JH X d N n C s H q) tg t) (y:∀n C s H q,QT (JH X d N n C s H q) E c r) (z:∀n C s H q,QE (JH X d N n C s H q) E l f) (hs:∀x,foldedSetIterable j X.env x=pure x:=by intro _;rfl):
 QN X E (.ListComp l [⟨tg,j,[c],0⟩] d pos) (VR cap fi t r f):=PE.weak (Ma (g:=gT t X.K) (tt:=zA X.K E r) (te:=tD X.K E f) N cap v u hi w y z hs) λ_ _ _ h=>EE h
def W1:List TF->Yz->Option Jx
 | .inl k::ks,.int v::ds=>(W1 ks ds).map λr=>(k,v)::r
 | [],[]=>some []
 |_,_=>none
def MS (ks:List TF)(ds:Yz)(r:Jx):Prop:=ks=r.map (λp=>.inl p.1)/\ds=r.map λp=>.int p.2
def MT (h:W1 ks ds=some r):MS ks ds r:=by
 induction ks generalizing ds r with
 |nil =>
  cases ds with
  |nil=>obtain rfl:=Zqi h;exact⟨rfl,rfl⟩
  |cons _ _=>exact J2 h
 |cons k ks c =>
  cases k with
  |inr _=>exact J2 h
  |inl k =>
   cases ds with
   |nil=>exact J2 h
   |cons d ds =>
    cases d with
    |int v =>
     obtain⟨l,g,j⟩:=Jj.mp (show(W1 ks ds).map (λr=>(k,v)::r)=some r from h);subst j;exact⟨Zt (Ub k :: ·) (c g).1,Zt (D.int v :: ·) (c g).2⟩
    |_=>exact J2 h
def MU (r:Jx):W1 (r.map λp=>.inl p.1) (r.map λp=>.int p.2)=some r:=by
 induction r with
 |nil=>rfl
 |cons p r c=>exact Zt (Option.map λr=>(p.1,p.2)::r) c
def y4 (s:Tu F H)(fr:∀p∈L,H p.1=none):Ext F H (jI F L) (jI H L):=by
 have c:∀{G:Hp} {b:Addr},H b≠none->jI G L b=G b:=λ{G b} d=>ZI λp hp z=>d (by rw[<- z];exact fr p hp);have ne:∀{b:Addr} {o:HO},H b=some o->H b≠none:=λ{b o} e z=>by rw[e] at z;cases z
 refine⟨λb o e=>by rw[c (ne (s _ _ e))];exact e,λb o e=>?_,λb o e=>by rw[c (ne e)];exact e,λa e n=>by rw[c n];exact e⟩;rcases Ed e with h|⟨h1,h2⟩
 .unfold jI at e ⊢
  split at e
  .exact e
  .exact s _ _ e
 .rw[ZI h1];exact s _ _ h2
def BM:D->YA
 | .dct ks ds=>(W1 ks ds).bind λr=>if r ≠ []/\r.length<64 then some (.lst ((JE TM r).map ja)) else none
 |_=>none
def BN (fo:FE):FE:=λsd=>(fo sd).bind λd=>.ofO (BM d)
def MV (h:∀{C:TE},PE X o C->PE X e (zp (λxs H Q=>∃c d r,xs=[.ref c]/\H c=some (V7 c d)/\H d=some (.dK (qA r))/\r ≠ []/\r.length<64/\∀l L,(∀p∈L,H p.1=none)->(L.map (·.1)).Nodup->(∀G,Is (jI G L) (.list ((JE TM r).map pD)) (.ref l))->Q (.ref l) (jI H L))
 (AU (wd X.K "dict" (λx vs H Q=>∃d w,x=.ref d/\vs=[]/\H d=some (.dK w)/\∀p,H p=none->Q (.ref p) (TQ H p (V7 p d))) C) zo))) (N:QE X E o fo):QE X E e (BN fo):=PE.weak (h N) λZ H Q O=>by
 obtain⟨B,F,sd,r,n⟩:=O;refine⟨B,F,sd,r,(Res.need_bind n).mono (λd P v t I y J=>?_) λ_ _ q=>q⟩;obtain⟨z,hz,q⟩:=Tt P;cases d with
 |dct ks ds =>
  obtain⟨u,R,A⟩:=Jh.mp (show(W1 ks ds).bind (λr=>if r ≠ []/\r.length<64 then some (D.lst ((JE TM r).map ja)) else none)=some z from hz)
  split at A
  .rename_i K;obtain rfl:=Zqi A;obtain⟨k1,k2⟩:=MT R;rw[TH] at J;obtain⟨d,xs,rfl,S,g2,T⟩:=J;have U:xs=u.map λp=>V.int p.2:=by
    have j:=T;rw[k2] at j;have:=jn (ns:=u.map (·.2)) (by rw[Zw];exact j);rw[this,Zw];rfl
   have Y:t d=some (.dK (qA u)):=by rw[S,k1,U,<- E8]
   have g:=y.fh _ _ Y;refine⟨.inr (.inr (.inl ⟨rfl,.inl ⟨_,g⟩⟩)),d,_,rfl,rfl,g,λc s=>?_⟩;have sn:=K6 s (V7 c d);refine⟨c,d,u,rfl,JQ,sn _ _ g,K.1,K.2,λl L fr nd hl=>?_⟩;have M:Ext t I t (TQ I c (V7 c d)):=.keep y.fh s _;have en:=y4 M.fh fr;refine q _ _ _ (y.trans (M.trans en)) ?_;obtain⟨l',ys,e',g4,g5⟩:=qF.mp (hl t);exact Tl.mpr ⟨l',ys,e',.of g4,zG.mpr g5⟩
  .exact J2 A
 |_=>exact J2 hz
end
section
variable {P:Program}{w:World}{K:W.Frag}{mg:Yc}{base:Heap}{f:Addr}{fd:FuncData}{ps:Yi}{k:Nat}
def v5:FnOk P w K mg base xp k f fd ps (qr K λ_=>.no):=⟨λ_ _ _ _ ⟨_,_,_,_,n⟩=>n.elim,λ_ _ _ _ _ _ _ _ _ _ _ _ _ ⟨_,_,_,_,n⟩=>n.elim⟩
end
section
variable {X:Cx}{E:XK}{m:Option Bool}{a b o i e f tg:Expr}{fa fb fo fi fv:FE}{fr:FA}{pos pos' apos cpos p:Pos}
def qk (c:Bool):D->YA
 | .non=>some (.bl (!c))
 |_=>some (.bl c)
def MW:D->Bool
 | .non=>true
 |_=>false
def MX {K:W.Frag}{H:Hp}{d:D}{v:V}(h:Tj K H d v):decide (v=.non)=MW d:=by
 cases d with
 |non=>rw[T9.mp h];rfl
 |bl b=>rw[Tv.mp h];rfl
 |int b=>rw[Tk.mp h];rfl
 |str b=>rw[Tw.mp h];rfl
 |ty b=>rw[qm.mp h];rfl
 |scr b=>obtain⟨a,rfl,_⟩:=TN.mp h;rfl
 |tup b=>obtain⟨a,_,rfl,_⟩:=Tq.mp h;rfl
 |lst b=>obtain⟨a,_,rfl,_⟩:=Tl.mp h;rfl
 |dct b c=>obtain⟨a,_,rfl,_⟩:=TH.mp h;rfl
 |ins b c d=>obtain⟨a,_,_,_,rfl,_⟩:=je.mp h;rfl
 |exc b=>obtain⟨a,_,rfl,_⟩:=jW.mp h;rfl
 |exr b c=>obtain⟨a,_,_,rfl,_⟩:=jV.mp h;rfl
 |ucl b=>obtain⟨a,rfl,_⟩:=x5.mp h;rfl
 |adr b=>rw[j7.mp h];rfl
 |dcf b c=>obtain⟨a,_,_,rfl,_⟩:=j6.mp h;rfl
 |pin b c=>rw[(j5.mp h).1];rfl
def EF {K:W.Frag}{Z: St}{H:Hp}{Q:VK}(h:tD K E (xJ (qk false) fa) Z H Q):zY (tD K E fa) Z H Q:=by
 obtain⟨B,F,sd,r,n⟩:=h;refine⟨B,F,sd,r,(Res.need_bind n).mono (λx d v g c j l=>?_) λ_ _ q=>q⟩;show Q (V.bl (decide (v=V.non))) c;rw[MX l];cases x<;>exact d _ g c j (Tv.mpr rfl)
def EG {j pos'}(c:QE X E a fa):QE X E (.Compare a [.Is] [.Constant .none j pos'] pos) (xJ (qk false) fa):=PE.weak (Ia (CT c)) λ_ _ _ h=>EF h
def ZX {j pos'}(c:QE X E a fa):QT X E (.Compare a [.Is] [.Constant .none j pos'] pos) (JC (xJ (qk false) fa)):=PT.weak (AO (CT c)) λ_ _ _ h=>EF (Wq h)
end
end L2.DL
namespace L2
section
variable {X:Cx}{tg iter elt c:Expr}{scope:Scope}{pos:Pos}{wi:TI}{g:TG}{te:TE}{tt:TT}
def EH (f:X.N.Nodup)(h:X.N[iy]? = some y)(i:x4 X.env.scope y)(j:X.fn y=true\/X.env.scope.names.lookup y=some .local):
 Xy X Y Z (λv H'=>DD.nx (Z.set iy (some v)) H') (some (assign (.Name y py) X.env)) (λ_ s'=>SP X Y DD .next s'):=λC D m l r G A H sz I J k=>by
 obtain⟨P,B,E,n,F,K⟩:=k l.heap ⟨rfl,λ_ _=>rfl⟩;obtain⟨d,q,s,t,a,u⟩:=id G;have L:Inv X (Y++[(C,d)]) Z B { l with heap:=l.heap }:=E.pins_of λp hp=>by
  rcases Jc.mp hp with hp|hp
  .exact E.pin p (Ug _ hp)
  .have e:=Vt.mp hp;subst e;exact⟨t,F,A,H,λv z=>by rw[show d.data=_ from z] at a;cases a⟩
 refine wpAny_assign_Name (YT L f h i n (λM w=>?_) j);have N:=w.pin (C,d) (Ug _ (Ug _ Zqs));refine⟨m,⟨d,q,s,N.1,a,u⟩,λh' x=>⟨_,B,?_,K⟩⟩;exact(w.pins_of (Y':=Y) λp hp=>w.pin p (Ug _ (Uu _ hp))).turned (t':=M.toks) (it:=C) (λb o O e=>(x.2 b O).trans e) F A (.inr sz) I J
def EI (d:swapsWith (.ListComp elt [⟨tg,iter,[],0⟩] scope pos) (some (.Name y py)) spos.line X.env=pure true)(f:X.N.Nodup)(i:X.N[iy]? = some y)(j:x4 X.env.scope y)(l:X.fn y=true\/X.env.scope.names.lookup y=some .local)(N:Yi)(cap:List (Option Nat))(n:X.calm=true)(m:QB scope X.env N X.N cap=true)(hi:PI X tg iter wi)(o:∀a C s H b,PG (JH X scope N a C s H b) tg g)(p:∀a C s H b,PE (JH X scope N a C s H b) elt te)
 (hs:∀x,foldedSetIterable iter X.env x=pure x:=by intro _;rfl):PS X (.Assign [.Name y py] (.ListComp elt [⟨tg,iter,[],0⟩] scope pos) spos) (ym (WM cap wi g te) (KG iy)):=by
 intro Y s Z H q I h;rw[exec_Assign_Name_used _ _ _ _ d];refine Za (wpAny_standAt (Za ?_));refine Za (Zc (D3 (use:=some (assign (.Name y py) X.env)) (R:=λ_ s'=>SP X Y q .next s') N cap n m hi o (λa C s H b _=>p a C s H b) hs I h (EH f i j l)) (λ_ s' r=>Zb (Zb r)) λ_ _ e=>e)
def MY (d:swapsWith (.ListComp elt [⟨tg,iter,[c],0⟩] scope pos) (some (.Name y py)) spos.line X.env=pure true)(f:X.N.Nodup)(i:X.N[iy]? = some y)(j:x4 X.env.scope y)(l:X.fn y=true\/X.env.scope.names.lookup y=some .local)(N:Yi)(cap:List (Option Nat))(n:X.calm=true)(m:QB scope X.env N X.N cap=true)(hi:PI X tg iter wi)(o:∀a C s H b,PG (JH X scope N a C s H b) tg g)(p:∀a C s H b,PT (JH X scope N a C s H b) c tt)(q:∀a C s H b,PE (JH X scope N a C s H b) elt te)
 (hs:∀x,foldedSetIterable iter X.env x=pure x:=by intro _;rfl):PS X (.Assign [.Name y py] (.ListComp elt [⟨tg,iter,[c],0⟩] scope pos) spos) (ym (Xx cap wi g tt te) (KG iy)):=by
 intro Y s Z H r I h;rw[exec_Assign_Name_used _ _ _ _ d];refine Za (wpAny_standAt (Za ?_));refine Za (Zc (Eb (use:=some (assign (.Name y py) X.env)) (R:=λ_ s'=>SP X Y r .next s') N cap n m hi o p q hs I h (EH f i j l)) (λ_ s' t=>Zb (Zb t)) λ_ _ e=>e)
end
end L2
namespace L2.DL
section
variable {X:Cx}{E:XK}{m:Option Bool}{tg iter elt c:Expr}{scope:Scope}{pos spos py:Pos}{y:Str}{iy:Nat}{t:Tg}{fi:FA}{fc:FT}{f:FE}
def EK {K:W.Frag}{te:TE}{i:Nat}{a:FE}(w:∀Z H Q,wb K E a Z H Q->te Z H Q){T:Ends}{Z: St}{H:Hp}(h:zB K E m (TC i a) T Z H):ym te (KG i) T Z H:=w _ _ _ (by
 obtain⟨B,F,sd,r,n⟩:=h;refine⟨B,F,sd,r,(Res.need_bind n).mono (λd e=>x3.new λv g j b l=>?_) λ_ _ q=>q.ext r.ext⟩;exact e _ g j b.ff ((r.step b).setVal l))
def BO (N:Yi)(cap:List (Option Nat))(a:X.N.Nodup)(b:X.N[iy]? = some y)(d:x4 X.env.scope y)(o:X.calm=true)(e:QB scope X.env N X.N cap=true)(hi:QI X E tg iter fi)
 (p:∀i C s H j,QG (JH X scope N i C s H j) tg t) (r:∀i C s H j,QE (JH X scope N i C s H j) E elt f) (l:swapsWith (.ListComp elt [⟨tg,iter,[],0⟩] scope pos) (some (.Name y py)) spos.line X.env=pure true:=by rfl)
 (n:X.fn y=true\/X.env.scope.names.lookup y=some .local:=by trivial) (hs:∀x,foldedSetIterable iter X.env x=pure x:=by intro _;rfl):
 QS X E m (.Assign [.Name y py] (.ListComp elt [⟨tg,iter,[],0⟩] scope pos) spos) (TC iy (JV cap fi t f)):=by
 have u:=EI (g:=gT t X.K) (te:=tD X.K E f) l a b d n N cap o e hi p r hs;exact PS.weak u λT Z H h=>EK (λ_ _ _ q=>B9 q) h
def MZ (N:Yi)(cap:List (Option Nat))(d:X.N.Nodup)(e:X.N[iy]? = some y)(i:x4 X.env.scope y)(o:X.calm=true)(j:QB scope X.env N X.N cap=true)(hi:QI X E tg iter fi)
 (p:∀a C s H b,QG (JH X scope N a C s H b) tg t) (r:∀a C s H b,QT (JH X scope N a C s H b) E c fc) (u:∀a C s H b,QE (JH X scope N a C s H b) E elt f) (l:swapsWith (.ListComp elt [⟨tg,iter,[c],0⟩] scope pos) (some (.Name y py)) spos.line X.env=pure true:=by rfl)
 (n:X.fn y=true\/X.env.scope.names.lookup y=some .local:=by trivial) (hs:∀x,foldedSetIterable iter X.env x=pure x:=by intro _;rfl):
 QS X E m (.Assign [.Name y py] (.ListComp elt [⟨tg,iter,[c],0⟩] scope pos) spos) (TC iy (VR cap fi t fc f)):=by
 have v:=MY (g:=gT t X.K) (tt:=zA X.K E fc) (te:=tD X.K E f) l d e i n N cap o j hi p r u hs;exact PS.weak v λT Z H h=>EK (λ_ _ _ q=>EE q) h
end
def EL:Option (Option SV)->Res D
 |some (~~~d)=>.ok d
 |_=>.no
@[simp]def Su (d:D):EL (some (~~~d))=.ok d:=rfl
@[simp]def gk (i:Nat)(sd:SD):Tf i sd=EL sd[i]?:= rfl
@[simp]def fM (d:D)(sd:SD):dC d sd=.ok d:=rfl
@[simp]def fm (g:D->D->YA)(a b:FE)(sd:SD):T1 g a b sd=(a sd).bind λx=>(b sd).bind λy=>.ofO (g x y):=rfl
@[simp]def fg (g:D->YA)(a:FE)(sd:SD):xJ g a sd=(a sd).bind λx=>.ofO (g x):=rfl
def fw:D->Res Bool
 | .bl b=>.ok b
 |_=>.no
@[simp]def gG (b:Bool):fw (.bl b)=.ok b:=rfl
@[simp]def ki (a:FE)(sd:SD):JC a sd=(a sd).bind fw:=by
 unfold JC;cases a sd with
 |ok d=>cases d<;>rfl
 |ex c fs=>rfl
 |no=>rfl
@[simp]def uZ (f:FT)(sd:SD):QZ f sd=(f sd).bind λb=>.ok (!b):=rfl
@[simp]def kl (f g:FT)(sd:SD):ZL f g sd=(f sd).bind λb=>if b then g sd else .ok false:=rfl
@[simp]def gw (f g:FT)(sd:SD):xz f g sd=(f sd).bind λb=>if b then .ok true else g sd:=rfl
@[simp]def kj (a c:FE)(sd:SD):Ws a c sd=(JC a sd).bind λb=>if b then c sd else .ok (.bl false):=rfl
@[simp]def uY (a:FE)(sd:SD):Bz a sd=(JC a sd).bind λb=>.ok (.bl !b):=rfl
@[simp]def gy (sd:SD):Th sd=.ok []:=rfl
@[simp]def kf (a:FE)(b:FA)(sd:SD):Jz a b sd=(a sd).bind λx=>(b sd).bind λxs=>.ok (x::xs):=rfl
@[simp]def gz (a:FA)(sd:SD):j1 a sd=(a sd).bind λxs=>if xs.length<=1000 then .ok (.lst xs) else .no:=rfl
@[simp]def gp (a:FA)(sd:SD):jr a sd=(a sd).bind λxs=>if xs.length<=1000 then .ok (.tup xs) else .no:=rfl
@[simp]def kh (a:Yz->Res D)(b:FA)(sd:SD):J3 a b sd=(b sd).bind a:=rfl
@[simp]def gC (g:Yz->YA)(a:FA)(sd:SD):T2 g a sd=(a sd).bind λxs=>.ofO (g xs):=rfl
@[simp]def kn {α: Type}(a:α):(Res.ok a).bare=.ok a:=rfl
@[simp]def gr (is:Yh)(f:FE)(sd:SD):xW is f sd=(f (j0 is sd)).bare.bind λd=>if Wt d then .ok d else .no:=rfl
@[simp]def uW (is:Yh)(f:FT)(sd:SD):B4 is f sd=(f (j0 is sd)).bare:=rfl
@[simp]def wh (i:Int):Wt (.int i)=true:=rfl
@[simp]def uC (i:Bool):Wt (.bl i)=true:=rfl
@[simp]def v1 (sd:SD):j0 [] sd=sd:=rfl
def frz1 (i:Nat)(sd:SD):Option (Option SV)->SD
 |some (some (.own _ d))=>sd.set i (~~~d)
 |_=>sd
@[simp]def v2 (i:Nat)(sd:SD)(p:Bool)(d:D):frz1 i sd (some (some (.own p d)))=sd.set i (~~~d):=rfl
@[simp]def Sv (i:Nat)(is:Yh)(sd:SD):j0 (i::is) sd=j0 is (frz1 i sd sd[i]?):=by
 show j0 is _=j0 is _
 congr 1
def jA (g:FS):Out->Res Out
 | .next sd=>g sd
 |o=>.ok o
@[simp]def ZY (g:FS)(sd:SD):jA g (.next sd)=g sd:=rfl
@[simp]def wf (g:FS)(d:D):jA g (.ret d)=.ok (.ret d):=rfl
@[simp]def wg (g:FS)(d:SD):jA g (.brk d)=.ok (.brk d):=rfl
@[simp]def WY (a b:FS)(sd:SD):Tx a b sd=(a sd).bind (jA b):=by
 unfold Tx;cases a sd with
 |ok o=>cases o<;>rfl
 |ex c fs=>rfl
 |no=>rfl
@[simp]def ka (sd:SD):JX sd=.ok (.next sd):=rfl
@[simp]def gB (sd:SD):zr sd=.ok (.brk sd):=rfl
@[simp]def gt (i:Nat)(f:FE)(sd:SD):TC i f sd=(f sd).bind λd=>.ok (.next (sd.set i (~~~d))):=rfl
@[simp]def gv (i:Nat)(f:FE)(sd:SD):jH i f sd=(f sd).bind λd=>.ok (.next (sd.set i (some (.own false d)))):=rfl
@[simp]def gu (f:FE)(sd:SD):T6 f sd=(f sd).bind λd=>.ok (.ret d):=rfl
def wI:Option (Option SV)->Res D
 |some (some (.own _ d))=>.ok d
 |_=>.no
@[simp]def wH (p:Bool)(d:D):wI (some (some (.own p d)))=.ok d:=rfl
@[simp]def Sw (i:Nat)(sd:SD):Kv i sd=(wI sd[i]?).bind λd=>.ok (.ret d):=by
 unfold Kv;cases sd[i]? with
 |none=>rfl
 |some o =>
  cases o with
  |none=>rfl
  |some v=>cases v<;>rfl
@[simp]def g0 (c:FT)(a d:FS)(sd:SD):jQ c a d sd=(c sd).bind λb=>if b then a sd else d sd:=rfl
def zt:Option (Option SV)->Res Yz
 |some (some (.own false (.lst ds)))=>.ok ds
 |_=>.no
@[simp]def wJ (ds:Yz):zt (some (some (.own false (.lst ds))))=.ok ds:=rfl
@[simp]def Sx (i:Nat)(f:FE)(sd:SD):Kw i f sd=(zt sd[i]?).bind λds=>(f sd).bind λd=>if ds.length<sizeLine then .ok (.next (sd.set i (some (.own false (.lst (ds++[d])))))) else .no:=by
 unfold Kw;cases sd[i]? with
 |none=>rfl
 |some o =>
  cases o with
  |none=>rfl
  |some v =>
   cases v with
   |val d=>rfl
   |own p d=>cases p<;>cases d<;>rfl
def EM:D->Res Yz
 | .lst es=>.ok es
 |_=>.no
@[simp]def Sy (es:Yz):EM (.lst es)=.ok es:=rfl
@[simp]def Sz (i:Nat)(f:FE)(sd:SD):KS i f sd=(zt sd[i]?).bind λds=>(f sd).bind λd=>(EM d).bind λes=>if ds.length+es.length<=sizeLine then .ok (.next (sd.set i (some (.own false (.lst (ds++es)))))) else .no:=by
 unfold KS;cases sd[i]? with
 |none=>rfl
 |some o =>
  cases o with
  |none=>rfl
  |some v =>
   cases v with
   |val d=>rfl
   |own p d =>
    cases p with
    |true=>cases d<;>rfl
    |false =>
     cases d with
     |lst ds =>
      show(f sd).bind _=(f sd).bind _;cases f sd with
      |ok x=>cases x<;>rfl
      |ex c fs=>rfl
      |no=>rfl
     |_=>rfl
def zu:Option (Option SV)->Res (List TF×Yz)
 |some (some (.own false (.dct ks ds)))=>.ok (ks,ds)
 |_=>.no
@[simp]def wK (ks:List TF)(ds:Yz):zu (some (some (.own false (.dct ks ds))))=.ok (ks,ds):=rfl
@[simp]def ke (i:Nat)(a b:FE)(sd:SD):Wz i a b sd=(b sd).bind λv=>(zu sd[i]?).bind λo=>(a sd).bind λk=>(Res.ofO (Ka k)).bind λq=>if o.1.length<sizeLine then .ok (.next (sd.set i (some (.own false (.dct (Wx o.1 q) (WT o.1 o.2 q v)))))) else .no:=by
 unfold Wz;cases b sd with
 |ok v =>
  show(match sd[i]? with
   |some (some (.own false (.dct ks ds)))=>_
   |_=>_)=(zu sd[i]?).bind _
  cases sd[i]? with
  |none=>rfl
  |some o =>
   cases o with
   |none=>rfl
   |some w =>
    cases w with
    |val d=>rfl
    |own p d =>
     cases p with
     |true=>cases d<;>rfl
     |false =>
      cases d with
      |dct ks ds =>
       show(a sd).bind _=(a sd).bind _;cases a sd with
       |ok k=>show(match Ka k with|some q=>_|none=>_)=(Res.ofO (Ka k)).bind _;cases Ka k<;>rfl
       |ex c fs=>rfl
       |no=>rfl
      |_=>rfl
 |ex c fs=>rfl
 |no=>rfl
def jL:Out->Res D
 | .ret d=>.ok d
 | .next _=>.ok .non
 |_=>.no
@[simp]def wL (d:D):jL (.ret d)=.ok d:=rfl
def BP (n a:Nat)(g:FS)(ds:Yz)(h:ds.length=a):TX n a g ds=(g (Qv n ds)).bind jL:=by
 unfold TX;rw[Zd h];cases g (Qv n ds) with
 |ok o=>cases o<;>rfl
 |ex c fs=>rfl
 |no=>rfl
def xy:Out->Res D
 | .ret d=>.ok d
 |_=>.no
@[simp]def wM (d:D):xy (.ret d)=.ok d:=rfl
def BQ (n a:Nat)(g:FS)(ds:Yz)(h:ds.length=a):jk n a g ds=(g (Qv n ds)).bind xy:=by
 unfold jk;rw[Zd h];cases g (Qv n ds) with
 |ok o=>cases o<;>rfl
 |ex c fs=>rfl
 |no=>rfl
@[simp]def kQ (n:Nat)(g:FS)(a:D):TX n 1 g [a]=(g (~~~a::List.replicate (n-1) none)).bind jL:=BP n 1 g [a] rfl
@[simp]def kP (n:Nat)(g:FS)(a b:D):TX n 2 g [a,b]=(g (~~~a::~~~b::List.replicate (n-2) none)).bind jL:=BP n 2 g [a,b] rfl
@[simp]def kO (n:Nat)(g:FS)(a b c:D):TX n 3 g [a,b,c]=(g (~~~a::~~~b::~~~c::List.replicate (n-3) none)).bind jL:=BP n 3 g [a,b,c] rfl
@[simp]def kN (n:Nat)(g:FS)(a:D):jk n 1 g [a]=(g (~~~a::List.replicate (n-1) none)).bind xy:=BQ n 1 g [a] rfl
@[simp]def kM (n:Nat)(g:FS)(a b:D):jk n 2 g [a,b]=(g (~~~a::~~~b::List.replicate (n-2) none)).bind xy:=BQ n 2 g [a,b] rfl
@[simp]def EN (n:Nat)(g:FS)(a b c:D):jk n 3 g [a,b,c]=(g (~~~a::~~~b::~~~c::List.replicate (n-3) none)).bind xy:=BQ n 3 g [a,b,c] rfl
@[simp]def v0 (i j:Int):TL (.int i) (.int j)=some (.int (i+j)):=rfl
@[simp]def vm (i j:Int):yH (.int i) (.int j)=some (.int (i-j)):=rfl
@[simp]def vq (i:Int):zx (.int i)=some (.int (-i)):=rfl
@[simp]def uF (i j:Int):gc (.int i) (.int j)=some (.bl (decide (i<j))):=rfl
@[simp]def uH (i j:Int):uI (.int i) (.int j)=some (.bl (decide (i<=j))):=rfl
@[simp]def uQ (i j:Int):yJ (.int i) (.int j)=some (.bl (decide (j<i))):=rfl
@[simp]def vz (i j:Int):xg (.int i) (.int j)=some (.bl (decide (i=j))):=M1 i j
@[simp]def vr (i j:Int):x9 (.int i) (.int j)=some (.bl (!decide (i=j))):=M3 i j
@[simp]def gb (a b:Bool):x9 (.bl a) (.bl b)=some (.bl (a != b)):=rfl
def WZ (h:Kl i j=true):qM (.int i) (.int j)=some (.int (i*j)):=by
 show(if Kl i j then _ else _)=_;rw[Zd h]
def BR (a: -18446744073709551616<j)(b:j<18446744073709551616):Kl i j=true:=by
 unfold Kl;rw[UX,UX,Ur,Ur];exact .inl ()
def EO (a: -18446744073709551616<i)(b:i<18446744073709551616):Kl i j=true:=by
 unfold Kl;rw[UX,UX,Ur,Ur];exact .inl ()
@[simp]def Na (h:0<j):jz (.int i) (.int j)=some (.int (i % j)):=by
 show(if UC 0 j.toNat then _ else _)=_;rw[Zd (by rw[Ur];lia)]
@[simp]def Nb (h:0<j)(a:j<1073741824):Km (.int i) (.int j)=some (.int (i / j)):=by
 show(if UC 0 j.toNat&&UC j.toNat 1073741824 then _ else _)=_;rw[Zd (by rw[Ue,Ur,Ur];lia)]
@[simp]def vw (ds:Yz):TV [.lst ds]=some (.int ds.length):=rfl
@[simp]def vu (ds:Yz):TV [.tup ds]=some (.int ds.length):=rfl
@[simp]def vv (ns:Yf):TV [.scr ns]=some (.int ns.length):=rfl
@[simp]def S0 (i j:Int):WU [.int i,.int j]=some (.int (if j > i then j else i)):=rfl
@[simp]def S3 (i j:Int):ZV [.int i,.int j]=some (.int (if j<i then j else i)):=rfl
@[simp]def S4 (ds:Yz):K8 [.lst ds]=some (.lst ds):=rfl
@[simp]def S5 (ds:Yz):Uk [.lst ds]=some (.tup ds):=rfl
@[simp]def uN (ds:Yz)(k:Int):qi (.lst ds) (.int k)=jY ds k:=rfl
@[simp]def uJ (ds:Yz)(k:Int):qi (.tup ds) (.int k)=jY ds k:=rfl
@[simp]def uK (ns:Yf)(k:Int):qi (.scr ns) (.int k)=(jY ns k).map .int:=rfl
@[simp]def uO (ks:List TF)(ds:Yz)(k:Int):qi (.dct ks ds) (.int k)=jt ks ds (.inl k):=rfl
@[simp]def uP (a:Bool)(ks:List TF)(ds:Yz)(k:Int):yI a (.int k) (.dct ks ds)=some (.bl (if a then !(jt ks ds (.inl k)).isSome else(jt ks ds (.inl k)).isSome)):=rfl
@[simp]def S6 (k:Int):Ka (.int k)=some (.inl k):=rfl
@[simp]def EQ (h:r.length<=100)(o:T5 r):Wy [Ts r]=some (qI r):=by
 unfold Wy;show(Kx (Ts r)).bind _=_;rw[En];show(if r.length<=100 then some (qI (WW r)) else none)=_;rw[Zd h,ML o]
def Nc (h:ns ≠ []):XH [.lst (ns.map .int)]=some (.int (j8 ns)):=by
 unfold XH;show(KI _).bind _=_;rw[BG];show(if ns=[] then none else some (D.int (j8 ns)))=_;rw[Ze h]
def ER (h:ns ≠ []):WV [.lst (ns.map .int)]=some (.int (qG ns)):=by
 unfold WV;show(KI _).bind _=_;rw[BG];show(if ns=[] then none else some (D.int (qG ns)))=_;rw[Ze h]
theorem XM:∀{r:Jx},T5 r->∀t:Int,jt (r.map λp=>.inl p.1) (r.map λp=>.int p.2) (.inl t)=(J5 r t).map .int
 | [],_,t=>rfl
 |p::r,o,t=>by
  have a:T5 r:=by unfold T5 at o ⊢;rw[Zl,List.nodup_cons] at o;exact o.2
  have n:p.1∉r.map (·.1):=by unfold T5 at o;rw[Zl,List.nodup_cons] at o;exact o.1
  rw[Zl,Zl];rw[Eu];rw[WO];by_cases h:p.1=t
  .rw[Zd (by rw[h])];cases q:J5 r t with
   |none=>rw[Zd h];rfl
   |some w=>exact Zn (Ja.mpr ⟨(t,w),Qp q,h.symm⟩) n
  .rw[Ze (λz=>h (by injection z)),XM a t];cases J5 r t with
   |none=>rw[Ze h]
   |some w=>rfl
def ES:D->Res (List TF×Yz)
 | .dct ks ds=>.ok (ks,ds)
 |_=>.no
@[simp]def S7 (ks:List TF)(ds:Yz):ES (.dct ks ds)=.ok (ks,ds):=rfl
@[simp]def kc (a b e:FE)(sd:SD):XL a b e sd=(a sd).bind λd=>(ES d).bind λo=>(b sd).bind λk=>(e sd).bind λx=>.ofO ((Ka k).map λq=>(jt o.1 o.2 q).getD x):=by
 unfold XL;cases a sd with
 |ok d=>cases d<;>rfl
 |ex c fs=>rfl
 |no=>rfl
def Nd (r:Jx)(t:Int):xV (.inl t) (r.map λp=>.inl p.1)=r.any λp=>decide (p.1=t):=by
 unfold xV;rw[List.any_map]
 congr 1
 funext p
 exact Ef
def ET (r:Jx)(t w:Int):D.dct (Wx (r.map λp=>.inl p.1) (.inl t)) (WT (r.map λp=>.inl p.1) (r.map λp=>.int p.2) (.inl t) (.int w))=qI (jC r t w):=by
 unfold Wx WT qI jC;rw[Nd];have ch:∀r:Jx,xY (r.map λp=>.inl p.1) (r.map λp=>.int p.2) (.inl t) (.int w)=(r.map λp=>if p.1=t then(p.1,w) else p).map λp=>D.int p.2:=by
  intro r
  induction r with
  |nil=>rfl
  |cons p r a =>
   rw[Zl,Zl,Zl,Zl];rw[Ew];rw[a];by_cases h:p.1=t
   .rw[Zd (by rw[h]),Zd h]
   .rw[Ze (λz=>h (by injection z)),Ze h]
 have b:∀r:Jx,(r.map λp=>if p.1=t then(p.1,w) else p).map (λp=>(Ub p.1:TF))=r.map λp=>.inl p.1:=by
  intro r;rw[Zw]
  congr 1
  funext p
  show(Ub (if p.1=t then(p.1,w) else p).1:TF)=_;by_cases h:p.1=t
  .rw[Zd h]
  .rw[Ze h]
 by_cases q:(r.any λp=>decide (p.1=t))=true
 .rw[Zd q,Zd q,Zd q,ch,b]
 .rw[Ze q,Ze q,Ze q,Uh,Uh];rfl
@[simp]def S8 (a:FE)(sd:SD):BN a sd=(a sd).bind λd=>.ofO (BM d):=rfl
def Nf (h:r ≠ [])(a:r.length<64):BM (qI r)=some (.lst ((JE TM r).map ja)):=by
 show(W1 _ _).bind _=_;rw[MU];exact Zd ⟨h,a⟩
@[simp]def fq (f:FE)(sd:SD):iS f sd=(f sd).bind λd=>.ofO (W0 d):=rfl
@[simp]def S9 (ds:Yz):W0 (.lst ds)=some ds:=rfl
@[simp]def SA (ds:Yz):W0 (.tup ds)=some ds:=rfl
def QJ:Yz->Res Yz
 | [.int j]=>if WX j then .ok (JK 0 j.toNat) else .no
 |_=>.no
@[simp]def gA (a:FA)(sd:SD):qW a sd=(a sd).bind QJ:=by
 unfold qW;cases a sd with
 |ok ds=>show(match ds with|[.int j]=>_|_=>_)=QJ ds;unfold QJ;rfl
 |ex c fs=>rfl
 |no=>rfl
def Kp (a: -1000000000<=j)(b:j<=1000000000):QJ [.int j]=.ok (JK 0 j.toNat):=Zd (MQ a b)
def Um {lo:Int}{n i:Nat}{x:D}(h:(JK lo n)[i]? = some x):x=.int (lo+i)/\i<n:=by
 unfold JK at h;rw[Zv] at h;by_cases hi:i<n
 .rw[List.getElem?_range hi] at h;exact⟨(Zqi h).symm,hi⟩
 .rw[VB (by rw[ZB];lia)] at h;exact J2 h
def Kq (lo:Int)(n:Nat):(JK lo n).length=n:=by unfold JK;rw[Zql,ZB]
def jN (tg:Tg)(b:FS)(ds:Yz)(sd:SD):Res Out:=qX (λx sd=>(JS tg x sd).bind b) ds sd
@[simp]def EU (it:FA)(tg:Tg)(b:FS)(sd:SD):jp it tg b sd=(it sd).bind λds=>jN tg b ds sd:=rfl
@[simp]def SC (i:Nat)(d:D)(sd:SD):JS (.one i) d sd=.ok (sd.set i (~~~d)):=rfl
@[simp]def SE (i j:Nat)(a b:D)(sd:SD):JS (.tup [i,j]) (.tup [a,b]) sd=.ok ((sd.set i (~~~a)).set j (~~~b)):=rfl
@[simp]def SF (i j:Nat)(p:Int×Int)(sd:SD):JS (.tup [i,j]) (ja p) sd=.ok ((sd.set i (~~~(.int p.1))).set j (~~~(.int p.2))):=rfl
def Kz (P:Nat->SD->Prop)(f:P 0 sd)(hs:∀(i:Nat) (x:D) (sd:SD),ds[i]? = some x->P i sd->∃sd',(JS tg x sd).bind b=.ok (.next sd')/\P (i+1) sd'):∃sd',jN tg b ds sd=.ok (.next sd')/\P ds.length sd':=by
 have c:∀(k i:Nat) (sd:SD),ds.length-i=k->i<=ds.length->P i sd->∃sd',jN tg b (ds.drop i) sd=.ok (.next sd')/\P ds.length sd':=by
  intro k
  induction k with
  |zero =>
   intro i sd e hi p;have:i=ds.length:=()
   subst this;rw[UK];exact⟨sd,rfl,p⟩
  |succ k g =>
   intro i sd e hi p;have a:i<ds.length:=()
   rw[Uz a];obtain⟨sd',h,j⟩:=hs i ds[i] sd (Zqg a) p;obtain⟨d,l,m⟩:=g (i+1) sd' () a j;refine⟨d,?_,m⟩;unfold jN qX;rw[h];exact l
 have:=c ds.length 0 sd () (Uc _) f
 rwa [List.drop_zero] at this
def W2 (R:Res Out->Prop)(P:Nat->SD->Prop)(h:P 0 sd)(j:∀sd,P ds.length sd->R (.ok (.next sd)))
 (hs:∀(i:Nat) (x:D) (sd:SD),ds[i]? = some x->P i sd->(∃sd',((JS tg x sd).bind b=.ok (.next sd')\/(JS tg x sd).bind b=.ok (.cont sd'))/\P (i+1) sd')\/(∃sd',(JS tg x sd).bind b=.ok (.brk sd')/\R (.ok (.next sd')))\/∃d,(JS tg x sd).bind b=.ok (.ret d)/\R (.ok (.ret d))):R (jN tg b ds sd):=by
 have f:∀(k i:Nat) (sd:SD),ds.length-i=k->i<=ds.length->P i sd->R (jN tg b (ds.drop i) sd):=by
  intro k
  induction k with
  |zero =>
   intro i sd e hi p;have:i=ds.length:=()
   subst this;rw[UK];exact j sd p
  |succ k g =>
   intro i sd e hi p;have a:i<ds.length:=()
   rw[Uz a];unfold jN qX;rcases hs i ds[i] sd (Zqg a) p with ⟨sd',h1|h1,c⟩|⟨sd',h1,c⟩|⟨d,h1,c⟩
   .rw[h1];exact g (i+1) sd' () a c
   .rw[h1];exact g (i+1) sd' () a c
   .rw[h1];exact c
   .rw[h1];exact c
 have:=f ds.length 0 sd () (Uc _) h
 rwa [List.drop_zero] at this
def EV {α β γ: Type}{f:α -> Res β}{k:γ -> α}{g:γ -> β}{xs:List γ}(h:∀x∈xs,f (k x)=.ok (g x)):xm f (xs.map k)=.ok (xs.map g):=by
 induction xs with
 |nil=>rfl
 |cons x xs a =>
  rw[Zl];unfold xm;rw[h x Zqs,a λy b=>h y (Zqm _ b)];rfl
def TW (tg:Tg)(f:FE)(c:SD)(ds:Yz):Res Yz:=xm (λx=>(JS tg x c).bind f) ds
@[simp]def kg (cap:List (Option Nat))(it:FA)(tg:Tg)(f:FE)(sd:SD):JV cap it tg f sd=(it sd).bind λds=>if KW (jg cap sd) tg=true/\ds.length<sizeLine then(TW tg f (jg cap sd) ds).bind λys=>.ok (.lst ys) else .no:=rfl
def ub:Option (Option SV)->Option SV
 |some (~~~d)=>~~~d
 |_=>none
@[simp]def ua (d:D):ub (some (~~~d))= ~~~d:=rfl
@[simp]def uc (sd:SD):jg [] sd=[]:=rfl
@[simp]def gF (cap:List (Option Nat))(sd:SD):jg (none::cap) sd=none::jg cap sd:=rfl
@[simp]def gE (j:Nat)(cap:List (Option Nat))(sd:SD):jg (some j::cap) sd=ub sd[j]? :: jg cap sd:=rfl
@[simp]def SG (sd:SD)(i:Nat):KW sd (.one i)=KU sd i:=rfl
@[simp]def SH (sd:SD)(is:Yh):KW sd (.tup is)=is.all (KU sd):=rfl
@[simp]def vd (sd:SD):KU (none::sd) 0=true:=rfl
@[simp]def vc (o:Option SV)(sd:SD)(i:Nat):KU (o::sd) (i+1)=KU sd i:=rfl
def Q5 {α: Type}{k:α -> D}{g:α -> D}{xs:List α}(h:∀x∈xs,(JS tg (k x) c).bind f=.ok (g x)):TW tg f c (xs.map k)=.ok (xs.map g):=EV h
def ZZ {tg:Tg}{f:FE}{c:SD}{lo:Int}{n:Nat}{g:Nat->D}(h:∀i,i<n->(JS tg (.int (lo+i)) c).bind f=.ok (g i)):TW tg f c (JK lo n)=.ok ((List.range n).map g):=EV λi hi=>h i (Jg.mp hi)
@[simp]def SI (cap:List (Option Nat))(it:FA)(tg:Tg)(c:FT)(f:FE)(sd:SD):VR cap it tg c f sd=(it sd).bind λds=>if KW (jg cap sd) tg=true/\ds.length<sizeLine then(Ko tg c f (jg cap sd) ds).bind λys=>.ok (.lst ys) else .no:=rfl
def Aa {α: Type}{k:α -> D}{s:α -> SD}{p:α -> Bool}{g:α -> D}{xs:List α}(d:∀x∈xs,JS tg (k x) sd=.ok (s x))(e:∀x∈xs,c (s x)=.ok (p x))(h:∀x∈xs,p x=true->f (s x)=.ok (g x)):
 Ko tg c f sd (xs.map k)=.ok ((xs.filter p).map g):=by
 induction xs with
 |nil=>rfl
 |cons x xs b =>
  have b:=b (λy a=>d y (Zqm _ a)) (λy a=>e y (Zqm _ a)) (λy a=>h y (Zqm _ a));rw[Zl,List.filter_cons];unfold Ko;rw[d x Zqs,Res.bind_ok,e x Zqs,Res.bind_ok];cases q:p x with
  |true =>
   rw[Zd rfl,Zd rfl,h x Zqs q,Res.bind_ok,b];rfl
  |false =>
   rw[Ze (),Ze (),b]
def JW (h:n<=1000):n<sizeLine:=Dz h
@[simp]def SJ (i:Int):ju [.int i,.ty "bool"]=some (.bl false):=rfl
@[simp]def SK (i:Int):ju [.int i,.ty "int"]=some (.bl true):=rfl
@[simp]def SL (ds:Yz):ju [.lst ds,.ty "int"]=some (.bl false):=rfl
@[simp]def SM (ds:Yz):ju [.lst ds,.ty "str"]=some (.bl false):=rfl
@[simp]def SN (ds:Yz):ju [.lst ds,.ty "list"]=some (.bl true):=rfl
@[simp]def SO (ds:Yz):ju [.lst ds,.ty "tuple"]=some (.bl false):=rfl
@[simp]def SQ (ds:Yz):ju [.tup ds,.ty "int"]=some (.bl false):=rfl
@[simp]def SR (ds:Yz):ju [.tup ds,.ty "str"]=some (.bl false):=rfl
@[simp]def SS (ds:Yz):ju [.tup ds,.ty "list"]=some (.bl false):=rfl
@[simp]def SU (ds:Yz):ju [.tup ds,.ty "tuple"]=some (.bl true):=rfl
def Qk {α: Type}(xs:List α)(lo hi st:Option Int):List α:= (sliceRange (sliceBounds lo hi st xs.length).1 (sliceBounds lo hi st xs.length).2.1 (sliceBounds lo hi st xs.length).2.2).filterMap (xs[·]?)
def EW (a:Yd)(lo hi st:Option Int):slicePick a.toArray lo hi st=(Qk a lo hi st).toArray:=by
 unfold slicePick Qk;rw[Zm]
 congr 2
 funext i
 simp
def Ng {xs:Yx}{a:Yd}(r:T4 xs a)(lo hi st:Option Int):T4 (Qk xs lo hi st) (Qk a lo hi st):=by
 unfold Qk;rw[r.length];generalize sliceRange _ _ _=ix
 induction ix with
 |nil=>exact .nil
 |cons i ix b =>
  rw[Ut,Ut];cases hx:xs[i]? with
  |none=>rw[r.none_of hx];exact b
  |some x =>
   obtain⟨u,c,d⟩:=r.get hx;rw[c];exact .cons d b
def Nh {K:W.Frag}{H:Hp}{ds:Yz}{xs:Yx}(r:Ti K H ds xs)(lo hi st:Option Int):Ti K H (Qk ds lo hi st) (Qk xs lo hi st):=by
 unfold Qk;rw[r.length];generalize sliceRange _ _ _=ix
 induction ix with
 |nil=>exact .nil
 |cons i ix a =>
  rw[Ut,Ut];cases hx:ds[i]? with
  |none =>
   have b:xs[i]? = none:=Jp.mpr (by rw[r.length];exact Jp.mp hx);rw[b];exact a
  |some x =>
   obtain⟨u,c,d⟩:=r.get hx;rw[c];exact .mk d a
def EX {α β: Type}(f:α -> β)(xs:List α)(lo hi st:Option Int):Qk (xs.map f) lo hi st=(Qk xs lo hi st).map f:=by
 unfold Qk;rw[Zql];generalize sliceRange _ _ _=ix
 induction ix with
 |nil=>rfl
 |cons i ix a =>
  rw[Ut,Ut,Zv];cases xs[i]? with
  |none=>exact a
  |some x=>show f x::_=_;rw[a];rfl
def Ni {α: Type}(xs:List α)(lo hi st:Option Int):(Qk xs lo hi st).length<=xs.length:=by
 have h:=slicePick_size_le (xs.map λ_=>Value.none).toArray lo hi st;rw[EW,Zm,Zm,EX,Zql,Zql] at h;exact h
section
variable {X:Cx}{E:XK}{m:Option Bool}{a b o i e f tg:Expr}{fa fb fo fi fv fe:FE}{fr:FA}{pos pos' apos cpos p p2:Pos}{lo hi st:Option Expr}
abbrev FO:=SD->Res (Option Int)
def fF (K:W.Frag)(E:XK)(f:FO):TO:=λZ H Q=>∃B F sd,RS K B F H sd Z /\ (f sd).need (λo=>∀F' H',Ext F H F' H'->Q o H') (XW K E F H)
def VT:FO:=λ_=>.ok none
def Ux (f:FE):FO:=λsd=>(f sd).bind λd=>match d with
 | .int i=>.ok (some i)
 |_=>.no
abbrev QO (X:Cx)(E:XK)(e:Option Expr)(f:FO):Prop:=PO X e (fF X.K E f)
def PO.weak {e:Option Expr}{t t':TO}(h:PO X e t)(w:∀Z H Q,t' Z H Q->t Z H Q):PO X e t':=λY s Z H Q I q=>h Y s Z H Q I (w _ _ _ q)
def XN:QO X E none VT:=PO.weak IV λZ H Q ⟨B,F,sd,r,n⟩=>n F H (.refl r.ext.fh)
def Ab (h:QE X E e fe):QO X E (some e) (Ux fe):=PO.weak (IW h) λZ H Q g=>by
 obtain⟨B,F,sd,r,n⟩:=g;refine⟨B,F,sd,r,(Res.need_bind n).mono (λd c v j l s t=>?_) λ_ _ q=>q⟩;cases d with
 |int i=>exact⟨i,Tk.mp t,c j l s⟩
 |_=>exact c.elim
def kR (K:W.Frag):V->Option Int->Option Int->Option Int->Hp->VK->Prop:=λx lo hi st H Q=>∃a xs,x=.ref a/\qh K H a xs/\st≠some 0/\∀p,H p=none->Q (.ref p) (TQ H p (.lst (Qk xs lo hi st)))
def kA (r:V->Option Int->Option Int->Option Int->Hp->VK->Prop)(te:TE)(d g ts:TO):TE:=λZ H Q=>te Z H λx h=>d Z h λl j=>g Z j λu n=>ts Z n λc q=>r x l u c q Q
def Nj {te:TE}{w y ts:TO}(A:PE X e te)(B:PO X lo w)(C:PO X hi y)(hs:PO X st ts):PE X (.Subscript e (.Slice lo hi st p2) pos) (kA (kR X.K) te w y ts):=by
 intro Y s Z H Q I h;refine Subscript_ (TZ (A Y s Z H _ I h) λv F ⟨x,G,J,K,L⟩=>?_);refine wpAny_Slice (TZ (B Y F Z G _ J L) λg M ⟨l,N,O,P,R⟩=>TZ (C Y M Z N _ O R) λj S ⟨u,T,U,pu,q3⟩=>TZ (hs Y S Z T _ U q3) λvs d ⟨c,H4,I4,ps,q4⟩=>?_);obtain⟨a,xs,rfl,hx,h0,q⟩:=q4;obtain rfl:v=Value.ref a:=K;have n:Inv X Y Z H4 { d with heap:=d.heap.push { cls:=.type "slice",data:=.fields #[g,j,vs] } }:=I4.kept (t':=d.toks) λb ob q=>Zq _ q;obtain⟨its,r,t,hz⟩:=n.list hx;have z:=r.length;show YB X (subscriptTail e (.Slice lo hi st p2) (.ref a) (.ref d.heap.objs.size)) (EP X Y Z Q) X.xe { d with heap:=d.heap.push { cls:=.type "slice",data:=.fields #[g,j,vs] } }
 suffices fin:YB X (getItem (.ref a) (.ref d.heap.objs.size)) (EP X Y Z Q) X.xe { d with heap:=d.heap.push { cls:=.type "slice",data:=.fields #[g,j,vs] } } by
  cases st with
  |none=>exact tail_any (ops:=[.ref d.heap.objs.size,.ref a]) t.isList.typeIs slot_list_getitem.lookup fin (by with_unfolding_all rfl)
  |some c=>exact tail_any (ops:=[.ref a,.ref d.heap.objs.size]) t.isList.typeIs slot_list_getitem.lookup fin (by with_unfolding_all rfl)
 refine wpAny_getItem_list_slice t.isList (Heap.IsSliceOf.new ..) P pu ps h0 ?_ (by rw[Zm]<;>lia);rw[EW];refine⟨.ref _,_,n.laid (t':=d.toks) (o:=.lst (Qk xs l u c)) (λb ob q=>Zq _ q) (Zf _) ?_,rfl,q _ (n.hok.fresh (Zf _))⟩;exact⟨Zh (Ni xs l u c) hz,_,0,Ng r l u c,Zr _ rfl⟩
def uE:D->Option Int->Option Int->Option Int->YA
 | .lst ds,lo,hi,st=>if st=some 0 then none else some (.lst (Qk ds lo hi st))
 | .scr ns,lo,hi,st=>if st=some 0 then none else some (.lst ((Qk ns lo hi st).map .int))
 |_,_,_,_=>none
def zC (fe:FE)(g j fs:FO):FE:=λsd=>(fe sd).bind λd=>(g sd).bind λl=>(j sd).bind λh=>(fs sd).bind λc=>.ofO (uE d l h c)
def BS {C G fs:FO}(J:QE X E e fe)(K:QO X E lo C)(L:QO X E hi G)(hs:QO X E st fs):QN X E (.Subscript e (.Slice lo hi st p2) pos) (zC fe C G fs):=PE.weak (Nj J K L hs) λZ H Q M=>by
 obtain⟨B,F,sd,r,n⟩:=M;refine⟨B,F,sd,r,(Res.need_bind n).mono (λd N v O H1 j u=>?_) λ_ _ q=>q⟩;refine⟨B,O,sd,r.step j,(Res.need_bind N).mono (λl P R H2 s=>?_) λ_ _ q=>q.ext j⟩;refine⟨B,R,sd,(r.step j).step s,(Res.need_bind P).mono (λh S T H3 x=>?_) λ_ _ q=>q.ext (j.trans s)⟩;refine⟨B,T,sd,((r.step j).step s).step x,(Res.need_bind S).mono (λc U I H4 t=>?_) λ_ _ q=>q.ext ((j.trans s).trans x)⟩;obtain⟨z,hz,q⟩:=Tt U;have g:=((s.trans x).trans t);have w:=j.trans g;cases d with
 |lst ds =>
  have hz:(if c=some 0 then none else some (D.lst (Qk ds l h c)))=some z:=hz
  split at hz
  .exact J2 hz
  .rename_i y;obtain rfl:=Zqi hz;rw[Tl] at u;obtain⟨a,xs,rfl,A,Y⟩:=u;exact⟨a,xs,rfl,((A.same g.ff).same g.fh).sq,y,λp hp=>q p I _ (w.trans (.keep t.fh hp _)) (Qh w.hh hp) (Qh t.fh hp) ⟨_,JQ,Nh (Ti.same g.ff _ _ Y) l h c⟩⟩
 |scr ns =>
  have hz:(if c=some 0 then none else some (D.lst ((Qk ns l h c).map .int)))=some z:=hz
  split at hz
  .exact J2 hz
  .rename_i y;obtain rfl:=Zqi hz;rw[TN] at u;obtain⟨a,rfl,A⟩:=u;refine⟨a,_,rfl,Tu.seq g.fh (Tu.seq g.ff A),y,λp hp=>q p I _ (w.trans (.keep t.fh hp _)) (Qh w.hh hp) (Qh t.fh hp) ⟨_,JQ,?_⟩⟩;rw[EX];exact jd _
 |_=>exact J2 hz
@[simp]def fj (fe:FE)(g j fs:FO)(sd:SD):zC fe g j fs sd=(fe sd).bind λd=>(g sd).bind λl=>(j sd).bind λh=>(fs sd).bind λc=>.ofO (uE d l h c):=rfl
@[simp]def SW (sd:SD):VT sd=.ok none:=rfl
def EY:D->Res (Option Int)
 | .int i=>.ok (some i)
 |_=>.no
@[simp]def SX (i:Int):EY (.int i)=.ok (some i):=rfl
@[simp]def uX (f:FE)(sd:SD):Ux f sd=(f sd).bind EY:=by
 unfold Ux;cases f sd with
 |ok d=>cases d<;>rfl
 |ex c fs=>rfl
 |no=>rfl
@[simp]def vn (ds:Yz)(lo hi:Option Int):uE (.lst ds) lo hi none=some (.lst (Qk ds lo hi none)):=rfl
def Nk {ds:Yf}{lo hi:Option Int}{c:Int}(h:c≠0):uE (.scr ds) lo hi (some c)=some (.lst ((Qk ds lo hi (some c)).map .int)):=Ze λz=>h (Zqi z)
@[simp]def vx (c:Bool):qk c .non=some (.bl (!c)):=rfl
def VU:Yz->YA
 | [.lst ds]=>(Qq Kx ds).bind λrs=>if(∀r∈rs,r ≠ [])/\rs.length<64 then some (.lst ((JE T7 rs).map Ts)) else none
 |_=>none
def EZ (w:X.A.units+64<cLine):jc X (.builtin "sorted") (xF X.K VU):=jc.weak (Mc w) λxs H Q y=>by
 obtain⟨F,ds,z,g,id,hz,q⟩:=y;unfold VU at hz
 split at hz
 .obtain⟨rs,A,hz⟩:=Jh.mp hz
  split at hz
  .rename_i t;obtain rfl:=Zqi hz;obtain⟨v,rfl,h⟩:=Qw id;rw[BB A,Tl] at h;obtain⟨a,ys,rfl,B,r⟩:=h;refine⟨a,ys,rs,rfl,B.same g,y9.mp (Ti.same g _ _ r),t.1,t.2,λl ix n c u=>?_⟩;have J:H l=none:=n;refine q l F _ (.keep g n _) n (Qh g n) ⟨_,JQ,?_⟩;rw[<- u,Zw];have C:=r.length;rw[Zql] at C;clear u
   induction ix with
   |nil=>exact .nil
   |cons i ix G =>
    rw[Zl,Zl];have hi:=c i Zqs;obtain⟨x,hx,s⟩:=r.get (i:=i) (d:=Ts (rs.getD i [])) (by rw[Zv,Zqg hi,JU (Zqg hi)];rfl);rw[JU hx];exact .mk s (G λj I=>c j (Zqm _ I))
  .exact J2 hz
 .exact J2 hz
end
end L2.DL
namespace L2
section
variable {X:Cx}
def Nl (f:X.calm=true):jc X (.builtin "sum") (λxs H Q=>∃(a:Addr) (ns:Yf),xs=[.ref a]/\qh X.K H a (ns.map V.int)/\Q (.int ns.sum) H):=by
 intro Y s Z H xs m Q I r h;obtain⟨a,ns,rfl,g,q⟩:=h;obtain⟨u,rfl,i⟩:=Q9 r;obtain rfl:u=Value.ref a:=i;obtain⟨c,j,p,hz⟩:=I.list g;have hi:IntsAre c ns:=AX j;obtain⟨ys,e⟩:=hi.allInts.items;have d:ns=ys.toList.map (·.1):=by
  rw[<- hi.numsOf,<- nums_intItems,<- e]
 have b:=p.isList;rw[e] at b;refine sum_intListG (I.ok.hd f) b λh' tk t' l=>?_;refine⟨.int ns.sum,H,I.kept l,⟨t',?_⟩,q⟩;rw[preSum_eq,Vh (),<- d]
def Nm {bs:List Bool}{a:Yd}(r:T4 (bs.map V.bl) a)(i:Nat)(v:Value)(h:a.toArray[i]? = some v):v=.bool (bs.getD i false):=by
 have h':a[i]? = some v:=by simpa using h
 have hi:i<a.length:=(Jd.mp h').1;have d:=r.length;rw[Zql] at d;have b:bs[i]? = some bs[i]:=Zqg ();obtain⟨u,c,e⟩:=r.get (i:=i) (x:=.bl bs[i]) (by rw[Zv,b];rfl);rw[h'] at c;obtain rfl:=Zqi c;rw[show v=Value.bool bs[i] from e,Uf,b];rfl
def No (bs:List Bool):(List.range bs.length).any (λi=>bs.getD i false)=bs.any id:=by
 apply U1.mpr;rw[U9,U9];constructor
 .rintro⟨i,hi,h⟩;have hi:=Jg.mp hi;rw[Uf,Zqg hi] at h;exact⟨_,UD hi,h⟩
 .rintro⟨b,a,h⟩;obtain⟨i,hi,rfl⟩:=UE a;refine⟨i,Jg.mpr hi,?_⟩;rw[Uf,Zqg hi];exact h
def Np (j:X.calm=true):jc X (.builtin "any") (λxs H Q=>∃(a:Addr) (bs:List Bool),xs=[.ref a]/\qh X.K H a (bs.map V.bl)/\Q (.bl (bs.any id)) H):=by
 intro Y s Z H xs B Q I r h;obtain⟨a,bs,rfl,l,q⟩:=h;obtain⟨u,rfl,m⟩:=Q9 r;obtain rfl:u=Value.ref a:=m;obtain⟨d,g,p,hz⟩:=I.list l;have f:a<s.heap.objs.size:=by obtain⟨_,e,_⟩:=p.isList;exact Zk e
 have c:=g.length;rw[Zql] at c;refine call_any_walk (wpAny_pyIter_list p.isList ⟨_,_,_,_,_,_,λi=>bs.getD i false,rfl,Walks.list (A:=X.A.in1) (I.ok.hd j) s.heap.objs.size a (Zi f) d.toArray,⟨⟨_,Zr _ rfl,rfl,rfl⟩,p.isList.push _⟩,?_,λh' tk n=>?_⟩)
 .intro i v s' C E t w;have x:=Nm g i v t;subst x;exact wpAny_of_eq rfl w
 .rw[Zm,<- c,No];refine⟨.bl _,H,I.kept (t':=tk) λb o e=>n b o ?_ (Zq _ e),rfl,q⟩;intro y;have z:=Vt.mp y;rw[z] at e;exact Zy _ (Zk e)
end
end L2
namespace L2.DL
def yM:D->Option Bool
 | .bl i=>some i
 |_=>none
def Nq (h:yM d=some i):d=.bl i:=by
 cases d with
 |bl j=>cases h;rfl
 |_=>exact J2 h
theorem qw {K:W.Frag}{H:Hp}:∀{bs:List Bool} {xs:Yx},Ti K H (bs.map D.bl) xs->xs=bs.map V.bl
 | [],_,h=>Ti.nil_iff.mp h
 |b::bs,_,h=>by
  rw[Zl,Tp] at h;obtain⟨x,r,rfl,a,c⟩:=h;rw[Tv.mp a,qw c];rfl
def Ac:D->Option (List Bool)
 | .lst ds=>Qq yM ds
 |_=>none
def Nr {K:W.Frag}{H:Hp}{d:D}{ns:List Bool}{v:V}(h:Ac d=some ns)(i:Tj K H d v):∃a,v=.ref a/\qu K H a (ns.map V.bl):=by
 cases d with
 |lst ds =>
  rw[Tl] at i;obtain⟨a,xs,rfl,b,c⟩:=i;rw[XE (λ_ _=>Nq) (show Qq yM ds=some ns from h)] at c;rw[qw c] at b;exact⟨a,rfl,b⟩
 |_=>exact J2 h
def Nt (ns:List Bool):Ac (.lst (ns.map D.bl))=some ns:=by
 have h:=XD (f:=yM) (g:=D.bl) (k:=λi:Bool=>i) (λ_=>rfl) ns;rw[List.map_id'] at h;exact h
def yu:Yz->YA
 | [d]=>(KI d).bind λns=>some (.int ns.sum)
 |_=>none
def yL:Yz->YA
 | [d]=>(Ac d).bind λns=>some (.bl (ns.any id))
 |_=>none
section
variable {X:Cx}{E:XK}{m:Option Bool}{a b o i e f tg:Expr}{fa fb fo fi fv fe:FE}{fr:FA}{pos pos' apos cpos p p2:Pos}{lo hi st:Option Expr}
def ue (d:X.calm=true):jc X (.builtin "sum") (yp X.K yu):=jc.weak (Nl d) λxs H Q g=>by
 obtain⟨F,ds,z,c,id,hz,q⟩:=g;unfold yu at hz
 split at hz
 .obtain⟨ns,j,hz⟩:=Jh.mp hz;obtain rfl:=Zqi hz;obtain⟨v,rfl,h⟩:=Qw id;obtain⟨a,rfl,l⟩:=ZW j h;exact⟨a,ns,rfl,(l.same c).sq,q _ F H (.refl c) (xt _ F)⟩
 .exact J2 hz
def uf (d:X.calm=true):jc X (.builtin "any") (yp X.K yL):=jc.weak (Np d) λxs H Q g=>by
 obtain⟨F,ds,z,c,id,hz,q⟩:=g;unfold yL at hz
 split at hz
 .obtain⟨ns,j,hz⟩:=Jh.mp hz;obtain rfl:=Zqi hz;obtain⟨v,rfl,h⟩:=Qw id;obtain⟨a,rfl,l⟩:=Nr j h;exact⟨a,ns,rfl,(l.same c).sq,q _ F H (.refl c) (yt _ F)⟩
 .exact J2 hz
end
@[simp]def SY (ns:Yf):yu [.lst (ns.map .int)]=some (.int ns.sum):=by
 show(KI _).bind _=_;rw[BG];rfl
def Nu (ns:List Bool):yL [.lst (ns.map .bl)]=some (.bl (ns.any id)):=by
 show(Ac _).bind _=_;rw[Nt];rfl
end L2.DL
namespace L2
def Nv:bootBuiltins "any" = some (.builtin "any"):=boot_any
end L2
namespace L2.DL
end L2.DL
namespace L2.ST
open PySem
def xr:Nat->Nat->Nat
 | 0,z=>z
 |n+1,z=>xr n (5*z+1)
def Fa (a b z:Nat):xr (a+b) z=xr b (xr a z):=by
 induction a generalizing z with
 |zero=>rw[UO];rfl
 |succ a c=>rw[Nat.succ_add];exact c _
def Fb (n z d:Nat):xr n (z+d)=xr n z+5 ^ n*d:=by
 induction n generalizing z d with
 |zero=>simp[xr]
 |succ n a =>
  show xr n (5*(z+d)+1)=xr n (5*z+1)+5 ^ (n+1)*d;have e:5*(z+d)+1=(5*z+1)+5*d:=()
  rw[e,a,Va,Vs]
def kW (n:Nat):5 ^ n % 4=1:=by
 induction n with
 |zero=>rfl
 |succ n a=>rw[Va];lia
def Nw (k z:Nat):∃u,xr (2 ^ k) z=z+2 ^ k*(2*u+1):=by
 induction k generalizing z with
 |zero=>exact⟨2*z,by show 5*z+1=z+1*(2*(2*z)+1);lia⟩
 |succ k b =>
  obtain⟨u,a⟩:=b z;have e:2 ^ (k+1)=2 ^ k+2 ^ k:=by rw[Va];lia
  rw[e,Fa,a,Fb,a];have c:=kW (2 ^ k);obtain⟨v,hv⟩:∃v,5 ^ (2 ^ k)=4*v+1:=⟨5 ^ (2 ^ k) / 4,()⟩;rw[hv];generalize 2 ^ k=m;refine⟨2*u*(2*v+1) / 2+v,?_⟩;have:2*u*(2*v+1) / 2=u*(2*v+1):=by rw[Vs,Nat.mul_div_cancel_left _ ()]
  rw[this]
  grind
def Nx (m n z:Nat):xr n z % m=xr n (z % m) % m:=by
 have h:=Fb n (z % m) (m*(z / m));rw[Nat.mod_add_div] at h;rw[h,<- Vs,Nat.mul_comm _ m,Vs,Nat.add_mul_mod_self_left]
theorem BT:∀(k x y:Nat),y<2 ^ k->∃q,q<2 ^ k/\xr q x % 2 ^ k=y
 | 0,x,y,h=>⟨0,by decide,by rw[Nat.pow_zero] at *;lia⟩
 |k+1,x,y,h=>by
  have e:2 ^ (k+1)=2*2 ^ k:=by rw[Va];lia
  have hp:0<2 ^ k:=Nat.two_pow_pos k;obtain⟨q,n,d⟩:=BT k x (y % 2 ^ k) (UA _ hp);rw[e] at h ⊢;by_cases c:xr q x % (2*2 ^ k)=y
  .exact⟨q,(),c⟩
  .refine⟨q+2 ^ k,(),?_⟩;rw[Fa];obtain⟨u,g⟩:=Nw k (xr q x);rw[g];generalize xr q x=w at *;generalize 2 ^ k=m at *;have i:w+m*(2*u+1)=(w+m)+(2*m)*u:=by grind
   rw[i,Nat.add_mul_mod_self_left];have j:=Nat.div_add_mod w m;have o:=Nat.div_add_mod y m;have p:=Nat.div_add_mod w (2*m);have f:=UA w (show 0<2*m from ());rw[d] at j;have a:w % (2*m) % m=y % m:=by rw[Nat.mod_mul_left_mod];exact d
   have a1:w % (2*m)<m\/m<=w % (2*m):=()
   have a2:y<m\/m<=y:=()
   have b:∀t,t<2*m->m<=t->t % m=t-m:=λt r l=>by
    rw[Nat.mod_eq_sub_mod l,UR ()]
   rw[Nat.add_mod,UR (show m<2*m from ())];generalize w % (2*m)=t at *;rcases a1 with a1|a1<;>rcases a2 with a2|a2
   .rw[UR a1,UR a2] at a;exact Zn a c
   .rw[UR a1,b y h a2] at a;rw[UR ()];lia
   .rw[UR a2,b t f a1] at a;rw[Nat.mod_eq_sub_mod (),UR ()];lia
   .rw[b t f a1,b y h a2] at a;exact Zn () c
def JD (t:Yw):Nat->SetTable.Probe->SetTable.Probe
 | 0,p=>p
 |n+1,p=>JD t n (t.advance p)
def XO (t:Yw)(a b:Nat)(p:SetTable.Probe):JD t (a+b) p=JD t b (JD t a p):=by
 induction a generalizing p with
 |zero=>rw[UO];rfl
 |succ a c=>rw[Nat.succ_add];exact c _
def Ny (t:Yw)(n:Nat)(p:SetTable.Probe):JD t (n+1) p=t.advance (JD t n p):=XO t n 1 p
def Kr (mask i pert:Nat):SetTable.Probe:={ j:=i,more:=SetTable.runEnd mask i-i,i:=i,perturb:=pert,dummy:=none }
def jB (mask:Nat):Nat->Nat×Nat->Nat×Nat
 | 0,s=>s
 |n+1,s=>jB mask n (SetTable.leap mask s.1 s.2)
def Nz (mask i:Nat):SetTable.runEnd mask i-i<=9:=by
 unfold SetTable.runEnd
 split<;>lia
def Fc (t:Yw)(m:Nat):∀(p:SetTable.Probe),p.more=m->p.dummy=none->JD t (m+1) p=Kr t.mask (SetTable.leap t.mask p.i p.perturb).1 (SetTable.leap t.mask p.i p.perturb).2:=by
 induction m with
 |zero =>
  intro p b a;show t.advance p=_;unfold SetTable.advance;rw[Ze ()];unfold Kr;rw[a]
 |succ m c =>
  intro p b a;have h:=c { p with j:=p.j+1,more:=p.more-1 } (by show p.more-1=m;lia) a;show JD t (m+1) (t.advance p)=_;have d:t.advance p={ p with j:=p.j+1,more:=p.more-1 }:=by
   unfold SetTable.advance;rw[Zd ()]
  rw[d,h]
theorem Fd (t:Yw):∀(r i pert:Nat),∃n,n<=10*r/\JD t n (Kr t.mask i pert)=Kr t.mask (jB t.mask r (i,pert)).1 (jB t.mask r (i,pert)).2
 | 0,i,pert=>⟨0,Zf _,rfl⟩
 |r+1,i,pert=>by
  have a:=Fc t (SetTable.runEnd t.mask i-i) (Kr t.mask i pert) rfl rfl;obtain⟨n,c,b⟩:=Fd t r (SetTable.leap t.mask i pert).1 (SetTable.leap t.mask i pert).2;have d:=Nz t.mask i;refine⟨(SetTable.runEnd t.mask i-i+1)+n,(),?_⟩;rw[XO,a];exact b
def Fe (mask a b:Nat)(s:Nat×Nat):jB mask (a+b) s=jB mask b (jB mask a s):=by
 induction a generalizing s with
 |zero=>rw[UO];rfl
 |succ a c=>rw[Nat.succ_add];exact c _
theorem BU (mask:Nat):∀(r:Nat) (s:Nat×Nat),(jB mask r s).2=s.2 / 32 ^ r
 | 0,s=>by show s.2=_;rw[Nat.pow_zero,Nat.div_one]
 |r+1,s=>by
  show(jB mask r (SetTable.leap mask s.1 s.2)).2=_;rw[BU mask r];show s.2 / 32 / 32 ^ r=_;rw[Nat.div_div_eq_div_mul,Va,Nat.mul_comm 32]
theorem BV (mask:Nat):∀(r i:Nat),i<mask+1->jB mask r (i,0)=(xr r i % (mask+1),0)
 | 0,i,h=>by
  show(i,0)=(i % (mask+1),0);rw[UR h]
 |r+1,i,h=>by
  show jB mask r ((i*5+1+0 / 32) % (mask+1),0 / 32)=(xr r (5*i+1) % (mask+1),0);rw[Nat.zero_div,Nat.add_zero,BV mask r _ (UA _ ()),<- Nx,Nat.mul_comm i 5]
def Ff (mask r:Nat)(s:Nat×Nat)(h:s.1<mask+1):(jB mask r s).1<mask+1:=by
 induction r generalizing s with
 |zero=>exact h
 |succ r a=>exact a _ (UA _ ())
def vX (b:t.mask+1=2 ^ k)(h:Int)(i:y<=t.mask):∃n,n<10*SetTable.turns t.mask/\(JD t n (t.probeStart h)).j=y:=by
 have hs:t.probeStart h=Kr t.mask (SetTable.bits h % (t.mask+1)) (SetTable.bits h):=rfl;have c:SetTable.bits h<2 ^ 64:=by
  unfold SetTable.bits;have:=VC h (show(0:Int)<2 ^ 64 by decide);have:=Int.emod_nonneg h (show(2 ^ 64:Int)≠0 by decide);lia
 have a:=Ff t.mask 13 (SetTable.bits h % (t.mask+1),SetTable.bits h) (UA _ ());have hp:(jB t.mask 13 (SetTable.bits h % (t.mask+1),SetTable.bits h)).2=0:=by
  rw[BU];exact Nat.div_eq_of_lt (Zg c (by decide))
 obtain⟨q,j,e⟩:=BT k (jB t.mask 13 (SetTable.bits h % (t.mask+1),SetTable.bits h)).1 y ();have d:jB t.mask (13+q) (SetTable.bits h % (t.mask+1),SetTable.bits h)=(y,0):=by
  rw[Fe];generalize l:jB t.mask 13 (SetTable.bits h % (t.mask+1),SetTable.bits h)=s at *;obtain⟨f,m⟩:=s;simp only at hp a e;rw[hp,BV t.mask q f a,b,e]
 obtain⟨n,o,g⟩:=Fd t (13+q) (SetTable.bits h % (t.mask+1)) (SetTable.bits h);refine⟨n,by unfold SetTable.turns;lia,?_⟩;rw[hs,g,d];rfl
def Fg {t:Yw}{p:SetTable.Probe}(h:p.dummy=none):(t.advance p).dummy=none:=by
 unfold SetTable.advance
 split
 .exact h
 .exact h
def N0 {t:Yw}{p:SetTable.Probe}(h:p.dummy=none)(n:Nat):(JD t n p).dummy=none:=by
 induction n generalizing p with
 |zero=>exact h
 |succ n a=>exact a (Fg h)
theorem Fh {t:Yw}{hashAt:Nat->Int}{h:Int}:∀(k a:Nat) (p:SetTable.Probe),k<a->p.dummy=none->(∀m,m<k->∃i,t.slot (JD t m p).j=.live i)->t.slot (JD t k p).j=.empty ->
 (∃m i,m<k/\t.slot (JD t m p).j=.live i/\hashAt i=h/\SetTable.probe.go t hashAt h a p=some (.candidate (JD t m p).j i (JD t (m+1) p))/\∀b d,b<m->t.slot (JD t b p).j=.live d->hashAt d≠h) \/
 (SetTable.probe.go t hashAt h a p=some (.empty (JD t k p).j none)/\∀b d,b<k->t.slot (JD t b p).j=.live d->hashAt d≠h)
 | 0,0,p,hf,_,_,_=>Zn hf (Zy _)
 | 0,a+1,p,_,hd,_,f=>by
  have f:t.slot p.j=.empty:=f;refine .inr ⟨?_,λb d e=>Zn e (Us _)⟩;unfold SetTable.probe.go;rw[f];show some (SetTable.Met.empty p.j p.dummy)=_;rw[hd];rfl
 |k+1,0,p,hf,_,_,_=>Zn hf (Us _)
 |k+1,a+1,p,hf,hd,hl,f=>by
  obtain⟨i,hi⟩:=hl 0 (Vb _);have hi:t.slot p.j=.live i:=hi;by_cases c:hashAt i=h
  .refine .inl ⟨0,i,Vb _,hi,c,?_,λb d e=>Zn e (Us _)⟩;unfold SetTable.probe.go;rw[hi];show(if(hashAt i == h)=true then _ else _)=_;rw[Zd (by rw[c];exact beq_self_eq_true h)];rfl
  .have j:SetTable.probe.go t hashAt h (a+1) p=SetTable.probe.go t hashAt h a (t.advance p):=by
    rw[SetTable.probe.go];rw[hi];show(if(hashAt i == h)=true then _ else _)=_;rw[Ze (by simpa using c)]
   rcases Fh (hashAt:=hashAt) (h:=h) k a (t.advance p) () (Fg hd) (λm e=>hl (m+1) ()) f with ⟨m,n,l,g,o,q,r⟩|⟨l,g⟩
   .refine .inl ⟨m+1,n,(),g,o,by rw[j];exact q,λb d e hs=>?_⟩;cases b with
    |zero =>
     have hs:t.slot p.j=.live d:=hs;rw[hi] at hs;cases hs;exact c
    |succ b=>exact r b d () hs
   .refine .inr ⟨by rw[j];exact l,λb d e hs=>?_⟩;cases b with
    |zero =>
     have hs:t.slot p.j=.live d:=hs;rw[hi] at hs;cases hs;exact c
    |succ b=>exact g b d () hs
open PySem
def yw (xs:Yg):Prop:=∀i j,i<j->j<xs.size->xs.getD i 0<xs.getD j 0
def Q3 {α: Type}{xs:Array α}(h:i<xs.size)(d:α):xs.getD i d=xs[i]:=by
 unfold Array.getD;rw[dif_pos h];rfl
theorem BW (u:yw xs):∀(fuel lo hi:Nat),hi-lo<=fuel->lo<=hi->hi<=xs.size->(∀i,i<lo->xs.getD i 0<j)->(∀i,hi<=i->i<xs.size->j<=xs.getD i 0) ->
 SetTable.below.go xs j fuel lo hi<=xs.size/\(∀i,i<SetTable.below.go xs j fuel lo hi->xs.getD i 0<j)/\∀i,SetTable.below.go xs j fuel lo hi<=i->i<xs.size->j<=xs.getD i 0
 | 0,lo,hi,hf,hl,hs,h1,h2=>by
  have e:lo=hi:=()
  subst e;unfold SetTable.below.go;exact⟨hs,h1,h2⟩
 |fuel+1,lo,hi,hf,hl,hs,h1,h2=>by
  unfold SetTable.below.go;by_cases c:lo<hi
  .rw[Zd c];obtain⟨m,e,l,g,n,o⟩:=DK (k:=fuel+1) (x:=0) c hf;have b:m<xs.size:=Zg g hs;have h:xs.getD m j=xs.getD m 0:=by rw[Q3 b,Q3 b]
   show(if xs.getD ((lo+hi) / 2) j<j then _ else _)<=xs.size/\(∀i,i<(if xs.getD ((lo+hi) / 2) j<j then _ else _)->_)/\∀i,(if xs.getD ((lo+hi) / 2) j<j then _ else _)<=i->_;rw[e];by_cases d:xs.getD m j<j
   .rw[Zd d];rw[h] at d;refine BW u fuel (m+1) hi o g hs (λi a=>?_) h2;by_cases q:i=m
    .rw[q];exact d
    .exact UN (u i m (Vx (Vy a) q) b) d
   .rw[Ze d];rw[h] at d;refine BW u fuel lo m n l (Zz b) h1 λi a f=>?_;by_cases q:i=m
    .rw[q];exact Nat.le_of_not_lt d
    .exact Zz (Vv (Nat.le_of_not_lt d) (u m i (Vx a (Ne.symm q)) f))
  .rw[Ze c];have e:lo=hi:=()
   subst e;exact⟨hs,h1,h2⟩
def Ad (u:yw xs)(j:Nat):SetTable.below xs j<=xs.size/\(∀i,i<SetTable.below xs j->xs.getD i 0<j)/\∀i,SetTable.below xs j<=i->i<xs.size->j<=xs.getD i 0:=
 BW u xs.size 0 xs.size () () (Zf _) (λi h=>Zn h (Us _)) λi a b=>()
def N1 (u:yw xs)(hi:i<xs.size):SetTable.below xs (xs.getD i 0)=i:=by
 obtain⟨e,c,d⟩:=Ad u (xs.getD i 0);generalize SetTable.below xs (xs.getD i 0)=p at *;rcases UL p i with q|q|q
 .have a:=u p i q hi;have b:=d p (Zf _) ();lia
 .exact q
 .have:=c i q;lia
def xl (t:Yw)(j:Nat):Prop:=∃i,i<t.place.size/\t.place.getD i 0=j
def Fi (j:Nat):SetTable.has #[] j=false:=rfl
def Fj {t:Yw}(u:yw t.place){i j:Nat}(hi:i<t.place.size)(e:t.place.getD i 0=j):t.slot j=.live i:=by
 unfold SetTable.slot;have a:SetTable.below t.place j=i:=by rw[<- e];exact N1 u hi
 show(if(t.place[SetTable.below t.place j]? == some j)=true then SetTable.Slot.live (SetTable.below t.place j) else _)=_;rw[a];have b:t.place[i]? = some j:=by
  rw[Uo hi,<- e,Q3 hi]
 rw[b,Zd (beq_self_eq_true _)]
def N2 (b:t.dummies = #[])(h:¬xl t j):t.slot j=.empty:=by
 unfold SetTable.slot;show(if(t.place[SetTable.below t.place j]? == some j)=true then _ else _)=_;have c:¬(t.place[SetTable.below t.place j]? == some j)=true:=by
  intro z;have z:t.place[SetTable.below t.place j]? = some j:=by simpa using z
  obtain⟨a,d⟩:=Jl.mp z;exact h ⟨_,a,by rw[Q3 a];exact d⟩
 rw[Ze c,b,Fi];rfl
def N3 (u:yw t.place)(h:xl t j):∃i,t.slot j=.live i/\i<t.place.size/\t.place.getD i 0=j:=by
 obtain⟨i,hi,e⟩:=h;exact⟨i,Fj u hi e,hi,e⟩
def N4 {t t':Yw}(h:t.mask=t'.mask)(p:SetTable.Probe):t.advance p=t'.advance p:=by
 unfold SetTable.advance;rw[h]
def Fk {t t':Yw}(h:t.mask=t'.mask)(n:Nat)(p:SetTable.Probe):JD t n p=JD t' n p:=by
 induction n generalizing p with
 |zero=>rfl
 |succ n a=>show JD t n (t.advance p)=JD t' n (t'.advance p);rw[N4 h,a]
def Fl {t t':Yw}(h:t.mask=t'.mask)(x:Int):t.probeStart x=t'.probeStart x:=by
 unfold SetTable.probeStart;rw[h]
def zh (t:Yw)(o:Nat->Prop)(x:Int)(y:Nat):Prop:=∃n,(JD t n (t.probeStart x)).j=y/\∀m,m<n->o (JD t m (t.probeStart x)).j
def zh.mono {t t':Yw}{o c:Nat->Prop}{x:Int}{y:Nat}(h:zh t o x y)(a:t.mask=t'.mask)(d:∀j,o j->c j):zh t' c x y:=by
 obtain⟨n,e,f⟩:=h;refine⟨n,?_,λm b=>?_⟩
 .rw[<- Fk a,<- Fl a];exact e
 .rw[<- Fk a,<- Fl a];exact d _ (f m b)
structure TabOk (t:Yw)(hs:Array Int):Prop where
 size:t.place.size=hs.size
 up:yw t.place
 le:∀i,i<t.place.size->t.place.getD i 0<=t.mask
 nod:t.dummies = #[]
 pow:∃k,t.mask+1=2 ^ k
 room:t.place.size<=t.mask
 ways:∀i,i<t.place.size->zh t (xl t) (hs.getD i 0) (t.place.getD i 0)
def N5 (u:yw xs)(hs:xs.size<=m):∃y,y<=m/\∀i,i<xs.size->xs.getD i 0≠y:=by
 by_cases h:∀i,i<xs.size->xs.getD i 0=i
 .exact⟨m,Zf _,λi hi e=>by have:=h i hi;lia⟩
 .obtain⟨i,hi,hne,hmin⟩:∃i,i<xs.size/\xs.getD i 0≠i/\∀k,k<i->xs.getD k 0=k:=by
   have f:∀n,n<=xs.size->(∀k,k<n->xs.getD k 0=k)\/∃i,i<xs.size/\xs.getD i 0≠i/\∀k,k<i->xs.getD k 0=k:=by
    intro n
    induction n with
    |zero=>intro _;exact .inl λk d=>Zn d (Us _)
    |succ n g =>
     intro j;rcases g () with q|q
     .by_cases c:xs.getD n 0=n
      .refine .inl λk d=>?_;by_cases e:k=n
       .rw[e];exact c
       .exact q k ()
      .exact .inr ⟨n,(),c,q⟩
     .exact .inr q
   rcases f xs.size (Zf _) with q|q
   .exact Zn q h
   .exact q
  refine⟨i,(),λk d e=>?_⟩;rcases UL k i with q|q|q
  .have:=hmin k q;lia
  .subst q;exact hne e
  .have a:=u i k q d;have b:i<=xs.getD i 0:=by
    cases i with
    |zero=>exact Uc _
    |succ i =>
     have:=u i (i+1) () hi;have:=hmin i ();lia
   lia
def N6 (T:TabOk t hs)(x:Int):∃n,n<10*SetTable.turns t.mask/\(∀m,m<n->xl t (JD t m (t.probeStart x)).j)/\¬xl t (JD t n (t.probeStart x)).j:=by
 obtain⟨k,h⟩:=T.pow;obtain⟨y,j,l⟩:=N5 T.up T.room;obtain⟨n,b,e⟩:=vX h x j;have a:¬xl t (JD t n (t.probeStart x)).j:=by
  rw[e];rintro⟨i,hi,q⟩;exact l i hi q
 have f:∀d n,n<=d->n<10*SetTable.turns t.mask->¬xl t (JD t n (t.probeStart x)).j->∃n,n<10*SetTable.turns t.mask/\(∀m,m<n->xl t (JD t m (t.probeStart x)).j)/\¬xl t (JD t n (t.probeStart x)).j:=by
  intro d
  induction d with
  |zero =>
   intro n o b a;have:n=0:=()
   subst this;exact⟨0,b,λm g=>Zn g (Us _),a⟩
  |succ d p =>
   intro n o b a;by_cases c:∀m,m<n->xl t (JD t m (t.probeStart x)).j
   .exact⟨n,b,c,a⟩
   .obtain⟨m,g⟩:=Classical.not_forall.mp c;obtain⟨s,r⟩:=Classical.not_imp.mp g;exact p m () () r
 exact f n n (Zf _) b a
def BX {α: Type}(xs:Array α)(hp:p<=xs.size)(x:α):(SetTable.insertAt xs p x).size=xs.size+1:=by
 unfold SetTable.insertAt;simp;lia
def Fp {α: Type}(xs:Array α)(hp:p<=xs.size)(x d:α)(i:Nat):(SetTable.insertAt xs p x).getD i d=if i<p then xs.getD i d else if i=p then x else xs.getD (i-1) d:=by
 unfold SetTable.insertAt;simp only[US];rw[Array.getElem?_append,Array.getElem?_push,Array.getElem?_extract,Array.getElem?_extract];simp only[Array.size_push,Array.size_extract];have e:min p xs.size-0=p:=()
 rw[e];rcases UL i p with c|c|c
 .have a:i<p+1:=()
  have b:¬i=p:=()
  simp only[a,b,c,if_true,if_false];simp
 .subst c;have a:¬i<i:=Zy _;simp only[Nat.lt_succ_self,a,if_true,if_false];rfl
 .have a:¬i<p+1:=()
  have b:¬i<p:=()
  have f:¬i=p:=()
  simp only[a,b,f,if_false];have g:p+(i-(p+1))=i-1:=()
  rw[g];by_cases h:i-1<xs.size
  .rw[Zd (by simp only[Nat.min_self];lia)]
  .rw[Ze (by simp only[Nat.min_self];lia),U8 ()]
def N7 (T:TabOk t hs)(u:y<=t.mask)(v:¬xl t y)(hw:zh t (xl t) x y)(w:t.place.size+1<=t.mask):TabOk (t.put y).1 (SetTable.insertAt hs (t.put y).2 x)/\(t.put y).2<=hs.size/\(t.put y).1.mask=t.mask:=by
 obtain⟨n,A,B⟩:=Ad T.up y;have hp:(t.put y).2=SetTable.below t.place y:=rfl;have a:(t.put y).1.place=SetTable.insertAt t.place (SetTable.below t.place y) y:=rfl;have b:(t.put y).1.mask=t.mask:=rfl;have h:(t.put y).1.dummies = #[]:=by
  show(if SetTable.has t.dummies y then SetTable.eraseAt t.dummies (SetTable.below t.dummies y) else t.dummies)=_;rw[T.nod,Fi];rfl
 rw[hp];have C:∀i,SetTable.below t.place y<=i->i<t.place.size->y<t.place.getD i 0:=λi E o=>by
  have:=B i E o;have:t.place.getD i 0≠y:=λz=>v ⟨i,o,z⟩;lia
 generalize SetTable.below t.place y=p at *;have sz:(SetTable.insertAt t.place p y).size=t.place.size+1:=BX _ n _;have g:=Fp t.place n y 0;have l:∀j,xl t j->xl (t.put y).1 j:=by
  rintro j ⟨i,hi,e⟩;by_cases c:i<p
  .exact⟨i,by rw[a,sz];lia,by rw[a,g,Zd c];exact e⟩
  .exact⟨i+1,by rw[a,sz];lia,by rw[a,g,Ze (),Ze (),Nat.add_sub_cancel];exact e⟩
 have hsz:=T.size;refine⟨⟨?_,?_,?_,h,by rw[b];exact T.pow,by rw[a,sz,b];exact w,?_⟩,(),b⟩
 .rw[a,sz,BX _ ()];lia
 .intro i j m q;rw[a] at q ⊢;rw[sz] at q;rw[g,g];by_cases d:j<p
  .rw[Zd d,Zd ()];exact T.up i j m ()
  .rw[Ze d];by_cases f:j=p
   .rw[Zd f,Zd ()];exact A i ()
   .rw[Ze f];by_cases r:i<p
    .rw[Zd r];exact T.up i (j-1) () ()
    .rw[Ze r];by_cases s:i=p
     .rw[Zd s];exact C (j-1) () ()
     .rw[Ze s];exact T.up (i-1) (j-1) (Nat.sub_lt_sub_right () (by assumption)) ()
 .intro i hi;rw[a] at hi ⊢;rw[sz] at hi;rw[g,b]
  split
  .exact T.le i ()
  .split
   .exact u
   .exact T.le (i-1) ()
 .intro i hi;rw[a] at hi ⊢;rw[sz] at hi;rw[g,Fp hs () x 0];by_cases d:i<p
  .rw[Zd d,Zd d];exact(T.ways i ()).mono b.symm l
  .rw[Ze d,Ze d];by_cases f:i=p
   .rw[Zd f,Zd f];exact hw.mono b.symm l
   .rw[Ze f,Ze f];exact(T.ways (i-1) ()).mono b.symm l
open PySem
theorem Ae (t:Yw)(i pert:Nat):∀k,k<=SetTable.runEnd t.mask i-i->JD t k (Kr t.mask i pert)={ j:=i+k,more:=SetTable.runEnd t.mask i-i-k,i:=i,perturb:=pert,dummy:=none }
 | 0,_=>rfl
 |k+1,h=>by
  rw[Ny,Ae t i pert k ()];unfold SetTable.advance;rw[Zd (by show SetTable.runEnd t.mask i-i-k > 0;lia)];show SetTable.Probe.mk (i+k+1) (SetTable.runEnd t.mask i-i-k-1) i pert none=_
  congr 1
def BY {mask i:Nat}(h:i<=mask):i<=SetTable.runEnd mask i/\SetTable.runEnd mask i<=mask:=by
 unfold SetTable.runEnd
 split<;>lia
def qT (owner:Array (Option Nat))(j:Nat):Prop:=∃i,owner.getD j none=some i
theorem Fq {t:Yw}{owner:Array (Option Nat)}(hs:owner.size=t.mask+1):∀(fuel i pert y:Nat),i<=t.mask->SetTable.layClean.free t.mask owner fuel i pert=some y ->
 y<=t.mask/\owner.getD y none=none/\∃n,(JD t n (Kr t.mask i pert)).j=y/\∀m,m<n->qT owner (JD t m (Kr t.mask i pert)).j
 | 0,i,pert,y,_,h=>by unfold SetTable.layClean.free at h;exact J2 h
 |fuel+1,i,pert,y,hi,h=>by
  have g:=BY hi;unfold SetTable.layClean.free at h;have j:∀{k},k<SetTable.runEnd t.mask i+1-i->k<=SetTable.runEnd t.mask i-i:=λa=>by
   rw[Nat.succ_sub g.1] at a;exact Vy a
  have l:∀{k},k<SetTable.runEnd t.mask i+1-i->i+k<owner.size:=λa=>by
   rw[hs];exact Nat.lt_succ_of_le (Zh (Nat.add_le_of_le_sub' g.1 (j a)) g.2)
  have d:∀k,k<SetTable.runEnd t.mask i+1-i->owner.getD (i+k) (some 0)=owner.getD (i+k) none:=λk a=>by
   rw[Q3 (l a),Q3 (l a)]
  have u:∀k,k<SetTable.runEnd t.mask i+1-i->(!(owner.getD (i+k) (some 0)).isNone)=true->qT owner (i+k):=λk a o=>by
   rw[d k a] at o;unfold qT;cases q:owner.getD (i+k) none with
   |none=>rw[q] at o;exact J6 o
   |some v=>exact⟨v,rfl⟩
  split at h
  .rename_i k a;obtain⟨p,b,r⟩:=List.find?_range_eq_some.mp a;have b:=Jg.mp b;obtain rfl:=Zqi h;refine⟨Vy (by have:=l b;rwa [hs] at this),?_,k,?_,λm e=>?_⟩
   .rw[d k b] at p;cases q:owner.getD (i+k) none with
    |none=>rfl
    |some v=>rw[q] at p;exact J6 p
   .rw[Ae t i pert k (j b)]
   .rw[Ae t i pert m (j (UN e b))];exact u m (UN e b) (r m e)
  .rename_i a;have r:=Jv.mp a;have w:(SetTable.leap t.mask i pert).1<=t.mask:=Jo.mp (UA _ (Vb _));obtain⟨x,z,n,A,B⟩:=Fq hs fuel _ _ y w h;have f:=Fc t (SetTable.runEnd t.mask i-i) (Kr t.mask i pert) rfl rfl;have f:JD t (SetTable.runEnd t.mask i-i+1) (Kr t.mask i pert)=Kr t.mask (SetTable.leap t.mask i pert).1 (SetTable.leap t.mask i pert).2:=f;refine⟨x,z,SetTable.runEnd t.mask i-i+1+n,by rw[XO,f];exact A,λm e=>?_⟩;by_cases c:m<=SetTable.runEnd t.mask i-i
   .rw[Ae t i pert m c];exact u m () (r m ())
   .obtain⟨s,rfl⟩:∃s,m=SetTable.runEnd t.mask i-i+1+s:=⟨m-(SetTable.runEnd t.mask i-i+1),()⟩;rw[XO,f];exact B s ()
theorem Fs {mask:Nat}{owner:Array (Option Nat)}(hs:owner.size=mask+1):∀(fuel i pert:Nat),i<=mask->SetTable.layClean.free mask owner fuel i pert=none->∀r,r<fuel->qT owner (jB mask r (i,pert)).1
 | 0,i,pert,_,_,r,hr=>Zn hr (Us _)
 |fuel+1,i,pert,hi,h,r,hr=>by
  have b:=BY hi;unfold SetTable.layClean.free at h
  split at h
  .cases h
  .rename_i c;have d:=Jv.mp c;have f:(SetTable.leap mask i pert).1<=mask:=Jo.mp (UA _ (Vb _));cases r with
   |zero =>
    have a:=d 0 ();have e:owner.getD (i+0) (some 0)=owner.getD i none:=by rw[Nat.add_zero,Q3 (),Q3 ()]
    rw[e] at a;show qT owner i;unfold qT;cases q:owner.getD i none with
    |none=>rw[q] at a;exact J6 a
    |some v=>exact⟨v,rfl⟩
   |succ r=>exact Fs hs fuel _ _ f h r ()
def N8 {mask k:Nat}(b:mask+1=2 ^ k)(h:Int){y:Nat}(f:y<=mask):∃r,r<SetTable.turns mask/\(jB mask r (SetTable.bits h % (mask+1),SetTable.bits h)).1=y:=by
 have c:SetTable.bits h<2 ^ 64:=by
  unfold SetTable.bits;have:=VC h (show(0:Int)<2 ^ 64 by decide);have:=Int.emod_nonneg h (show(2 ^ 64:Int)≠0 by decide);lia
 have a:=Ff mask 13 (SetTable.bits h % (mask+1),SetTable.bits h) (UA _ ());have hp:(jB mask 13 (SetTable.bits h % (mask+1),SetTable.bits h)).2=0:=by
  rw[BU];exact Nat.div_eq_of_lt (Zg c (by decide))
 obtain⟨q,g,e⟩:=BT k (jB mask 13 (SetTable.bits h % (mask+1),SetTable.bits h)).1 y ();refine⟨13+q,by unfold SetTable.turns;lia,?_⟩;rw[Fe];generalize i:jB mask 13 (SetTable.bits h % (mask+1),SetTable.bits h)=s at *;obtain⟨d,j⟩:=s;simp only at hp a e;rw[hp,BV mask q d a,b,e]
structure LayOk (t:Yw)(owner:Array (Option Nat))(hs:Yf):Prop where
 size:owner.size=t.mask+1
 lt:∀j i,owner.getD j none=some i->i<hs.length
 one:∀j j' i,owner.getD j none=some i->owner.getD j' none=some i->j=j'
 all:∀i,i<hs.length->∃j,j<=t.mask/\owner.getD j none=some i/\zh t (qT owner) (hs.getD i 0) j
def N9 {f:Nat->Nat}{n:Nat}(h:∀a b,a<n->b<n->f a=f b->a=b):((List.range n).map f).Nodup:=by
 unfold List.Nodup;rw[UT];refine VN (R:=λa b=>a≠b) (λ{a b} c d g e=>g (h a b (Jg.mp c) (Jg.mp d) e)) ?_;exact List.nodup_range
def NA {t:Yw}{owner:Array (Option Nat)}{hs:Yf}(L:LayOk t owner hs)(n:hs.length<=t.mask):∃y,y<=t.mask/\owner.getD y none=none:=by
 apply VD;intro d;have f:∀y,y<t.mask+1->∃i,owner.getD y none=some i:=λy g=>by
  cases q:owner.getD y none with
  |none=>exact Zn ⟨y,(),q⟩ d
  |some i=>exact⟨i,rfl⟩
 have h:((List.range (t.mask+1)).map λy=>(owner.getD y none).getD 0).Nodup:=N9 λa b j l e=>by
  obtain⟨i,hi⟩:=f a j;obtain⟨m,c⟩:=f b l;rw[hi,c] at e;have e:i=m:=e;subst e;exact L.one a b i hi c
 have sub:((List.range (t.mask+1)).map λy=>(owner.getD y none).getD 0) ⊆ List.range hs.length:=λz hz=>by
  obtain⟨y,g,rfl⟩:=Ja.mp hz;obtain⟨i,hi⟩:=f y (Jg.mp g);rw[hi];exact Jg.mpr (L.lt y i hi)
 have:=VO h sub;rw[Zql,ZB,ZB] at this;lia
def NB {owner:Array (Option Nat)}{y:Nat}(a:y<owner.size)(v:Option Nat)(j:Nat):(owner.setIfInBounds y v).getD j none=if j=y then v else owner.getD j none:=by
 simp only[US];rw[Array.getElem?_setIfInBounds];by_cases c:y=j
 .subst c;rw[Zd rfl,Zd rfl,Zd a];rfl
 .rw[Ze c,Ze λz=>c z.symm]
def NC {t:Yw}{owner:Array (Option Nat)}{hs:Yf}(L:LayOk t owner hs)(v:hs.length<=t.mask)(hp:∃k,t.mask+1=2 ^ k)(h:Int):
 ∃y,SetTable.layClean.free t.mask owner (SetTable.turns t.mask) (SetTable.bits h % (t.mask+1)) (SetTable.bits h)=some y/\LayOk t (owner.setIfInBounds y (some hs.length)) (hs++[h]):=by
 have hi:SetTable.bits h % (t.mask+1)<=t.mask:=Jo.mp (UA _ (Vb _));cases q:SetTable.layClean.free t.mask owner (SetTable.turns t.mask) (SetTable.bits h % (t.mask+1)) (SetTable.bits h) with
 |none =>
  obtain⟨k,w⟩:=hp;obtain⟨y,x,A⟩:=NA L v;obtain⟨r,B,e⟩:=N8 w h x;obtain⟨i,hz⟩:=Fs L.size _ _ _ hi q r B;rw[e,A] at hz;exact J2 hz
 |some y =>
  obtain⟨C,p,n,E,F⟩:=Fq L.size _ _ _ y hi q;have g:=NB (owner:=owner) (y:=y) (by rw[L.size];lia) (some hs.length);have s:∀j,qT owner j->qT (owner.setIfInBounds y (some hs.length)) j:=by
   rintro j ⟨i,d⟩;refine⟨i,?_⟩;rw[g,Ze λz=>by rw[z,p] at d;cases d];exact d
  refine⟨y,rfl,⟨by rw[Array.size_setIfInBounds];exact L.size,λj i d=>?_,λj u i d f=>?_,λi l=>?_⟩⟩
  .rw[Ua,Uv];rw[g] at d
   split at d
   .cases d;lia
   .have:=L.lt j i d;lia
  .rw[g] at d f
   split at d
   .rename_i a;obtain rfl:=Zqi d
    split at f
    .rename_i b;rw[a,b]
    .have:=L.lt u _ f;lia
   .split at f
    .obtain rfl:=Zqi f;have:=L.lt j _ d;lia
    .exact L.one j u i d f
  .rw[Ua,Uv] at l;by_cases c:i<hs.length
   .obtain⟨j,G,o,H⟩:=L.all i c;refine⟨j,G,?_,?_⟩
    .rw[g,Ze λz=>by rw[z,p] at o;cases o];exact o
    .have e:(hs++[h]).getD i 0=hs.getD i 0:=by
      rw[Uf,Uf,Vu c]
     rw[e];exact H.mono rfl s
   .have e:i=hs.length:=()
    subst e;refine⟨y,C,by rw[g,Zd rfl],?_⟩;have e:(hs++[h]).getD hs.length 0=h:=by
     rw[Uf,VJ (Zf _),Nat.sub_self];rfl
    rw[e];exact⟨n,E,λm I=>s _ (F m I)⟩
theorem Ft {t:Yw}(hp:∃k,t.mask+1=2 ^ k):∀(rest:Yf) (hs:Yf) (owner:Array (Option Nat)),LayOk t owner hs->hs.length+rest.length<=t.mask+1 ->
 ∃a,rest.foldl (init:=some (owner,hs.length)) (λb h=>do
  let (owner,k) <- b
  let j <- SetTable.layClean.free t.mask owner (SetTable.turns t.mask) (SetTable.bits h % (t.mask+1)) (SetTable.bits h)
  pure (owner.setIfInBounds j (some k),k+1))=some (a,hs.length+rest.length)/\LayOk t a (hs++rest)
 | [],hs,owner,L,_=>⟨owner,rfl,by rw[ZA];exact L⟩
 |h::rest,hs,owner,L,hl=>by
  rw[Zu] at hl;obtain⟨y,e,f⟩:=NC L () hp h;obtain⟨g,c,d⟩:=Ft hp rest (hs++[h]) _ f (by rw[Ua,Uv];lia);refine⟨g,?_,by rw[Uy] at d;exact d⟩;rw[Ua,Uv] at c;rw[U7];simp only[Option.bind_eq_bind,Option.bind_some,e];rw[Zu,show hs.length+(rest.length+1)=hs.length+1+rest.length by lia];exact c
def ND {t:Yw}(hp:∃k,t.mask+1=2 ^ k)(hs:Array Int)(a:hs.size<=t.mask+1):∃owner,SetTable.layClean t.mask hs=some owner/\LayOk t owner hs.toList:=by
 have b:LayOk t (Array.replicate (t.mask+1) none) []:=by
  have z:∀j i,(Array.replicate (t.mask+1) (none:Option Nat)).getD j none≠some i:=λj i h=>by
   simp only[US,Array.getElem?_replicate] at h
   split at h<;>exact J2 h
  exact⟨(),λj i h=>Zn h (z j i),λj c i h=>Zn h (z j i),λi h=>Zn h (Us _)⟩
 obtain⟨o,e,L⟩:=Ft hp hs.toList [] _ b (by simpa using a);refine⟨o,?_,by simpa using L⟩;unfold SetTable.layClean;rw[<- Array.foldl_toList];have e:hs.toList.foldl _ (some (Array.replicate (t.mask+1) none,0))=some (o,[].length+hs.toList.length):=e;rw[e];rfl
open PySem
def NE {owner:Array (Option Nat)}{j i:Nat}(h:owner.getD j none=some i):j<owner.size:=by
 apply VD;intro z;rw[US,U8 ()] at h;exact J2 h
def KA (mask:Nat)(owner:Array (Option Nat)):List (Nat×Nat):=(List.range (mask+1)).filterMap λj=>(owner.getD j none).map (j,·)
def NF:p∈KA mask owner↔p.1<=mask/\owner.getD p.1 none=some p.2:=by
 unfold KA;rw[List.mem_filterMap];constructor
 .rintro⟨j,a,e⟩;obtain⟨i,hi,e⟩:=Jj.mp e;subst e;exact⟨Jo.mp (Jg.mp a),hi⟩
 .rintro⟨c,b⟩;exact⟨p.1,Jg.mpr (),by rw[b];rfl⟩
def NG (mask:Nat)(owner:Array (Option Nat)):(KA mask owner).Pairwise λa b=>a.1<b.1:=by
 unfold KA;rw[List.pairwise_filterMap];refine List.pairwise_lt_range.imp λ{a b} c x hx y d=>?_;obtain⟨i,_,rfl⟩:=Jj.mp hx;obtain⟨e,_,rfl⟩:=Jj.mp d;exact c
def BZ {α: Type}(l:List α)(i:Nat)(d:α):l.toArray.getD i d=l.getD i d:=by
 rw[US,List.getElem?_toArray,Uf]
def Cb {α β: Type}(l:List α)(f:α -> β)(i:Nat)(hi:i<l.length)(d:β):(l.map f).getD i d=f l[i]:=by
 rw[Uf,Zv,Zqg hi];rfl
def NH {mask:Nat}(hp:∃k,mask+1=2 ^ k)(hs:Array Int)(Q:hs.size<=mask)(finger moves:Nat)(led plain:Bool):
 ∃t' c,SetTable.laid mask finger moves led plain hs=some (t',c)/\t'.mask=mask/\t'.moves=moves/\t'.led=led/\t'.plain=plain/\t'.finger=finger/\c.size=hs.size/\(∀k,k<c.size->c.getD k 0<hs.size)/\(∀k g,k<c.size->g<c.size->c.getD k 0=c.getD g 0->k=g)/\(∀i,i<hs.size->∃k,k<c.size/\c.getD k 0=i)/\TabOk t' (c.map λi=>hs.getD i 0):=by
 let A:Yw:={ mask:=mask,place:=#[],dummies:=#[],finger:=0,led:=false,moves:=0,plain:=true }
 obtain⟨owner,e,L⟩:=ND (t:=A) hp hs (by show hs.size<=mask+1;lia);have e:SetTable.layClean mask hs=some owner:=e;have hsz:owner.size=mask+1:=L.size;have mem:=λp=>NF (mask:=mask) (owner:=owner) (p:=p);have y:=NG mask owner;have v:((KA mask owner).map (·.2)).Nodup:=by
  unfold List.Nodup;rw[UT];refine VN (λ{a b} B C E l=>?_) y;have h:=((mem a).mp B).2;have r:=((mem b).mp C).2;rw[l] at h;have:=L.one _ _ _ h r;lia
 have s:((KA mask owner).map (·.2)) ⊆ List.range hs.size:=λz hz=>by
  obtain⟨p,hp,rfl⟩:=Ja.mp hz;have:=L.lt _ _ ((mem p).mp hp).2;exact Jg.mpr (by simpa using this)
 have m:List.range hs.size ⊆ ((KA mask owner).map (·.2)):=λi hi=>by
  obtain⟨j,h,r,_⟩:=L.all i (by simpa using Jg.mp hi);exact Ja.mpr ⟨(j,i),(mem (j,i)).mpr ⟨h,r⟩,rfl⟩
 have len:(KA mask owner).length=hs.size:=by
  have a:=VO v s;have b:=VO List.nodup_range m;rw[Zql,ZB] at a b;lia
 have F:SetTable.laid mask finger moves led plain hs=some ({ mask:=mask,place:=((KA mask owner).map (·.1)).toArray,dummies:=#[],finger:=finger,led:=led,moves:=moves,plain:=plain },((KA mask owner).map (·.2)).toArray):=by
  unfold SetTable.laid;rw[e];rfl
 generalize G:KA mask owner=lv at *;have u:∀i (hi:i<lv.length),((lv.map (·.1)).toArray).getD i 0=lv[i].1:=λi hi=>by rw[BZ,Cb _ _ _ hi]
 have go:∀i (hi:i<lv.length),((lv.map (·.2)).toArray).getD i 0=lv[i].2:=λi hi=>by rw[BZ,Cb _ _ _ hi]
 have n:=Jn.mp y;refine⟨_,_,F,rfl,rfl,rfl,rfl,rfl,by simpa using len,λk d=>?_,λk g d f l=>?_,λi hi=>?_,?_⟩
 .have d:k<lv.length:=by simpa using d
  rw[go k d];have:=L.lt _ _ ((mem lv[k]).mp (UD d)).2;simpa using this
 .have d:k<lv.length:=by simpa using d
  have f:g<lv.length:=by simpa using f
  rw[go k d,go g f] at l;have h:=((mem lv[k]).mp (UD d)).2;have r:=((mem lv[g]).mp (UD f)).2;rw[l] at h;have R:=L.one _ _ _ h r;rcases UL k g with q|q|q
  .have:=n k g d f q;lia
  .exact q
  .have:=n g k f d q;lia
 .obtain⟨p,hp,l⟩:=Ja.mp (m (Jg.mpr hi));obtain⟨k,d,rfl⟩:=UE hp;exact⟨k,by simpa using d,by rw[go k d];exact l⟩
 .have H:∀j,qT owner j->xl { mask:=mask,place:=(lv.map (·.1)).toArray,dummies:=#[],finger:=finger,led:=led,moves:=moves,plain:=plain } j:=by
   rintro j ⟨i,o⟩;have I:=NE o;have J:(j,i)∈lv:=(mem (j,i)).mpr ⟨by show j<=mask;lia,o⟩;obtain⟨k,d,l⟩:=UE J;exact⟨k,by simpa using d,by show((lv.map (·.1)).toArray).getD k 0=j;rw[u k d,l]⟩
  refine⟨(),λi j w o=>?_,λi hi=>?_,rfl,hp,by show((lv.map (·.1)).toArray).size<=mask;simp;lia,λk d=>?_⟩
  .have o:j<lv.length:=by simpa using o
   show((lv.map (·.1)).toArray).getD i 0<((lv.map (·.1)).toArray).getD j 0;rw[u i (),u j o];exact n i j () o w
  .have hi:i<lv.length:=by simpa using hi
   show((lv.map (·.1)).toArray).getD i 0<=mask;rw[u i hi];exact((mem lv[i]).mp (UD hi)).1
  .have d:k<lv.length:=by simpa using d
   have h:=((mem lv[k]).mp (UD d)).2;have x:=L.lt _ _ h;obtain⟨j,S,K,M⟩:=L.all lv[k].2 x;have N:=L.one _ _ _ K h;subst N;have O:(((lv.map (·.2)).toArray).map λi=>hs.getD i 0).getD k 0=hs.toList.getD lv[k].2 0:=by
    have P:((lv.map (·.2)).toArray).map (λi=>hs.getD i 0)=((lv.map (·.2)).map λi=>hs.getD i 0).toArray:=by simp
    rw[P,BZ,Zw,Cb _ _ _ d];show hs.getD lv[k].2 0=_;rw[US,Uf,Array.getElem?_toList]
   rw[O];show zh _ _ _ (((lv.map (·.1)).toArray).getD k 0);rw[u k d];exact M.mono rfl H
theorem Fu:∀(fuel a n:Nat),(∃k,a=2 ^ k)->n<a*2 ^ fuel->(∃k,SetTable.sizeAbove.go n fuel a=2 ^ k)/\n<SetTable.sizeAbove.go n fuel a
 | 0,a,n,hp,h=>by
  unfold SetTable.sizeAbove.go;exact⟨hp,by simpa using h⟩
 |fuel+1,a,n,⟨k,hk⟩,h=>by
  unfold SetTable.sizeAbove.go
  split
  .exact Fu fuel (a*2) n ⟨k+1,by rw[Va,hk]⟩ (by rw[Vs,<- Nat.pow_succ'];exact h)
  .exact⟨⟨k,hk⟩,()⟩
def Fv (h:n<1000000000):(∃k,SetTable.sizeAbove n=2 ^ k)/\n<SetTable.sizeAbove n:=
 Fu 64 8 n ⟨3,rfl⟩ (Zg h (by decide))
theorem Fw:∀(fuel a n:Nat),a<=2*n+8->SetTable.sizeAbove.go n fuel a<=2*n+8
 | 0,a,n,h=>by unfold SetTable.sizeAbove.go;exact h
 |fuel+1,a,n,h=>by
  unfold SetTable.sizeAbove.go
  split
  .exact Fw fuel (a*2) n ()
  .exact h
def NI (n:Nat):SetTable.sizeAbove n<=2*n+8:=Fw 64 8 n ()
def NJ {t:Yw}{hs:Array Int}{wanted:Nat}(r:hs.size<=wanted)(f:wanted<1000000000):
 ∃t' a,t.relaid hs wanted=some (t',a)/\t'.led=t.led/\t'.plain=t.plain/\t'.mask+1=SetTable.sizeAbove wanted/\a.size=hs.size/\(∀k,k<a.size->a.getD k 0<hs.size)/\(∀k b,k<a.size->b<a.size->a.getD k 0=a.getD b 0->k=b)/\(∀i,i<hs.size->∃k,k<a.size/\a.getD k 0=i)/\TabOk t' (a.map λi=>hs.getD i 0):=by
 obtain⟨⟨k,g⟩,h⟩:=Fv f;have d:SetTable.sizeAbove wanted-1+1=SetTable.sizeAbove wanted:=()
 obtain⟨t',a,e,j,_,l,m,_,n,o,p,q,c⟩:=NH (mask:=SetTable.sizeAbove wanted-1) ⟨k,by rw[d];exact g⟩ hs () t.finger (t.movedTo (SetTable.sizeAbove wanted-1)) t.led t.plain;exact⟨t',a,e,l,m,by rw[j];exact d,n,o,p,q,c⟩
open PySem
variable {prog:Program}{w:World}{A:Around}{E:Ya}{s:Shared}
theorem TabOk.fits {t:Yw}{es:Array (Int×Value)}(T:TabOk t (es.map (·.1))):t.fits es.size=true:=by
 have a:=T.size;rw[Uq] at a;unfold SetTable.fits SetTable.fill;rw[T.nod];simp[a,show es.size<=t.mask by have:=T.room;lia]
def Fx {es:Array (Int×Value)}{i:Nat}(hi:i<es.size):(es.map (·.1)).getD i 0=es[i].1:=by
 rw[Q3 (by rw[Uq];exact hi)];simp
def Cc {es:Array (Int×Value)}{i:Nat}(hi:i<es.size):(es[i]?.map (·.1)).getD 0=es[i].1:=by
 rw[Uo hi];rfl
def U2 (t:Yw)(p:SetTable.Probe):Prop:=p.j+p.more<=t.mask
def Fy (t:Yw)(h:i<=t.mask):U2 t (Kr t.mask i pert):=by
 have:=BY h;show i+(SetTable.runEnd t.mask i-i)<=t.mask;lia
def NK (h:U2 t p):U2 t (t.advance p):=by
 unfold U2 at h;unfold SetTable.advance
 split
 .show p.j+1+(p.more-1)<=t.mask;lia
 .have a:(SetTable.leap t.mask p.i p.perturb).1<=t.mask:=Jo.mp (UA _ (Vb _));exact Fy t (pert:=(SetTable.leap t.mask p.i p.perturb).2) a
def NL (h:U2 t p)(n:Nat):U2 t (JD t n p):=by
 induction n generalizing p with
 |zero=>exact h
 |succ n a=>exact a (NK h)
def NM (t:Yw)(h:Int):U2 t (t.probeStart h):=Fy t (pert:=SetTable.bits h) (Jo.mp (UA _ (Vb _)))
def NN (h:U2 t p)(n:Nat):(JD t n p).j<=t.mask:=by
 have:=NL h n;unfold U2 at this;lia
theorem Fz {a:Addr}{o:Obj}{es:Array (Int×Value)}{ep:Nat}{t:Yw}{x:Value}{h:Int}{same:Value->Bool}{Q:SetFound->Yv}{e:Nat}
 (M:s.heap.get? a=some o) (N:o.data=.set es ep t) (T:TabOk t (es.map (·.1))) (p:t.mask % 2=1)
 (hq:∀i (hi:i<es.size),es[i].1=h->∀Q:Bool->Yv,Q (same es[i].2) s->YC prog w A (eqBool es[i].2 x) Q E s)
 (hr:∀i (hi:i<es.size),∃b,es[i].2=.ref b)
 (hsn:t.led=true\/∀Q:Bool->Yv,Q false s->YC prog w A (searchCouldBeSeen x ((es.filter (·.1 == h)).toList.map (·.2))) Q E s)
 (he:e<10*SetTable.turns t.mask) (F:∀m,m<e->xl t (JD t m (t.probeStart h)).j) (l:¬xl t (JD t e (t.probeStart h)).j)
 (G:∀i (hi:i<es.size),es[i].1=h->same es[i].2=true->Q (.there none) s)
 (r:(∀i (hi:i<es.size),es[i].1=h->same es[i].2=false)->Q (.free (JD t e (t.probeStart h)).j false) s):
 ∀(fuel c:Nat) (st:Option SetTable.Probe),c<=e->e-c<fuel->st.getD (t.probeStart h)=JD t c (t.probeStart h) ->
  (∀m i (hi:i<es.size),m<c->t.slot (JD t m (t.probeStart h)).j=.live i->es[i].1=h->same es[i].2=false) ->
  YC prog w A (setSearchFrom a x h true fuel st) Q E s
 | 0,c,st,hc,hf,_,_=>Zn hf (Us _)
 |fuel+1,c,st,hc,hf,hst,hno=>by
  have hsz:t.place.size=es.size:=by have:=T.size;rwa [Uq] at this
  show wpAny _ _ (_ >>= _) _ _ _;refine Za (wpAny_setState_of M N T.fits ?_);dsimp only;have hg:t.gaveWay=false:=by unfold SetTable.gaveWay;rw[p];rfl
  rw[hg];simp only[Ud,if_false];have live:∀m,m<e->∃i,t.slot (JD t m (t.probeStart h)).j=.live i/\i<es.size/\t.place.getD i 0=(JD t m (t.probeStart h)).j:=λm hm=>by
   obtain⟨i,O,h2,h3⟩:=N3 T.up (F m hm);exact⟨i,O,(),h3⟩
  have step:∀m,JD t m (JD t c (t.probeStart h))=JD t (c+m) (t.probeStart h):=λm=>(XO t c m _).symm;have B:∀g:Nat->Int,(∀i,g i=(es[i]?.map (·.1)).getD 0)->(∃m i,c<=m/\m<e/\t.slot (JD t m (t.probeStart h)).j=.live i/\g i=h/\t.probe g h (st.getD (t.probeStart h))=some (.candidate (JD t m (t.probeStart h)).j i (JD t (m+1) (t.probeStart h)))/\∀d f,c<=d->d<m->t.slot (JD t d (t.probeStart h)).j=.live f->g f≠h) \/
   (t.probe g h (st.getD (t.probeStart h))=some (.empty (JD t e (t.probeStart h)).j none)/\∀d f,c<=d->d<e->t.slot (JD t d (t.probeStart h)).j=.live f->g f≠h):=λg _=>by
   rw[hst];have sd:(JD t c (t.probeStart h)).dummy=none:=N0 rfl c;have ek:c+(e-c)=e:=()
   rcases Fh (t:=t) (hashAt:=g) (h:=h) (e-c) (10*SetTable.turns t.mask) (JD t c (t.probeStart h)) () sd (λm hm=>by
    rw[step];obtain⟨i,O,_⟩:=live (c+m) ();exact⟨i,O⟩) (by rw[step,ek];exact N2 T.nod l) with ⟨m,i,g1,g2,g3,g4,g5⟩|⟨g1,g2⟩
   .rw[step] at g2 g4;rw[step] at g4;refine .inl ⟨c+m,i,(),(),g2,g3,g4,λd f a1 a2 P=>g5 (d-c) f () (by rw[step,show c+(d-c)=d by lia];exact P)⟩
   .rw[step,ek] at g1;exact .inr ⟨g1,λd f a1 a2 P=>g2 (d-c) f () (by rw[step,show c+(d-c)=d by lia];exact P)⟩
  generalize u:t.probe _ h (st.getD (t.probeStart h))=met;have H:∀i (hi:i<es.size),es[i].1=h->∃m,m<e/\t.slot (JD t m (t.probeStart h)).j=.live i:=λi hi v=>by
   obtain⟨n,R,n2⟩:=T.ways i ();rw[Fx hi,v] at R n2;refine⟨n,?_,by rw[R];exact Fj T.up () rfl⟩;rcases UL n e with q|q|q
   .exact q
   .subst q;exact Zn ⟨i,(),R.symm⟩ l
   .exact Zn (n2 e q) l
  rcases B _ (λi=>rfl) with ⟨m,i,c1,S,U,c4,c5,c6⟩|⟨c1,S⟩
  .have X:=u.symm.trans c5;subst X;obtain⟨i2,k1,k2,k3⟩:=live m S;rw[U] at k1;cases k1;have v:es[i].1=h:=by rw[<- Cc k2];exact c4
   dsimp only;have rest:YC prog w A (do
    let some (_,y):=es[i]? | unsupported "internal:set-entry"
    let j <- holding [y] (eqBool y x)
    let (es',_,t') <- setState a
    if true&&j then return SetFound.there none
    let some same:=t'.sameMemory t.moves t.mask|unsupported "set.changed-during-lookup:is-the-new-block-at-the-old-address"
    let C <- match (if same then t'.slot (JD t m (t.probeStart h)).j else .empty) with
     | .live f=>match es'[f]? with
      |some (_,y')=>do pure (if <- isSame y' y then some f else none)
      |none=>pure none
     |_=>pure none
    match C with
    |none=>rule "set.search.anew";setSearchFrom a x h true fuel none
    |some f=>if j then return .there (some f) else setSearchFrom a x h true fuel (some (JD t (m+1) (t.probeStart h)))) Q E s:=by
    rw[Uo k2];dsimp only;refine Za (wpAny_holding (hq i k2 v _ ?_));refine Za (wpAny_setState_of M N T.fits ?_);dsimp only;cases hs:same es[i].2 with
    |true =>
     simp only[Bool.and_self,if_true];exact Zb (G i k2 v hs)
    |false =>
     simp only[Vl,Ud,if_false];have Y:t.sameMemory t.moves t.mask=some true:=by unfold SetTable.sameMemory;rw[Zd (beq_self_eq_true _)]
     rw[Y];dsimp only;simp only[if_true];rw[U];dsimp only;rw[Uo k2];dsimp only;obtain⟨b,hb⟩:=hr i k2;have Z:∀{Q':Bool->Yv},Q' true s->YC prog w A (isSame es[i].2 es[i].2) Q' E s:=λ{Q'} hq'=>by
      rw[hb];unfold isSame;dsimp only;rw[Zd (beq_self_eq_true _)];exact Zb hq'
     refine Za (Z ?_);simp only[if_true];refine Za (Zb ?_);dsimp only;refine Fz M N T p hq hr hsn he F l G r fuel (m+1) _ () () rfl λd f I hm' L J=>?_;by_cases d1:d<c
     .exact hno d f I d1 L J
     .by_cases d2:d=m
      .subst d2;rw[U] at L;cases L;exact hs
      .exact Zn (by rw[Cc I];exact J) (c6 d f () () L)
   cases K:t.led with
   |true =>
    rw[Ze ()];exact rest
   |false =>
    rw[Zd ()];rcases hsn with z|hsn
    .rw[z] at K;cases K
    .refine Za (hsn _ ?_);rw[Ze ()];exact rest
  .have X:=u.symm.trans c1;subst X;dsimp only;refine Zb (r λi hi v=>?_);obtain⟨m,m1,m2⟩:=H i hi v;by_cases d1:m<c
   .exact hno m i hi d1 m2 v
   .exact Zn (by rw[Cc hi];exact v) (S m i () m1 m2)
def NO {a:Addr}{o:Obj}{es:Array (Int×Value)}{ep:Nat}{t:Yw}{x:Value}{h:Int}{same:Value->Bool}{Q:SetFound->Yv}
 (q:s.heap.get? a=some o) (r:o.data=.set es ep t) (T:TabOk t (es.map (·.1))) (c:t.mask % 2=1) (C:t.mask<=9000)
 (u:∀i (hi:i<es.size),es[i].1=h->∀Q:Bool->Yv,Q (same es[i].2) s->YC prog w A (eqBool es[i].2 x) Q E s)
 (v:∀i (hi:i<es.size),∃b,es[i].2=.ref b)
 (j:t.led=true\/∀Q:Bool->Yv,Q false s->YC prog w A (searchCouldBeSeen x ((es.filter (·.1 == h)).toList.map (·.2))) Q E s)
 (l:∀i (hi:i<es.size),es[i].1=h->same es[i].2=true->Q (.there none) s)
 (d:(∀i (hi:i<es.size),es[i].1=h->same es[i].2=false)->∀y,y<=t.mask->¬xl t y->zh t (xl t) h y->Q (.free y false) s):
 YC prog w A (setSearch a x h true) Q E s:=by
 obtain⟨e,p,f,g⟩:=N6 T h;have B:(JD t e (t.probeStart h)).j<=t.mask:=NN (NM t h) e;unfold setSearch;exact Fz q r T c u v j p f g l (λz=>d z _ B g ⟨e,rfl,f⟩) 100000 0 none (Uc _) (by unfold SetTable.turns at p;lia) rfl λm i hi n=>Zn n (Us _)
open PySem
theorem F6:∀(fuel a n:Nat),a<=SetTable.sizeAbove.go n fuel a
 | 0,a,n=>by unfold SetTable.sizeAbove.go;exact Zf _
 |fuel+1,a,n=>by
  unfold SetTable.sizeAbove.go
  split
  .exact Zh () (F6 fuel (a*2) n)
  .exact Zf _
def NP (n:Nat):8<=SetTable.sizeAbove n:=F6 64 8 n
def NQ {m k:Nat}(h:m+1=2 ^ k)(a:7<=m):m % 2=1:=by
 cases k with
 |zero=>rw[Nat.pow_zero] at h;lia
 |succ k=>rw[Va] at h;lia
def NR {b:Yg}{n:Nat}(m:∀k,k<b.size->b.getD k 0<n)(o:∀k l,k<b.size->l<b.size->b.getD k 0=b.getD l 0->k=l)(p:∀i,i<n->∃k,k<b.size/\b.getD k 0=i):b.toList.Perm (List.range n):=by
 have q:b.toList.Nodup:=by
  unfold List.Nodup;rw[List.pairwise_iff_getElem];intro i j hi r t e;have c:i<b.size:=by simpa using hi
  have d:j<b.size:=by simpa using r
  have:=o i j c d (by rw[Q3 c,Q3 d];simpa using e);lia
 refine List.perm_iff_count.mpr λa=>?_;rw[q.count,List.nodup_range.count];have:a∈b.toList↔a∈List.range n:=by
  rw[List.mem_range];constructor
  .intro h;obtain⟨k,g,e⟩:=UE h;have f:k<b.size:=by simpa using g
   have:=m k f;rw[Q3 f] at this;have e:b[k]=a:=by simpa using e
   lia
  .intro h;obtain⟨k,g,e⟩:=p a h;rw[Q3 g] at e;rw[<- e,VE];exact VF g
 simp only[this]
def NS {α: Type}{es:Array α}{a:Yg}(d:α)(c:∀k,k<a.size->a.getD k 0<es.size):(a.filterMap (es[·]?))=a.map λi=>es.getD i d:=by
 apply Array.toList_inj.mp;rw[Array.toList_filterMap,Array.toList_map];have:∀l:Yh,(∀i∈l,i<es.size)->l.filterMap (es[·]?)=l.map λi=>es.getD i d:=by
  intro l
  induction l with
  |nil=>intro _;rfl
  |cons i l f =>
   intro h;rw[Ut,Zl,Uo (h i Zqs)];dsimp only;rw[f λj g=>h j (Zqm _ g),Q3 (h i Zqs)]
 refine this _ λi hi=>?_;obtain⟨k,m,e⟩:=UE hi;have b:k<a.size:=by simpa using m
 have:=c k b;rw[Q3 b] at this;have e:a[k]=i:=by simpa using e
 lia
structure SetIs (hp:Heap)(a:Addr)(es:Array (Int×Value))(t:Yw):Prop where
 at_:∃ep,hp.get? a=some { cls:=.type "set",dict:=none,data:=.set es ep t,slots:=#[] }
 tab:TabOk t (es.map (·.1))
 seven:7<=t.mask
 most:t.mask<=8*es.size+7
 room:es.size*5<t.mask*3
 refs:∀i (hi:i<es.size),∃b,es[i].2=.ref b
def SetIs.odd {hp:Heap}{a:Addr}{es:Array (Int×Value)}{t:Yw}(S:SetIs hp a es t):t.mask % 2=1:=by
 obtain⟨k,b⟩:=S.tab.pow;exact NQ b S.seven
variable {prog:Program}{w:World}{A:Around}{E:Ya}{s:Shared}
def F7 {hp:Heap}{a:Addr}{es es':Array (Int×Value)}{ep:Nat}{t t':Yw}(b:hp.get? a=some { cls:=.type "set",dict:=none,data:=.set es ep t,slots:=#[] }):
 (hp.update a (Obj.putSet es' t')).get? a=some { cls:=.type "set",dict:=none,data:=.set es' (ep+1) t',slots:=#[] }:=by
 have e:=putSet_of (o:={ cls:=.type "set",dict:=none,data:=.set es ep t,slots:=#[] }) es' t' rfl;have:=Heap.get?_update_self (Obj.putSet es' t') b (by rw[e];rfl);rw[e] at this;exact this
def NT {α β: Type}(f:α -> β)(xs:Array α)(p:Nat)(x:α):(SetTable.insertAt xs p x).map f=SetTable.insertAt (xs.map f) p (f x):=by
 unfold SetTable.insertAt;simp
def NU {a:Addr}{es:Array (Int×Value)}{ep:Nat}{t:Yw}{Q:Unit->Yv}
 (g:s.heap.get? a=some { cls:=.type "set",dict:=none,data:=.set es ep t,slots:=#[] }) (T:TabOk t (es.map (·.1))) (R:1<=es.size) (S:es.size<=1000) (z:∀i (hi:i<es.size),∃b,es[i].2=.ref b)
 (h:∀es' t',es'.toList.Perm es.toList->t'.led=t.led->t'.plain=t.plain->SetIs (s.heap.update a (Obj.putSet es' t')) a es' t'->Q Yq { s with heap:=s.heap.update a (Obj.putSet es' t') }):
 YC prog w A (setRelay a (SetTable.grown es.size)) Q E s:=by
 have B:SetTable.grown es.size=es.size*4:=by unfold SetTable.grown;rw[Ze ()]
 have C:=NI (es.size*4);obtain⟨_,F⟩:=Fv (n:=es.size*4) ();have G:=NP (es.size*4);obtain⟨t',c,e,H,I,U,p,f,J,q,K⟩:=NJ (t:=t) (hs:=es.map (·.1)) (wanted:=es.size*4) (by rw[Uq];lia) ();rw[Uq] at p f q;rw[B];unfold setRelay;refine Za (wpAny_setState_of g rfl T.fits ?_);dsimp only;rw[Ze (by rw[sizeLine_eq];lia)];rw[e];have r:=NS (es:=es) (0,Value.none) f;have d:(c.filterMap (es[·]?)).size=es.size:=by rw[r,Uq];exact p
 have l:(c.filterMap (es[·]?)).toList.Perm es.toList:=by
  rw[Array.toList_filterMap];exact((NR f J q).filterMap _).trans (by rw[filterMap_getElem?_range])
 have u:(c.filterMap (es[·]?)).map (·.1)=c.map λi=>(es.map (·.1)).getD i 0:=by
  rw[r,Array.map_map];apply Array.map_congr_left;intro i hi;obtain⟨k,v,L⟩:=Array.getElem_of_mem hi;have:=f k v;rw[Q3 v,L] at this;show(es.getD i (0,Value.none)).1=_;rw[Q3 this,Fx this]
 have x:TabOk t' ((c.filterMap (es[·]?)).map (·.1)):=by rw[u];exact K
 have y:∀i (hi:i<(c.filterMap (es[·]?)).size),∃b,(c.filterMap (es[·]?))[i].2=.ref b:=λi hi=>by
  have M:(c.filterMap (es[·]?))[i]∈es.toList:=l.mem_iff.mp (by rw[VE];exact VF hi);obtain⟨j,N,O⟩:=UE M;have m:j<es.size:=by simpa using N
  obtain⟨b,P⟩:=z j m;refine⟨b,?_⟩;rw[<- O];simpa using P
 have o:¬((c.filterMap (es[·]?)).size != es.size)=true:=by rw[d];simp
 refine Za (wpAny_of_eq (a:=(c.filterMap (es[·]?),t')) ?_ ?_)
 .show(if((c.filterMap (es[·]?)).size != es.size)=true then _ else _)=_;rw[Ze o]
 .dsimp only;generalize c.filterMap (es[·]?)=es' at d l x y u;refine wpAny_storeSet_of g rfl ?_ (by rw[sizeLine_eq];lia);refine h es' t' l H I ⟨⟨ep+1,?_⟩,x,(),(),(),y⟩;exact F7 g
def NV {es es':Array (Int×Value)}(c:∀i (hi:i<es.size),∃b,es[i].2=.ref b){x:Value}{h:Int}{b:Addr}(hx:x=.ref b)(d:es'.toList.Perm (es.toList++[(h,x)])):∀i (hi:i<es'.size),∃b,es'[i].2=.ref b:=λi hi=>by
 have e:es'[i]∈es.toList++[(h,x)]:=d.mem_iff.mp (by rw[VE];exact VF hi);rcases Jc.mp e with z|z
 .obtain⟨j,f,g⟩:=UE z;have a:j<es.size:=by simpa using f
  obtain⟨b,l⟩:=c j a;refine⟨b,?_⟩;rw[<- g];simpa using l
 .rw[Vt.mp z];exact⟨b,hx⟩
def NW {a:Addr}{es:Array (Int×Value)}{t:Yw}{x:Value}{b:Addr}{h:Int}{same:Value->Bool}{Q:Bool->Yv}
 (S:SetIs s.heap a es t) (hx:x=.ref b) (hl:es.size+1<=1000)
 (P:∀i (hi:i<es.size),es[i].1=h->∀Q:Bool->Yv,Q (same es[i].2) s->YC prog w A (eqBool es[i].2 x) Q E s)
 (G:t.led=true\/∀Q:Bool->Yv,Q false s->YC prog w A (searchCouldBeSeen x ((es.filter (·.1 == h)).toList.map (·.2))) Q E s)
 (H:∀Q:Bool->Yv,Q true s->YC prog w A (hashByValue 8 x) Q E s)
 (I:∀i (hi:i<es.size),es[i].1=h->same es[i].2=true->Q false s)
 (j:(∀i (hi:i<es.size),es[i].1=h->same es[i].2=false)->∀h' es' t',Heap.SameBut a s.heap h'->SetIs h' a es' t'->es'.toList.Perm (es.toList++[(h,x)])->t'.led=t.led->t'.plain=t.plain->Q true { s with heap:=h' }):
 YC prog w A (setAddHashed a x h) Q E s:=by
 obtain⟨ep,o⟩:=S.at_;have J:t.mask<=9000:=by have:=S.most;lia
 unfold setAddHashed setAddHashedIn;refine wpAny_holding (Za (wpAny_setState_of o rfl S.tab.fits ?_));dsimp only;have R:byScan x es=false:=by subst hx;rfl
 rw[R];simp only[Ud,if_false];refine Za (NO o rfl S.tab S.odd J P S.refs G (λi hi T U=>Zb (I i hi T U)) λq y X Y hw=>?_);dsimp only;refine Za (wpAny_setState_of o rfl S.tab.fits ?_);dsimp only;have hsz:t.place.size=es.size:=by have:=S.tab.size;rwa [Uq] at this
 have K:=S.room;have C:=S.seven;obtain⟨l,e,r⟩:=N7 S.tab X Y hw ();rw[Uq] at e;have f:(t.put y).1.led=t.led:=rfl;have g:(t.put y).1.plain=t.plain:=rfl;generalize O:t.put y=tp at l e r f g;obtain⟨d,p⟩:=tp;dsimp only at l e r f g ⊢;have Z:(SetTable.insertAt es p (h,x)).map (·.1)=SetTable.insertAt (es.map (·.1)) p h:=NT _ _ _ _;rw[<- Z] at l;have F:(SetTable.insertAt es p (h,x)).toList.Perm (es.toList++[(h,x)]):=by
  have:=SetTable.insertAt_perm es p (h,x)
  rwa [Array.toList_push] at this
 have u:(SetTable.insertAt es p (h,x)).size=es.size+1:=BX es e _;have n:=NV S.refs hx F;generalize SetTable.insertAt es p (h,x)=es1 at l F u n;have m:YC prog w A (do
  storeSet a es1 d
  if !false&&d.tooFull then setRelay a (SetTable.grown (es.size+1))
  return true) Q E s:=by
  refine Za (wpAny_storeSet_of o rfl ?_ (by rw[sizeLine_eq];lia));have v:=F7 (es':=es1) (t':=d) o;have B:=Heap.SameBut.update s.heap a (Obj.putSet es1 d);by_cases c:d.tooFull=true
  .rw[Zd (by rw[c];rfl)];rw[<- u];refine Za (NU v l () () n λL t2 M l2 p2 S2=>?_);refine Zb (j q _ L t2 (B.trans (Heap.SameBut.update _ a _)) S2 (M.trans F) (l2.trans f) (p2.trans g))
  .rw[Ze (by simpa using c)];have N:¬(d.fill*5 ≥ d.mask*3):=by
    intro z;exact c (by unfold SetTable.tooFull;exact Zp z)
   have hfl:d.fill=es1.size:=by
    unfold SetTable.fill;have:=l.size;rw[Uq] at this;rw[this,l.nod];rfl
   have S1:SetIs (s.heap.update a (Obj.putSet es1 d)) a es1 d:=⟨⟨ep+1,v⟩,l,(),by have:=S.most;lia,(),n⟩;exact Zb (j q _ es1 d B S1 F f g)
 split
 .refine Za (H _ ?_);simp only[if_true];exact m
 .refine Za (Zb ?_);simp only[if_true];exact m
open PySem
variable {prog:Program}{w:World}{A:Around}{E:Ya}{s:Shared}
inductive HashAll (prog:Program)(w:World)(A:Around)(E:Ya)(s:Shared):Yd->List Int->Prop
 |nil:HashAll prog w A E s [] []
 |cons {v:Value} {vs:Yd} {h:Int} {hs:Yf}:(∀(tk:Nat) (Q:Int->Yv),(∀tk',tk<=tk'->Q h { s with toks:=tk' })->YC prog w A (pyHash v) Q E { s with toks:=tk })->HashAll prog w A E s vs hs->HashAll prog w A E s (v::vs) (h::hs)
def Cd (hs:Yf):Int:=reduceHash (Builtin.Tuple.tupleHashOf hs)
def F8 (j:s.heap.get? a=some o)(l:o.cls=.type "tuple")(m:o.data=.seq items n)(p:A.units<cLine)
 (H:HashAll prog w A.in1 E s items.toList hs) (h:∀tk,tk0<=tk->Q (Cd hs) { s with toks:=tk }):YC prog w A (pyHash (.ref a)) Q E { s with toks:=tk0 }:=by
 have q:Shared.TypeIs { s with toks:=tk0 } (.ref a) "tuple" := ⟨o,j,l⟩;unfold pyHash;refine W.pyHash_slot (T:= "tuple") q F.slot_tuple_hash F.entry_tuple_hash (F.args_tuple_hash_1 _) (beq_builtin_none _) (.inr p) ?_;show wpAny _ _ (Builtin.Tuple.tupleItemsOf (.ref a) >>= _) _ _ _;refine Za (wpAny_tupleItemsOf j m ?_);refine Za ?_;rw[<- Vi];refine wpAny_forIn_list _ (λrest (b:Array Int) s'=>∃left tk,HashAll prog w A.in1 E s rest left/\b.toList++left=hs/\s'={ s with toks:=tk }/\tk0<=tk) _ ?_ ?_ _ _ ⟨hs,tk0,H,rfl,rfl,Zf _⟩
 .rintro x rest b s' ⟨left,tk,f,e,rfl,c⟩;cases f with
  |cons r g =>
   refine Za (r tk _ λi d=>?_);exact Zb ⟨_,i,g,by simp[<- e],rfl,Zh c d⟩
 .rintro b s' ⟨left,tk,f,e,rfl,c⟩;cases f;rw[ZA] at e;show wpAny _ _ (retInt (Builtin.Tuple.tupleHashOf b.toList)) _ _ _;rw[e];exact Za (wpAny_mkInt (Zb ⟨_,_,rfl,h _ (Nat.le_succ_of_le c)⟩))
theorem F9:∀{vs:Yd} {ns:Yf},PyProof.Rows.IntsAre vs ns->HashAll prog w A E s vs (ns.map hashInt)
 |_,_,.nil=>.nil
 |_,_,.cons n t r=>.cons (λtk Q h=>wpAny_pyHash_int (h _ (Nat.le_succ tk))) (F9 r)
inductive PlainV (hp:Heap):Nat->Value->Prop
 |int (n:Nat) (i:Int) (t:Tok):PlainV hp n (.int i t)
 |tup {n:Nat} {a:Addr} {o:Obj} {items:Yl} {k:Nat}:hp.get? a=some o->o.cls=.type "tuple" -> o.data=.seq items k->(∀v∈items.toList,PlainV hp n v)->PlainV hp (n+1) (.ref a)
def NX (p:PlainV s.heap n v):∀(d:Nat) (Q:Bool->Yv),n<=d->Q true s->YC prog w A (hashByValue d v) Q E s:=by
 induction p with
 |int n i t =>
  intro d Q _ h;cases d<;>exact Zb h
 |tup c f g _ j =>
  intro d Q m h;cases d with
  |zero=>lia
  |succ d =>
   have l:Shared.TypeIs s (.ref _) "tuple" := ⟨_,c,f⟩;unfold hashByValue;refine Za (wpAny_specialOf l F.slot_tuple_hash.lookup ?_);dsimp only;refine Za (wpAny_seqItems c g ?_);refine Za ?_;show wpAny _ _ (forIn _ _ _) _ _ _;rw[Option.getD_some,<- Vi];refine wpAny_forIn_list _ (λrest r s'=>r.1=none/\s'=s/\∀v∈rest,v∈_) _ ?_ ?_ _ _ ⟨rfl,rfl,λv a=>a⟩
   .rintro x rest r s' ⟨b,rfl,e⟩;refine Za (j x (e x Zqs) d _ () ?_);simp only[UI,Ud,if_false];exact Zb ⟨rfl,rfl,λv a=>e v (Zqm _ a)⟩
   .rintro⟨o,q⟩ s' ⟨b,rfl,_⟩;simp only at b;subst b;exact Zb h
def FB (p:PlainV s.heap n v):∀(d:Nat) (Q:Bool->Yv),n<=d->Q true s->YC prog w A (eqIsQuiet d v) Q E s:=by
 induction p with
 |int n i t =>
  intro d Q _ h;exact wpAny_of_eq (eqIsQuiet_byValue d rfl) h
 |tup c g j _ l =>
  intro d Q m h;cases d with
  |zero=>lia
  |succ d =>
   have e:Shared.TypeIs s (.ref _) "tuple" := ⟨_,c,g⟩;unfold eqIsQuiet;refine Za (wpAny_specialOf e F.slot_tuple_eq.lookup ?_);dsimp only;refine Za (wpAny_isInstance e isSubtype_tuple_tuple ?_);simp only[UI,Ud,if_false];refine Za (wpAny_seqItems c j ?_);refine Za ?_;show wpAny _ _ (forIn _ _ _) _ _ _;rw[Option.getD_some,<- Vi];refine wpAny_forIn_list _ (λrest r s'=>r.1=none/\s'=s/\∀v∈rest,v∈_) _ ?_ ?_ _ _ ⟨rfl,rfl,λv a=>a⟩
   .rintro x rest r s' ⟨b,rfl,f⟩;refine Za (l x (f x Zqs) d _ () ?_);simp only[UI,Ud,if_false];exact Zb ⟨rfl,rfl,λv a=>f v (Zqm _ a)⟩
   .rintro⟨o,q⟩ s' ⟨b,rfl,_⟩;simp only at b;subst b;exact Zb h
def FC (p:PlainV s.heap n v):∀(d:Nat) (Q:Bool->Yv),n<=d->Q false s->YC prog w A (ofAClassStatement d v) Q E s:=by
 induction p with
 |int n i t =>
  intro d Q _ h;cases d<;>exact Zb h
 |tup c f g _ j =>
  intro d Q m h;cases d with
  |zero=>lia
  |succ d =>
   have l:Shared.TypeIs s (.ref _) "tuple" := ⟨_,c,f⟩;unfold ofAClassStatement;refine Za (wpAny_typeOf l ?_);dsimp only;rw[Zd (by decide)];refine Za (Zb ?_);simp only[UI,Ud,if_false];refine Za (wpAny_seqItems c g ?_);dsimp only;refine Za ?_;show wpAny _ _ (forIn _ _ _) _ _ _;rw[<- Vi];refine wpAny_forIn_list _ (λrest r s'=>r.1=none/\s'=s/\∀v∈rest,v∈_) _ ?_ ?_ _ _ ⟨rfl,rfl,λv a=>a⟩
   .rintro x rest r s' ⟨b,rfl,e⟩;refine Za (j x (e x Zqs) d _ () ?_);simp only[Ud,if_false];exact Zb ⟨rfl,rfl,λv a=>e v (Zqm _ a)⟩
   .rintro⟨o,q⟩ s' ⟨b,rfl,_⟩;simp only at b;subst b;exact Zb h
def NY (a:n<=8)(d:PlainV s.heap n x)(g:∀y∈ys,PlainV s.heap n y)(h:Q false s):YC prog w A (searchCouldBeSeen x ys) Q E s:=by
 unfold searchCouldBeSeen;refine Za ?_;refine wpAny_forIn_list _ (λrest r s'=>r.1=none/\s'=s/\∀v∈rest,v∈ys) _ ?_ ?_ _ _ ⟨rfl,rfl,λv b=>b⟩
 .rintro y rest r s' ⟨c,rfl,e⟩;have f:=g y (e y Zqs);have nx:∀v∈rest,v∈ys:=λv b=>e v (Zqm _ b);dsimp only
  split
  all_goals
   split
   .exact Zb ⟨rfl,rfl,nx⟩
   .refine Za (FB d 8 _ a ?_);simp only[UI,Ud,if_false];refine Za (FB f 8 _ a ?_);simp only[UI,Ud,if_false];refine Za (FC d 8 _ a ?_);simp only[Ud,if_false];refine Za (FC f 8 _ a ?_);simp only[Ud,if_false];exact Zb ⟨rfl,rfl,nx⟩
 .rintro⟨i,j⟩ s' ⟨c,rfl,_⟩;simp only at c;subst c;exact Zb h
structure KeyFam (prog:Program)(w:World)(hp:Heap)(PV:Value->Prop)(hsh:Value->Int)(same:Value->Value->Bool):Prop where
 ref:∀v,PV v->∃b,v=.ref b
 plain:∀v,PV v->PlainV hp 8 v
 hash:∀v,PV v->∀(A:Around) (E:Ya) (s:Shared) (Q:Int->Yv),(∀b o,hp.get? b=some o->s.heap.get? b=some o)->A.units+8<cLine->(∀tk,s.toks<=tk->Q (hsh v) { s with toks:=tk })->YC prog w A (pyHash v) Q E s
 eq:∀v u,PV v->PV u->∀(A:Around) (E:Ya) (s:Shared) (Q:Bool->Yv),(∀b o,hp.get? b=some o->s.heap.get? b=some o)->A.units+8<cLine->Q (same v u) s->YC prog w A (eqBool v u) Q E s
 coh:∀v u,PV v->PV u->same v u=true->hsh v=hsh u
def PlainV.keep (k:∀b o,hp.get? b=some o->hp'.get? b=some o)(p:PlainV hp n v):PlainV hp' n v:=by
 induction p with
 |int n i t=>exact .int n i t
 |tup a c d _ e=>exact .tup (k _ _ a) c d e
def VV (same:Value->Value->Bool)(D:Yd)(v:Value):Yd:=if D.any (same · v) then D else D++[v]
def qZ (same:Value->Value->Bool)(val:Nat->Value)(i:Nat):Yd:=((List.range i).map val).foldl (VV same) []
def Af (same:Value->Value->Bool)(val:Nat->Value)(i:Nat):qZ same val (i+1)=VV same (qZ same val i) (val i):=by
 unfold qZ;rw[List.range_succ,Uh,Vj];rfl
theorem FD (same:Value->Value->Bool)(val:Nat->Value):∀i,(qZ same val i).length<=i
 | 0=>Zf _
 |i+1=>by
  have:=FD same val i;rw[Af];unfold VV
  split
  .omega
  .rw[Ua,Uv];lia
theorem Ce (same:Value->Value->Bool)(val:Nat->Value):∀i v,v∈qZ same val i->∃j,j<i/\v=val j
 | 0,v,h=>by cases h
 |i+1,v,h=>by
  rw[Af] at h;unfold VV at h
  split at h
  .obtain⟨j,a,e⟩:=Ce same val i v h;exact⟨j,(),e⟩
  .rcases Jc.mp h with z|z
   .obtain⟨j,a,e⟩:=Ce same val i v z;exact⟨j,(),e⟩
   .exact⟨i,(),Vt.mp z⟩
def Holds (a:Value->Int)(hp:Heap)(S:Addr)(ld:Bool)(D:Yd):Prop:=∃es t,SetIs hp S es t/\es.toList.Perm (D.map λv=>(a v,v))/\t.led=ld/\t.plain=true
section
variable {prog:Program}{w:World}{A:Around}{E:Ya}{s:Shared}
def NZ {hp:Heap}{p:Value->Prop}{a:Value->Int}{same:Value->Value->Bool}(K:KeyFam prog w hp p a same){S:Addr}{ld:Bool}{D:Yd}{x:Value}{Q:Bool->Yv}
 (q:∀b o,hp.get? b=some o->s.heap.get? b=some o) (M:A.units+8<cLine) (H:Holds a s.heap S ld D) (r:∀v∈D,p v) (hx:p x) (Y:D.length<=999)
 (h:∀h' b,Heap.SameBut S s.heap h'->Holds a h' S ld (VV same D x)->Q b { s with heap:=h' }):YC prog w A (setAddHashed S x (a x)) Q E s:=by
 obtain⟨es,t,G,f,g,j⟩:=H;obtain⟨b,N⟩:=K.ref x hx;have I:es.size=D.length:=by
  have:=f.length_eq;rw[Zql,Ui] at this;exact this
 have c:∀i (hi:i<es.size),es[i].2∈D/\es[i].1=a es[i].2:=λi hi=>by
  have u:es[i]∈D.map λv=>(a v,v):=f.mem_iff.mp (by rw[VE];exact VF hi);obtain⟨v,d,e⟩:=Ja.mp u;rw[<- e];exact⟨d,rfl⟩
 have l:∀v∈D,∃i,∃hi:i<es.size,es[i]=(a v,v):=λv d=>by
  have u:(a v,v)∈es.toList:=f.mem_iff.mpr (Ja.mpr ⟨v,d,rfl⟩);obtain⟨i,hi,e⟩:=UE u;exact⟨i,by simpa using hi,by simpa using e⟩
 have J:=(K.plain x hx).keep q;refine NW (same:=λy=>same y x) G N () (λi hi _ n m=>K.eq _ _ (r _ (c i hi).1) hx A E s n q M m) (.inr λn m=>?_) (λn m=>NX J 8 n (Zf _) m) (λi hi Z O=>?_) λB h' es' t' P R C T U=>?_
 .refine NY (Zf 8) J (λy X=>?_) m;obtain⟨e,F,rfl⟩:=Ja.mp X;have F:e∈es:=by
   have:=VE.mp F;exact(Array.mem_filter.mp this).1
  obtain⟨i,hi,rfl⟩:=Array.getElem_of_mem F;exact(K.plain _ (r _ (c i hi).1)).keep q
 .have e:VV same D x=D:=Zd (U9.mpr ⟨_,(c i hi).1,O⟩);have:=h s.heap false (Heap.SameBut.refl S s.heap) ⟨es,t,G,by rw[e];exact f,g,j⟩;exact this
 .have e:VV same D x=D++[x]:=Ze λz=>by
   obtain⟨v,d,hs⟩:=U9.mp z;obtain⟨i,hi,L⟩:=l v d;have:=B i hi (by rw[L];exact K.coh v x (r v d) hx hs);rw[L] at this;rw[hs] at this;cases this
  refine h h' true P ⟨es',t',R,?_,T.trans g,U.trans j⟩;rw[e,Uh];exact C.trans (f.append_right _)
end
section
variable {prog:Program}{w:World}{A:Around}{R:Result->Yv}{I:Addr}{fp wr:Yj}{G:Array GenState->Array GenState->Prop}{n:Nat}{P:Nat->Value->Prop}{St:Nat->Yv}
def Holds.keep {b:Value->Int}{hp hp':Heap}{S:Addr}{ld:Bool}{D:Yd}(H:Holds b hp S ld D)(k:∀o,hp.get? S=some o->hp'.get? S=some o):Holds b hp' S ld D:=by
 obtain⟨es,t,a,r⟩:=H;obtain⟨ep,c⟩:=a.at_;exact⟨es,t,⟨⟨ep,k _ c⟩,a.tab,a.seven,a.most,a.room,a.refs⟩,r⟩
def Oa (W:WalksS prog w A.in1 I fp wr G n P St)(S:Addr)(p:S∉fp)(q:∀b o,hp.get? b=some o->b∉wr/\b≠S)
 {L:Value->Prop} {d:Value->Int} {same:Value->Value->Bool} (K:KeyFam prog w hp L d same) (val:Nat->Value) (r:∀i v,P i v->v=val i) (t:∀i,i<n->L (val i)) (hn:n<=999) (U:A.in1.units+8<cLine) (ld:Bool):
 ∀(k i:Nat) (s:Shared),n-i=k->i<=n->St i s->(∀b o,hp.get? b=some o->s.heap.get? b=some o)->Holds d s.heap S ld (qZ same val i) ->
  (∀s',Moved (S::wr) G s s'->Holds d s'.heap S ld (qZ same val n)->R (.ok (.ret .none)) s') ->
  codeAny (model prog w) A (.builtin "set.update.loop" ⟨[.ref S,.ref I],[]⟩) R s:=by
 have x:S∉wr:=λh=>p (W.sub _ h);have c:∀b∈wr,b∈S::wr:=λb y=>Zqm _ y;intro k
 induction k with
 |zero =>
  intro i s X hi f z H M;have N:i=n:=()
  subst N;refine codeAny_builtin F.entry_set_update_loop ?_;rw[Around.under_plainId F.plain_set_update_loop _];show wpAny _ A.in1 (pyNext (.ref I) >>= _) _ _ s;refine Za (W.done s _ _ f λs' m=>?_);show wpAny _ A.in1 (ret Value.none) _ _ s';exact Zb (M s' (m.mono c) (H.keep λo e=>m.heap S _ x e))
 |succ k ih =>
  intro i s X hi f z H M;have g:i<n:=()
  refine codeAny_builtin F.entry_set_update_loop ?_;rw[Around.under_plainId F.plain_set_update_loop _];show wpAny _ A.in1 (pyNext (.ref I) >>= _) _ _ s;refine Za (W.item i s _ _ g f λv s' hP B m=>?_);have Y:=r i v hP;have H':=H.keep (hp':=s'.heap) λo e=>m.heap S _ x e;have a:∀b o,hp.get? b=some o->s'.heap.get? b=some o:=λb o e=>m.heap b o (q b o e).1 (z b o e);have Z:L v:=by rw[Y];exact t i g
  show wpAny _ A.in1 (holding [v] (setAdd S v) >>= _) _ _ s';refine Za (wpAny_holding ?_);unfold setAdd;refine wpAny_holding ?_;refine Za (K.hash v Z _ _ _ _ a U λtk C=>?_);have hl:=FD same val i;refine NZ K (s:={ s' with toks:=tk }) a U H' (λu O=>?_) Z () λh' b l H2=>?_
  .obtain⟨j,hj,e⟩:=Ce same val i u O;rw[e];exact t j ()
  .rw[Y,<- Af] at H2;refine Zb ⟨plainId_quiet F.plain_set_update_loop _,ih (i+1) _ (by rw[Nat.sub_succ,X];rfl) g (W.frame _ s' _ _ B ?_ λb y o e=>?_) (λb o e=>?_) H2 λQ J T=>?_⟩
   .exact C
   .rw[l.2 b (λh:b=S=>p (by rw[<- h];exact y))];exact e
   .rw[l.2 b (q b o e).2];exact a b o e
   .refine M Q (Moved.trans W.gtrans ((m.mono c).then_heap ?_ λb o y e=>?_) J) T
    .exact C
    .rw[l.2 b (λh:b=S=>y (by rw[h];exact Zqs))];exact e
end
def Ob (led:Bool):TabOk (SetTable.fresh 0 0 led) ((#[]:Array (Int×Value)).map (·.1)):=by
 refine⟨by rw[Uq];rfl,λi j _ h=>Zn h (Us _),λi h=>Zn h (Us _),rfl,⟨3,rfl⟩,Uc _,λi h=>Zn h (Us _)⟩
def Oc (a:hp.get? S=some { cls:=.type "set",dict:=none,data:=.set #[] 0 (.fresh 0 0 led) }):Holds hsh hp S led []:=
 ⟨#[],.fresh 0 0 led,⟨⟨0,a⟩,Ob led,Zf _,Zf _,(show 0*5<7*3 by decide),λi h=>Zn h (Us _)⟩,Vq _,rfl,rfl⟩
section
variable {prog:Program}{w:World}{A:Around}{E:Ya}{s:Shared}
def xI (w:World):Bool:=!w.params.followText "set-order"
def Od (a:Value)
 (h:Q₁ (.ref s.heap.objs.size) { s with heap:=s.heap.push { cls:=.type "set",dict:=none,data:=.set #[] 0 (.fresh 0 0 (xI w)) } }):
 codeAny (model prog w) A (.call (.builtin "set.__new__") ⟨[.type "set",a],[]⟩) (wants Q₁ E) s:=by
 refine codeAny_of_tree ?_;show wpAny _ A.in1 (do checkBuiltinCall "set.__new__" ⟨[.type "set",a],[]⟩;again (.builtin "set.__new__" ⟨[.type "set",a],[]⟩)) _ _ s;refine Za (wpAny_of_eq (F.newCall_set_1 a) (Zb ⟨plainId_quiet F.plain_set_new _,codeAny_builtin F.entry_set_new ?_⟩));rw[Around.under_plainId F.plain_set_new _];unfold Builtin.«set.__new__» Builtin.Frozenset.newClass;have b:=sub_set_self;obtain⟨hp,g,d,tk,os⟩:=s;dsimp only
 wp_walk
 refine wpAny_askSetting (Zb ?_);dsimp only;simp only[newObj];refine Za (wpAny_alloc (Zb ?_));exact Zb h
set_option maxRecDepth 100000 in
set_option maxHeartbeats 3200000 in
def Oe {l:Addr}{a:Yl}{X:Value->Prop}{j:Value->Int}{same:Value->Value->Bool}{Q:Ya}(hh:A.handled=none)(hl:s.heap.IsList l a)(K:KeyFam prog w s.heap X j same)
 (H:∀(i:Nat) (v:Value),a[i]? = some v->X v) (hn:a.size<=999) (hu:A.in1.in1.in1.units+8<cLine)
 (h:∀(h':Heap) (tk:Nat),Holds j h' s.heap.objs.size (xI w) (qZ same (λi=>a.getD i .none) a.size)->(∀b o,b<s.heap.objs.size->s.heap.get? b=some o->h'.get? b=some o)->Q (.ref s.heap.objs.size) { s with heap:=h',toks:=tk }):
 YC prog w A (call (.type "set") [.ref l]) Q E s:=by
 have Y:=λA:Around=>Od (prog:=prog) (w:=w) (A:=A) (E:=E) (s:=s) (.ref l) (Q₁:=λp s₁=>p=.ref s.heap.objs.size/\s₁={ s with heap:=s.heap.push { cls:=.type "set",dict:=none,data:=.set #[] 0 (.fresh 0 0 (xI w)) } }) ⟨rfl,rfl⟩;generalize xI w=led at h Y;obtain⟨c,tl,Z⟩:=F.called_set.mro;have I:=F.called_set.made;have hsub:=F.called_set.sub;refine wpAny_call (codeAny_of_tree ?_);show wpAny _ _ (callAny (.type "set") _) _ _ _;refine Zb ⟨Code.quiet_builtin _ (by decide +kernel),codeAny_builtin F.entry_type_call ?_⟩;rw[Around.under_plain (weight_type_call_type "set" [.ref l] []) rfl];have h1:=F.called_set.notType;have h2:=F.called_set.canCreate;have hct:=F.typeCall_set_1 (.ref l)
 repeat (any_goals (first|assumption|wp_step))
 refine codeAny_mono (Y _) λr s₁ m=>?_;cases r with
 |error e=>exact m
 |ok J =>
  cases J with
  |ret p =>
   obtain⟨rfl,rfl⟩:=m;generalize d:({ cls:=.type "set",dict:=none,data:=.set #[] 0 (.fresh 0 0 led) }:Obj)=no at *;have hS:(s.heap.push no).get? s.heap.objs.size=some no:=Zr _ (by rw[<- d];rfl);have hT:Shared.TypeIs { s with heap:=s.heap.push no } (.ref s.heap.objs.size) "set" := ⟨_,hS,by rw[<- d]⟩;have hli:=F.called_set.init.lookup;have hbi:=F.called_set.init.bind (.ref s.heap.objs.size)
   repeat (any_goals (first|assumption|wp_step))
   refine codeAny_mono (codeAny_call_builtin (R:=wants (λr s₂=>r=.none/\∃h' tk,s₂={ s with heap:=h',toks:=tk }/\Holds j h' s.heap.objs.size led (qZ same (λi=>a.getD i .none) a.size) /\
    (∀b o,b<s.heap.objs.size->s.heap.get? b=some o->h'.get? b=some o)) E) F.called_set.init.plain F.entry_set_init (check_set_init_1 hT ?_)) λr₂ s₂ hr₂=>?_
   .obtain⟨ol,q,t,nl,u⟩:=hl;obtain⟨ocls,n,L,f⟩:=ol;simp only at t u;subst t;subst u;have x:(s.heap.push no).get? l=some { cls:=.type "list",dict:=n,data:=.seq a nl,slots:=f }:=Zq _ q;have hsls:=F.sub_list_set;have hslf:=F.sub_list_frozenset;have hne:(Value.type "list" == Value.type "dict")=false:=by decide
    have y:(s.heap.push no).IsList l a:=⟨_,x,rfl,nl,rfl⟩;subst d;unfold Builtin.«set.__init__» noKeywords Builtin.Frozenset.updateFrom;generalize M:pyIter=PI
    wp_walk
    subst M;refine wpAny_pyIter_list y ?_;refine Za (wpAny_runValue ?_);have z:l<s.heap.objs.size:=Zk q;have N:A.in1.in1.in1.handled=none:=by simp[hh]
    generalize d:({ cls:=.type "set",dict:=none,data:=.set #[] 0 (.fresh 0 0 led) }:Obj)=no at *;have g:(s.heap.push no).objs.size=s.heap.objs.size+1:=Heap.size_push ..;have B:l≠(s.heap.push no).objs.size:=by rw[g];exact Zi (UB z)
    have O:s.heap.objs.size ∉ [(s.heap.push no).objs.size,l]:=by
     simp only[UQ,Vg,or_false,not_or];exact⟨by rw[g];exact Zi (Nat.lt_succ_self _),UV z⟩
    have hw:∀(i:Nat) (v:Value),a[i]? = some v->v=(λi=>a.getD i .none) i:=λi v hv=>by
     show v=a.getD i .none;rw[US,hv];rfl
    refine Oa ((Walks.list N _ l B a).toS) s.heap.objs.size O (hp:=s.heap) (λb o e=>?_) K (λi=>a.getD i .none) hw (λi hi=>?_) hn (by exact hu) led (a.size-0) 0 _ () (Uc _)
     ⟨⟨_,Zr _ rfl,rfl,rfl⟩,(y.push _)⟩ (λb o e=>Zq _ (Zq _ e)) (Oc (by rw[d];exact Zq _ hS)) λs' G H'=>?_
    .have C:=Zk e;refine⟨?_,Zi C⟩;simp only[UQ,Vg,or_false];rw[g];exact Zi (UB C)
    .exact H i _ (by show a[i]? = some (a.getD i .none);rw[Q3 hi,Uo hi])
    .obtain⟨h',g',d',P,S⟩:=s';have eg:g'=s.gens:=G.gens;have ed:d'=s.drawn:=G.drawn;have eo:S=s.os:=G.os;subst eg;subst ed;subst eo;show wpAny _ _ _ _ _ _;refine Zb ?_;show wpAny _ _ (ret Value.none) _ _ _;refine Zb ⟨rfl,h',P,rfl,H',λb o C e=>?_⟩;exact G.heap b o (by simp only[UQ,Vg,or_false,not_or];exact⟨Zi C,by rw[g];exact Zi (UB C)⟩) (Zq _ (Zq _ e))
   .cases r₂ with
    |error e=>exact hr₂
    |ok fl₂ =>
     cases fl₂ with
     |ret r =>
      obtain⟨rfl,h',tk,rfl,T,U⟩:=hr₂
      repeat (any_goals (first|assumption|wp_step))
      exact h _ _ T U
     |_=>exact hr₂.elim
  |_=>exact m.elim
end
def KB (p:Int×Int):PyData:=.tuple [.int p.1,.int p.2]
def jj (r:Jx):PyData:=.tuple (r.map KB)
def FF (p:Int×Int):Int:=Cd ([p.1,p.2].map hashInt)
def FG (r:Jx):Int:=Cd (r.map FF)
def yB (hp:Heap)(v:Value)(p:Int×Int):Prop:=∃a o vs n t u,v=.ref a/\hp.get? a=some o/\o.cls=.type "tuple" /\ o.data=.seq vs n/\vs.toList=[.int p.1 t,.int p.2 u]
inductive IsPairs (hp:Heap):Yd->Jx->Prop
 |nil:IsPairs hp [] []
 |cons {v vs p r}:yB hp v p->IsPairs hp vs r->IsPairs hp (v::vs) (p::r)
def xB (hp:Heap)(v:Value)(r:Jx):Prop:=∃a o vs n,v=.ref a/\hp.get? a=some o/\o.cls=.type "tuple" /\ o.data=.seq vs n/\IsPairs hp vs.toList r
def Og (h:yB hp v p):Reads hp v (KB p) []:=by
 obtain⟨a,o,vs,n,t,u,rfl,b,c,d,e⟩:=h;refine .tuple b c d ?_;rw[e];exact .cons (as:=[]) (bs:=[]) (.int _ _) (.cons (as:=[]) (bs:=[]) (.int _ _) .nil)
def Oh:∀{vs:Yd} {r:Jx},IsPairs hp vs r->ReadsAll hp vs (r.map KB) []:=λh=>by
 induction h with
 |nil=>exact .nil
 |cons a _ b=>exact .cons (as:=[]) (bs:=[]) (Og a) b
def FH (h:xB hp v r):Reads hp v (jj r) []:=by
 obtain⟨a,o,vs,n,rfl,b,c,d,e⟩:=h;exact .tuple b c d (Oh e)
def yB.keep (k:∀b o,hp.get? b=some o->hp'.get? b=some o)(h:yB hp v p):yB hp' v p:=by
 obtain⟨a,o,vs,n,t,u,e,c,r⟩:=h;exact⟨a,o,vs,n,t,u,e,k _ _ c,r⟩
theorem IsPairs.keep (k:∀b o,hp.get? b=some o->hp'.get? b=some o)(h:IsPairs hp vs r):IsPairs hp' vs r:=by
 induction h with
 |nil=>exact .nil
 |cons a _ c=>exact .cons (a.keep k) c
theorem xB.keep (k:∀b o,hp.get? b=some o->hp'.get? b=some o)(h:xB hp v r):xB hp' v r:=by
 obtain⟨a,o,vs,n,e,c,d,f,g⟩:=h;exact⟨a,o,vs,n,e,k _ _ c,d,f,g.keep k⟩
def Oi (h:yB hp v p)(n:Nat):PlainV hp (n+1) v:=by
 obtain⟨a,o,vs,k,t,u,rfl,b,c,d,f⟩:=h;refine .tup b c d λx hx=>?_;rw[f] at hx;rcases UQ.mp hx with e|e
 .rw[e];exact .int _ _ _
 .rw[Vt.mp e];exact .int _ _ _
def Oj (h:xB hp v r)(n:Nat):PlainV hp (n+2) v:=by
 obtain⟨a,o,vs,k,rfl,c,d,f,b⟩:=h;refine .tup c d f ?_;generalize vs.toList=l at b
 induction b with
 |nil=>intro x hx;cases hx
 |cons g _ i =>
  intro x hx;rcases UQ.mp hx with e|e
  .rw[e];exact Oi g n
  .exact i x e
section
variable {prog:Program}{w:World}{A:Around}{E:Ya}{s:Shared}
def Ol (b:A.units<cLine):∀{vs:Yd} {r:Jx},IsPairs s.heap vs r->HashAll prog w A E s vs (r.map FF):=λh=>by
 induction h with
 |nil=>exact .nil
 |cons c _ d =>
  refine .cons (λtk Q h=>?_) d;obtain⟨a,o,vs,n,t,u,rfl,e,f,g,i⟩:=c;refine F8 e f g b ?_ h;rw[i];exact F9 (.cons _ _ (.cons _ _ .nil))
def Om (c:xB s.heap v r)(d:A.units<cLine)(b:A.in1.units<cLine)(h:∀tk,s.toks<=tk->Q (FG r) { s with toks:=tk }):YC prog w A (pyHash v) Q E s:=by
 obtain⟨a,o,vs,n,rfl,f,g,i,j⟩:=c;have e:s={ s with toks:=s.toks }:=by cases s;rfl
 rw[e];exact F8 (tk0:=s.toks) f g i d (Ol b j) h
end
def Oo (p q:Int×Int):PyData.eqv (KB p) (KB q)=decide (p=q):=by
 unfold KB PyData.eqv PyData.eqvAll PyData.eqvAll PyData.eqvAll PyData.eqv;obtain⟨a,b⟩:=p;obtain⟨c,d⟩:=q;rw[U1];simp
theorem FI:∀r q:Jx,PyData.eqvAll (r.map KB) (q.map KB)=decide (r=q)
 | [],[]=>by unfold List.map PyData.eqvAll;simp
 | [],_::_=>by rw[Zl,Uw];unfold PyData.eqvAll;simp
 |_::_,[]=>by rw[Zl,Uw];unfold PyData.eqvAll;simp
 |p::r,q::s=>by
  rw[Zl,Zl];unfold PyData.eqvAll;rw[Oo,FI r s,U1];simp
def Op (r q:Jx):PyData.eqv (jj r) (jj q)=decide (r=q):=by
 unfold jj PyData.eqv;exact FI r q
theorem FJ:∀r:Jx,PyData.canLayAll0 (r.map KB)=true
 | []=>rfl
 |p::r=>by
  rw[Zl];unfold PyData.canLayAll0;rw[FJ r];rfl
def FK (r:Jx):(jj r).canLay0=true:=FJ r
theorem FL:∀r:Jx,PyData.depthAll (r.map KB)<=1
 | []=>Uc _
 |p::r=>by
  rw[Zl];unfold PyData.depthAll;have a:(KB p).depth=1:=rfl;have b:=FL r;rw[a];lia
def Oq (r:Jx):(jj r).depth<=2:=VA (FL r)
def yB.inj (h:yB hp v p)(h':yB hp v q):p=q:=by
 obtain⟨a,o,vs,n,t,u,rfl,c,i,d,f⟩:=h;obtain⟨j,l,g,m,t',r,e,k1,k2,k3,b⟩:=h';cases e;rw[c] at k1;obtain rfl:=Zqi k1;rw[d] at k3;cases k3;rw[f] at b;simp only[List.cons.injEq,Value.int.injEq,and_true] at b;exact Prod.ext b.1.1 b.2.1
theorem IsPairs.inj:∀{vs:Yd} {r q:Jx},IsPairs hp vs r->IsPairs hp vs q->r=q:=λ{vs r q} g h=>by
 induction g generalizing q with
 |nil=>cases h;rfl
 |cons a _ b =>
  cases h with
  |cons k1 k2=>rw[a.inj k1,b k2]
theorem xB.inj (h:xB hp v r)(h':xB hp v q):r=q:=by
 obtain⟨a,o,vs,n,rfl,b,i,c,d⟩:=h;obtain⟨j,l,f,m,e,k1,k2,k3,g⟩:=h';cases e;rw[b] at k1;obtain rfl:=Zqi k1;rw[c] at k3;cases k3;exact d.inj g
open Classical in
def xk (hp:Heap)(v:Value):Jx:=if h:∃r,xB hp v r then h.choose else[]
def XP (h:xB hp v r):xk hp v=r:=by
 unfold xk;have e:∃r,xB hp v r:=⟨r,h⟩;rw[dif_pos e];exact e.choose_spec.inj h
def Os (prog:Program)(w:World)(hp:Heap):KeyFam prog w hp (λv=>∃r,xB hp v r) (λv=>FG (xk hp v)) (λv u=>decide (xk hp v=xk hp u)) where
 ref:=by
  rintro v ⟨r,a,o,vs,n,e,_⟩;exact⟨a,e⟩
 plain:=by
  rintro v ⟨r,h⟩;exact Oj h 6
 hash:=by
  rintro v ⟨r,h⟩ A E s Q hk hu hq;rw[XP h] at hq;exact Om (h.keep hk) () (show A.units+1<cLine from ()) hq
 eq:=by
  rintro v u ⟨r,h⟩ ⟨q,h'⟩ A E s Q hk hu hq;rw[XP h,XP h',<- Op] at hq;have b:=Oq r;exact SeqAt.eqBoolOverData prog w A E s v u (jj r) (jj q) [] [] Q (FH (h.keep hk)) (FH (h'.keep hk)) (FK r) (FK q) () hq
 coh:=by
  intro v u _ _ h;rw[of_decide_eq_true h]
def z8:Slot "set_iterator" "__next__" "set_iterator.__next__" :=
 .of (owner:= "set_iterator") (n:= "__next__") (by rw[typeLookup_type,builtinLookup_eq_fast];kernel_rfl) (by decide +kernel) (by decide +kernel) (by decide +kernel)
  (by first|exact .inl (by decide +kernel)|exact .inr (by decide +kernel)) (by rw[isSubtype_type];kernel_rfl)
def FM:entryFor table "set_iterator.__next__" = some Builtin.«set_iterator.__next__»:=entryFor_of_tree (by kernel_rfl)
def FN:Manifest.owners.lookup (String.ofList ['r','o','t','a','r','e','t','i','_','t','e','s'].reverse)=some Manifest.sig_set_iterator:=by kernel_rfl
def FP (a:Value):argsOk "set_iterator.__next__" ⟨[a],[]⟩:=by
 unfold argsOk;rw[signature?_of (id:= "set_iterator.__next__") (n:=['_','_','t','x','e','n','_','_']) (o:=['r','o','t','a','r','e','t','i','_','t','e','s']) (by kernel_rfl) FN];kernel_rfl
def Ot:entryFor table "set.__iter__" = some Builtin.«frozenset.__iter__»:=entryFor_alias (id':= "frozenset.__iter__") (by kernel_rfl) rfl (by decide +kernel) (by kernel_rfl)
def FQ:Slot "set_iterator" "__iter__" "set_iterator.__iter__" :=
 .of (owner:= "set_iterator") (n:= "__iter__") (by rw[typeLookup_type,builtinLookup_eq_fast];kernel_rfl) (by decide +kernel) (by decide +kernel) (by decide +kernel)
  (by first|exact .inl (by decide +kernel)|exact .inr (by decide +kernel)) (by rw[isSubtype_type];kernel_rfl)
def Ou:entryFor table "set_iterator.__iter__" = some Builtin.«dict_keyiterator.__iter__» :=
 entryFor_alias (id':= "dict_keyiterator.__iter__") (by kernel_rfl) (by first|rfl|decide +kernel|(unfold String.splitOn;simp +decide [String.splitOnAux])) (by decide +kernel) (by kernel_rfl)
def Ov (a:Value):argsOk "set_iterator.__iter__" ⟨[a],[]⟩:=by
 unfold argsOk;rw[signature?_of (id:= "set_iterator.__iter__") (n:=['_','_','r','e','t','i','_','_']) (o:=['r','o','t','a','r','e','t','i','_','t','e','s']) (by kernel_rfl) FN];kernel_rfl
abbrev Cf (h:Heap)(it S:Addr)(slot i n ep:Nat):Prop:=h.get? it=some { cls:=.type "set_iterator",dict:=none,data:=.fields #[.int slot 0,.int i 0,.ref S,.int n 0,.int ep 0],slots:=#[] }
abbrev W3 (es:Array (Int×Value))(ep:Nat)(t:Yw):Obj:={ cls:=.type "set",dict:=none,data:=.set es ep t,slots:=#[] }
def Kg (w:World)(S ep:Nat)(es:Array (Int×Value)):Array (Int×Value):=if w.params.followText "set-order" then pickOrder (w.params.setOrder S ep) es else es
theorem FR {α: Type}(next:Nat->Nat):∀(fuel k:Nat) (left:List α) (a:Array α),left.length<=fuel->(pickOrder.go next fuel k left a).toList.Perm (a.toList++left)
 | 0,k,left,a,h=>by
  have:left=[]:=Je.mp ();subst this;unfold pickOrder.go;rw[ZA]
 |fuel+1,k,left,a,h=>by
  unfold pickOrder.go;cases q:left[next k % left.length]? with
  |none =>
   have b:left.length=0:=by
    rcases Nat.eq_zero_or_pos left.length with z|z
    .exact z
    .have:=UA (next k) z;rw[Zqg this] at q;cases q
   have:left=[]:=Je.mp b;subst this;rw[ZA]
  |some x =>
   have hi:=(Jd.mp q).1;have c:=(Jd.mp q).2;have b:=List.length_eraseIdx_of_lt hi;refine(FR next fuel (k+1) _ _ ()).trans ?_;rw[Array.toList_push,Uy];refine List.Perm.append_left _ ?_;have d:left=left.take (next k % left.length)++x::left.drop (next k % left.length+1):=by
    have:=Uz hi;rw[c] at this;rw[<- this,VG]
   rw[List.eraseIdx_eq_take_drop_succ];refine List.Perm.trans ?_ (List.Perm.of_eq d.symm);exact(List.perm_middle (l₁:=left.take (next k % left.length))).symm
def Ow {α: Type}(next:Nat->Nat)(es:Array α):(pickOrder next es).toList.Perm es.toList:=by
 unfold pickOrder;have:=FR next es.size 0 es.toList #[] ();simpa using this
def FU (w:World)(S ep:Nat)(es:Array (Int×Value)):(Kg w S ep es).toList.Perm es.toList:=by
 unfold Kg
 split
 .exact Ow _ _
 .exact Vq _
def Cg (w:World)(S ep:Nat)(es:Array (Int×Value)):(Kg w S ep es).size=es.size:=by
 have:=(FU w S ep es).length_eq;simpa using this
def Ox (u:yw xs)(hi:i<xs.size):SetTable.below xs (xs[i]+1)=i+1:=by
 obtain⟨f,c,d⟩:=Ad u (xs[i]+1);have e:xs.getD i 0=xs[i]:=Q3 hi 0;rcases UL (SetTable.below xs (xs[i]+1)) (i+1) with q|q|q
 .have:=d i () hi;lia
 .exact q
 .have a:=c (i+1) q;have b:=u i (i+1) () ();lia
def Oy (xs:Yg)(u:yw xs):SetTable.below xs 0=0:=by
 obtain⟨b,a,c⟩:=Ad u 0;rcases Nat.eq_zero_or_pos (SetTable.below xs 0) with q|q
 .exact q
 .have:=a 0 q;lia
section
variable {prog:Program}{w:World}{A:Around}{E:Ya}{s:Shared}
def Oz (a:s.heap.get? S=some (W3 es ep t))(c:t.fits es.size=true)(hp:t.plain=true)
 (f:Q (.ref s.heap.objs.size) { s with heap:=s.heap.push { cls:=.type "set_iterator",data:=.fields #[.int 0 0,.int 0 0,.ref S,.int es.size 0,.int ep 0] } }):YC prog w A (pyIter (.ref S)) Q E s:=by
 have d:s.TypeIs (.ref S) "set" := ⟨_,a,rfl⟩;refine wpAny_pyIter_slot d F.slot_set_iter (wpAny_call_entry F.slot_set_iter d Ot ?_ (F.args_set_iter_1 _));unfold Builtin.«frozenset.__iter__» Builtin.Frozenset.slot0 slotArgs;simp only[List.isEmpty_nil,UI,Ud,↓reduceIte,bind_assoc,ZC,bne_self_eq_false];unfold Builtin.Frozenset.addrOf Builtin.Frozenset.sizeOf;refine Za (Zb ?_)
 try dsimp only
 refine Za (Zb ?_);refine Za (Za (wpAny_setEntries_of a rfl c (Zb ?_)));have g:wpAny (model prog w) A.in1 (setDrawn S) (λb s'=>b=false/\s'=s) E s:=by
  unfold setDrawn;refine Za (wpAny_setState_of a rfl c ?_);unfold setsByText;refine Za (Za (wpAny_askSetting (Zb ?_)));refine Zb ⟨?_,rfl⟩;obtain⟨mask,place,dummies,finger,led,moves,plain⟩:=t;cases hp;exact Vl _
 refine Za (Zc g (λb s' z=>?_) λ_ _ e=>e);obtain⟨rfl,rfl⟩:=z;simp only[Ud,↓reduceIte];refine Za (Zb ?_);unfold setEpoch;refine Za (Za (wpAny_setState_of a rfl c (Zb ?_)));unfold newFields;refine Za (wpAny_newObj_type (Zb ⟨_,rfl, "set_iterator",_,⟨_,Zr _ rfl,rfl⟩,z8.lookup,f⟩) (by simp only[sizeOk,sizeLine_eq,Zm,Zu,ZC];lia))
def FW (g:s.heap.get? S=some (W3 es ep t))(h:t.fits es.size=true)(hp:t.plain=true)(d:t.led=xI w)(l:yw t.place)(hz:t.place.size=es.size)
 (f:w.params.followText "set-order" = false->SetTable.below t.place slot=i)
 (c:∀b,(w.params.followText "set-order" = false->i<es.size->SetTable.below t.place b=i+1)->Q (((Kg w S ep es)[i]?).map λe=>(e.2,b)) s):YC prog w A (setNext S slot i ep) Q E s:=by
 unfold setNext;refine Za (wpAny_setState_of g rfl h ?_);unfold setsByText;refine Za (Za (wpAny_askSetting (Zb ?_)));cases q:w.params.followText "set-order" with
 |true =>
  have e:({ program:=(model prog w).prog,params:=(model prog w).w.params }:Setting).params.followText "set-order" = true:=q;rw[Zd e];dsimp only;rw[Ze ()];unfold setWalk;refine Za (Za (wpAny_setState_of g rfl h ?_));unfold setsByText;refine Za (Za (wpAny_askSetting (Zb ?_)));rw[Zd e];refine Za (wpAny_askSetting (Zb (Zb ?_)));have:=c slot λz=>by rw[q] at z;cases z
  unfold Kg at this;rw[Zd q] at this;exact this
 |false =>
  have e:¬({ program:=(model prog w).prog,params:=(model prog w).w.params }:Setting).params.followText "set-order" = true:=by
   show ¬w.params.followText "set-order" = true;rw[q];simp
  rw[Ze e];dsimp only;have hw:Kg w S ep es=es:=by unfold Kg;rw[q];rfl
  rw[hw] at c;have f:=f q;rw[f];have d:t.led=true:=by rw[d];unfold xI;rw[q];rfl
  obtain⟨mask,place,dummies,finger,led,moves,plain⟩:=t;cases hp;cases d
  split
  .rename_i z;exact Zn z Zj
  .refine Za ?_;refine Zb (a:=Yq) ?_;refine Zb ?_;by_cases hi:i<es.size
   .have j:i<place.size:=by rw[show place.size=es.size from hz];exact hi
    have:=c (place[i]+1) λ_ _=>Ox l j;rw[Uo hi] at this;rw[Uo hi,Uo j];exact this
   .have:=c 0 λ_ z=>Zn z hi;rw[U8 ()] at this;rw[U8 (show es.size<=i from ())];exact this
abbrev XQ (w:World)(it S:Addr)(es:Array (Int×Value))(ep:Nat)(t:Yw)(i:Nat)(h:Heap):Prop:=(∃slot,Cf h it S slot i es.size ep/\(w.params.followText "set-order" = false->i<=es.size->SetTable.below t.place slot=i))/\h.get? S=some (W3 es ep t)
structure SetGood (w:World)(es:Array (Int×Value))(t:Yw):Prop where
 fits:t.fits es.size=true
 plain:t.plain=true
 led:t.led=xI w
 up:yw t.place
 size:t.place.size=es.size
def O0 (G:SetGood w es t)(st:XQ w it S es ep t i s.heap)(hi:i<es.size)
 (n:∀h' x,(∃k,(Kg w S ep es)[i]? = some (k,x))->XQ w it S es ep t (i+1) h'->Heap.SameBut it s.heap h'->Q (some x) { s with heap:=h' }):YC prog w A (pyNext (.ref it)) Q E s:=by
 obtain⟨⟨l,a,f⟩,g⟩:=st;have m:s.TypeIs (.ref it) "set_iterator" := ⟨_,a,rfl⟩;have d:S≠it:=λz=>by
  subst z;unfold Cf at a;rw[g] at a;have:=Zt Obj.data (Zqi a);cases this
 unfold pyNext;refine Za (wpAny_attempt (wpAny_callSpecial?_slot (name:=Str.ofString "__next__") m z8
  (wpAny_call_entry z8 m FM ?_ (FP _))))
 unfold Builtin.«set_iterator.__next__» slotArgs;simp only[List.isEmpty_nil,UI,Ud,↓reduceIte,bind_assoc,ZC,bne_self_eq_false];refine Za (Zb ?_)
 try dsimp only
 refine Za (wpAny_fieldsOf a rfl ?_);dsimp only;refine Za (wpAny_setEntries_of g rfl G.fits ?_);rw[Ze ()];simp only[UF];refine Za (FW g G.fits G.plain G.led G.up G.size (λz=>f z ()) λc hs=>?_);have hw:i<(Kg w S ep es).size:=by rw[Cg];exact hi
 rw[Uo hw];dsimp only[Option.map_some];refine Za (wpAny_setField_rec a () λh₁ he₁ hs₁=>?_);refine Za (wpAny_setField_rec (s:={ s with heap:=h₁ }) he₁ () λh₂ he₂ hs₂=>?_);have hs₂:Heap.SameBut it h₁ h₂:=hs₂;have hs₁:Heap.SameBut it s.heap h₁:=hs₁;refine Zb ⟨_,rfl,Zb (n h₂ _ ⟨_,by rw[Uo hw]⟩ ⟨⟨c,?_,λz _=>hs z hi⟩,hs₂.extBut _ _ d (hs₁.extBut _ _ d g)⟩ ⟨hs₂.1.trans hs₁.1,λb f=>(hs₂.2 b f).trans (hs₁.2 b f)⟩)⟩;have e:((i+1:Nat):Int)=(i:Int)+1:=()
 unfold Cf;rw[e];simpa [rawInt] using he₂
def O1 (h:A.handled=none)(G:SetGood w es t)(st:XQ w it S es ep t i s.heap)(hi:i=es.size)
 (j:∀h',Heap.ExtBut it s.heap h'->Q none { s with heap:=h' }):YC prog w A (pyNext (.ref it)) Q E s:=by
 obtain⟨⟨e,c,l⟩,f⟩:=st;have g:s.TypeIs (.ref it) "set_iterator" := ⟨_,c,rfl⟩;unfold pyNext;refine Za (wpAny_attempt (wpAny_callSpecial?_slot (name:=Str.ofString "__next__") g z8
  (wpAny_call_entry z8 g FM ?_ (FP _))))
 unfold Builtin.«set_iterator.__next__» slotArgs;simp only[List.isEmpty_nil,UI,Ud,↓reduceIte,bind_assoc,ZC,bne_self_eq_false];refine Za (Zb ?_)
 try dsimp only
 refine Za (wpAny_fieldsOf c rfl ?_);dsimp only;refine Za (wpAny_setEntries_of f rfl G.fits ?_);rw[Ze ()];simp only[UF];refine Za (FW f G.fits G.plain G.led G.up G.size (λz=>l z ()) λd hs=>?_);rw[U8 (by rw[Cg];lia)];dsimp only[Option.map_none];refine Za (wpAny_setField c rfl () ?_);show wpAny _ _ (newExc (.type "StopIteration") [] >>= _) _ _ _;refine Za ?_;simp only[newExc,newTuple];refine Za (wpAny_newObj_type ?_ (by size_fits));refine Za (m:=firstArgMember _ _) (wpAny_of_eq (a:=Value.none) (by first|rfl|(simp only[firstArgMember];rfl)) ?_);refine wpAny_newObj_type ?_ (by size_fits);simp only[raiseNew];refine Za (wpAny_handled ?_);rw[show A.in1.handled=none from h];refine Za (Zb (wpAny_throw ?_));refine Za (wpAny_isInstance (T:= "StopIteration") (b:=true) ⟨_,Zr _ rfl,rfl⟩ isSubtype_stop ?_);exact Zb (j _ (((Heap.SameBut.update ..).extBut.push _).push _))
end
def O2 (p:A.handled=none)(G:SetGood w es t):WalksS prog w A it [it,S] [it] (λg g'=>g'=g) es.size (λi v=>∃k,(Kg w S ep es)[i]? = some (k,v)) (λi s=>XQ w it S es ep t i s.heap):=
 (show Walks prog w A it [it,S] [it] es.size (λi v=>∃k,(Kg w S ep es)[i]? = some (k,v)) (λi h=>XQ w it S es ep t i h) from {
  sub:=λb d=>by simp at d;simp[d]
  frame:=λi h h' st n=>⟨(let ⟨c,a,b⟩:=st.1;⟨c,n it () _ a,b⟩),n S () _ st.2⟩
  item:=λi s Q E hi st f=>O0 G st hi λh' x hx j q=>f x h' s.toks hx j λb o d e=>q.extBut b o (λh=>d (by simp[h])) e
  done:=λs Q E st f=>O1 p G st rfl λh' r=>f h' s.toks λb o d e=>r b o (λh=>d (by simp[h])) e
  self:=λi s Q E st f=>by
   obtain⟨⟨c,l,d⟩,u⟩:=st;have m:s.TypeIs (.ref it) "set_iterator" := ⟨_,l,rfl⟩;refine wpAny_pyIter_slot m FQ (wpAny_call_entry FQ m Ou ?_ (Ov _));show wpAny _ _ (ret (.ref it)) _ _ s;exact Zb ⟨_,rfl, "set_iterator",_,m,z8.lookup,f⟩ }).toS
def O3:typeLookup (.type "set") "__len__" = pure (some (.builtin "set.__len__")):=by rw[typeLookup_type,builtinLookup_eq_fast];kernel_rfl
section
variable {prog:Program}{w:World}{A:Around}{E:Ya}{s:Shared}
def O4 (d:s.TypeIs (.ref r) "set")(h:Q false s):YC prog w A (Builtin.List.listLengthHint (.ref r)) Q E s:=by
 unfold Builtin.List.listLengthHint;refine Za (wpAny_specialOf d O3 ?_);generalize c:("set.__len__" : String)=id0
 wp_delta
 rw[show splitId id0=some ("set", "__len__") from by subst c;decide +kernel];subst c;refine Za (wpAny_isInstance (T:= "set") (b:=true) d (by rw[isSubtype_type];kernel_rfl) ?_);refine wpAny_ite_split (λa=>Zn a (by decide)) (λ_=>?_);refine wpAny_ite_split (λ_=>?_) (λa=>Zn (by decide +kernel) a);refine Za (wpAny_typeOf d ?_);exact Zb h
def O5 (U:A.handled=none)(g:s.heap.get? S=some (W3 es ep t))(G:SetGood w es t)(X:es.size<=1000)
 (h:∀(h':Heap) (tk:Nat) (vs:Yd),(∀b o,s.heap.get? b=some o->h'.get? b=some o)->vs.Perm (es.toList.map (·.2))->s.heap.objs.size<h'.objs.size->R vs { s with heap:=h',toks:=tk }):YC prog w A (collect (.ref S)) R E s:=by
 have B:S<s.heap.objs.size:=Zk g;have Q:s.TypeIs (.ref S) "set" := ⟨_,g,rfl⟩;unfold collect;refine Za (wpAny_runValue (codeAny_builtin F.entry_proto_collect ?_));rw[Around.under_plainId F.plain_proto_collect _];show wpAny _ A.in1 (newList [] >>= λl=>again (.builtin "list.__iadd__" ⟨[l,.ref S],[]⟩)) _ _ s;refine Za (wpAny_newObj_type ?_);refine Zb ⟨plainId_quiet F.plain_list_iadd _,codeAny_builtin F.entry_list_iadd ?_⟩;rw[Around.under_plainId F.plain_list_iadd _];generalize n:({ cls:=.type "list",data:=.seq ([]:Yd).toArray }:Obj)=no;have hL₁:(s.heap.push no).get? s.heap.objs.size=some no:=Zr _ (by rw[<- n];rfl);have ho₁:(s.heap.push no).get? S=some (W3 es ep t):=Zq _ g;have hT₁:Shared.TypeIs { s with heap:=s.heap.push no } (.ref S) "set" := ⟨_,ho₁,rfl⟩;have i:S≠s.heap.objs.size:=Zi B;show wpAny _ A.in1 (Builtin.List.listExtendWith (.ref s.heap.objs.size) (.ref S) (.ref s.heap.objs.size)) _ _ _;unfold Builtin.List.listExtendWith;refine Za (wpAny_typeOf hT₁ ?_);have Y:Builtin.List.listSameRef (.ref s.heap.objs.size) (.ref S)=false:=by simp[Builtin.List.listSameRef,Ne.symm i]
 have Z:(Value.type "set" == Value.type "list")=false:=by decide
 have h3:(Value.type "set" == Value.type "tuple")=false:=by decide
 simp only[Y,Z,h3,Bool.or_false,Ud,if_false];refine Za (Oz (s:={ s with heap:=s.heap.push no }) ho₁ G.fits G.plain ?_);have H:(s.heap.push no).objs.size=s.heap.objs.size+1:=Heap.size_push ..;generalize J:(s.heap.push no).objs.size=I at *;generalize p:({ cls:=.type "set_iterator",data:=.fields #[.int 0 0,.int 0 0,.ref S,.int es.size 0,.int ep 0] }:Obj)=ni;have hS₂:=Zq ni ho₁;have hL₂:=Zq ni hL₁;have hI₂:((s.heap.push no).push ni).get? I=some ni:=by rw[<- J];exact Zr _ (by rw[<- p];rfl)
 refine Za (wpAny_holding (O4 ⟨_,hS₂,rfl⟩ ?_));have q:I≠s.heap.objs.size:=()
 have r:∀(K:Result->Yv),(∀(h':Heap) (tk c:Nat) (a:Yl),(∀b o,s.heap.get? b=some o->h'.get? b=some o)->h'.get? s.heap.objs.size=some { cls:=.type "list",dict:=none,data:=.seq a c,slots:=#[] }->a.toList.Perm (es.toList.map (·.2))->K (.ok (.ret (.ref s.heap.objs.size))) { s with heap:=h',toks:=tk }) ->
  ∀(h:Heap) (c₁ tk:Nat),(∀b o,b≠s.heap.objs.size->((s.heap.push no).push ni).get? b=some o->h.get? b=some o)->h.get? s.heap.objs.size=some { cls:=.type "list",dict:=none,data:=.seq #[] c₁,slots:=#[] } ->
  codeAny (model prog w) A (.builtin "list.extend.loop" ⟨[.ref s.heap.objs.size,.ref I,.ref s.heap.objs.size],[]⟩) K { s with heap:=h,toks:=tk }:=by
  intro K hR h₀ c₁ tk u d;have L:s.heap.objs.size ∉ [I,S]:=by
   simp only[UQ,Vg,or_false,not_or];exact⟨Ne.symm q,Ne.symm i⟩
  have v:h₀.get? I=some ni:=u I _ q hI₂;rw[<- p] at v;refine codeAny_extend_loopS (O2 (prog:=prog) (w:=w) (A:=A.in1) (it:=I) (S:=S) (ep:=ep) U G) (Zh X (by rw[sizeLine_eq];lia)) s.heap.objs.size L _ es.size 0 { s with heap:=h₀,toks:=tk } #[] c₁ rfl (Uc _)
   ⟨⟨0,v,λ_ _=>Oy _ G.up⟩,u S _ i hS₂⟩ d (ItemsOf.nil _) λs' a c C M f=>?_
  obtain⟨h',g',d',N,O⟩:=s';have eg:g'=s.gens:=C.gens;have ed:d'=s.drawn:=C.drawn;have eo:O=s.os:=C.os;subst eg;subst ed;subst eo;refine hR h' N c a (λb o e=>?_) M ?_
  .have x:=Zk e;have y:b≠s.heap.objs.size:=Zi x;have P:b≠I:=Zi (Zg x (by rw[H];exact Nat.le_succ _));exact C.heap b o (by simp only[UQ,Vg,or_false,not_or];exact⟨y,P⟩) (u b o y (Zq _ (Zq _ e)))
  .have el:a.toList=(Kg w S ep es).toList.map (·.2):=by
    apply List.ext_getElem?;intro j;rw[Zv];by_cases T:j<a.size
    .obtain⟨k,u⟩:=f.2 j a[j] (Uo T);have:(Kg w S ep es).toList[j]? = some (k,a[j]):=by simpa using u
     rw[this];simp[T]
    .have hw:(Kg w S ep es).toList[j]? = none:=VB (by rw[Ui,Cg,<- f.1];lia);rw[hw];exact VB (by rw[Ui];lia)
   rw[el];exact(FU w S ep es).map _
 have z:∀(h':Heap) (tk c:Nat) (a:Yl),(∀b o,s.heap.get? b=some o->h'.get? b=some o)->h'.get? s.heap.objs.size=some { cls:=.type "list",dict:=none,data:=.seq a c,slots:=#[] }->a.toList.Perm (es.toList.map (·.2)) ->
  YC prog w A (do
   let o <- load s.heap.objs.size
   match o.data with
    | .seq xs _=>pure xs.toList
    |_=>unsupported "internal:collect") R E { s with heap:=h',toks:=tk }:=λh' tk c a kk m hp=>by
  refine Za (wpAny_load m ?_);exact Zb (h h' tk a.toList kk hp (Zk m))
 have hL₂':((s.heap.push no).push ni).get? s.heap.objs.size=some { cls:=.type "list",dict:=none,data:=.seq #[] 0,slots:=#[] }:=by rw[hL₂,<- n]
 refine wpAny_ite_split (λ_=>?_) (λ_=>Zb ⟨plainId_quiet F.plain_extend_loop _,r _ (λh' tk c a kk m hp=>z h' tk c a kk m hp) _ 0 _ (λb o _ e=>e) hL₂'⟩);refine Za (wpAny_rule ?_);refine Za ?_;show wpAny _ _ (updateSeq s.heap.objs.size (·.push .none) >>= λ_=>updateSeq s.heap.objs.size (·.pop)) _ _ _;refine Za (wpAny_updateSeq hL₂' rfl ?_);have hL₃:=Heap.get?_update_self (Obj.mapSeq (·.push Value.none)) hL₂' rfl;refine wpAny_updateSeq (hz:=by seq_fits) hL₃ rfl ?_;have hL₄:=Heap.get?_update_self (Obj.mapSeq (·.pop)) hL₃ rfl;refine Zb ⟨plainId_quiet F.plain_extend_loop _,r _ (λh' tk c a kk m hp=>z h' tk c a kk m hp) _ _ _ (λb o x e=>?_) hL₄⟩;exact(Heap.get?_update_other _ _ (Ne.symm x)).trans ((Heap.get?_update_other _ _ (Ne.symm x)).trans e)
end
theorem FX:∀{a:Yd} {r:Jx},Wo h a r->IsPairs h a r
 | [],[],_=>.nil
 | [],_::_,p=>by have:=p.1;simp at this
 |_::_,[],p=>by have:=p.1;simp at this
 |u::a,q::r,p=>by
  obtain⟨b,d,nb,t,v,c,e,f,g⟩:=p.2 0 q rfl;have c:some u=some (Value.ref b):=c;obtain rfl:=Zqi c;refine .cons ⟨b,d,_,nb,t,v,rfl,e,f,g,rfl⟩ (FX ⟨by have:=p.1;simpa using this,λi x hx=>p.2 (i+1) x hx⟩)
def O6 (R:RowAt h v r a o us n):xB h v r:=
 ⟨a,o,us.toArray,n,R.isv,R.get,R.cls,R.dat,FX R.prs⟩
def jl (rs:Jy):Nat->List Nat
 | 0=>[]
 |n+1=>if(jl rs n).any (λi=>decide (rs.getD i []=rs.getD n [])) then jl rs n else jl rs n++[n]
def O7 (rs:Jy)(n:Nat):jl rs (n+1)=if(jl rs n).any (λi=>decide (rs.getD i []=rs.getD n [])) then jl rs n else jl rs n++[n]:=rfl
def jR (rs:Jy):Jy:=(jl rs rs.length).map λi=>rs.getD i []
theorem W4 (rs:Jy):∀n i,i∈jl rs n->i<n
 | 0,i,h=>by cases h
 |n+1,i,h=>by
  unfold jl at h
  split at h
  .have:=W4 rs n i h;lia
  .rcases Jc.mp h with q|q
   .have:=W4 rs n i q;lia
   .rw[Vt.mp q];lia
theorem Ch (rs:Jy):∀n,(jl rs n).length<=n
 | 0=>Zf _
 |n+1=>by
  have:=Ch rs n;unfold jl
  split
  .omega
  .rw[Ua,Uv];lia
theorem FY (rs:Jy):∀n,((jl rs n).map λi=>rs.getD i []).Nodup
 | 0=>UZ
 |n+1=>by
  have a:=FY rs n;unfold jl
  split
  .exact a
  .rename_i h;rw[Uh,Vo];refine⟨a,(),λx hx y b=>?_⟩;rw[Zl,Uw,Vt] at b;subst b;intro z;subst z;obtain⟨i,hi,e⟩:=Ja.mp hx;exact h (U9.mpr ⟨i,hi,Zp e⟩)
theorem FZ (rs:Jy):∀n (r:Jx),r∈((jl rs n).map λi=>rs.getD i [])↔∃i,i<n/\rs.getD i []=r
 | 0,r=>by
  constructor
  .intro h;cases h
  .rintro⟨i,hi,_⟩;lia
 |n+1,r=>by
  have a:=FZ rs n;unfold jl
  split
  .rename_i h;obtain⟨j,b,e⟩:=U9.mp h;have e:=of_decide_eq_true e;rw[a];constructor
   .rintro⟨i,hi,z⟩;exact⟨i,(),z⟩
   .rintro⟨i,hi,z⟩;by_cases q:i=n
    .subst q;exact⟨j,W4 rs i j b,by rw[e,z]⟩
    .exact⟨i,(),z⟩
  .rw[Uh,List.mem_append,a];constructor
   .rintro(⟨i,hi,z⟩|z)
    .exact⟨i,(),z⟩
    .rw[Zl,Uw,Vt] at z;exact⟨n,(),z.symm⟩
   .rintro⟨i,hi,z⟩;by_cases q:i=n
    .subst q;exact .inr (by rw[Zl,Uw,Vt];exact z.symm)
    .exact .inl ⟨i,(),z⟩
def Ga (rs:Jy):(jR rs).Nodup:=FY rs _
def Gb (rs:Jy):(jR rs).length<=rs.length:=by unfold jR;rw[Zql];exact Ch rs _
def kx:r∈jR rs↔r∈rs:=by
 unfold jR;rw[FZ];constructor
 .rintro⟨i,hi,z⟩;rw[Uf,Zqg hi] at z;rw[<- z];exact UD hi
 .intro h;obtain⟨i,hi,z⟩:=UE h;exact⟨i,hi,by rw[Uf,Zqg hi,<- z];rfl⟩
theorem Gc {same:Value->Value->Bool}{val:Nat->Value}{rs:Jy}{n:Nat}(h:∀i j,i<n->j<n->same (val i) (val j)=decide (rs.getD i []=rs.getD j [])):∀k,k<=n->qZ same val k=(jl rs k).map val
 | 0,_=>rfl
 |k+1,hk=>by
  rw[Af,Gc h k (),O7];unfold VV;have e:((jl rs k).map val).any (same · (val k))=(jl rs k).any (λi=>decide (rs.getD i []=rs.getD k [])):=by
   rw[List.any_map,U1,U9,U9];constructor
   .rintro⟨i,hi,z⟩;exact⟨i,hi,by rw[<- h i k (by have:=W4 rs k i hi;lia) ()];exact z⟩
   .rintro⟨i,hi,z⟩;exact⟨i,hi,by show same (val i) (val k)=true;rw[h i k (by have:=W4 rs k i hi;lia) ()];exact z⟩
  rw[e]
  split
  .rfl
  .rw[Uh];rfl
theorem Ag {G:Hp}{rs:Jy}{ys:Yx}(h:TU G (rs.map rD) ys):∀ix:Yh,(∀i∈ix,i<rs.length)->TU G ((ix.map λi=>rs.getD i []).map rD) (ix.map λi=>ys.getD i .non)
 | [],_=>by unfold TU;rfl
 |i::ix,hi=>by
  have a:=hi i Zqs;obtain⟨x,hx,b⟩:=h.get (i:=i) (d:=rD (rs.getD i [])) (by rw[Zv,Zqg a,JU (Zqg a)];rfl);rw[Zl,Zl,Zl];unfold TU;refine⟨x,_,?_,b,Ag h ix λj c=>hi j (Zqm _ c)⟩;rw[JU hx]
def xM (w:World)(S:Addr)(ys:Yx):HO:=.ext λh=>∃es ep t a,h.get? S=some (W3 es ep t)/\SetGood w es t/\es.size<=1000/\(es.toList.map (·.2)).Perm a/\T4 ys a
def Gd (w:World):Yx->Hp->VK->Prop:=λxs H Q=>∃a ys rs,xs=[.ref a]/\Rd H a (.lst ys)/\TU H (rs.map rD) ys/\rs.length<=999/\∀S,H S=none->Q (.ref S) (TQ H S (xM w S ((jl rs rs.length).map λi=>ys.getD i .non)))
def Ge (w:World):Yx->Hp->VK->Prop:=λxs H Q=>∃S ys rs,xs=[.ref S]/\H S=some (xM w S ys)/\TU H (rs.map rD) ys/\(∀r∈rs,r ≠ [])/\rs.length<64 /\
 ∀l a,H l=none->(∀G,TU G (rs.map rD) ys->TU G ((JE T7 rs).map rD) a)->Q (.ref l) (TQ H l (.lst a))
def O8 (p:us.Perm vs):∀{f:Yx} {rs:Jy},T4 f us->f.length=rs.length->∃(a:Yx) (b:Jy),T4 a vs/\b.Perm rs/\a.length=b.length/\∀G,TU G (rs.map rD) f->TU G (b.map rD) a:=by
 induction p with
 |nil=>exact λ{f rs} h c=>⟨f,rs,h,.refl _,c,λ_ h=>h⟩
 |cons x _ B =>
  intro f rs h c;cases h with
  |cons r h =>
   cases rs with
   |nil=>simp at c
   |cons q rs =>
    obtain⟨a,b,j,m,n,o⟩:=B h (by simpa using c);refine⟨_::a,q::b,.cons r j,m.cons q,by simp[n],λG d=>?_⟩;rw[Zl] at d ⊢;unfold TU at d ⊢;obtain⟨y,w,e,g,i⟩:=d;cases e;exact⟨_,_,rfl,g,o G i⟩
 |swap x y l =>
  intro f rs h c;cases h with
  |cons r h =>
   cases h with
   |cons C h =>
    cases rs with
    |nil=>simp at c
    |cons q rs =>
     cases rs with
     |nil=>simp at c
     |cons F rs =>
      refine⟨_,F::q::rs,.cons C (.cons r h),.swap _ _ _,by simpa using c,λG d=>?_⟩;rw[Zl,Zl] at d ⊢;unfold TU at d ⊢;obtain⟨y,w,e,g,i⟩:=d;cases e;unfold TU at i;obtain⟨y,w,e,H,I⟩:=i;cases e;refine⟨_,_,rfl,H,?_⟩;unfold TU;exact⟨_,_,rfl,g,I⟩
 |trans _ _ t u =>
  intro f rs h c;obtain⟨a,b,j,m,n,o⟩:=t h c;obtain⟨v,z,g,J,K,L⟩:=u j n;exact⟨v,z,g,J.trans m,K,λG d=>L G (o G d)⟩
section
variable {X:Cx}
def call_setRows (N:X.calm=true)(hu:X.A.units+64<cLine):jc X (.type "set") (Gd X.w):=by
 intro Y s Z H xs J Q I O h;obtain⟨a,ys,rs,rfl,P,K,hl,q⟩:=h;obtain⟨u,rfl,S⟩:=Q9 O;obtain rfl:u=Value.ref a:=S;obtain⟨c,y,T,hz⟩:=I.list (.inl P);have U:=K.length;have l2:=y.length;rw[Zql] at U;have sz:c.toArray.size=c.length:=Zm;have m:∀i,c.toArray.getD i .none=c.getD i .none:=λi=>by
  rw[US,Uf];simp
 have f:∀i,i<c.length->xB s.heap (c.getD i .none) (rs.getD i []):=λi hi=>by
  have L:i<rs.length:=()
  obtain⟨x,hx,hI⟩:=K.get (i:=i) (d:=rD (rs.getD i [])) (by rw[Zv,Zqg L,JU (Zqg L)];rfl);obtain⟨v,g,B⟩:=y.get hx;obtain⟨b,o,ws,n,R⟩:=Bt I.hok hI B;rw[JU g];exact O6 R
 refine Oe (I.ok.hd N) T.isList (Os X.prog X.w s.heap) (λi v g=>?_) (by rw[sz];lia) (by show X.A.units+1+1+1+8<cLine;lia) λh' tk H' kk=>?_
 .have hi:i<c.length:=by
   have:=(Jl.mp g).1;lia
  have e:v=c.getD i .none:=by
   rw[<- m,US,g];rfl
  rw[e];exact⟨_,f i hi⟩
 .have same:∀i j,i<c.toArray.size->j<c.toArray.size->(λv u=>decide (xk s.heap v=xk s.heap u)) ((λi=>c.toArray.getD i .none) i) ((λi=>c.toArray.getD i .none) j)=decide (rs.getD i []=rs.getD j []):=λi j hi hj=>by
   show decide (xk s.heap (c.toArray.getD i .none)=xk s.heap (c.toArray.getD j .none))=_;rw[m,m,XP (f i ()),XP (f j ())]
  obtain⟨es,t,p,C,led,plain⟩:=H';rw[Gc same _ (Zf _)] at C;obtain⟨ep,M⟩:=p.at_;have en:c.toArray.size=rs.length:=()
  rw[en] at C;have l:(es.toList.map (·.2)).Perm ((jl rs rs.length).map λi=>c.getD i .none):=by
   have:=C.map (·.2);rw[Zw,Zw] at this;refine this.trans (List.Perm.of_eq (UJ λi _=>?_));exact m i
  have vl:T4 ((jl rs rs.length).map λi=>ys.getD i .non) ((jl rs rs.length).map λi=>c.getD i .none):=Wp λi hi=>by
   have hi:=W4 rs _ i hi;obtain⟨x,hx⟩:∃x,ys[i]? = some x:=⟨ys[i]'(),Zqg ()⟩;obtain⟨v,g,B⟩:=y.get hx;rw[JU hx,JU g];exact B
  have F:es.size<=1000:=by
   have:=l.length_eq;rw[Zql,Zql,Ui] at this;have:=Ch rs rs.length;lia
  have G:t.place.size=es.size:=by
   have:=p.tab.size;rw[Uq] at this;exact this
  refine⟨.ref s.heap.objs.size,TQ H s.heap.objs.size (xM X.w s.heap.objs.size ((jl rs rs.length).map λi=>ys.getD i .non)),I.laid (t':=tk) (λb o e=>kk b o (Zk e) e) (Zf _) ?_,rfl,q _ (I.hok.fresh (Zf _))⟩;refine⟨⟨es,ep,t,_,M,⟨p.tab.fits,plain,led,p.tab.up,G⟩,F,l,vl⟩,⟨_,M⟩,λh1 h2 z kp=>?_⟩;obtain⟨es,ep,t,J,e,r⟩:=z;exact⟨es,ep,t,J,kp _ e,r⟩
def O9 (I:Inv X Y Z H s)(h:H S=some (xM X.w S ys)):∃es ep t a,s.heap.get? S=some (W3 es ep t)/\SetGood X.w es t/\es.size<=1000/\(es.toList.map (·.2)).Perm a/\T4 ys a:=(show jK X.prog X.w H s.heap S (xM X.w S ys) from I.hok S _ h).1
def OA
 (h:wpAny (model prog w) A.in1 (collect x) (λvs a=>∃lt,Wk lt/\vs.length<64/\(∀h',(∀b o,a.heap.get? b=some o->h'.get? b=some o)->2<=vs.length->yb prog w A.in1.in1 { a with heap:=h' } vs lt) /\
  ∀c h' l,Pl vs.length c vs.length->Up lt c vs.length->(∀b o,a.heap.get? b=some o->h'.get? b=some o)->a.heap.objs.size<=l->(∃e,h'.get? l=some (seqObj "list" (c.map (TK vs)) e))->Q (.ref l) { a with heap:=h' }) E s):
 YC prog w A (call (.builtin "sorted") [x]) Q E s:=by
 refine Calls.call_function_entry kind_sorted plain_sorted entry_sorted (args_sorted1 _) ?_;unfold Builtin.«sorted»;refine Za (m:=checkCount "sorted" 1 1 _) (Zb (Za (Zc h (λvs a z=>?_) λ_ _ e=>e)));obtain⟨lt,W,d,i,j⟩:=z;have f:(a.heap.push (seqObj "list" vs.toArray 0)).get? a.heap.objs.size=some (seqObj "list" vs.toArray 0):=Zr _ rfl;have g:∀b o,a.heap.get? b=some o->b≠a.heap.objs.size:=λb o e=>Zi (Zk e);refine Za (wpAny_newList (Za (wpAny_holding (wpAny_call_entry slot_list_sort ⟨_,f,rfl⟩ entry_list_sort (DS (s:={ a with heap:=a.heap.push (seqObj "list" vs.toArray 0) }) W f d (λh' n=>i h' λb o e=>n b o (g b o e) (Zq _ e)) λc p u=>⟨_,rfl,Zb ⟨_,rfl,?_⟩⟩) (args_list_sort _)))));refine j c _ _ p u (λb o e=>?_) (Zf _) (sortedHeap_at f);rw[sortedHeap_old (g b o e) (by rw[size_push'];exact UB (Zk e))];exact Zq _ e
def call_sortedSet (hc:X.calm=true)(hu:X.A.units+64<cLine):jc X (.builtin "sorted") (Ge X.w):=by
 intro Y s Z H xs us Q I rv h;obtain⟨S,ys,rs,rfl,hS,P,z,h64,q⟩:=h;obtain⟨u,rfl,ru⟩:=Q9 rv;obtain rfl:u=Value.ref S:=ru;obtain⟨es,ep,t,ws,ho,G,hsz,R,T⟩:=O9 I hS;have l1:=P.length;rw[Zql] at l1;have B:∀vs:Yd,vs.Perm (es.toList.map (·.2))->vs.length=rs.length:=λvs g=>by
  have a:=g.length_eq;have b:=R.length_eq;have c:=T.length;lia
 refine OA (O5 (A:=X.A.in1) (E:=X.xe) (I.ok.hd hc) ho G hsz λh1 tk vs kk g U=>?_);obtain⟨f,d,n,C,l2,g2⟩:=O8 (R.symm.trans g.symm) T ();have lv:=B vs g;have lr:=C.length_eq;have A2:=g2 H P;have F:∀r∈d,r ≠ []:=λr hr=>z r (C.mem_iff.mp hr);refine⟨λi j=>T7 (d.getD i []) (d.getD j []),qP.wk λi=>d.getD i [],(),λh' J h2=>Ea (by show X.A.units+1+1+4<cLine;lia) (I.hok.kept λb o e=>J b o (kk b o e)) A2 n F h2,λm h' l p u J hl K=>?_⟩;obtain⟨e,K⟩:=K;have L:vs.length=d.length:=()
 rw[L] at p u;have y:s.heap.objs.size<=l:=by
  have hl:h1.objs.size<=l:=hl;lia
 have M:∀i∈m.toList,∃x v,f[i]? = some x/\vs[i]? = some v/\T3 x v:=λi hi=>by
  have hn:=p.mem hi;obtain⟨x,hx⟩:∃x,f[i]? = some x:=⟨f[i]'(),Zqg ()⟩;obtain⟨v,g,N⟩:=n.get hx;exact⟨x,v,hx,g,N⟩
 have sp:=ZH qP p u;have se:JE T7 d=JE T7 rs:=ZG qP (((Qe (ltb:=T7) d).trans C).trans (Qe (ltb:=T7) rs).symm) (Wn qP d) (Wn qP rs);have O:=q l (m.toList.map λi=>f.getD i .non) (I.hok.fresh y) λG hG=>by
  have:=Ag (g2 G hG) m.toList λi hi=>p.mem hi;rw[sp,se] at this;exact this
 refine⟨.ref l,TQ H l (.lst (m.toList.map λi=>f.getD i .non)),I.laid (a:=l) (o:=.lst (m.toList.map λi=>f.getD i .non)) (t':=tk) (λb o e=>J b o (kk b o e)) y ⟨?_,m.toList.map (TK vs),e,?_,?_⟩,rfl,O⟩
 .rw[Zql,p.len];exact Qz ()
 .refine Wp λi hi=>?_;obtain⟨x,v,hx,g,N⟩:=M i hi;unfold TK;rw[JU hx,JU g];exact N
 .rw[K]
  congr 3
  apply Array.ext';simp
end
end L2.ST
namespace L2.DL
open PySem PySem.Spec PyProof.Rows L2.ST
def XR:Yz->YA
 | [.lst ds]=>(Qq Kx ds).bind λrs=>if(∀r∈rs,r ≠ [])/\(jR rs).length<64/\rs.length<=999 then some (.lst ((JE T7 (jR rs)).map Ts)) else none
 |_=>none
section
variable {X:Cx}{E:XK}{fr:FA}{es:Yk}{e:Expr}
def OB (h:∀{s:TA},PA X es s->PE X e (zp (Ge X.w) (AU (zp (Gd X.w) s) zo)))(x:QA X E es fr):QN X E e (T2 XR fr):=PE.weak (h x) λZ H Q y=>by
 obtain⟨B,F,sd,r,n⟩:=y;refine⟨B,F,sd,r,(Res.need_bind n).mono (λds A vs c g b C=>?_) λ_ _ q=>q⟩;obtain⟨z,hz,q⟩:=Tt A;unfold XR at hz
 split at hz
 .obtain⟨rs,I,hz⟩:=Jh.mp hz
  split at hz
  .rename_i j;obtain rfl:=Zqi hz;obtain⟨v,rfl,h⟩:=Qw C;rw[BB I,Tl] at h;obtain⟨a,ys,rfl,J,m⟩:=h;refine⟨a,ys,rs,rfl,J.same b.fh,y9.mp (Ti.same b.fh _ _ m),j.2.2,λS t=>?_⟩;have sn:=K6 t (xM X.w S ((jl rs rs.length).map λi=>ys.getD i .non));have u:∀G,TU G (rs.map rD) ys->TU G ((jR rs).map rD) ((jl rs rs.length).map λi=>ys.getD i .non):=λG o=>Ag o _ λi hi=>W4 rs _ i hi;refine⟨S,_,jR rs,rfl,JQ,u _ (TU.same sn _ _ (y9.mp (Ti.same b.fh _ _ m))),λr K=>j.1 r (kx.mp K),j.2.1,λl L d o=>?_⟩;have p:l≠S:=λz=>by rw[z,JQ] at d;cases d
   have f:g l=none:=by rw[JL p] at d;exact d
   have w:Ext c g c (TQ g S (xM X.w S ((jl rs rs.length).map λi=>ys.getD i .non))):=.keep b.fh t _;exact(q.ext b) l c _ (w.trans (.keep w.fh d _)) f (Qh b.fh f) ⟨L,JQ,y9.mpr (o c (u c (y9.mp m)))⟩
  .exact J2 hz
 .exact J2 hz
end
def bt_set:bootBuiltins "set" = some (.type "set"):=by kernel_rfl
def OC (h:∀r∈rs,r ≠ [])(a:(jR rs).length<64)(b:rs.length<=999):XR [.lst (rs.map Ts)]=some (.lst ((JE T7 (jR rs)).map Ts)):=by
 show(Qq Kx (rs.map Ts)).bind _=_;rw[BA];exact Zd ⟨h,a,b⟩
end L2.DL
namespace L2.ST
def xn (a b:Jx):Bool:=decide (a.length<b.length)||(decide (a.length=b.length)&&T7 a b)
def W5:xn a b=true↔a.length<b.length\/(a.length=b.length/\T7 a b=true):=by
 unfold xn;rw[UX,Ue,decide_eq_true_iff,decide_eq_true_iff]
def Ci:xn a b=false↔b.length<a.length\/(a.length=b.length/\T7 a b=false):=by
 cases q:xn a b with
 |true =>
  rw[W5] at q;constructor
  .intro z;cases z
  .rintro(z|⟨z1,z2⟩)
   .rcases q with q|⟨q1,q2⟩<;>lia
   .rcases q with q|⟨q1,q2⟩
    .omega
    .rw[z2] at q2;exact J6 q2
 |false =>
  refine⟨λ_=>?_,λ_=>rfl⟩;have c:¬(xn a b=true):=by rw[q];simp
  rw[W5] at c;rcases UL a.length b.length with z|z|z
  .exact Zn (.inl z) c
  .refine .inr ⟨z,?_⟩;cases w:T7 a b with
   |true=>exact Zn (.inr ⟨z,w⟩) c
   |false=>rfl
  .exact .inl z
def z6:Tot xn where
 asy:=λa b h=>by
  rw[W5] at h;rw[Ci];rcases h with h|⟨e,d⟩
  .exact .inl h
  .exact .inr ⟨e.symm,qP.asy _ _ d⟩
 neg:=λa b c h=>by
  rw[W5] at h;rw[W5,W5];rcases h with h|⟨e,d⟩
  .rcases UL a.length b.length with z|z|z
   .exact .inl (.inl z)
   .exact .inr (.inl ())
   .exact .inr (.inl ())
  .rcases UL a.length b.length with z|z|z
   .exact .inl (.inl z)
   .rcases qP.neg a b c d with y|y
    .exact .inl (.inr ⟨z,y⟩)
    .exact .inr (.inr ⟨(),y⟩)
   .exact .inr (.inl ())
 tot:=λa b e d=>by
  rw[Ci] at e d;rcases e with e|⟨e,h3⟩<;>rcases d with d|⟨d,h4⟩
  .omega
  .omega
  .omega
  .exact qP.tot _ _ h3 h4
def OD (hs:l.Pairwise λa b=>T7 a b=true)(p:Pl l.length jx l.length)(u:Up (λi j=>decide (((l.getD i []).length:Int)<((l.getD j []).length:Int))) jx l.length):jx.toList.map (λi=>l.getD i [])=JE xn l:=by
 refine ZG z6 ?_ ?_ (Wn z6 l)
 .refine List.Perm.trans ?_ (Qe (ltb:=xn) l).symm;have q:jx.toList.Perm (List.range l.length):=by
   have:=Jt.mp p.perm;simpa using this
  refine(q.map _).trans (List.Perm.of_eq ?_);apply List.ext_getElem
  .simp
  .intro i o f;simp[f]
 .refine Jn.mpr λa b g h ab=>?_;rw[Vr,Vr];have sz:jx.toList.length=l.length:=by rw[Ui,p.size]
  rw[Zql] at g h;have m:jx.toList[a]=gx jx a:=by
   unfold gx;rw[Uo (by rw[p.size];lia)];simp
  have n:jx.toList[b]=gx jx b:=by
   unfold gx;rw[Uo (by rw[p.size];lia)];simp
  rw[m,n];have d:=p.lt (Zf _) (show a<l.length from ());have e:=p.lt (Zf _) (show b<l.length from ());have c:=u a b ab ();generalize gx jx a=i at c d;generalize gx jx b=j at c e;show xn (l.getD j []) (l.getD i [])=false;rw[Ci];rcases c with c|⟨c,ij⟩
  .have:=of_decide_eq_true c;exact .inl ()
  .have:=of_decide_eq_false c;rcases Nat.lt_or_ge (l.getD i []).length (l.getD j []).length with z|z
   .exact .inl z
   .refine .inr ⟨(),qP.asy _ _ ?_⟩;have:=Jn.mp hs i j d e ij;rw[JU (Zqg d),JU (Zqg e)];exact this
section
variable {prog:Program}{w:World}{A:Around}{E:Ya}{s:Shared}
def keyed_orc (c:IntsAre a kz)(l:kz.length=vs.length):kr prog w A s oneType' (λi=>(TK a i,TK vs i)) (λi j=>decide (kz.getD i 0<kz.getD j 0)) vs.length:=by
 have b:∀{a:Yd} {kz:Yf},IntsAre a kz->∀i,i<kz.length->∃t,TK a i=.int (kz.getD i 0) t:=by
  intro a kz h
  induction h with
  |nil=>intro i hi;exact Zn hi (Us _)
  |cons n t _ d =>
   intro i hi;cases i with
   |zero=>exact⟨t,rfl⟩
   |succ i=>exact d i (by simpa using hi)
 intro i j hi m E Q e;obtain⟨t,f⟩:=b c i ();obtain⟨u,g⟩:=b c j ();show YC prog w A (keyLt' oneType' (TK a i) (TK a j)) Q E s;rw[f,g];exact W.kat_lt_int e
def OE (kz:Yf):Wk λi j=>decide (kz.getD i 0<kz.getD j 0):=
 ⟨λi j h=>by have:=of_decide_eq_true h;exact Zo (),λi j k h=>by
  have:=of_decide_eq_true h;rcases Int.lt_or_le (kz.getD i 0) (kz.getD j 0) with q|q
  .exact .inl (Zp q)
  .exact .inr (Zp ())⟩
def OF (q:IntsAre keys.toList kz)(F:kz.length=vs.length)(r:vs.length<64)(t:kS≠a)
 (z:s.heap.get? kS=some (seqObj "list" keys e)) (G:s.heap.get? a=some (seqObj "list" #[] e1))
 (h:∀d h',Pl vs.length d vs.length->Up (λi j=>decide (kz.getD i 0<kz.getD j 0)) d vs.length->(∀b o,b≠kS->b≠a->s.heap.get? b=some o->h'.get? b=some o)->(∃c,h'.get? a=some (seqObj "list" (d.map (TK vs)) c))->P (.done (.ret .none)) { s with heap:=h' }):
 YC prog w A (ksk_end a false vs.toArray e1 (.ref kS) keys) P E s:=by
 have hsz:keys.size=vs.length:=by
  have H:=q.length;rw[Ui] at H;lia
 have S:keys=keys.toList.toArray:=Array.toArray_toList.symm;have B:keys.zip vs.toArray=(Array.range vs.length).map λi=>(TK keys.toList i,TK vs i):=by
  apply Array.ext_getElem?;intro k;rw[UY];by_cases g:k<vs.length
  .rw[Vp,Zd g];have e:TK vs k=vs[k]:=by unfold TK;rw[Uf,Zqg g];rfl
   have I:TK keys.toList k=keys[k]'():=by unfold TK;rw[Uf,Zqg (by rw[Ui];lia)];simp
   simp[Array.getElem?_zip_eq_some,g,hsz,e,I]
  .rw[Vp,Ze g,U8 (by simp;lia)];rfl
 have l:∀(st:SortSt) (d:Yg),arrOf st=d.map (λi=>(TK keys.toList i,TK vs i))->failedOf st=none->Pl vs.length d vs.length->Up (λi j=>decide (kz.getD i 0<kz.getD j 0)) d vs.length->YC prog w A (ksk_tail a false e1 (.ref kS) st) P E s:=by
  intro st d u v p x;have J:(arrOf st).map (·.2)=d.map (TK vs):=by rw[u,Array.map_map];rfl
  unfold ksk_tail;dsimp only;rw[J,v];obtain⟨C,g1⟩:∃C,(s.heap.update kS (Obj.mapSeq λ_ => #[])).get? kS=some (seqObj "list" #[] C):=⟨_,get?_update_seq z (λ_ => #[])⟩;have m:(s.heap.update kS (Obj.mapSeq λ_ => #[])).get? a=some (seqObj "list" #[] e1):=by rw[Heap.get?_update_ne _ _ _ _ (Ne.symm t)];exact G
  refine Za (listUpdate_at z rfl ?_ (by rw[hsz,sizeLine_eq];lia) (Uc _));refine Za (wpAny_letGo ?_);refine Za (seqEpoch_at (s:={ s with heap:=s.heap.update kS (Obj.mapSeq λ_ => #[]) }) m rfl (Za (listUpdate_at (s:={ s with heap:=s.heap.update kS (Obj.mapSeq λ_ => #[]) }) m rfl ?_ (Uc _) (by rw[Ze Zj,Uq,p.size,sizeLine_eq];lia))));simp only[bne_self_eq_false,Ud,if_false];refine Zb (h d _ p x (λb o K y L=>?_) ?_)
  .show((s.heap.update kS (Obj.mapSeq λ_ => #[])).update a (Obj.mapSeq λ_=>d.map (TK vs))).get? b=some o;rw[Heap.get?_update_ne _ _ _ _ y,Heap.get?_update_ne _ _ _ _ K];exact L
  .exact⟨_,get?_update_seq m (λ_=>d.map (TK vs))⟩
 unfold ksk_end;dsimp only;simp only[Ud,if_false];by_cases n:vs.toArray.size<2
 .rw[Zd n,Zd n];refine Za (Zb ?_);rw[StateT.run_pure];refine Za (Zb ?_);refine l _ (Array.range vs.length) B rfl (ZF _ _ (Zf _)) λi j T U=>?_;rw[Zm] at n;lia
 .rw[Ze n,Ze n];rw[Zm] at n;rw[ksk_kind q (by rw[hsz];lia)];refine Za (Zb ?_);refine Za (Zc (DQ (OE kz) (keyed_orc q F) (ix:=Array.range vs.length) (st:=SortSt.mk' oneType' (keys.zip vs.toArray) #[] 7 none) (Q:=λ_ f=>∃d,arrOf f=d.map (λi=>(TK keys.toList i,TK vs i))/\failedOf f=none/\Pl vs.length d vs.length/\Up (λi j=>decide (kz.getD i 0<kz.getD j 0)) d vs.length)
   ⟨B,rfl,rfl,rfl⟩ (ZF _ _ ()) () r λd f M N O R=>⟨d,M,N,O,R⟩) ?_ λ_ _ e=>e)
  rintro⟨⟨⟩,f⟩ s' ⟨rfl,d,u,v,p,x⟩;exact l f d u v p x
def OG {a kS:Addr}{f:Value}{vs:Yd}{kz:Yf}{L:Nat}{P:PySem.Fin->Yv}(M:kz.length=vs.length)(F:vs.length<64)(y:kS≠a)
 (N:s.heap.get? kS=some (seqObj "list" #[] 0)) (O:s.heap.get? a=some (seqObj "list" #[] L))
 (z:∀(i:Nat) (v:Value) (k:Int),vs[i]? = some v->kz[i]? = some k->∀(h:Heap) (tk:Nat),(∀b o,b≠kS->b≠a->s.heap.get? b=some o->h.get? b=some o) ->
  YC prog w A (call f [v]) (λr s'=>∃t G,r=.int k t/\s'={ s with heap:=h,toks:=G }) (λ_ _=>False) { s with heap:=h,toks:=tk })
 (h:∀B h' tk,Pl vs.length B vs.length->Up (λi j=>decide (kz.getD i 0<kz.getD j 0)) B vs.length->(∀b o,b≠kS->b≠a->s.heap.get? b=some o->h'.get? b=some o)->(∃c,h'.get? a=some (seqObj "list" (B.map (TK vs)) c))->P (.done (.ret .none)) { s with heap:=h',toks:=tk }):
 YC prog w A (ksk_rest a f false vs.toArray L (.ref kS)) P E s:=by
 unfold ksk_rest;refine Za (wpAny_rule ?_)
 first
  |rw[List.forIn_toArray]
  | (rw[<- Vi];simp only[List.toList_toArray])
  |rw[<- Vi]
 refine Za (ksk_fold (λi s'=>∃h' tk l e,s'={ s with heap:=h',toks:=tk }/\(∀b o,b≠kS->s.heap.get? b=some o->h'.get? b=some o)/\h'.get? kS=some (seqObj "list" l e)/\IntsAre l.toList (kz.take i)) vs 0 s
  ⟨s.heap,s.toks,#[],0,rfl,λ_ _ _ e=>e,N,by simpa using IntsAre.nil⟩ ?step ?done)
 case step =>
  rintro j x s' hx ⟨h',tk,l,e,rfl,kk,d,q⟩;simp only[UO] at q ⊢;have hj:j<vs.length:=(Jd.mp hx).1;obtain⟨k,hkj⟩:∃k,kz[j]? = some k:=⟨_,Zqg ()⟩;have hz:l.size<=vs.length:=by
   have Q:=q.length;rw[Ui,UG] at Q;lia
  refine Za (wpAny_attempt (Zc (z j x k hx hkj h' tk λb o m _ C=>kk b o m C) (λv R S=>?_) λ_ _ T=>T.elim));obtain⟨n,H,rfl,rfl⟩:=S
  try dsimp only
  obtain⟨I,hc2⟩:∃I,(h'.update kS (Obj.mapSeq (·.push (.int k n)))).get? kS=some (seqObj "list" (l.push (.int k n)) I):=⟨_,get?_update_seq d (·.push (.int k n))⟩;have U:kz.take (j+1)=kz.take j++[k]:=by rw[List.take_add_one,hkj];simp
  have X:(l.push (Value.int k n)).toList=l.toList++[Value.int k n]:=by simp
  refine Za (listUpdate_at (s:={ s with heap:=h',toks:=H }) d rfl ?_ (by rw[sizeLine_eq];lia) (Zh (Yr (Array.size_push ..)) (by rw[sizeLine_eq];lia)));refine Zb ⟨rfl,_,_,l.push (.int k n),I,rfl,λb o m C=>?_,hc2,by rw[X,U];exact ksk_snoc q⟩;show(h'.update kS (Obj.mapSeq (·.push (.int k n)))).get? b=some o;rw[Heap.get?_update_ne _ _ _ _ m];exact kk b o m C
 case done =>
  rintro s' ⟨h',tk,l,e,rfl,kk,d,q⟩;have J:IntsAre l.toList kz:=by
   have Y:kz.take (0+vs.length)=kz:=Vh ();rw[Y] at q;exact q
  try dsimp only
  refine Za (listItems_at (s:={ s with heap:=h',toks:=tk }) d rfl ?_);exact OF (s:={ s with heap:=h',toks:=tk }) J M F y d (kk a _ (Ne.symm y) O) λB Z p u k2 g=>h B Z tk p u (λb o m K C=>k2 b o m K (kk b o m C)) g
def OH {a:Addr}{f:Value}{vs:Yd}{kz:Yf}{n:Nat}{P:PySem.Fin->Yv}(y:s.heap.get? a=some (seqObj "list" vs.toArray n))(F:kz.length=vs.length)(z:vs.length<64)
 (m:∀(i:Nat) (v:Value) (k:Int),vs[i]? = some v->kz[i]? = some k->∀(h:Heap) (tk:Nat),(∀b o,b≠a->s.heap.get? b=some o->h.get? b=some o) ->
  YC prog w A (call f [v]) (λr s'=>∃t B,r=.int k t/\s'={ s with heap:=h,toks:=B }) (λ_ _=>False) { s with heap:=h,toks:=tk })
 (h:∀q h' tk,Pl vs.length q vs.length->Up (λi j=>decide (kz.getD i 0<kz.getD j 0)) q vs.length->(∀b o,b≠a->s.heap.get? b=some o->h'.get? b=some o)->(∃c,h'.get? a=some (seqObj "list" (q.map (TK vs)) c))->P (.done (.ret .none)) { s with heap:=h',toks:=tk }):
 YC prog w A (ksk_tree a f false) P E s:=by
 have G:a<s.heap.objs.size:=Zk y;obtain⟨C,ho1⟩:∃C,(s.heap.update a (Obj.mapSeq λ_=>(#[]:Yl))).get? a=some (seqObj "list" #[] C):=⟨_,get?_update_seq y λ_ => #[]⟩;have d:((s.heap.update a (Obj.mapSeq λ_=>(#[]:Yl))).push (seqObj "tuple" vs.toArray 0)).objs.size=s.heap.objs.size+1:=by rw[size_push',Heap.size_update]
 unfold ksk_tree;refine Za (listItems_at y rfl ?_);refine Za (listUpdate_at y rfl ?_ (by rw[Zm,sizeLine_eq];lia) (Uc _));refine Za (seqEpoch_at ho1 rfl ?_);refine Za (wpAny_newTuple ?_ (by show vs.length<=_;rw[sizeLine_eq];lia));refine Za (wpAny_newList ?_ (Uc _));refine wpAny_holding ?_;have x:∀{b o},s.heap.get? b=some o->b≠s.heap.objs.size/\b≠s.heap.objs.size+1:=λe=>⟨Zi (Zk e),Zi (UB (Zk e))⟩;have keep:∀b o,b≠a->s.heap.get? b=some o->(((s.heap.update a (Obj.mapSeq λ_=>(#[]:Yl))).push (seqObj "tuple" vs.toArray 0)).push (seqObj "list" #[] 0)).get? b=some o:=λb o l e=>by
  refine Zq _ (Zq _ ?_);rw[Heap.get?_update_ne _ _ _ _ l];exact e
 refine OG (s:={ s with heap:=((s.heap.update a (Obj.mapSeq λ_=>(#[]:Yl))).push (seqObj "tuple" vs.toArray 0)).push (seqObj "list" #[] 0) }) (kS:=((s.heap.update a (Obj.mapSeq λ_=>(#[]:Yl))).push (seqObj "tuple" vs.toArray 0)).objs.size)
  F z (by rw[d];exact UV (UB G)) (Zr _ rfl) (Zq _ (Zq _ ho1))
  (λi v k H I h' tk kk=>m i v k H I h' tk λb o l e=>kk b o (by rw[d];exact(x e).2) l (keep b o l e))
  (λq h' tk p u kk g=>h q h' tk p u (λb o l e=>kk b o (by rw[d];exact(x e).2) l (keep b o l e)) g)
end
section
variable {X:Cx}
def Gf:Yx->Hp->VK->Prop:=λxs H Q=>∃a ys rs,xs=[.ref a]/\Rd H a (.lst ys)/\TU H (rs.map rD) ys/\rs.Pairwise (λa b=>T7 a b=true)/\rs.length<64/\(∀r∈rs,r.length<=1000) /\
 ∀l c,H l=none->(∀G,TU G (rs.map rD) ys->TU G ((JE xn rs).map rD) c)->Q (.ref l) (TQ H l (.lst c))
def OI {Y:Yb}{Z: St}{H:Hp}{s:Shared}{a:Addr}{ys:Yx}{rs:Jy}{Q:VK}(I:Inv X Y Z H s)(T:Rd H a (.lst ys))(O:TU H (rs.map rD) ys)(hs:rs.Pairwise (λa b=>T7 a b=true))(U:rs.length<64)(C:∀r∈rs,r.length<=1000)
 (q:∀l P,H l=none->(∀G,TU G (rs.map rD) ys->TU G ((JE xn rs).map rD) P)->Q (.ref l) (TQ H l (.lst P))):
 YB X (call (.builtin "sorted") [.ref a] [(Str.ofString "key",.builtin "len")]) (EP X Y Z Q) X.xe s:=by
 obtain⟨f,E,pl,hz⟩:=I.list (.inl T);have l1:=O.length;have l2:=E.length;rw[Zql] at l1;have F:f.length=rs.length:=()
 have hl:=pl.isList;have keep:∀b o,s.heap.get? b=some o->(((s.heap.push (seqObj "list" #[] 0)).update s.heap.objs.size (Obj.mapSeq (· ++ f.toArray))).push (seqObj "list" f.toArray 0)).get? b=some o:=λb o q=>by
  have t:b<s.heap.objs.size:=Zk q;refine Zq _ ?_;rw[Heap.get?_update_ne _ _ _ _ (Zi t),Heap.get?_push_ne _ _ _ (Zi t)];exact q
 have hsz:((s.heap.push (seqObj "list" #[] 0)).update s.heap.objs.size (Obj.mapSeq (· ++ f.toArray))).objs.size=s.heap.objs.size+1:=by
  rw[Heap.size_update,size_push']
 have h:(((s.heap.push (seqObj "list" #[] 0)).update s.heap.objs.size (Obj.mapSeq (· ++ f.toArray))).push (seqObj "list" f.toArray 0)).get? (s.heap.objs.size+1)=some (seqObj "list" f.toArray 0):=by
  rw[<- hsz];exact Zr _ rfl
 refine call_function_entry_kw kind_sorted plain_sorted entry_sorted (ksk_s1 _ _) ?_;unfold Builtin.«sorted»;refine Za (m:=checkCount "sorted" 1 1 _) (Zb ?_);refine Za (collect_list hl ?_ (by rw[F,sizeLine_eq];lia));refine Za (wpAny_newList ?_ (by rw[F,sizeLine_eq];lia));show wpAny _ _ _ _ _ { s with heap:=((s.heap.push (seqObj "list" #[] 0)).update s.heap.objs.size (Obj.mapSeq (· ++ f.toArray))).push (seqObj "list" f.toArray 0) };rw[hsz];generalize hH:((s.heap.push (seqObj "list" #[] 0)).update s.heap.objs.size (Obj.mapSeq (· ++ f.toArray))).push (seqObj "list" f.toArray 0)=hp at keep h;refine Za (wpAny_holding (wpAny_call_entry_kw slot_list_sort ⟨_,h,rfl⟩ entry_list_sort ?body (ksk_l1 _ _)))
 case body =>
  show wpAny (model X.prog X.w) X.A.in1.in1 (Builtin.«list.sort» ⟨[.ref (s.heap.objs.size+1)],[(Str.ofString "key",.builtin "len")]⟩) _ _ _;rw[ksk_t4];refine OH (s:={ s with heap:=hp }) (kz:=rs.map λr=>(r.length:Int)) h (by rw[Zql];lia) () (λi v k w J h' tk kk=>?_) λn h' tk p u kk g=>⟨_,rfl,Zb ⟨_,rfl,?_⟩⟩
  .have hi:i<rs.length:=by
    have:=(Jd.mp J).1
    rwa [Zql] at this
   obtain⟨x,hx,hI⟩:=O.get (i:=i) (d:=rD (rs.getD i [])) (by rw[Zv,Zqg hi,JU (Zqg hi)];rfl);obtain⟨v',y,z⟩:=E.get hx;rw[w] at y;obtain rfl:=Zqi y;obtain⟨b,o,K,m,R⟩:=Bt I.hok hI z;obtain rfl:v=Value.ref b:=R.isv;have hb:b≠s.heap.objs.size+1:=Zi (UB (Zk R.get));have ht:IsTup h' b K.toArray:=⟨o,kk b o hb (keep b o R.get),R.cls,m,R.dat⟩;have A:K.length=(rs.getD i []).length:=R.prs.1;have ek:k=((rs.getD i []).length:Int):=by
    rw[Zv,Zqg hi] at J;rw[JU (Zqg hi)];exact(Zqi J).symm
   have S:(rs.getD i []).length<=1000:=by
    rw[JU (Zqg hi)];exact C _ (UD hi)
   have ev:Value.int ((K.toArray.size:Nat):Int) (tk+1)=Value.int k (tk+1):=by rw[Zm,A,ek]
   exact len_tuple (s:={ s with heap:=h',toks:=tk }) ht (by rw[Zm,A];lia) ⟨tk+1,tk+1+1,ev,rfl⟩
  .obtain⟨c,g⟩:=g;have L:∀b o,s.heap.get? b=some o->h'.get? b=some o:=λb o e=>kk b o (Zi (UB (Zk e))) (keep b o e);rw[F] at p u;have ud:(λi j=>decide ((rs.map λr=>(r.length:Int)).getD i 0<(rs.map λr=>(r.length:Int)).getD j 0))=λi j=>decide (((rs.getD i []).length:Int)<((rs.getD j []).length:Int)):=by
    have e:∀i,(rs.map λr=>(r.length:Int)).getD i 0=((rs.getD i []).length:Int):=λi=>by
     rw[Uf,Zv,Uf];cases rs[i]?<;>rfl
    funext i j
    rw[e,e]
   rw[ud] at u;have sp:=OD hs p u;have B:s.heap.objs.size<=s.heap.objs.size+1:=Nat.le_succ _;have M:∀i∈n.toList,∃x v,ys[i]? = some x/\f[i]? = some v/\T3 x v:=λi hi=>by
    have hn:=p.mem hi;obtain⟨x,hx⟩:∃x,ys[i]? = some x:=⟨ys[i]'(),Zqg ()⟩;obtain⟨v,w,z⟩:=E.get hx;exact⟨x,v,hx,w,z⟩
   have N:=q (s.heap.objs.size+1) (n.toList.map λi=>ys.getD i .non) (I.hok.fresh B) λG hG=>by
    have:=Ag hG n.toList λi hi=>p.mem hi;rw[sp] at this;exact this
   refine⟨.ref (s.heap.objs.size+1),TQ H (s.heap.objs.size+1) (.lst (n.toList.map λi=>ys.getD i .non)),I.laid (a:=s.heap.objs.size+1) (o:=.lst (n.toList.map λi=>ys.getD i .non)) (t':=tk) L B ⟨?_,n.toList.map (TK f),c,?_,?_⟩,rfl,N⟩
   .rw[Zql,p.len];exact Qz ()
   .refine Wp λi hi=>?_;obtain⟨x,v,hx,w,z⟩:=M i hi;unfold TK;rw[JU hx,JU w];exact z
   .rw[g]
    congr 3
    apply Array.ext';simp
def pe_sortLen (g:Gl X "sorted")(i:X.mg "sorted" = none)(b:Gl X "len")(c:X.mg "len" = none)(j:PA X [e] t)
 (l:backTo pos (starEach [e] X.env)=(false,eval e X.env)::backTo pos (starEach [] X.env):=by rfl) (d:(backTo pos (starEach [e] X.env)).any (·.1)=false:=by rfl):PE X (.Call (.Name "sorted" p) [e] [⟨some "key",.Name "len" lp,kp⟩] pos) (zp Gf t):=by
 intro Y s Z H Q I h;refine wpAny_Call_Name_kw (WG I g i (show bootBuiltins "sorted" = some (.builtin "sorted") by kernel_rfl) ?_ (by decide) (by decide));refine callWith_kw (TZ (j pos Y s Z H _ I h) λz A ⟨vs,B,f,m,n⟩=>?_) l d;refine kws_cons (WG f b c boot_len ?_ (by decide) (by decide));refine kws_nil ?_;obtain⟨a,ys,rs,rfl,o,r,v,w,x,q⟩:=n;obtain⟨u,rfl,y⟩:=Q9 m;obtain rfl:u=Value.ref a:=y;exact OI f o r v w x q
end
end L2.ST
namespace L2.DL
open PySem PySem.Spec PyProof.Rows L2.ST
def XS:Yz->YA
 | [.lst ds]=>(Qq Kx ds).bind λrs=>if rs.Pairwise (λa b=>T7 a b=true)/\rs.length<64/\∀r∈rs,r.length<=1000 then some (.lst ((JE xn rs).map Ts)) else none
 |_=>none
section
variable {X:Cx}{E:XK}{fr:FA}{es:Yk}{e:Expr}
def OJ (h:∀{f:TA},PA X es f->PE X e (zp Gf f))(j:QA X E es fr):QN X E e (T2 XS fr):=PE.weak (h j) λZ H Q m=>by
 obtain⟨B,F,sd,r,n⟩:=m;refine⟨B,F,sd,r,(Res.need_bind n).mono (λds o vs g x b p=>?_) λ_ _ q=>q⟩;obtain⟨z,hz,q⟩:=Tt o;unfold XS at hz
 split at hz
 .obtain⟨rs,s,hz⟩:=Jh.mp hz
  split at hz
  .rename_i c;obtain rfl:=Zqi hz;obtain⟨v,rfl,h⟩:=Qw p;rw[BB s,Tl] at h;obtain⟨a,ys,rfl,t,i⟩:=h;refine⟨a,ys,rs,rfl,t.same b.fh,y9.mp (Ti.same b.fh _ _ i),c.1,c.2.1,c.2.2,λl u d w=>?_⟩;exact(q.ext b) l g _ (.keep b.fh d _) d (Qh b.fh d) ⟨u,JQ,y9.mpr (w g (y9.mp i))⟩
  .exact J2 hz
 .exact J2 hz
end
def OK (h:rs.Pairwise (λa b=>T7 a b=true))(c:rs.length<64)(d:∀r∈rs,r.length<=1000):XS [.lst (rs.map Ts)]=some (.lst ((JE xn rs).map Ts)):=by
 show(Qq Kx (rs.map Ts)).bind _=_;rw[BA];exact Zd ⟨h,c,d⟩
end L2.DL
namespace L2
def jK.has {P:Program}{w:World}{H:Hp}{h:Heap}{a:Addr}{o:HO}(x:jK P w H h a o):∃u,h.get? a=some u:=by
 cases o with
 |lst xs=>obtain⟨_,_,_,_,e⟩:=x;exact⟨_,e⟩
 |tup xs=>obtain⟨_,_,_,o,e,_⟩:=x;exact⟨_,e⟩
 |dK b=>obtain⟨_,_,_,_,o,_,_,e,_⟩:=x;exact⟨_,e⟩
 |dT b=>obtain⟨_,_,_,_,o,_,_,e,_⟩:=x;exact⟨_,e⟩
 |set S n=>obtain⟨o,_,_,_,e,_⟩:=x;exact⟨_,e⟩
 |ins C c fs=>obtain⟨_,_,_,e,_⟩:=x;exact⟨_,e⟩
 |own y=>exact x
 |xd fs=>obtain⟨_,⟨_,_,_,e,_⟩,_⟩:=x;exact⟨_,e⟩
 |rng lo hi=>obtain⟨_,_,_,e⟩:=x;exact⟨_,e⟩
 |frz d u=>exact⟨_,x.1⟩
 |tbl ps=>exact⟨_,show h.get? a=some _ from x⟩
 |met f y=>exact⟨_,show h.get? a=some _ from x⟩
 |ext φ => exact x.2.1
def Gg {M:Model}{Γ: PySem.Ctx}{p:Pos}{t:Sem Fin}{fs:List Frame}{s s':Shared}{e:End}(h:Runs M Γ p t fs s e s'):∀{f g},Runs M Γ p t fs s f g->e=f/\s'=g:=by
 induction h with
 |done=>intro f g k;cases k;exact⟨rfl,rfl⟩
 |raise=>intro f g k;cases k;exact⟨rfl,rfl⟩
 |again q _ d=>intro f g k;cases k with|again _ k=>exact d k
 |rule _ d=>intro f g k;cases k with|rule k=>exact d k
 | «at» _ d=>intro f g k;cases k with|«at» k=>exact d k
 |load q _ d=>intro f g k;cases k with|load c k=>rw[q] at c;cases c;exact d k
 |update _ _ d=>intro f g k;cases k with|update _ k=>exact d k
 |loadIfAlive _ d=>intro f g k;cases k with|loadIfAlive k=>exact d k
 |point _ d=>intro f g k;cases k with|point k=>exact d k
 |alloc _ d=>intro f g k;cases k with|alloc k=>exact d k
 |fresh _ d=>intro f g k;cases k with|fresh k=>exact d k
 |ask _ d=>intro f g k;cases k with|ask k=>exact d k
 |choose _ _ d=>intro f g k;cases k with|choose _ k=>exact d k
 |os _ d=>intro f g k;cases k with|os k=>exact d k
 |handled _ d=>intro f g k;cases k with|handled k=>exact d k
 |genState q _ d=>intro f g k;cases k with|genState c k=>rw[q] at c;cases c;exact d k
 |stack _ d=>intro f g k;cases k with|stack k=>exact d k
 |thread _ d=>intro f g k;cases k with|thread k=>exact d k
 |newGen _ d=>intro f g k;cases k with|newGen k=>exact d k
 |call _ _ j l =>
  intro f g k;cases k with
  |call a b=>obtain⟨i,rfl⟩:=j a;cases i;exact l b
  |callSusp a=>obtain⟨i,_⟩:=j a;cases i
 |callSusp _ j =>
  intro f g k;cases k with
  |call a b=>obtain⟨i,_⟩:=j a;cases i
  |callSusp a=>obtain⟨i,rfl⟩:=j a;cases i;exact⟨rfl,rfl⟩
 |yield=>intro f g k;cases k;exact⟨rfl,rfl⟩
 |resumeFresh q _ _ _ j l =>
  intro f g k;cases k with
  |resumeFresh c a _ b=>rw[q] at c;cases c;obtain⟨rfl,rfl⟩:=j a;exact l b
  |resumeSuspended c=>rw[q] at c;cases c
  |resumeJustStarted c n=>exact Zn rfl n
  |resumeRunning c=>rw[q] at c;cases c
  |resumeFinished c=>rw[q] at c;cases c
 |resumeSuspended q _ _ _ j l =>
  intro f g k;cases k with
  |resumeSuspended c a _ b=>rw[q] at c;cases c;obtain⟨rfl,rfl⟩:=j a;exact l b
  |resumeFresh c=>rw[q] at c;cases c
  |resumeJustStarted c=>rw[q] at c;cases c
  |resumeThrowFresh c=>rw[q] at c;cases c
  |resumeRunning c=>rw[q] at c;cases c
  |resumeFinished c=>rw[q] at c;cases c
 |resumeJustStarted q n _ d =>
  intro f g k;cases k with
  |resumeJustStarted _ _ k=>exact d k
  |resumeFresh=>exact Zn rfl n
  |resumeSuspended c=>rw[q] at c;cases c
  |resumeRunning c=>rw[q] at c;cases c
  |resumeFinished c=>rw[q] at c;cases c
 |resumeThrowFresh q _ d =>
  intro f g k;cases k with
  |resumeThrowFresh _ k=>exact d k
  |resumeSuspended c=>rw[q] at c;cases c
  |resumeRunning c=>rw[q] at c;cases c
  |resumeFinished c=>rw[q] at c;cases c
 |resumeRunning q _ d =>
  intro f g k;cases k with
  |resumeRunning _ k=>exact d k
  |resumeFresh c=>rw[q] at c;cases c
  |resumeSuspended c=>rw[q] at c;cases c
  |resumeJustStarted c=>rw[q] at c;cases c
  |resumeThrowFresh c=>rw[q] at c;cases c
  |resumeFinished c=>rw[q] at c;cases c
 |resumeFinished q _ d =>
  intro f g k;cases k with
  |resumeFinished _ k=>exact d k
  |resumeFresh c=>rw[q] at c;cases c
  |resumeSuspended c=>rw[q] at c;cases c
  |resumeJustStarted c=>rw[q] at c;cases c
  |resumeThrowFresh c=>rw[q] at c;cases c
  |resumeRunning c=>rw[q] at c;cases c
 |segRet _ _ j l =>
  intro f g k;cases k with
  |segRet a b=>obtain⟨i,rfl⟩:=j a;cases i;exact l b
  |segSuspOut _ a=>obtain⟨i,_⟩:=j a;cases i
  |segSuspGen _ a=>obtain⟨i,_⟩:=j a;cases i
 |segGen _ _ j l =>
  intro f g k;cases k with
  |segGen a b=>obtain⟨i,rfl⟩:=j a;cases i;exact l b
  |segSuspOut _ a=>obtain⟨i,_⟩:=j a;cases i
  |segSuspGen _ a=>obtain⟨i,_⟩:=j a;cases i
 |segSuspOut q _ j =>
  intro f g k;cases k with
  |segRet a b=>obtain⟨i,rfl⟩:=j a;cases i
  |segGen a b=>obtain⟨i,rfl⟩:=j a;cases i
  |segSuspOut _ a=>obtain⟨i,rfl⟩:=j a;cases i;exact⟨rfl,rfl⟩
  |segSuspGen c=>rw[q] at c;cases c
 |segSuspGen q _ _ _ j l =>
  intro f g k;cases k with
  |segRet a b=>obtain⟨i,rfl⟩:=j a;cases i
  |segGen a b=>obtain⟨i,rfl⟩:=j a;cases i
  |segSuspOut c=>rw[q] at c;cases c
  |segSuspGen c a _ b=>rw[q] at c;cases c;obtain⟨i,rfl⟩:=j a;cases i;exact l b
def OL {M:Model}{Γ: PySem.Ctx}{p:Pos}{g:Nat}{r:Resume}{s s' d:Shared}{a b:GenResult}(h:Wakes M Γ p g r s a s')(k:Wakes M Γ p g r s b d):a=b/\s'=d:=by
 unfold Wakes at h k;have f {Γ: PySem.Ctx} {p:Pos} {t:Sem PySem.Fin} {fs:List Frame} {z:Shared} (h:∃e₁ s₁,Runs M Γ p t fs z e₁ s₁/\e₁.quiet=true/\a=e₁.result/\s'=s₁.setGen g e₁.genState) (k:∃e₁ s₁,Runs M Γ p t fs z e₁ s₁/\e₁.quiet=true/\b=e₁.result/\d=s₁.setGen g e₁.genState):a=b/\s'=d:=by
  obtain⟨_,_,j,_,rfl,rfl⟩:=h;obtain⟨_,_,k1,_,rfl,rfl⟩:=k;obtain⟨rfl,rfl⟩:=Gg j k1;exact⟨rfl,rfl⟩
 have one {x:GenResult} {z:Shared} (h:a=x/\s'=z) (k:b=x/\d=z):a=b/\s'=d:=⟨h.1.trans k.1.symm,h.2.trans k.2.symm⟩;cases i:s.gens[g]? with
 |none=>rw[i] at h;exact h.elim
 |some st =>
  rw[i] at h k;cases st with
  |fresh c =>
   cases r with
   |send v=>cases v<;>first|exact f h k|exact one h k
   |throw x=>exact one h k
  |suspended=>exact f h k
  |running=>exact one h k
  |finished=>exact one h k
def OM {α: Type}{M:Model}{Γ: PySem.Ctx}{Q i: α -> Pos->Yv}{E j:Value->Pos->Yv}(t:Sem α):∀p s,Sem.wp M Γ t Q E p s->Sem.wp M Γ t i j p s->Sem.wp M Γ t (λa p s=>Q a p s/\i a p s) (λa p s=>E a p s/\j a p s) p s:=by
 induction t with
 |pure x=>exact λ_ _ a b=>⟨a,b⟩
 |raise v=>exact λ_ _ a b=>⟨a,b⟩
 |unsupported|finish|yield|fork|await|register=>exact λ_ _ a _=>a
 |rule _ k d|«at» _ k d|alloc _ k d|loadIfAlive _ k d|point _ k d|fresh k d|ask k d|os _ _ k d|handled _ k d|newGen _ k d|stack k d|thread k d=>exact λ_ _ a b=>d _ _ _ a b
 |load a _ k d|genState a k d=>exact λ_ _ ⟨o,m,h⟩ ⟨o',ho',h'⟩=>⟨o,m,d _ _ _ h (by rw[m] at ho';cases ho';exact h')⟩
 |update a _ f k d|choose _ _ k d=>exact λ_ _ ⟨n,h⟩ ⟨_,h'⟩=>⟨n,d _ _ _ h h'⟩
 |call c h g l k d =>
  intro p s ⟨r,e,x,y⟩ ⟨r',s1',x',y'⟩;obtain⟨q,rfl⟩:=Gg x x';cases q;exact⟨r,e,x,d _ _ _ y y'⟩
 |resume g r l k d =>
  intro p s ⟨r,e,x,y⟩ ⟨r',s1',x',y'⟩;obtain⟨rfl,rfl⟩:=OL x x';exact⟨r,e,x,d _ _ _ y y'⟩
def XT {α: Type}{M:Model}{A:Around}{Q b: α -> Yv}{E c:Ya}{t:Sem α}{s:Shared}(h:wpAny M A t Q E s)(k:wpAny M A t b c s):wpAny M A t (λa s=>Q a s/\b a s) (λa s=>E a s/\c a s) s:=
 λΓ p i=>OM t p s (h Γ p i) (k Γ p i)
def DT (h:Heap)(e:Addr)(d:Option Addr):Prop:=∃a vs T b ts,h.get? e=some a/\a.dict=d/\a.data=.fields vs/\vs[1]? = some (.ref T)/\T≠e/\h.get? T=some b/\b.data=.fields ts/\3<ts.size
section
variable {M:Model}{A:Around}{E:Ya}{s:Shared}{base:Heap}{env:Env}{outer:List Env}{L e:Addr}{d:Option Addr}
def Cj {f:Option Addr}(h:DT s.heap e d):wpAny M A (setFlight (.ref e) f) (λ_ s'=>DT s'.heap e d) E s:=by
 obtain⟨m,vs,T,o,ts,c,n,g,i,b,j,a,l⟩:=h;unfold setFlight;refine Za (wpAny_field c g i ?_);rw[Zd ()];refine wpAny_setField j a l ⟨m,vs,T,_,_,(Heap.get?_update_other _ _ b).trans c,n,g,i,b,Heap.get?_update_self _ j (Obj.isFreed_of_fields (Obj.data_mapFields a _)),Obj.data_mapFields a _,by simpa using l⟩
def Gh {i:Obj}{vs:Yl}{c:Value}{b:Bool}(m:A.frames=some (env::outer))(q:s.heap.FunFrames base (env::outer))(t:env.frame=some L)(f:s.heap.get? e=some i)(j:i.data=.fields vs)(hsz:1<vs.size):
 wpAny M A (do let a <- frameOf env;let l <- entryPlaceOf L b;let b <- EntryCells.newEntry c a .none (rawInt L) .none l;setField (.ref e) 1 b) (λ_ s'=>DT s'.heap e i.dict) E s:=by
 have g:e∉(env::outer).filterMap (·.frame):=λu=>by
  obtain⟨_,o,r,n⟩:=q.mem u;rw[f] at r;cases r;exact n vs j
 refine Za (wpAny_frameOf_fun m q t λh₁ hs₁=>Za (wpAny_entryPlaceOf λl p=>?_));unfold EntryCells.newEntry newFields;refine Za (wpAny_newObj_type ?_ (p.sizeOk5 _ _ _ _ _));have he₁:h₁.get? e=some i:=(hs₁.2.1 e g).trans f;have he₂:=Zq (h:=h₁) { cls:=.type "traceback",dict:=none,data:=.fields ([c,.ref L,.none,rawInt L,.none]++(if l.isEmpty then List.replicate 6 Value.none else l)).toArray } he₁;have ne:h₁.objs.size≠e:=UV (Zk he₁);refine wpAny_setField he₂ j hsz ⟨_,_,h₁.objs.size,_,_,Heap.get?_update_self _ he₂ (Obj.isFreed_of_fields (Obj.data_mapFields j _)),?_,Obj.data_mapFields j _,by simp[hsz],ne,(Heap.get?_update_other _ _ (Ne.symm ne)).trans (Zr h₁ rfl),rfl,()⟩;unfold Obj.mapFields
 split<;>rfl
def ON {a:Obj}{vs:Yl}(b:A.frames=some (env::outer))(i:s.heap.FunFrames base (env::outer))(c:env.frame=some L)(f:s.heap.get? e=some a)(g:a.data=.fields vs)(h:vs[1]? = some .none):
 wpAny M A (noteFrame (.ref e) env) (λ_ s'=>DT s'.heap e a.dict) E s:=by
 unfold noteFrame;simp only[c];refine Za (wpAny_field f g h ?_);rw[Ze (by decide)];exact Gh b i c f g (Jl.mp h).1
def Gi (g:A.frames=some (env::outer))(u:s.heap.FunFrames base (env::outer))(m:env.frame=some L)(h:DT s.heap e d):
 wpAny M A (noteFrame (.ref e) env) (λ_ s'=>DT s'.heap e d) E s:=by
 have v:=h;obtain⟨x,vs,T,y,ts,n,w,p,r,i,j,c,t⟩:=h;unfold noteFrame;simp only[m];refine Za (wpAny_field n p r ?_);rw[Zd ()];refine Za (wpAny_field j c (Uo t) ?_)
 split
 .exact Zb v
 refine Za (wpAny_setField j c t ?_);have a:∀b,b≠T->(s.heap.update T (Obj.mapFields (·.setIfInBounds 3 Value.none))).get? b=s.heap.get? b:=λb f=>Heap.get?_update_other _ _ (Ne.symm f);subst w;exact Gh g (u.of_keeps λb o f l=>⟨o,(a b λq=>by rw[q,j] at f;cases f;exact l ts c).trans f,rfl⟩) m ((a e (Ne.symm i)).trans n) p (Jl.mp r).1
def OO {a:Obj}{vs:Yl}(b:A.frames=some (env::outer))(c:s.heap.FunFrames base (env::outer))(f:env.frame=some L)(g:s.heap.get? e=some a)(h:a.data=.fields vs)(i:vs[1]? = some .none):
 wpAny M A (leaving env (.ref e)) (λ_ s'=>DT s'.heap e a.dict) E s:=Za (Zc (ON b c f g h i) (λ_ _ q=>Cj q) λ_ _ z=>z)
def Gj (a:A.frames=some (env::outer))(b:s.heap.FunFrames base (env::outer))(c:env.frame=some L)(h:DT s.heap e d):
 wpAny M A (leaving env (.ref e)) (λ_ s'=>DT s'.heap e d) E s:=Za (Zc (Gi a b c h) (λ_ _ q=>Cj q) λ_ _ z=>z)
end
section
variable {M:Model}{A:Around}{E:Ya}{s:Shared}{base h:Heap}{env:Env}{outer l:List Env}{L e t:Addr}{cls a0:Value}{d:Option Addr}{Q:Unit->Yv}
def OP (f:A.frames=some (env::outer))(i:env.frame=some L)(g:Heap.FlyingW base (env::outer) e cls a0 s.heap)(j:DT s.heap e d)
 (m:∀h',Heap.HeldW base (env::outer) e cls a0 L h'->s.heap.UpToSlots h'->DT h' e d->Q Yq { s with heap:=h' }):wpAny M A (noteFrame (.ref e) env) Q E s:=
 Zc (XT (wpAny_looks_onW (Q:=λ_ s'=>∃h',Heap.HeldW base (env::outer) e cls a0 L h'/\s.heap.UpToSlots h'/\s'={ s with heap:=h' }) f i g λh' a b=>⟨h',a,b,rfl⟩) (Gi (E:=E) f g.2.2.1 i j)) (λ_ _ ⟨⟨h',a,b,c⟩,q⟩=>by subst c;exact m h' a b q) λ_ _ z=>z.1
def OQ (f:A.frames=some (env::outer))(i:env.frame=some L)(g:Heap.FlyingW base (env::outer) e cls a0 s.heap)(j:DT s.heap e d)
 (m:∀h',Heap.FlyingW base outer e cls a0 h'->s.heap.UpToSlots h'->DT h' e d->Q Yq { s with heap:=h' }):wpAny M A (leaving env (.ref e)) Q E s:=
 Zc (XT (wpAny_leaves_onW (Q:=λ_ s'=>∃h',Heap.FlyingW base outer e cls a0 h'/\s.heap.UpToSlots h'/\s'={ s with heap:=h' }) f i g λh' a b=>⟨h',a,b,rfl⟩) (Gj (E:=E) f g.2.2.1 i j)) (λ_ _ ⟨⟨h',a,b,c⟩,q⟩=>by subst c;exact m h' a b q) λ_ _ z=>z.1
end
structure FlyAt (l:List Env)(h₀:Heap)(H:Hp)(x C:Addr)(B h:Heap):Prop where
 fly:∃t,Heap.FlyingW B l x (.ref C) (.ref t) h
 trk:∀b o,h.get? b=some o->(H b≠none\/((∃u,h₀.get? b=some u)/\b∉frs l))->B.get? b=some o
def qK (P:Program)(w:World):yd:=λa H s E e s'=>∃H' x C B,e=.ref x/\s'.os=s.os/\AllBare s'.gens/\Un (frs a) [] H H' s.heap s'.heap/\jP P w H' s'.heap/\FlyAt a s.heap H' x C B s'.heap/\∃d,DT s'.heap x d/\E (.ref C) d H'
structure Thrown (X:Cx)(E:XK):Prop where
 on:∀(Y:Yb) (Z: St) (H:Hp) (s:Shared) (h₀:Heap) (x C:Addr) (B:Heap) (d:Option Addr),Inv X Y Z H s->(∀b u,X.s₀.heap.get? b=some u->b∉X.ex->∃u',h₀.get? b=some u')->FlyAt X.stack h₀ H x C B s.heap->DT s.heap x d->E (.ref C) d H->X.xe (.ref x) s
structure Raises (X:Cx)(E:XK):Prop where
 new:∀(Y:Yb) (Z: St) (H:Hp) (s:Shared) (h':Heap) (x C:Addr) (args:Yd),Inv X Y Z H s->Heap.MadeExcOf s.heap h' x (.ref C) args->E (.ref C) none H->X.xe (.ref x) { s with heap:=h' }
def Thrown.passes {X:Cx}{E:XK}(T:Thrown X E):YX (qK X.prog X.w) X E:=by
 intro Y Z H s e s' I ⟨H',x,C,B,c,os,bare,un,a,f,d,g,h⟩;subst c;have i:=I.call' (s':=s') (ch:=[]) os un a bare (λb z=>Zn z ());exact T.on Y Z H' s' s.heap x C B d i (λb u e hx=>I.base.there b u e hx) f g h
def Gk {X:Cx}:Thrown X E0:=⟨λ_ _ _ _ _ _ _ _ _ _ _ _ _ z=>z.elim⟩
section
variable {P:Program}{w:World}{K:W.Frag}{mg:Yc}{base:Heap}{N:Yi}{qual:Str}{scope:Scope}{f:Addr}{cd:Value}{A:Around}{outer:List Env}{s:Shared}{H:Hp}{E:XK}
def Ck {Y:Yb}{Z: St}{H':Hp}{s':Shared}{h₀ d B:Heap}{x C t:Addr}{p:Option Addr}(I:Inv (js (qK P w) P w K mg base N qual scope f cd A outer s H E) Y Z H' s')
 (J:∀b u,s.heap.get? b=some u->∃L,h₀.get? b=some L) (m:Heap.FlyingW B outer x (.ref C) (.ref t) d) (M:s'.heap.UpToSlots d)
 (trk:∀b o,s'.heap.get? b=some o->(H' b≠none\/((∃u,h₀.get? b=some u)/\b∉frs (envOfC qual scope s.heap.objs.size f cd::outer)))->B.get? b=some o) (O:DT d x p) (Q:E (.ref C) p H'):
 qK P w outer H s E (.ref x) { s' with heap:=d }:=by
 have r:∀b u,s.heap.get? b=some u->b∉frs outer->b∉frs (envOfC qual scope s.heap.objs.size f cd::outer):=λb u e a z=>by
  unfold frs at z a;rw[Ut] at z;have z:b∈s.heap.objs.size::outer.filterMap (·.frame):=z;rcases UQ.mp z with q|q
  .exact Zn (Zk e) (by rw[q];exact Zy _)
  .exact a q
 have g:∀b:Addr,b∉(js (qK P w) P w K mg base N qual scope f cd A outer s H E).ex:=λb z=>Zn (show b∈([]:Yj) from z) ();have keep:∀b o,s'.heap.get? b=some o->(H' b≠none\/((∃u,s.heap.get? b=some u)/\b∉frs outer))->B.get? b=some o:=λb o e c=>by
  refine trk b o e ?_;rcases c with c|⟨⟨u,hu⟩,a⟩
  .exact .inl c
  .exact .inr ⟨J b u hu,r b u hu a⟩
 have l:∀b o,s.heap.get? b=some o->b∈frs outer->∃y,d.get? b=some { o with slots:=y }:=λb o e a=>by
  obtain⟨y,R⟩:=I.base.slot b o e (I.ok.frf b a) a (g b);obtain⟨_,i,j,S⟩:=I.ok.funs.mem a;have j:s.heap.get? b=some i:=j;rw[e] at j;obtain rfl:=Zqi j;obtain⟨F,T⟩:=M b _ R S;exact⟨F,T⟩
 refine⟨H',x,C,B,rfl,I.os,I.bare,⟨λb o e n a _=>?_,λb o e n a _=>l b o e a,λb o e n _=>I.base.free b o e n (g b),λb o e _=>?_,I.base.tups,I.base.frzs,I.base.tbls⟩,λb u e=>?_,⟨⟨t,m⟩,λb o e c=>?_⟩,p,O,Q⟩
 .exact m.1 b o (keep b o (I.base.keep b o e n a (g b)) (.inr ⟨⟨o,e⟩,a⟩))
 .by_cases a:b∈frs outer
  .obtain⟨y,q⟩:=l b o e a;exact⟨_,q⟩
  .obtain⟨i,G⟩:=I.base.there b o e (g b);exact⟨i,m.1 b i (keep b i G (.inr ⟨⟨o,e⟩,a⟩))⟩
 .refine(I.hok b u e).stay (λc v U q=>m.1 c v (keep c v q (.inl ?_))) (λ_ q=>q) λ_ _ q=>q;rcases U with z|z
  .rw[z,e];simp
  .rw[z];simp
 .have X:∃i,s'.heap.get? b=some i:=by
   rcases c with c|⟨⟨u,hu⟩,_⟩
   .cases q:H' b with
    |none=>exact Zn q c
    |some u=>exact(I.hok b u q).has
   .exact I.base.there b u hu (g b)
  obtain⟨i,G⟩:=X;have k:=keep b i G c;have:=m.1 b i k;have e:d.get? b=some o:=e;rw[e] at this;obtain rfl:=Zqi this;exact k
def W6:Thrown (js (qK P w) P w K mg base N qual scope f cd A outer s H E) E:=by
 refine⟨λY Z H' s' h₀ x C B n I i a j l=>?_⟩;obtain⟨⟨t,c⟩,trk⟩:=a;have d:∀b:Addr,b∉(js (qK P w) P w K mg base N qual scope f cd A outer s H E).ex:=λb z=>Zn (show b∈([]:Yj) from z) ();exact OQ I.ok.frames rfl c j λh' a m g=>Ck I (λb u e=>i b u e (d b)) a m trk g l
def OR:Raises (js (qK P w) P w K mg base N qual scope f cd A outer s H E) E:=by
 refine⟨λY Z H' s' h' x C args I hx n=>?_⟩;have st:=I.stack;have i:∀env∈(envOfC qual scope s.heap.objs.size f cd::outer),∀a,env.frame=some a->a∈frs (envOfC qual scope s.heap.objs.size f cd::outer):=λenv p a q=>Jr.mpr ⟨env,p,q⟩;have B:=W.hideAll s'.heap (frs (envOfC qual scope s.heap.objs.size f cd::outer));obtain⟨tt,j,_,_⟩:=hx.there;have g:=W.funFrames_hide st i;refine Zc (XT (wpAny_leaves_madeW (s:={ s' with heap:=h' }) (base:=W.hideAll s'.heap (frs (envOfC qual scope s.heap.objs.size f cd::outer))) (h:=s'.heap) (Q:=λ_ r=>∃d t,Heap.FlyingW (W.hideAll s'.heap (frs (envOfC qual scope s.heap.objs.size f cd::outer))) outer x (.ref C) (.ref t) d/\h'.UpToSlots d/\r={ s' with heap:=d }) I.ok.frames rfl (λb o e=>W.of_hideAll _ e) g hx λd t l v F m=>⟨d,t,l,m,rfl⟩)
  (OO (E:=λ_ _=>True) (s:={ s' with heap:=h' }) I.ok.frames (g.of_keeps λb o y _=>⟨o,hx.keeps b o y,rfl⟩) rfl j rfl rfl)) ?_ λ_ _ z=>z.1
 rintro _ _ ⟨⟨d,t,l,m,rfl⟩,dt⟩;refine Ck (s':=s') (h₀:=s'.heap) I (λb u e=>I.base.there b u e (by show b∉([]:Yj);simp)) l ((Heap.UpToSlots.of_keeps hx.keeps).trans m) (λb o e c=>?_) dt n;refine W.hideAll_get _ e λz=>?_;rcases c with c|c
 .exact c (I.stkFree b z)
 .exact c.2 z
end
def yf (P:Program)(w:World)(K:W.Frag)(a:Yc)(base:Heap)(name:Str)(k:Nat)(ps:Yi)(sp:Sp):Prop:=
 ∃f b,FnOk P w K a base (qK P w) k f b ps sp/\ze K b ps []/\W.keepIn K (.ref f)=true/\a name=some (.ref f)
theorem yf.mono {P:Program}{w:World}{K:W.Frag}{a:Yc}{base:Heap}{name:Str}{j k:Nat}{ps:Yi}{sp:Sp}(c:yf P w K a base name j ps sp)(h:j<=k):yf P w K a base name k ps sp:=by
 obtain⟨f,b,F,r⟩:=c;exact⟨f,b,F.mono h,r⟩
section
variable {X:Cx}{E:XK}{name:Str}{k:Nat}{ps:Yi}{sp:Sp}{p pos:Pos}{e:Expr}{es:Yk}{t:TA}
def Gm (c:yf X.prog X.w X.K X.mg X.base name k ps sp)(T:Thrown X E)(g:Room k X.A)(h:Gl X name)(i:PA X (e::es) t)
 (a:(name == ("__debug__" : Str))=false:=by decide) (j:starEach (e::es) X.env=(false,eval e X.env)::starEach es X.env:=by rfl) (d:(backTo pos (starEach es X.env)).any (·.1)=false:=by rfl):
 PE X (.Call (.Name name p) (e::es) [] pos) (AV sp [] E t):=by
 obtain⟨f,n,F,b,l,m⟩:=c;exact Dg F g h m l b .nil T.passes i a j d
end
def Fun.okX {P:Program}{w:World}{K:W.Frag}{h:Yc}{base:Heap}{x b:Str}{st:Stmt}{f:Addr}{i:FuncData}{N ps:Yi}{k:Nat}{sp:Sp}(F:Fun K x b st f i)(S:FnScope N ps (JZ st))(len:∀vs H Q E,sp vs H Q E->vs.length=ps.length)
 (d:∀(c:Value) (A:Around) (a:List Env) (s:Shared) (H:Hp) (vs:Yx) (Q:VK) (E:XK),Room k (A.deeper (envOfC b (JZ st) s.heap.objs.size f c))->sp vs H Q E ->
  ∃t,qJ (js (qK P w) P w K h base N b (JZ st) f c A a s H E) (QX st) t/\t { nx:=λ_ H'=>Q .non H',rt:=Q } (start N vs) H):FnOk P w K h base (qK P w) (k+1) f i ps sp:=by
 obtain⟨o,p,kV,j,q,r,c,ct,l,rfl,m,e⟩:=F.ex;exact Dm m e S len λA a s H vs Q E n g=>d c A a s H vs Q E n g
end L2
namespace L2.DL
def x2 (K:W.Frag)(a:Yz->Res D):Sp:=λvs H Q E=>∃F ds,Tu F H/\Ti K F ds vs/\(a ds).need (x3 K F H Q) (XW K E F H)
def xK (K:W.Frag)(a:Yz->Res D):Sp:=λvs H Q E=>∃F ds,Tu F H/\Ti K F ds vs/\(a ds).need (xb K F H Q) (XW K E F H)
def Res.strict {α: Type}:Res α -> Res α
 | .ok a=>.ok a
 |_=>.no
@[simp]def yA {α: Type}(a:α):(Res.ok a).strict=.ok a:=rfl
def Res.need_strict {α: Type}{r:Res α}{p:α -> Prop}{q b:Str->Yz->Prop}(h:r.strict.need p q):r.need p b:=by
 cases r with
 |ok a=>exact h
 |ex c fs=>exact h.elim
 |no=>exact h
def U3 (a:Yz->Res D)(b:FA):FE:=λsd=>(b sd).bind λds=>(a ds).strict
@[simp]def vP (a:Yz->Res D)(b:FA)(sd:SD):U3 a b sd=(b sd).bind λds=>(a ds).strict:=rfl
section
variable {X:Cx}{E:XK}{name:Str}{k:Nat}{ps:Yi}{Fn:Yz->Res D}{p pos:Pos}{e:Expr}{es:Yk}{fr:FA}
def Cm (c:yf X.prog X.w X.K X.mg X.base name k ps (x2 X.K Fn))(T:Thrown X E)(f:Room k X.A)(g:Gl X name)(h:QA X E (e::es) fr)
 (a:(name == ("__debug__" : Str))=false:=by decide) (i:starEach (e::es) X.env=(false,eval e X.env)::starEach es X.env:=by rfl) (b:(backTo pos (starEach es X.env)).any (·.1)=false:=by rfl):
 QE X E (.Call (.Name name p) (e::es) [] pos) (J3 Fn fr):=PE.weak (Gm c T f g h a i b) λZ H Q j=>by
 obtain⟨B,F,sd,r,n⟩:=j;refine⟨B,F,sd,r,(Res.need_bind n).mono (λxs l vs m o d s=>?_) λ_ _ q=>q⟩;show x2 X.K Fn (vs++[]) o Q E;rw[ZA];exact⟨m,xs,d.fh,s,Bv l d⟩
def VW (c:yf X.prog X.w X.K X.mg X.base name k ps (xK X.K Fn))(T:Thrown X E)(f:Room k X.A)(g:Gl X name)(h:QA X E (e::es) fr)
 (a:(name == ("__debug__" : Str))=false:=by decide) (i:starEach (e::es) X.env=(false,eval e X.env)::starEach es X.env:=by rfl) (b:(backTo pos (starEach es X.env)).any (·.1)=false:=by rfl):
 QN X E (.Call (.Name name p) (e::es) [] pos) (J3 Fn fr):=PE.weak (Gm c T f g h a i b) λZ H Q j=>by
 obtain⟨B,F,sd,r,n⟩:=j;refine⟨B,F,sd,r,(Res.need_bind n).mono (λxs l vs m o d s=>?_) λ_ _ q=>q⟩;show xK X.K Fn (vs++[]) o Q E;rw[ZA];exact⟨m,xs,d.fh,s,Bw l d⟩
def Ah (c:ye X.prog X.w X.K X.mg X.base name k ps (xL X.K Fn))(f:Room k X.A)(g:Gl X name)(h:QA X E (e::es) fr)
 (a:(name == ("__debug__" : Str))=false:=by decide) (i:starEach (e::es) X.env=(false,eval e X.env)::starEach es X.env:=by rfl) (b:(backTo pos (starEach es X.env)).any (·.1)=false:=by rfl):
 QN X E (.Call (.Name name p) (e::es) [] pos) (U3 Fn fr):=PE.weak (Z3 c f g h a i b) λZ H Q j=>by
 obtain⟨B,F,sd,r,n⟩:=j;refine⟨B,F,sd,r,(Res.need_bind n).mono (λxs l vs m o d s=>?_) λ_ _ q=>q⟩;show xL X.K Fn (vs++[]) o Q E0;rw[ZA];exact⟨m,xs,d.fh,s,Res.need_strict (Bw l d)⟩
end
section
variable {P:Program}{w:World}{K:W.Frag}{mg:Yc}{base:Heap}{x qual:Str}{f:Addr}{fd:FuncData}{N ps:Yi}{k:Nat}{st:Stmt}
def Co {g:FS}(F:Fun K x qual st f fd)(S:FnScope N ps (JZ st))
 (e:∀(b:Value) (A:Around) (a:List Env) (s:Shared) (H:Hp) (E:XK),Room k (A.deeper (envOfC qual (JZ st) s.heap.objs.size f b))->ya (js (qK P w) P w K mg base N qual (JZ st) f b A a s H E) E false (QX st) g):
 FnOk P w K mg base (qK P w) (k+1) f fd ps (x2 K (TX N.length ps.length g)):=by
 refine F.okX S (λvs H Q E ⟨F,ds,_,h,n⟩=>?_) λb A a s H vs Q E i ⟨F,ds,hs,h,n⟩=>⟨_,e b A a s H E i,?_⟩
 .unfold TX at n
  split at n
  .rw[h.length];assumption
  .exact n.elim
 .unfold TX at n
  split at n
  .refine⟨⟨F,H,λ_=>none⟩,F,_,RS.start hs h,(Res.need_bind n).mono (λo c=>?_) λ_ _ q=>q⟩;cases o with
   |next sd=>exact λZ F' H' _ r=>c .non F' H' r.ext (T9.mpr rfl)
   |ret d=>exact c
   |brk sd=>exact c.elim
   |cont sd=>exact c.elim
  .exact n.elim
def Ai {g:FS}(F:Fun K x qual st f fd)(S:FnScope N ps (JZ st))
 (e:∀(b:Value) (A:Around) (a:List Env) (s:Shared) (H:Hp) (E:XK),Room k (A.deeper (envOfC qual (JZ st) s.heap.objs.size f b))->ya (js (qK P w) P w K mg base N qual (JZ st) f b A a s H E) E true (QX st) g):
 FnOk P w K mg base (qK P w) (k+1) f fd ps (xK K (jk N.length ps.length g)):=by
 refine F.okX S (λvs H Q E ⟨F,ds,_,h,n⟩=>?_) λb A a s H vs Q E i ⟨F,ds,hs,h,n⟩=>⟨_,e b A a s H E i,?_⟩
 .unfold jk at n
  split at n
  .rw[h.length];assumption
  .exact n.elim
 .unfold jk at n
  split at n
  .refine⟨⟨F,H,λ_=>none⟩,F,_,RS.start hs h,(Res.need_bind n).mono (λo c=>?_) λ_ _ q=>q⟩;cases o with
   |next sd=>exact c.elim
   |ret d=>exact c
   |brk sd=>exact c.elim
   |cont sd=>exact c.elim
  .exact n.elim
end
end L2.DL
namespace L2
def OS (h:n<1000000):n.log2<20:=by
 by_cases z:n=0
 .subst z;decide
 .exact(Nat.log2_lt z).mpr (Zg h (by decide))
section
variable {X:Cx}{x:Str}{v e:Expr}{tv:TE}{t:TA}{p1 p2 np cpos pos:Pos}{k}
def kH (x:Str)(tv:TE):TE:=λZ H Q=>tv Z H λy b=>∃a:Int,y=.int a/\a.natAbs<1000000/\Q (.str (Str.empty++x++Str.ofString (toString a))) b
def OT (hx:x.length<=1000)(i:PE X v tv):PE X (.JoinedStr [.Constant (.str x) k p1,.FormattedValue v (-1) none p2] pos) (kH x tv):=by
 intro Y s Z H Q I h;refine wpAny_JoinedStr ?_;have d:(Str.empty:Str).length=0:=rfl;have A:sizeLine=_:=sizeLine_eq;show wpAny _ _ (eval (.Constant (.str x) k p1) X.env) _ _ s;refine TZ (HY Y s Z H (λy b=>y=.str x/\b=H) I ⟨rfl,rfl⟩) λu f ⟨y,b,j,l,c,m⟩=>?_;subst c m;obtain⟨n,rfl⟩:=l;refine⟨x,n,rfl,by rw[strLen_append,d,sizeLine_eq];lia,?_⟩;show wpAny _ _ (eval (.FormattedValue v (-1) none p2) X.env) _ _ f;refine wpAny_FormattedValue_plain (TZ (i Y f Z b _ j h) λu B ⟨y,o,p,r,a,c,w,q⟩=>?_);subst c;obtain⟨C,rfl⟩:=r;have z:=OS w;have E:=int_text_length_le (a:=a) (k:=20) (by decide) z;have g:(Str.empty++x++Str.ofString (toString a)).length<=sizeLine:=by rw[strLen_append,strLen_append,d,PySem.ofString_length,sizeLine_eq];lia
 refine wpAny_formatField_int () ⟨_,_,rfl,g,g,?_⟩;exact⟨.str (Str.empty++x++Str.ofString (toString a)),o,p.tok _,⟨_,rfl⟩,q⟩
structure Exc (K:W.Frag)(mg:Yc)(c:Str)(C:Addr):Prop where
 ns:W.nsIn K mainGlobals c=some (some (.ref C))
 mgc:mg c=some (.ref C)
 exc:W.excIn K C [.type "ValueError",.type "Exception",.type "BaseException",.type "object"] "ValueError.__new__" = true
def gQ (m:Yd)(l:List Ye)(g:Addr->List Value->Option Value->Option Value->Option Value->Option Value->String->Option Value->Bool):Prop:=
 ∃C bm k0 k1 k2 k3 n k5,m=.ref C::bm/\l=[k0,k1,k2,k3,some (.builtin n),k5]/\g C bm k0 k1 k2 k3 n k5=true
def OU
 (q:W.excIn.match_1 (λ_ _=>Bool) m l g (λ_ _=>false)=true):gQ m l g:=by
 cases m with
 |nil=>exact J6 q
 |cons v bm =>
  cases v with
  |ref C =>
   cases l with
   |nil=>exact J6 q
   |cons k0 l =>
    cases l with
    |nil=>exact J6 q
    |cons k1 l =>
     cases l with
     |nil=>exact J6 q
     |cons k2 l =>
      cases l with
      |nil=>exact J6 q
      |cons k3 l =>
       cases l with
       |nil=>exact J6 q
       |cons a l =>
        cases a with
        |none=>exact J6 q
        |some u =>
         cases u with
         |builtin n =>
          cases l with
          |nil=>exact J6 q
          |cons k5 l =>
           cases l with
           |nil=>exact⟨_,_,_,_,_,_,_,_,rfl,rfl,q⟩
           |cons _ _=>exact J6 q
         |_=>exact J6 q
  |_=>exact J6 q
def Gn {K:W.Frag}{h:Heap}{C:Addr}{d:Yd}{a:String}{P:Prop}(g:K.In h)(q:W.excIn K C d a=true)
 (k:∀bm N nm i bs hdct sn sub ab col dd k0 k1 k2 k3 k5 mN,h.get? C=some (excClassObj nm i C N bs bm hdct sn sub ab col dd k0 k1 k2 k3 k5 a)->h.Ns N mN->mN "__init__" = none->OwnTail h d bm->P):P:=by
 unfold W.excIn at q
 split at q
 .rename_i dd r m s;obtain⟨E,bm,k0,k1,k2,k3,n,k5,o,hs,q⟩:=OU q;simp only[Ue,Yp,Bool.not_eq_true'] at q;obtain⟨⟨⟨⟨⟨u,w⟩,b⟩,y⟩,c⟩,f⟩:=q;subst u w;have p:=g _ _ s;obtain⟨nm,bs,z,ns,i,A,sn,sub,ab,col,B⟩:=r;dsimp only at o b c f p;subst o b;have j:m = #[k0,k1,k2,k3,some (.builtin n),k5]:=by
   obtain⟨l⟩:=m;exact Zt Array.mk hs
  subst j;exact k bm ns nm i bs A sn sub ab col dd k0 k1 k2 k3 k5 _ p (.of_isNs (W.isNs_of_in g c)) (W.nsMap_none_of_in g c f) (W.tail_of_in g y)
 .exact J6 q
def OV (C:Addr)(E:XK)(t:TA):TS:=λ_ Z H=>t Z H λvs a=>vs.length<=1000/\E (.ref C) none a
def OW {E:XK}{c:Str}{C:Addr}(R:Raises X E)(d:Exc X.K X.mg c C)(i:X.calm=true)(j:Gl X c)(l:PA X [e] t)(m:(c == ("__debug__" : Str))=false:=by decide)
 (f:starEach [e] X.env=(false,eval e X.env)::starEach [] X.env:=by rfl):PS X (.Raise (some (.Call (.Name c np) [e] [] cpos)) none pos) (OV C E t):=by
 intro Y s Z H D I h;refine Gn (h:=X.base) I.mod.kin d.exc λn N nm q bs hdct sn sub ab col dd k0 k1 k2 k3 k5 mN o p b T=>?_;refine wpAny_Raise_call_subU (C:=C) (nm:=nm) (q:=q) (N:=N) (bs:=bs) (bm:=n) (hdct:=hdct) (sn:=sn) (sub:=sub) (ab:=ab) (col:=col) (dd:=dd) (k0:=k0) (k1:=k1) (k2:=k2) (k3:=k3) (k5:=k5)
  PySem.F.excBase_ValueError (by decide +kernel) PySem.F.excBase_ValueError (mN:=mN) (T.hasType PySem.F.excBase_ValueError.hasBase) (I.ok.hd i) (by rw[f];rfl) b (YU I j d.mgc ⟨rfl,?_⟩ m)
 have g:=l cpos Y s Z H _ I h;rw[f] at g ⊢;refine Calls.evalArgs_plain (Zc g (λvs r ⟨A,u,a,w,B,z⟩=>?_) λ_ _ y=>y);have F:=w.length;refine⟨rfl,Qz (by show vs.length<=1000;lia),a.bk _ _ o,p.keeps a.bk,T.keeps a.bk,λh' x hx=>R.new Y Z u r h' x C _ a hx z⟩
end
end L2
namespace L2.DL
def yK (x:Str):D->YA
 | .int a=>if Nat.ble a.natAbs 999999=true then some (.str (Str.empty++x++Str.ofString (toString a))) else none
 |_=>none
def OX (b: -999999<=a)(c:a<=999999):∃z,yK x (.int a)=some (.str z):=⟨_,Zd (UP.mpr ())⟩
def Aj (c:Str)(f:FE):FS:=λsd=>(f sd).bind λ_=>.ex c []
@[simp]def vO (c:Str)(f:FE)(sd:SD):Aj c f sd=(f sd).bind λ_=>.ex c []:=rfl
section
variable {X:Cx}{E:XK}{m:Option Bool}{x:Str}{v e:Expr}{fv fe:FE}{p1 p2 np cpos pos:Pos}{k}
def w6 (hx:x.length<=1000)(b:QE X E v fv):QE X E (.JoinedStr [.Constant (.str x) k p1,.FormattedValue v (-1) none p2] pos) (xJ (yK x) fv):=
 PE.weak (OT hx b) λZ H Q c=>by
  obtain⟨B,F,sd,r,n⟩:=c;refine⟨B,F,sd,r,(Res.need_bind n).mono (λd f y g h i j=>?_) λ_ _ q=>q⟩;obtain⟨z,hz,q⟩:=Tt f;unfold yK at hz
  split at hz
  .rename_i a
   split at hz
   .rename_i l;obtain rfl:=Zqi hz;exact⟨a,Tk.mp j,by have:=UP.mp l;lia,q _ g h i (Tw.mpr rfl)⟩
   .exact J2 hz
  .exact J2 hz
def OY (R:Raises X E)(ex:Exc X.K X.mg c C)(f:X.calm=true)(g:Gl X c)(h:QE X E e fe)(i:(c == ("__debug__" : Str))=false:=by decide)
 (a:starEach [e] X.env=(false,eval e X.env)::starEach [] X.env:=by rfl):QS X E m (.Raise (some (.Call (.Name c np) [e] [] cpos)) none pos) (Aj c fe):=
 PS.weak (OW R ex f g (J0 h J1 a) i a) λT Z H j=>by
  obtain⟨B,F,sd,r,n⟩:=j;have l:(Jz fe Th sd).need (λds=>ds.length=1/\XW X.K E B.F0 B.H0 c []) (XW X.K E F H):=by
   unfold Aj at n;unfold Jz Th;cases b:fe sd with
   |ok d=>rw[b] at n;exact⟨rfl,n⟩
   |ex o fs=>rw[b] at n;exact XW.ext (n:XW X.K E B.F0 B.H0 o fs) r.ext
   |no=>rw[b] at n;exact n
  refine⟨B,F,sd,r,l.mono (λds p vs s t u w=>?_) λ_ _ q=>q⟩;have:=w.length;exact⟨(),p.2 (.ref C) none s t (r.ext.trans u) ⟨C,rfl,ex.ns,.inl rfl⟩⟩
end
end L2.DL
namespace L2
def Cp (X:Cx)(Y:Yb)(Z: St)(E:XK)(e:Value)(s':Shared):Prop:=
 ∃H' h₀ x C B,e=.ref x/\Inv X Y Z H' s'/\(∀b u,X.s₀.heap.get? b=some u->b∉X.ex->∃a,h₀.get? b=some a)/\(∀p∈X.pn++Y,∃u,h₀.get? p.1=some u)/\FlyAt X.stack h₀ H' x C B s'.heap/\∃d,DT s'.heap x d/\E (.ref C) d H'
section
variable {X:Cx}{Y:Yb}{Z: St}{H:Hp}{s:Shared}{E:XK}
def OZ (F:FnOk X.prog X.w X.K X.mg X.base (qK X.prog X.w) k f fd ps sp)(i:Room k X.A)(j:ze X.K fd ps [])
 (I:Inv X Y Z H s) (r:T4 vs us) (h:sp vs H Q E):YB X (call (.ref f) us) (EP X Y Z Q) (Cp X Y Z E) s:=by
 have l:(us++[]).length=ps.length:=by rw[ZA,<- r.length];exact F.len _ _ _ _ h
 have a:=j s us I.kIn l;rw[ZA] at a;refine wpAny_call (codeAny_mono (F.run X.A X.stack s H ⟨us,[]⟩ us vs Q E i I.env0 a r h) λr s' c=>?_);cases r with
 |error e =>
  obtain⟨H',x,C,B,m,os,bare,un,d,g,n⟩:=c;subst m;exact⟨H',s.heap,x,C,B,rfl,I.call' (s':=s') (ch:=[]) os un d bare (λb z=>Zn z ()),λb u e hx=>I.base.there b u e hx,λp hp=>⟨_,(I.pin p hp).1⟩,g,n⟩
 |ok g =>
  cases g with
  |ret u=>exact I.after c
  |next=>exact False.elim c
  |brk=>exact False.elim c
  |cont=>exact False.elim c
def Pa (c:yf X.prog X.w X.K X.mg X.base name k ps sp)(j:Room k X.A)(l:Gl X name)(m:PA X.nox (e::es) t)
 (a:(name == ("__debug__" : Str))=false) (n:starEach (e::es) X.env=(false,eval e X.env)::starEach es X.env) (d:(backTo pos (starEach es X.env)).any (·.1)=false)
 (I:Inv X Y Z H s) (h:t Z H λvs g=>sp vs g Q E):YB X (eval (.Call (.Name name p) (e::es) [] pos) X.env) (EP X Y Z Q) (Cp X Y Z E) s:=by
 obtain⟨f,v,F,b,o,u⟩:=c;refine wpAny_Call_Name_kw (YU I l u ?_ a);refine W.callWith_K (h₀:=X.base) I.ok.mod.kin o (Zc (m pos Y s Z H _ (I.wish _) h) (λw x ⟨vs,g,i,r,q⟩=>⟨i.kIn,?_⟩) λ_ _ z=>z.elim) n d;exact OZ F j b i.unwish r q
def Inv.flown {h₀ h' B:Heap}{x C t:Addr}(I:Inv X Y Z H s)(M:∀b u,X.s₀.heap.get? b=some u->b∉X.ex->∃P,h₀.get? b=some P)(hp:∀p∈X.pn++Y,∃u,h₀.get? p.1=some u)
 (trk:∀b o,s.heap.get? b=some o->(H b≠none\/((∃u,h₀.get? b=some u)/\b∉frs X.stack))->B.get? b=some o) (A:Heap.FlyingW B X.stack x (.ref C) (.ref t) h') (K:s.heap.UpToSlots h'):Inv X Y Z H { s with heap:=h' }:=by
 have g:∀b u,X.s₀.heap.get? b=some u->b∉X.fs->b∉frs X.stack:=λb u e a z=>by
  rcases UQ.mp (I.stkSub b z) with q|q
  .exact Zn (Zk e) (by rw[q];exact Nat.not_lt.mpr I.ok.above)
  .exact a q
 have d:∀b o,X.s₀.heap.get? b=some o->b∈X.fs->b∉X.ex->∃F,h'.get? b=some { o with slots:=F }:=λb o e a hx=>by
  obtain⟨F,Q⟩:=I.base.slot b o e (I.ok.frf b a) a hx;obtain⟨_,G,j,J⟩:=I.ok.funs.mem a;rw[e] at j;obtain rfl:=Zqi j;obtain⟨L,R⟩:=K b _ Q J;exact⟨L,R⟩
 have f:∀c v,s.heap.IsCell c v->h'.IsCell c v:=λc v S=>by
  obtain⟨o,T,J⟩:=S;obtain⟨F,e⟩:=K c o T λvs q=>by rw[J] at q;cases q
  exact⟨_,e,J⟩
 obtain⟨m,U,hl⟩:=id I.loc;refine⟨I.ok,I.os,I.bare,⟨λb o e n a hx=>?_,λb o e n a hx=>d b o e a hx,λb o e n hx=>I.base.free b o e n hx,λb o e hx=>?_,I.base.tups,I.base.frzs,I.base.tbls⟩,⟨m,K.ns U,λi y v h1 h2 h3=>?_⟩,λy c e=>?_,I.free,I.freeC,λp w=>?_,λb u e=>?_,I.len⟩
 .exact A.1 b o (trk b o (I.base.keep b o e n a hx) (.inr ⟨M b o e hx,g b o e a⟩))
 .by_cases a:b∈X.fs
  .obtain⟨F,q⟩:=d b o e a hx;exact⟨_,q⟩
  .obtain⟨G,e'⟩:=I.base.there b o e hx;exact⟨G,A.1 b G (trk b G e' (.inr ⟨M b o e hx,g b o e a⟩))⟩
 .obtain⟨u,r,l⟩:=hl i y v h1 h2 h3;refine⟨u,r,?_⟩;rcases l with l|⟨k,c,e,z⟩
  .exact .inl l
  .exact .inr ⟨k,c,e,f c _ z⟩
 .obtain⟨v,q⟩:=I.cell y c e;exact⟨v,f c v q⟩
 .obtain⟨q1,q2,N,O,q5⟩:=I.pin p w;refine⟨A.1 _ _ (trk _ _ q1 (.inr ⟨hp p w,λz=>?_⟩)),q2,N,O,q5⟩;rcases UQ.mp (I.stkSub _ z) with q|q
  .exact N q
  .exact O q
 .refine(I.hok b u e).stay (λc v hc q=>A.1 c v (trk c v q (.inl ?_))) (λ_ q=>q) λ_ _ q=>q;rcases hc with z|z
  .rw[z,e];simp
  .rw[z];simp
abbrev Cx.inSuite (X:Cx)(x:Addr):Cx:={ X with A:=X.A.mark (some (.ref x)),calm:=false,xe:=λ_ _=>False }
def Inv.suite (I:Inv X Y Z H s)(x:Addr):Inv (X.inSuite x) Y Z H s:=
 ⟨⟨I.ok.mod,I.ok.kind,I.ok.glob,I.ok.blt,I.ok.above,I.ok.inj,I.ok.has,I.ok.cab,(λz=>by exact J6 z),I.ok.frames,I.ok.stk,I.ok.exf,I.ok.bs,I.ok.bsz,I.ok.noex,I.ok.exfs,I.ok.funs,I.ok.frf⟩,I.os,I.bare,I.base,I.loc,I.cell,I.free,I.freeC,I.pin,I.hok,I.len⟩
def Inv.unsuite (I:Inv (X.inSuite x) Y Z H s)(ok:X.Ok):Inv X Y Z H s:=⟨ok,I.os,I.bare,I.base,I.loc,I.cell,I.free,I.freeC,I.pin,I.hok,I.len⟩
theorem SP.unsuite (h:SP (X.inSuite x) Y D f s')(ok:X.Ok):SP X Y D f s':=by
 cases f with
 |next=>obtain⟨a,H',I,q⟩:=h;exact⟨a,H',I.unsuite ok,q⟩
 |brk=>obtain⟨a,H',I,q⟩:=h;exact⟨a,H',I.unsuite ok,q⟩
 |cont=>obtain⟨a,H',I,q⟩:=h;exact⟨a,H',I.unsuite ok,q⟩
 |ret u=>obtain⟨v,a,H',I,r,q⟩:=h;exact⟨v,a,H',I.unsuite ok,r,q⟩
def Pb {p:Ya}{c:Str}{C:Addr}{b₀:Stmt}{suite:List Stmt}{J i:Pos}{ts:TS}{D:Ends}{e:Value}(a:X.stack=X.env::X.outer)(r:X.env.frame=some X.env.locals)(A:Exc X.K X.mg c C)(K:Gl X c)
 (hs:∀x,qJ (X.inSuite x) (b₀::suite) ts) (d:Cp X Y Z (λL _ M=>L=.ref C/\ts D Z M) e s) (O:(c == ("__debug__" : Str))=false):
 YB X (noteFrame e X.env) (λ_ s₂=>YB X (setFlight e none) (λ_ s₃=>YB X (handleBy e X.env [.ExceptHandler (some (.Name c J)) none (b₀::suite) i]) (SP X Y D) p s₃) p s₂) p s:=by
 obtain⟨H',h₀,x,S,B,rfl,I,F,hp,⟨⟨t,u⟩,trk⟩,_,_,v,w⟩:=d;cases v;have g:=u;rw[a] at g;refine wpAny_looks_onW (I.ok.frames.trans (by rw[a])) r g λh₄ held₄ up₄=>?_;refine wpAny_landsW held₄ λh₅ fl₅ up₅=>?_;have m:=fl₅;rw[<- a] at m;have n:=up₄.trans up₅;have G:=I.flown F hp trk m n;refine wpAny_handleBy_cons (codeAny_handlers_test (YU (X:=X.inSuite x) (G.suite x) K A.mgc ?_ O)) (by intro q;cases q);refine Gn (h:=h₅) G.kIn A.exc λU N nm q bs hdct sn sub ab col dd k0 k1 k2 k3 k5 mN P hN Q T=>?_;obtain⟨ob,y,o⟩:=fl₅.there;refine wpAny_excMatches_sub_self P y o (T.hasType PySem.F.excBase_ValueError.hasBase) (codeAny_handlers_suite ?_);refine lands_againW fl₅ λh₆ fl₆ up₆=>?_;rw[<- a] at fl₆;have R:=I.flown F hp trk fl₆ (n.trans up₆);exact Zc (hs x Y _ Z H' D (R.suite x) w) (λf s2 q=>q.unsuite I.ok) λ_ _ z=>z.elim
def zT (i:Nat)(C:Addr)(sp:Sp)(t:TA)(ts:TS):TS:=λD Z H=>t Z H λvs b=>sp vs b (λv a=>D.nx (Z.set i (some v)) a) (λc _ a=>c=.ref C/\ts D Z a)
def Go (a:X.stack=X.env::X.outer)(d:X.env.frame=some X.env.locals)
 (n:X.N.Nodup) (hi:X.N[i]? = some y) (hx:x4 X.env.scope y) (o:yf X.prog X.w X.K X.mg X.base name k ps sp) (r:Room k X.A) (u:Gl X name) (w:PA X.nox (e::es) t) (A:Exc X.K X.mg c C) (f:Gl X c) (hs:∀x,qJ (X.inSuite x) (b₀::suite) ts)
 (g:(name == ("__debug__" : Str))=false:=by decide) (B:starEach (e::es) X.env=(false,eval e X.env)::starEach es X.env:=by rfl) (j:(backTo cpos (starEach es X.env)).any (·.1)=false:=by rfl) (F:(c == ("__debug__" : Str))=false:=by decide)
 (l:swapsWith (.Call (.Name name p) (e::es) [] cpos) (some (.Name y py)) apos.line X.env=pure false:=by rfl) (G:X.fn y=true\/X.env.scope.names.lookup y=some .local:=by trivial):
 PS X (.Try [.Assign [.Name y py] (.Call (.Name name p) (e::es) [] cpos) apos] [.ExceptHandler (some (.Name c np)) none (b₀::suite) hpos] [] [] pos) (zT i C sp t ts):=by
 intro Y s Z H D I h;rw[arm_exec_Try];refine Za (wpAny_standAt (wpAny_tryStmt_except (wpAny_execs_cons (wpAny_Assign_Name (Zc (Pa (Q:=λv m=>D.nx (Z.set i (some v)) m) (E:=λJ _ m=>J=.ref C/\ts D Z m) o r u w g B j I h) (λv K q=>?_) λe K L=>Pb a d A f hs L F) l))));obtain⟨z,M,N,O,P⟩:=q;exact YT N n hi hx O (λS R=>wpAny_execs_nil (wpAny_execs_nil ⟨_,M,R,P⟩)) G
end
end L2
namespace L2.DL
def yF (i:Nat)(c:Str)(gs:FS)(sd:SD):Res D->Res Out
 | .ok d=>.ok (.next (sd.set i (~~~d)))
 | .ex c' [] => @ite _ (c'=c) (Classical.propDecidable _) (gs sd).strict .no
 |_=>.no
@[simp]def Pc (i:Nat)(c:Str)(gs:FS)(sd:SD):yF i c gs sd (.ex c [])=(gs sd).strict:=@if_pos _ (Classical.propDecidable _) rfl _ _ _
def yn (i:Nat)(c:Str)(a:Yz->Res D)(b:FA)(gs:FS):FS:=λsd=>(b sd).strict.bind λds=>yF i c gs sd (a ds)
@[simp]def gq (i:Nat)(c:Str)(a:Yz->Res D)(b:FA)(gs:FS)(sd:SD):yn i c a b gs sd=(b sd).strict.bind λds=>yF i c gs sd (a ds):=rfl
section
variable {X:Cx}{E:XK}{m:Option Bool}
def Pd (ex:Exc X.K X.mg c C)(h:zB X.K E m (yn i c Fn fr gs) T Z H):
 zT i C (x2 X.K Fn) (gY X.K E0 fr) (zB X.K E0 m gs) T Z H:=by
 obtain⟨B,F,sd,r,n⟩:=h;refine⟨B,F,sd,r,?_⟩;unfold yn at n;cases f:fr sd with
 |ex g fs=>rw[f] at n;exact n.elim
 |no=>rw[f] at n;exact n.elim
 |ok ds =>
  rw[f] at n;have n:(yF i c gs sd (Fn ds)).need (yg X.K m B F T) (XW X.K E B.F0 B.H0):=n;show fy X.K F H _ ds;intro vs u z b w;refine⟨u,ds,b.fh,w,?_⟩;cases j:Fn ds with
  |ok d =>
   rw[j] at n;exact λv l p e x=>n _ l p (b.ff.trans e.ff) (((r.step b).step e).setVal x)
  |no=>rw[j] at n;exact n.elim
  |ex g fs =>
   rw[j] at n;cases fs with
   |cons d r=>exact n.elim
   |nil =>
    by_cases s:g=c
    .subst s;rw[Pc] at n;intro A a l p e ⟨G,y,t,_⟩;rw[ex.ns] at t;cases t;refine⟨y,B,l,sd,(r.step b).step e,?_⟩;exact(Res.need_strict n).mono (λo (q:yg X.K m B F T o)=>q.mono (b.ff.trans e.ff)) λ_ _ q=>q
    .have n:(@ite _ (g=c) (Classical.propDecidable _) (gs sd).strict Res.no).need (yg X.K m B F T) (XW X.K E B.F0 B.H0):=n;rw[@if_neg _ (Classical.propDecidable _) s] at n;exact n.elim
def Pe (a:X.stack=X.env::X.outer)(d:X.env.frame=some X.env.locals)
 (o:X.N.Nodup) (hi:X.N[i]? = some y) (hx:x4 X.env.scope y) (q:yf X.prog X.w X.K X.mg X.base name k ps (x2 X.K Fn)) (r:Room k X.A) (s:Gl X name) (t:QA X.nox E0 (e::es) fr) (n:Exc X.K X.mg c C) (f:Gl X c) (hs:∀x,ya (X.inSuite x) E0 m (b₀::suite) gs)
 (g:(name == ("__debug__" : Str))=false:=by decide) (u:starEach (e::es) X.env=(false,eval e X.env)::starEach es X.env:=by rfl) (j:(backTo cpos (starEach es X.env)).any (·.1)=false:=by rfl) (v:(c == ("__debug__" : Str))=false:=by decide)
 (l:swapsWith (.Call (.Name name p) (e::es) [] cpos) (some (.Name y py)) apos.line X.env=pure false:=by rfl) (w:X.fn y=true\/X.env.scope.names.lookup y=some .local:=by trivial):
 QS X E m (.Try [.Assign [.Name y py] (.Call (.Name name p) (e::es) [] cpos) apos] [.ExceptHandler (some (.Name c np)) none (b₀::suite) hpos] [] [] pos) (yn i c Fn fr gs):=
 PS.weak (Go a d o hi hx q r s t n f hs g u j v l w) λT Z H h=>Pd n h
end
end L2.DL
namespace L2
def Cq {P:Program}{w:World}{K:W.Frag}{d:Yc}{base:Heap}{N:Yi}{c:Str}{b:Scope}{f:Addr}{g:Value}{A:Around}{a:List Env}{s:Shared}{H:Hp}{E:XK} :
 PassesOwn (model (js (qK P w) P w K d base N c b f g A a s H E).prog (js (qK P w) P w K d base N c b f g A a s H E).w) (js (qK P w) P w K d base N c b f g A a s H E).A (js (qK P w) P w K d base N c b f g A a s H E).env (js (qK P w) P w K d base N c b f g A a s H E).xe:=
 PassesOwn.leaving (Q₁:=λe h=>qK P w a H s E e h)
end L2
namespace L2.DL
def Cr (R:Res Out->Prop)(P:Nat->SD->Prop)(h:P 0 sd)(j:∀sd,P ds.length sd->R (.ok (.next sd)))
 (hs:∀(i:Nat) (x:D) (sd:SD),ds[i]? = some x->P i sd->(∃sd',(JS tg x sd).bind b=.ok (.next sd')/\P (i+1) sd')\/∃c es,(JS tg x sd).bind b=.ex c es/\R (.ex c es)):R (jN tg b ds sd):=by
 have d:∀(k i:Nat) (sd:SD),ds.length-i=k->i<=ds.length->P i sd->R (jN tg b (ds.drop i) sd):=by
  intro k
  induction k with
  |zero =>
   intro i sd e hi p;have:i=ds.length:=()
   subst this;rw[UK];exact j sd p
  |succ k l =>
   intro i sd e hi p;have a:i<ds.length:=()
   rw[Uz a];unfold jN qX;rcases hs i ds[i] sd (Zqg a) p with ⟨sd',f,g⟩|⟨c,es,f,g⟩
   .rw[f];exact l (i+1) sd' () a g
   .rw[f];exact g
 have:=d ds.length 0 sd () (Uc _) h
 rwa [List.drop_zero] at this
section
variable {X:Cx}{pos:Pos}
def Cs:D->D->YA
 | .lst a,.lst b=>if a.length+b.length<=sizeLine then some (.lst (a++b)) else none
 |_,_=>none
def Pf:um X (binaryOp .Add) Cs:=ql.weak Et λx y H Q i=>by
 obtain⟨F,d,e,z,c,id,f,hz,q⟩:=i;cases d with
 |lst a =>
  cases e with
  |lst b =>
   have hz:(if a.length+b.length<=sizeLine then some (D.lst (a++b)) else none)=some z:=hz
   split at hz
   .rename_i o;obtain rfl:=Zqi hz;rw[Tl] at id f;obtain⟨l,xs,rfl,j,g⟩:=id;obtain⟨m,ys,rfl,n,h⟩:=f;have r:=g.length;have s:=h.length;exact⟨l,m,xs,ys,rfl,rfl,j.same c,n.same c,(),λp hp=>q p F _ (.keep c hp _) hp (Qh c hp) ⟨_,JQ,g.append h⟩⟩
   .exact J2 hz
  |_=>exact J2 hz
 |_=>exact J2 hz
@[simp]def SZ (a b:Yz):Cs (.lst a) (.lst b)=if a.length+b.length<=sizeLine then some (.lst (a++b)) else none:=rfl
end
end L2.DL
namespace L2
def y8 (K:W.Frag)(x:Str)(st:Stmt):Prop:=∃f a,W.nsIn K mainGlobals x=some (some (.ref f))/\Fun K x x st f a
def y8.callee {P:Program}{w:World}{K:W.Frag}{h base:Heap}{c:Yc}{x:Str}{st:Stmt}{k:Nat}{ps:Yi}{sp:Sp}(X:K.In h)(G:h.Ns mainGlobals c)(d:y8 K x st)
 (ok:∀{f:Addr} {b:FuncData},Fun K x x st f b->FnOk P w K c base xp k f b ps sp)
 (j:∀(kV e l:Value) (m:Option Addr) (g ct:Value) (i:Yd),i.length=ps.length->bindArgs (W.fnOf x x (Wi st) (QX st) (JZ st) .none kV e l m g ct) ⟨i,[]⟩=pure (ps.zip i)):ye P w K c base x k ps sp:=by
 obtain⟨f,b,a,F⟩:=d;exact⟨f,b,ok F,F.binds j,F.kp,W.mg_of X G a⟩
def y8.calleeX {P:Program}{w:World}{K:W.Frag}{h base:Heap}{c:Yc}{x:Str}{st:Stmt}{k:Nat}{ps:Yi}{sp:Sp}(X:K.In h)(G:h.Ns mainGlobals c)(d:y8 K x st)
 (ok:∀{f:Addr} {b:FuncData},Fun K x x st f b->FnOk P w K c base (qK P w) k f b ps sp)
 (j:∀(kV e l:Value) (m:Option Addr) (g ct:Value) (i:Yd),i.length=ps.length->bindArgs (W.fnOf x x (Wi st) (QX st) (JZ st) .none kV e l m g ct) ⟨i,[]⟩=pure (ps.zip i)):yf P w K c base x k ps sp:=by
 obtain⟨f,b,a,F⟩:=d;exact⟨f,b,ok F,F.binds j,F.kp,W.mg_of X G a⟩
open PySem
def JP (a:h.kind=.function:=by rfl)(b:h.isCoroutine=false:=by rfl)(c:h.isGenerator=false:=by rfl)(d:N.Nodup:=by decide +kernel)(e:N.take P.length=P:=by rfl)
 (f:∀x∈P,h.names.lookup x=some .local\/h.names.lookup x=some .cell:=by decide +kernel) (g:∀y∈h.names,y.2 ≠ .free:=by decide +kernel):FnScope N P h:=⟨a,b,c,d,e,f,g⟩
def jX (i:Nat)(a:X.N.Nodup)(hi:X.N[i]? = some x:=by rfl)(hx:x4 X.env.scope x:=by trivial)(b:X.fn x=true\/X.env.scope.names.lookup x=some .local:=by trivial):PG X (.Name x pos) (KG i):=JY a hi hx b
section
variable {p:Yd->Prop}
def gV (h:∀a,p [a]):∀b:Yd,b.length=1->p b:=λb e=>by
 obtain⟨a,rfl⟩:=List.length_eq_one_iff.mp e;exact h a
def gU (h:∀a b,p [a,b]):∀c:Yd,c.length=2->p c:=λc e=>by
 cases c with
 |nil=>exact Zn e (by decide)
 |cons a c=>exact gV (p:=λc=>p (a::c)) (λb=>h a b) c (Vf e)
def fB (h:∀a b c,p [a,b,c]):∀d:Yd,d.length=3->p d:=λd e=>by
 cases d with
 |nil=>exact Zn e (by decide)
 |cons a d=>exact gU (p:=λd=>p (a::d)) (λb c=>h a b c) d (Vf e)
end
end L2
namespace L2.DL
end L2.DL
namespace L2.ST
end L2.ST
namespace L2.DL
open PySem PySem.Spec PyProof.Rows L2.ST
end L2.DL
namespace L2
theorem KV.at {κ: Type}:∀{d:List (κ × V)} {f:List (κ × Value)} {i:Nat} {a:κ × V},KV d f->d[i]? = some a->∃v,f[i]? = some (a.1,v)/\T3 a.2 v:=by
 intro d f i a b;unfold KV at b
 induction b generalizing i with
 |nil=>intro e;simp at e
 | @cons p q _ _ g tt h =>
  cases i with
  |zero =>
   intro c;simp at c;subst c;exact⟨q.2,by rw[g.1];rfl,g.2⟩
  |succ i =>
   intro c;obtain⟨v,j,l⟩:=h (by simpa using c);exact⟨v,by simpa using j,l⟩
end L2
namespace L2.DL
end L2.DL
namespace L2
section
variable {M:Model}{A:Around}{E:Ya}{s:Shared}{base:Heap}{e:Addr}{cls a0 fl:Value}
def Pg (v:base.StaysIn s.heap)(w:s.heap.FunFrames base l)(x:s.heap.TracedAtW base e cls a0 fl)
 (h:∀h' T,base.get? T=none->(∀b,b≠T->h'.get? b=s.heap.get? b)->(∃o vs,s.heap.get? T=some o/\o.data=.fields vs)->base.StaysIn h'->h'.FunFrames base l->(∃i,h'.TracedAtW base e cls a0 i)->Q Yq { s with heap:=h' }):wpAny M A (setFlight (.ref e) f) Q E s:=by
 obtain⟨y,vs,T,B,ts,m,C,p,r,j,t,d,c,F⟩:=x;have u:=(Jl.mp F).1;have g:∀b,b≠T->(s.heap.update T (Obj.mapFields (·.setIfInBounds 3 (f.elim Value.none λa=>rawInt a)))).get? b=s.heap.get? b:=λb n=>Heap.get?_update_other _ _ n.symm;have G:∀b o,s.heap.get? b=some o->(∀H,o.data ≠ .fields H)->b≠T:=λb o q n z=>by
  subst z;rw[d] at q;cases q;exact n _ c
 unfold setFlight;refine Za (wpAny_field m p r ?_);rw[Zd ()];refine wpAny_setField d c u (h _ T j g ⟨B,ts,d,c⟩ (λb o q=>(g b λz=>by rw[z,j] at q;cases q).trans (v b o q)) (w.of_keeps λb o q n=>⟨o,(g b (G b o q n)).trans q,rfl⟩) ⟨f.elim Value.none λa=>rawInt a,y,vs,T,_,_,(g e t.symm).trans m,C,p,r,j,t,Heap.get?_update_self _ d (Obj.isFreed_of_fields (Obj.data_mapFields c _)),Obj.data_mapFields c _,?_⟩);rw[Array.getElem?_setIfInBounds_self_of_lt u]
def Ph (d:A.frames=some (env::outer))(f:env.frame=some L)(l:base.StaysIn s.heap)(g:base.get? e=none)(m:s.heap.FunFrames base (env::outer))(h:s.heap.TracedAtW base e cls a0 fl)
 (p:∀h',Heap.FlyingW base outer e cls a0 h'->s.heap.UpToSlots h'->Q Yq { s with heap:=h' }):wpAny M A (leaving env (.ref e)) Q E s:=by
 by_cases c:fl=rawInt L
 .subst c;unfold leaving;refine Za (wpAny_noteFrame_againW f h ?_);exact wpAny_setFlight_noneW l m h λh' k1 k2 k3 x=>p h' ⟨k1,g,k2.2.2,k3⟩ λb o q n=>⟨o.slots,x b o q n⟩
 .obtain⟨O,vs,T,P,ts,r,⟨y,B⟩,t,u,C,F,i,j,v⟩:=h;subst y;have G:=(Jl.mp v).1;have a:∀b,b≠T->(s.heap.update T (Obj.mapFields (·.setIfInBounds 3 Value.none))).get? b=s.heap.get? b:=λb n=>Heap.get?_update_other _ _ n.symm;have w:∀b o,s.heap.get? b=some o->(∀H,o.data ≠ .fields H)->b≠T:=λb o q n z=>by
   subst z;rw[i] at q;cases q;exact n _ j
  unfold leaving noteFrame;simp only[f];refine Za (Za (wpAny_field r t u ?_));rw[Zd ()];refine Za (wpAny_field i j v ?_);rw[Ze (λz=>c (Yp.mp z))];refine Za (wpAny_setField i j G ?_);refine wpAny_newEntryW d (m.of_keeps λb o q n=>⟨o,(a b (w b o q n)).trans q,rfl⟩) f ((a e F.symm).trans r) (λb o q=>(a b λz=>by rw[z,C] at q;cases q).trans (l b o q)) g t (Jl.mp u).1 B λh' ⟨I,J,K,N⟩=>?_;exact p h' ⟨I,g,J.2.2,K⟩ λb o q n=>N b o ((a b (w b o q n)).trans q) n
end
structure FlyAny (l:List Env)(h₀:Heap)(H:Hp)(x C:Addr)(B h:Heap):Prop where
 st:B.StaysIn h
 no:B.get? x=none
 fr:h.FunFrames B l
 tr:∃t fl,h.TracedAtW B x (.ref C) (.ref t) fl
 trk:∀b o,h.get? b=some o->(H b≠none\/((∃u,h₀.get? b=some u)/\b∉frs l))->B.get? b=some o
structure ThrownA (X:Cx)(E:XK):Prop where
 on:∀(Y:Yb) (Z: St) (H:Hp) (s:Shared) (x C:Addr) (B:Heap) (d:Option Addr),Inv X Y Z H s->FlyAny X.stack X.s₀.heap H x C B s.heap->DT s.heap x d->E (.ref C) d H->X.xe (.ref x) s
def Gp {P:Program}{w:World}{K:W.Frag}{n:Yc}{base:Heap}{N:Yi}{j:Str}{c:Scope}{f:Addr}{o:Value}{A:Around}{a:List Env}{s:Shared}{H:Hp}{E:XK}:ThrownA (js (qK P w) P w K n base N j c f o A a s H E) E:=by
 refine⟨λY Z H' s' x C B d I i p q=>?_⟩;obtain⟨t,m,r⟩:=i.tr;refine Zc (XT (Ph (Q:=λ_ v=>∃h',Heap.FlyingW B a x (.ref C) (.ref t) h'/\s'.heap.UpToSlots h'/\v={ s' with heap:=h' }) I.ok.frames rfl i.st i.no i.fr r λh' g l=>⟨h',g,l,rfl⟩) (Gj (E:=λ_ _=>True) I.ok.frames i.fr rfl p)) ?_ λ_ _ z=>z.1;rintro _ _ ⟨⟨h',g,l,rfl⟩,dt'⟩;exact Ck (h₀:=s.heap) I (λb u e=>⟨u,e⟩) g l i.trk dt' q
theorem Gq {h h' B a:Heap}(k0:∀b,B.get? b=none->a.get? b=none):∀{l:List Env},(∀b∈frs l,h'.get? b=h.get? b)->h.FunFrames B l->h'.FunFrames a l
 | [],_,_=>trivial
 |env::rest,k,⟨g1,⟨L,o,g2,g3,g4,g5⟩,r⟩=>by
  have d:L∈frs (env::rest):=by
   unfold frs;rw[Ut,g2];exact Zqs
  refine⟨g1,⟨L,o,g2,k0 L g3,(k L d).trans g4,g5⟩,Gq k0 (λb c=>k b ?_) r⟩;unfold frs at c ⊢;rw[Ut,g2];exact Zqm _ c
def Gr {X:Cx}{E:XK}{i:Scope}{N:Yi}{cl:List (Str×Addr)}{C:Addr}{s:Shared}{H:Hp}{U:Yj}(G:X.stack=X.env::X.outer)(hfr:X.env.frame=some X.env.locals)(hex:X.ex=[])(T:ThrownA X E)(at_:Wj X C s H U):Thrown (JH X i N cl C s H U) E:=by
 obtain⟨J,Z0,I0,f0,hC⟩:=at_;refine⟨λY Z H' s' h₀ x D B d I h0 fl dt hE=>?_⟩;obtain⟨⟨t,fly⟩,trk⟩:=fl;have fly':Heap.FlyingW B (X.env::X.outer) x (.ref D) (.ref t) s'.heap:=by rw[<- G];exact fly
 have note:noteFrame (.ref x) (compEnvC i cl C X.env)=noteFrame (.ref x) X.env:=rfl;show YB X (noteFrame (.ref x) (compEnvC i cl C X.env)) (λ_ s''=>Xw X C (.ref x) s'') (Xw X C) s';rw[note];refine OP (I0.ok.frames.trans (by rw[G])) hfr fly' dt λh1 held up1 dt1=>?_;obtain⟨m,hm,_⟩:=id I.loc;have hm1:h1.Ns C m:=up1.ns hm;refine⟨m,hm1,λr f cenv _=>?_⟩;obtain⟨hc1,hc2,hc3,hc4⟩:=held;obtain⟨oC,es,ep,hoC,hdC,_⟩:=id hm1;have nC:∀b o ws,h1.get? b=some o->o.data=.fields ws->b≠C:=λb o ws q d z=>by
  subst z;rw[hoC] at q;cases q;rw[hdC] at d;cases d
 have j:∀b o,s.heap.get? b=some o->b≠C:=λb o q=>Zi (Zg (Zk q) hC);have frC:∀b∈frs X.stack,b≠C:=λb a=>by
  obtain⟨_,K,l,_⟩:=I.ok.funs.mem a;exact j b K l
 obtain⟨g,hB'⟩:∃g,W.hideAll B [C]=g:=⟨_,rfl⟩;have inB:∀b o,g.get? b=some o->B.get? b=some o:=λb o q=>by rw[<- hB'] at q;exact W.of_hideAll _ q
 have toB:∀b o,B.get? b=some o->b≠C->g.get? b=some o:=λb o q n=>by rw[<- hB'];exact W.hideAll_get _ q (by simpa using n)
 have L:∀b,B.get? b=none->g.get? b=none:=λb q=>by
  cases z:g.get? b with
  |none=>rfl
  |some o=>rw[inB b o z] at q;cases q
 have nBC:∀b o,g.get? b=some o->b≠C:=λb o q z=>by
  have M:g.get? C=none:=by rw[<- hB'];exact W.hideAll_none [C] (Vt.mpr rfl)
  rw[z,M] at q;cases q
 have st2:g.StaysIn r:=λb o q=>(f.2 b (nBC b o q)).trans (hc1 b o (inB b o q));have fr2:r.FunFrames g X.stack:=Gq L (λb a=>f.2 b (frC b a)) (by rw[G];exact hc3);obtain⟨oe,vs,T0,oT,ts,g1,g2,g3,g4,g5,g6,g7,g8,g9⟩:=hc4;have tr2:r.TracedAtW g x (.ref D) (.ref t) (rawInt X.env.locals):=⟨oe,vs,T0,oT,ts,(f.2 x (nC _ _ _ g1 g3)).trans g1,g2,g3,g4,L T0 g5,g6,(f.2 T0 (nC _ _ _ g7 g8)).trans g7,g8,g9⟩;unfold PySem.passOn;refine Za (wpAny_field (s:={ s' with heap:=r }) ((f.2 x (nC _ _ _ g1 g3)).trans g1) g3 g4 ?_);rw[Ze ()];have dt2:DT r x d:=by
  obtain⟨oe,vs,T,oT,ts,a1,a2,a3,a4,a5,a6,a7,a8⟩:=dt1;exact⟨oe,vs,T,oT,ts,(f.2 x (nC _ _ _ a1 a3)).trans a1,a2,a3,a4,a5,(f.2 T (nC _ _ _ a6 a7)).trans a6,a7,a8⟩
 refine Za (Zc (XT (Pg (s:={ s' with heap:=r }) (Q:=λ_ s2=>∃p S,g.get? S=none/\(∀b,b≠S->p.get? b=r.get? b)/\(∃o vs,r.get? S=some o/\o.data=.fields vs)/\g.StaysIn p/\p.FunFrames g X.stack/\(∃O,p.TracedAtW g x (.ref D) (.ref t) O)/\s2={ s' with heap:=p }) st2 fr2 tr2 λp S t1 t2 t3 w P R=>⟨p,S,t1,t2,t3,w,P,R,rfl⟩) (Cj (E:=λ_ _=>True) (s:={ s' with heap:=r }) dt2)) ?_ λ_ _ z=>z.1);rintro _ _ ⟨⟨p,S,t1,t2,t3,w,P,R,rfl⟩,dt3⟩;refine wpAny_throw ?_;have K1:∀b o,B.get? b=some o->b≠C->p.get? b=some o:=λb o q n=>w b o (toB b o q n);have nex:∀b u,X.s₀.heap.get? b=some u->b∉U:=λb u q a=>by
  rcases(f0 b a).2.2.2.1 with z|z
  .rw[hex] at z;cases z
  .exact Zn (Zk q) (Nat.not_lt.mpr z)
 have F:∀b o,s.heap.get? b=some o->b∈frs X.stack->b∉U->∃sl,p.get? b=some { o with slots:=sl }:=λb o q a hx=>by
  obtain⟨_,K,l,hd⟩:=I.ok.funs.mem a;have l:s.heap.get? b=some K:=l;rw[q] at l;obtain rfl:=Zqi l;obtain⟨sl,e1⟩:=I.base.slot b o q (I.ok.frf b a) a hx;obtain⟨sl',e2⟩:=up1 b _ e1 hd;have e3:r.get? b=some { o with slots:=sl' }:=(f.2 b (frC b a)).trans e2;refine⟨sl',(t2 b λz=>?_).trans e3⟩;obtain⟨oz,wz,M,z2⟩:=t3;rw[<- z] at M;have M:r.get? b=some oz:=M;rw[e3] at M;cases M;exact hd _ z2
 refine T.on J Z0 H' _ x D g d (I0.call' (s':={ s' with heap:=p }) (ch:=U) I.os ⟨λb o e n a hx=>?_,λb o e n a hx=>F b o e a hx,λb o e n hx=>I.base.free b o e n hx,λb o e hx=>?_,I.base.tups,I.base.frzs,I.base.tbls⟩ (λb u e=>?_) I.bare λb a=>⟨(f0 b a).2.2.2.1,(f0 b a).2.1,(f0 b a).2.2.2.2.1,(f0 b a).2.2.2.2.2⟩) ⟨w,L x hc2,P,?_,λb o e c=>?_⟩ dt3 hE
 .exact K1 b o (trk b o (I.base.keep b o e n a hx) (.inr ⟨h0 b o e hx,a⟩)) (j b o e)
 .by_cases a:b∈frs X.stack
  .obtain⟨sl,q⟩:=F b o e a hx;exact⟨_,q⟩
  .obtain⟨K,e'⟩:=I.base.there b o e hx;exact⟨K,K1 b K (trk b K e' (.inr ⟨h0 b o e hx,a⟩)) (j b o e)⟩
 .refine(I.hok b u e).stay (λc v hc q=>K1 c v (trk c v q (.inl ?_)) ?_) (λ_ q=>q) λ_ _ q=>q
  .rcases hc with z|z
   .rw[z,e];simp
   .rw[z];simp
  .intro z;have fC:H' C=none:=I.free;rcases hc with y|y
   .rw[<- y,z,fC] at e;exact J2 e
   .rw[z,fC] at y;exact J2 y
 .obtain⟨O,q⟩:=R;exact⟨t,O,q⟩
 .have key:∃A,B.get? b=some A/\b≠C:=by
   rcases c with c|⟨⟨u,hu⟩,a⟩
   .cases q:H' b with
    |none=>exact Zn q c
    |some u =>
     obtain⟨A,h2'⟩:=(I.hok b u q).has;exact⟨A,trk b A h2' (.inl c),λz=>by rw[z] at q;rw[show H' C=none from I.free] at q;exact J2 q⟩
   .obtain⟨o1,e1⟩:=I0.base.there b u hu (by rw[hex];simp);obtain⟨A,e2⟩:=I.base.there b o1 e1 (nex b u hu);exact⟨A,trk b A e2 (.inr ⟨h0 b o1 e1 (nex b u hu),a⟩),j b o1 e1⟩
  obtain⟨A,k1,k2⟩:=key;have:=K1 b A k1 k2;have e:p.get? b=some o:=e;rw[e] at this;cases this;exact toB b o k1 k2
end L2
namespace L2.DL
def Gs (N:Yi)(cap:List (Option Nat))(d:X.calm=true)(b:QB scope X.env N X.N cap=true)(hi:QI X E tg iter fi)
 (e:∀c C s H a,QG (JH X scope N c C s H a) tg t) (i:∀c C s H a,Wj X C s H a->QE (JH X scope N c C s H a) E elt f) (hs:∀x,foldedSetIterable iter X.env x=pure x:=by intro _;rfl):
 QN X E (.ListComp elt [⟨tg,iter,[],0⟩] scope pos) (JV cap fi t f):=PE.weak (D4 (g:=gT t X.K) (te:=tD X.K E f) N cap d b hi e i hs) λ_ _ _ h=>B9 h
abbrev HP:=List (Addr×D)
def Tr:HP->Addr->YA
 | [],_=>none
 |p::r,a=>if a=p.1 then some p.2 else Tr r a
def KC:HP->Addr->D->HP
 | [],_,_=>[]
 |p::r,a,d=>if a=p.1 then(p.1,d)::r else p::KC r a d
def Pi (a:Addr):Tr [] a=none:=rfl
def Kh (p:Addr×D)(r:HP)(a:Addr):Tr (p::r) a=if a=p.1 then some p.2 else Tr r a:=rfl
theorem XU:∀{hp:HP} {a:Addr} {d:D} (b:Addr),Tr hp a≠none->Tr (KC hp a d) b=if b=a then some d else Tr hp b
 | [],a,d,b,h=>Zn rfl h
 |p::r,a,d,b,h=>by
  unfold KC;by_cases z:a=p.1
  .rw[Zd z,Kh,Kh];show(if b=p.1 then some d else _)=_;rw[<- z];by_cases y:b=a
   .rw[Zd y,Zd y]
   .rw[Ze y,Ze y,Ze y]
  .rw[Ze z,Kh,Kh];rw[Kh,Ze z] at h;rw[XU b h];by_cases y:b=p.1
   .rw[Zd y,Zd y,Ze λx=>z (by rw[<- x,y])]
   .rw[Ze y,Ze y]
structure RT (K:W.Frag)(B B':Bs)(F H:Hp)(sd:SD)(hp:HP)(Z: St):Prop where
 rs:RS K B' F H sd Z
 f0:B'.F0=B.F0
 pa:B'.pa=B.pa
 out:∀a,Tr hp a=none->B'.H0 a=B.H0 a
 obj:∀a d,Tr hp a=some d->B.F0 a=none/\B.H0 a=none/\xu K F B'.H0 a d
section
variable {K:W.Frag}{B B':Bs}{F F' H H':Hp}{sd sd':SD}{hp:HP}{Z Z':St}{a:Addr}{d:D}
def RT.sub (t:RT K B B' F H sd hp Z):Tu B.H0 B'.H0:=λa o e=>by
 cases q:Tr hp a with
 |none=>rw[t.out a q];exact e
 |some d=>rw[(t.obj a d q).2.1] at e;exact J2 e
def RT.ext0 (t:RT K B B' F H sd hp Z)(e:Ext B'.F0 B'.H0 F2 H2):Ext B.F0 B.H0 F2 H2:=
 ⟨by rw[<- t.f0];exact e.ff,e.fh,t.sub.trans e.hh,λa b c=>e.new a (by rw[t.f0];exact b) λz=>c (Qh t.sub z)⟩
def RT.go (t:RT K B B' F H sd hp Z)(s:Tu F F')(r:RS K B' F' H' sd' Z'):RT K B B' F' H' sd' hp Z':=
 ⟨r,t.f0,t.pa,t.out,λa d h=>let ⟨h1,h2,h3⟩:=t.obj a d h;⟨h1,h2,h3.ext s λ_ q=>q⟩⟩
def RT.free (t:RT K B B' F H sd hp Z)(h:Tr hp a=some d):F a=none:=by
 obtain⟨b,f,c⟩:=t.obj a d h;obtain⟨o,e⟩:=c.has;exact t.rs.ext.new a (by rw[t.f0];exact b) (by rw[e];simp)
def RT.lies (t:RT K B B' F H sd hp Z)(h:Tr hp a=some d):xu K F H a d:=(t.obj a d h).2.2.ext (.refl _) λo q=>t.rs.ext.hh _ _ q
def RT.no_own (t:RT K B B' F H sd hp Z)(h:Tr hp a=some d)(c:B'.H0 l=none):l≠a:=λz=>by
 obtain⟨o,b⟩:=(t.obj a d h).2.2.has;rw[<- z,c] at b;exact J2 b
def RT.start (r:RS K B F H sd Z):RT K B B F H sd [] Z:= ⟨r,rfl,rfl,λ_ _=>rfl,λa d h=>by cases h⟩
def RT.xw (t:RT K B B' F H sd hp Z)(h:XW K E B.F0 B.H0 c fs):XW K E B'.F0 B'.H0 c fs:=λb a f g e q=>h b a f g (t.ext0 e) q
def RT.chg (t:RT K B B' F H sd hp Z)(f:Tr hp a=some d)(h:xu K F (TQ H a o) a d'):RT K B ⟨B'.F0,TQ B'.H0 a o,B'.pa⟩ F (TQ H a o) sd (KC hp a d') Z:= by
 have j:=t.free f;obtain⟨r,s,L⟩:=t.obj a d f;have m:Tr hp a≠none:=by rw[f];simp
 refine⟨⟨⟨t.rs.ext.ff,Bm o t.rs.ext.fh j,λb u e=>?_,λb v w=>?_⟩,t.rs.len,t.rs.val,λ{i p e} q=>?_,t.rs.apart⟩,t.f0,t.pa,λb c=>?_,λb e c=>?_⟩
 .have e:TQ B'.H0 a o b=some u:=e;by_cases z:b=a
  .subst z;rw[JQ] at e ⊢;exact e
  .rw[JL z] at e ⊢;exact t.rs.ext.hh _ _ e
 .by_cases z:b=a
  .rw[z];exact j
  .exact t.rs.ext.new b v λy=>w (by show TQ B'.H0 a o b=none;rw[JL z];exact y)
 .obtain⟨l,x,n,A,C,E⟩:=t.rs.own q;have ne:=t.no_own f n;exact⟨l,x,(JL ne).trans n,A,C.ext (.refl _) (λu g=>by rw[JL ne];exact g),λz=>(E z).mono λu g=>by rw[JL ne];exact g⟩
 .rw[XU b m] at c;by_cases z:b=a
  .rw[Zd z] at c;exact J2 c.symm
  .rw[Ze z] at c;show TQ B'.H0 a o b=B.H0 b;rw[JL z];exact t.out b c
 .rw[XU b m] at c;by_cases z:b=a
  .rw[Zd z] at c;obtain rfl:=Zqi c;subst z;exact⟨r,s,h.ext (.refl _) λu q=>by show TQ B'.H0 b o b=some u;rw[JQ] at q ⊢;exact q⟩
  .rw[Ze z] at c;obtain⟨G,I,J⟩:=t.obj b e c;exact⟨G,I,J.ext (.refl _) λu q=>by show TQ B'.H0 a o b=some u;rw[JL z];exact q⟩
def qH (F b:Hp)(hp:HP):Hp:=λa=>match Tr hp a with
 |some _=>b a
 |none=>F a
end
section
variable {K:W.Frag}{B:Bs}{F H:Hp}{sd:SD}{hp:HP}{Z: St}
def Pj {α: Type}{l:List α}{a:α}(h:l[i]? = some a):l.set i a=l:=by
 apply List.ext_getElem?;intro j;by_cases z:i=j
 .subst z;rw[UU (Jd.mp h).1,h]
 .rw[Zx z]
def RS.reval (r:RS K B F H sd Z)(hi:sd[i]? = some (~~~d))(h:∀v,Tj K F d v->Tj K F d' v):RS K B F H (sd.set i (~~~d')) Z:= by
 obtain⟨v,a,b⟩:=r.val hi;have:=r.setVal (i:=i) (h v b);rw[Pj a] at this;exact this
end
end L2.DL
namespace L2
def xf (a b:Int):Bool:=decide (a<b)
def uz:Tot xf:=by
 refine⟨λa b h=>?_,λa b c h=>?_,λa b d e=>?_⟩
 .unfold xf at *;simp at *;lia
 .unfold xf at *;simp at *;lia
 .unfold xf at *;simp at *;lia
section
variable {prog:Program}{w:World}{A:Around}{s:Shared}
theorem Gu:∀{vs:Yd} {ks:Yf},IntsAre vs ks->∀v∈vs,∃k t,v=Value.int k t
 |_,_,.nil,v,hv=>by cases hv
 |_,_,.cons n t r,v,hv=>by
  rcases UQ.mp hv with z|z
  .exact⟨n,t,z⟩
  .exact Gu r v z
def Pk (a:IntsAre vs ks)(b:2<=vs.length):yb prog w A s vs λi j=>xf (ks.getD i 0) (ks.getD j 0):=
 ⟨oneType',λE Q h=>W.kas_kind (T:=Value.type "int") b (λv c=>by
  obtain⟨k,t,rfl⟩:=Gu a v c;exact W.Looks.of_pure rfl) rfl rfl h,ST.keyed_orc a a.length.symm⟩
theorem Ct:∀{vs:Yd} {ks:Yf},vs.length=ks.length->(∀(i:Nat) (k:Int),ks[i]? = some k->∃t,vs[i]? = some (Value.int k t))->IntsAre vs ks
 | [],[],_,_=>.nil
 | [],_::_,h,_=>by cases h
 |_::_,[],h,_=>by cases h
 |v::vs,k::ks,h,at_=>by
  obtain⟨t,a⟩:=at_ 0 k rfl;obtain rfl:v=Value.int k t:=Zqi a;exact .cons k t (Ct (by simpa using h) λi k b=>at_ (i+1) k b)
end
end L2
namespace L2.DL
def VX:List TF->Option Yf
 | []=>some []
 | .inl k::ks=>(VX ks).map (k :: ·)
 |_=>none
theorem Gv:∀{ks:List TF} {l:Yf},VX ks=some l->ks=l.map Ub
 | [],l,h=>by cases h;rfl
 | .inl k::ks,l,h=>by
  obtain⟨r,a,b⟩:=Jj.mp (show(VX ks).map (k :: ·)=some l from h);subst b;rw[Gv a];rfl
 | .inr _::ks,l,h=>by cases h
theorem Gw:∀l:Yf,VX (l.map Ub)=some l
 | []=>rfl
 |k::l=>by
  show(VX (l.map Ub)).map (k :: ·)=_;rw[Gw l];rfl
@[simp]def kb (sd:SD):BI sd=.ok (.dct [] []):=rfl
def z4 (K:W.Frag)(F H:Hp)(hp:HP):Prop:=∀a d,Tr hp a=some d->F a=none/\xu K F H a d
def RT.lent {K:W.Frag}{B a:Bs}{F H:Hp}{sd:SD}{hp:HP}{Z: St}(t:RT K B a F H sd hp Z):z4 K F H hp:=λ_ _ h=>⟨t.free h,t.lies h⟩
theorem Cu:∀{hp:HP} {a:Addr},Tr hp a=none↔a∉hp.map (·.1)
 | [],a=>by simp[Pi]
 |p::r,a=>by
  rw[Kh,Zl,UQ,not_or];by_cases z:a=p.1
  .rw[Zd z];exact⟨λh=>(nomatch h),λh=>Zn z h.1⟩
  .rw[Ze z,Cu (hp:=r)];exact⟨λh=>⟨z,h⟩,λh=>h.2⟩
def jM (H:Hp)(hp:HP):Hp:=λa=>match Tr hp a with
 |none=>H a
 |some _=>none
def QR (h:Tr hp a=none):jM H hp a=H a:=by unfold jM;rw[h]
def XV (h:Tr hp a=some d):jM H hp a=none:=by unfold jM;rw[h]
section
variable {K:W.Frag}{B B':Bs}{F F' H H':Hp}{sd:SD}{hp hp':HP}{Z: St}
def RT.hidden (t:RT K B B' F H sd hp Z):Ext B.F0 B.H0 F (jM H hp):=by
 have e:=t.ext0 t.rs.ext;refine⟨e.ff,λa o q=>?_,λa o q=>?_,e.new⟩
 .cases z:Tr hp a with
  |none=>rw[QR z];exact e.fh _ _ q
  |some d=>rw[t.free z] at q;exact J2 q
 .cases z:Tr hp a with
  |none=>rw[QR z];exact e.hh _ _ q
  |some d=>rw[(t.obj a d z).2.1] at q;exact J2 q
end
end L2.DL
namespace L2
open PySem PyProof.Rows
def Pm:Yx->Hp->VK->Prop:=λxs H Q=>∃a ks,xs=[.ref a]/\Rd H a (.lst (ks.map V.int))/\ks.length<64/\∀l,H l=none->Q (.ref l) (TQ H l (.lst ((JE xf ks).map V.int)))
def Pn:jc X (.builtin "sorted") Pm:=by
 intro Y s Z H xs O Q I A h;obtain⟨a,ks,rfl,B,C,q⟩:=h;obtain⟨u,rfl,E⟩:=Q9 A;obtain rfl:u=Value.ref a:=E;obtain⟨c,n,F,hz⟩:=I.list (.inl B);have r:=n.length;rw[Zql] at r;have g:c.length=ks.length:=r.symm;have G:∀b o,s.heap.get? b=some o->((s.heap.push (seqObj "list" #[] 0)).update s.heap.objs.size (Obj.mapSeq (· ++ c.toArray))).get? b=some o:=λb o e=>by
  rw[Heap.get?_update_ne _ _ _ _ (Zi (Zk e)),Heap.get?_push_ne _ _ _ (Zi (Zk e))];exact e
 have d:∀{i:Nat} {k:Int},ks[i]? = some k->∃t,c[i]? = some (Value.int k t):=λ{i k} hi=>by
  obtain⟨v,J,K⟩:=n.get (i:=i) (x:=V.int k) (by rw[Zv,hi];rfl);obtain⟨t,rfl⟩:∃t,v=Value.int k t:=K;exact⟨t,J⟩
 have j:IntsAre c ks:=Ct g λi k hi=>d hi;refine Bq (uz.wk λi=>ks.getD i 0) (collect_list F.isList ⟨(),λh' w L=>Pk j L,λM h' l p u w y m=>?_⟩ (by rw[g];exact Qz ()));obtain⟨e,m⟩:=m;rw[g] at p u;have f:s.heap.objs.size<=l:=by
  have:((s.heap.push (seqObj "list" #[] 0)).update s.heap.objs.size (Obj.mapSeq (· ++ c.toArray))).objs.size=s.heap.objs.size+1:=by rw[Heap.size_update,size_push']
  have y:((s.heap.push (seqObj "list" #[] 0)).update s.heap.objs.size (Obj.mapSeq (· ++ c.toArray))).objs.size<=l:=y;lia
 have sp:=ZH uz p u;refine⟨.ref l,TQ H l (.lst ((JE xf ks).map V.int)),I.laid (a:=l) (o:=.lst ((JE xf ks).map V.int)) (t':=s.toks) (λb o e=>w b o (G b o e)) f ⟨?_,M.toList.map (TK c),e,?_,?_⟩,rfl,q l (I.hok.fresh f)⟩
 .rw[<- sp,Zql,Zql,p.len];exact Qz ()
 .rw[<- sp,Zw];refine Wp λi hi=>?_;have z:=p.mem hi;obtain⟨t,N⟩:=d (Zqg z);unfold TK;rw[JU N,show(V.int ∘ λi=>ks.getD i 0) i=V.int (ks.getD i 0) from rfl,JU (Zqg z)];exact⟨t,rfl⟩
 .rw[m]
  congr 3
  apply Array.ext';simp
end L2
namespace L2.DL
open PySem L2
def Cv:Yz->YA
 | [d]=>(KI d).bind λns=>if ns.length<64 then some (.lst ((JE xf ns).map .int)) else none
 |_=>none
def Po (h:ns.length<64):Cv [.lst (ns.map .int)]=some (.lst ((JE xf ns).map .int)):=by
 show(Qq Wv (ns.map D.int)).bind _=_;rw[Ep];exact Zd h
section
variable {X:Cx}{E:XK}{m:Option Bool}{e:Expr}{es:Yk}{sts:List Stmt}
def Pp:jc X (.builtin "sorted") (xF X.K Cv):=jc.weak Pn λxs H Q f=>by
 obtain⟨F,ds,z,b,id,hz,q⟩:=f;cases ds with
 |nil=>exact J2 hz
 |cons d ds =>
  cases ds with
  |cons _ _=>exact J2 hz
  |nil =>
   obtain⟨v,rfl,h⟩:=Qw id;obtain⟨ns,i,c⟩:=Jh.mp (show(KI d).bind (λns=>if ns.length<64 then some (D.lst ((JE xf ns).map .int)) else none)=some z from hz)
   split at c
   .rename_i j;obtain rfl:=Zqi c;obtain⟨a,rfl,g⟩:=ZW i h;exact⟨a,ns,rfl,XG b g,j,λp hp=>q p F _ (.keep b hp _) hp (Qh b hp) ⟨_,JQ,jd _⟩⟩
   .exact J2 c
end
open Classical in
def jE (n:Nat)(g:Yj->Res Out):Res Out:=if h:∃o,∀as,as.length=n->g as=.ok o then .ok (Classical.choose h) else .no
def Gx (h:∀as,as.length=n->g as=.ok o):jE n g=.ok o:=by
 have hx:∃o,∀as,as.length=n->g as=.ok o:=⟨o,h⟩;unfold jE;rw[dif_pos hx];have a:(List.replicate n (0:Addr)).length=n:=Vm;have b:=Classical.choose_spec hx _ a;rw[h _ a] at b;exact b.symm
structure Ev where
 P:Program
 w:World
 K:W.Frag
 mg:Yc
 base:Heap
 C:Nat->Addr
 t:Nat->Tok
abbrev Ca (e:Ev):=ye e.P e.w e.K e.mg e.base
abbrev zl (e:Ev):=yf e.P e.w e.K e.mg e.base
def zF (K:W.Frag)(T:Nat->Stmt):List (Str×Nat)->Prop
 | []=>True
 |p::r=>y8 K p.1 (T p.2)/\zF K T r
def Nn (K:W.Frag):Yi->Prop
 | []=>True
 |x::r=>W.nsIn K mainGlobals x=some none/\Nn K r
def dfs_cons {K:W.Frag}{T:Nat->Stmt}{x:Str}{i:Nat}{r:List (Str×Nat)}(h:y8 K x (T i))(q:zF K T r):zF K T ((x,i)::r):=⟨h,q⟩
def nn_cons {K:W.Frag}{x:Str}{r:Yi}(h:W.nsIn K mainGlobals x=some none)(q:Nn K r):Nn K (x::r):=⟨h,q⟩
theorem Cw {K:W.Frag}{T:Nat->Stmt}:∀{l:List (Str×Nat)} {j:Nat} {p:Str×Nat},zF K T l->l[j]? = some p->y8 K p.1 (T p.2)
 | [],j,p,_,h=>by simp at h
 |q::r,0,p,d,h=>by
  obtain rfl:q=p:=by simpa using h
  exact d.1
 |q::r,j+1,p,d,h=>Cw d.2 (by simpa using h)
theorem Gy {K:W.Frag}{h:Heap}{a:Yc}(X:K.In h)(G:h.Ns mainGlobals a):∀{l:Yi},Nn K l->∀x∈l,a x=none
 | [],_,x,q=>by simp at q
 |y::r,d,x,q=>by
  rcases UQ.mp q with z|z
  .rw[z];exact W.mg_none_of X G d.1
  .exact Gy X G d.2 x z
abbrev f5 (mg:Yc)(bl:Yi):Prop:=∀x∈bl,mg x=none
def J8 {a:Yc}{bl:Yi}{x:Str}(m:f5 a bl)(h:x∈bl:=by decide):a x=none:=m x h
structure Al (e:Ev)(T:Nat->Stmt)(tbl:List (Str×Nat))(bl:Yi):Prop where
 h:∃h,e.K.In h/\h.Ns mainGlobals e.mg
 d:zF e.K T tbl
 m:f5 e.mg bl
section
variable {e:Ev}{T:Nat->Stmt}{tbl:List (Str×Nat)}{bl:Yi}{x:Str}{k:Nat}{ps:Yi}{sp:Sp}
abbrev Gz (x:Str)(st:Stmt)(ps:Yi):Prop:=∀(kV doc pm:Value) (an:Option Addr) (cdv ct:Value) (us:Yd),us.length=ps.length->bindArgs (W.fnOf x x (Wi st) (QX st) (JZ st) .none kV doc pm an cdv ct) ⟨us,[]⟩=pure (ps.zip us)
def qf (a:Al e T tbl bl)(j i:Nat)(ok:∀{f:Addr} {b:FuncData},Fun e.K x x (T i) f b->FnOk e.P e.w e.K e.mg e.base xp k f b ps sp)(h:tbl[j]? = some (x,i):=by rfl)
 (c:Gz x (T i) ps:=by intro _ _ _ _ _ _;first|exact gU λ_ _=>rfl|exact fB λ_ _ _=>rfl|exact gV λ_=>rfl|exact d λ_ _ _ _=>rfl|exact g λ_ _ _ _ _=>rfl|exact l λ_ _ _ _ _ _=>rfl):Ca e x k ps sp:=by
 obtain⟨_,X,G⟩:=a.h;exact(show y8 e.K x (T i) from Cw a.d h).callee X G ok c
def xH (a:Al e T tbl bl)(j i:Nat)(ok:∀{f:Addr} {b:FuncData},Fun e.K x x (T i) f b->FnOk e.P e.w e.K e.mg e.base (qK e.P e.w) k f b ps sp)(h:tbl[j]? = some (x,i):=by rfl)
 (c:autoParam (Gz x (T i) ps) qf._auto_2):zl e x k ps sp:=by
 obtain⟨_,X,G⟩:=a.h;exact(show y8 e.K x (T i) from Cw a.d h).calleeX X G ok c
end
def T8 {X:Cx}(h:X.N.Nodup:=by dsimp only[JH,js,Cx.nox];decide +kernel):X.N.Nodup:=h
def qv {X:Cx}{E:XK}(i:Nat){x:Str}{a:Pos}(c:X.N[i]? = some x:=by rfl)(d:autoParam (ko X.env.scope x) pv._auto_2)(e:(x == ("__debug__" : Str))=false:=by decide)(b:(x == ("__classdict__" : Str))=false:=by decide):QE X E (.Name x a) (Tf i):=wx (pv i c d e b)
inductive Wr (α: Type) where
 |ok (a:α)|ex (c:Str) (fs:Yz)|no|new (hp:HP) (k:Addr->Wr α)
def Wr.bind {α β: Type}:Wr α -> (α -> Wr β)->Wr β
 | .ok a,g=>g a
 | .ex c fs,_=>.ex c fs
 | .no,_=>.no
 | .new hp k,g=>.new hp λa=>(k a).bind g
def Wr.need {α: Type}:Wr α -> (α -> Prop)->(Str->Yz->Prop)->Prop
 | .ok a,p,_=>p a
 | .ex c fs,_,q=>q c fs
 | .no,_,_=>False
 | .new hp k,p,q=>∀a,Tr hp a=none->(k a).need p q
def Wr.of {α: Type}:Res α -> Wr α
 | .ok a=>.ok a
 | .ex c fs=>.ex c fs
 | .no=>.no
@[simp]def Wr.bind_ok {α β: Type}(a:α)(g:α -> Wr β):(Wr.ok a).bind g=g a:=rfl
@[simp]def zg {α β: Type}(hp:HP)(k:Addr->Wr α)(g:α -> Wr β):(Wr.new hp k).bind g=.new hp λa=>(k a).bind g:=rfl
@[simp]def ug {α: Type}(a:α):Wr.of (Res.ok a)=.ok a:=rfl
theorem Wr.need_bind {α β: Type}{p:β -> Prop}{q:Str->Yz->Prop}{g:α -> Wr β}:∀{r:Wr α},(r.bind g).need p q↔r.need (λa=>(g a).need p q) q
 | .ok _=>.rfl
 | .ex _ _=>.rfl
 | .no=>.rfl
 | .new _ k=>forall_congr' λa=>imp_congr .rfl (Wr.need_bind (r:=k a))
theorem Wr.need.mono {α: Type}{p b: α -> Prop}{q d:Str->Yz->Prop}(hp:∀a,p a->b a)(e:∀c fs,q c fs->d c fs):∀{r:Wr α},r.need p q->r.need b d
 | .ok _,h=>hp _ h
 | .ex _ _,h=>e _ _ h
 | .no,h=>h
 | .new _ k,h=>λa z=>Wr.need.mono hp e (r:=k a) (h a z)
def jm {α: Type}{r:Res α}{p:α -> Prop}{q:Str->Yz->Prop}:(Wr.of r).need p q↔r.need p q:=by cases r<;>exact .rfl
def jT {α β: Type}{p:β -> Prop}{q:Str->Yz->Prop}{g:α -> Wr β}{r:Wr α}(h:(r.bind g).need p q){b: α -> Prop}(k:∀a,(g a).need p q->b a):r.need b q:=(Wr.need_bind.mp h).mono k λ_ _ z=>z
def qN {α β: Type}{p:β -> Prop}{q b:Str->Yz->Prop}{g:α -> Wr β}{r:Res α}(h:((Wr.of r).bind g).need p q){d: α -> Prop}(k:∀a,(g a).need p q->d a)(e:∀c fs,q c fs->b c fs):r.need d b:=(jm.mp (Wr.need_bind.mp h)).mono k e
def dr (hp:HP):Nat->D->D
 | 0,d=>d
 |n+1,.adr a=>match Tr hp a with
  |some d=>dr hp n d
  |none=>.adr a
 |n+1,.lst ds=>.lst (ds.map (dr hp n))
 |n+1,.tup ds=>.tup (ds.map (dr hp n))
 |n+1,.dct ks ds=>.dct ks (ds.map (dr hp n))
 |n+1,.ins c fs ds=>.ins c fs (ds.map (dr hp n))
 |_+1,d=>d
def drI (n:Nat)(hp:HP):Yh->SD->SD
 | [],sd=>sd
 |i::is,sd=>drI n hp is (match sd[i]? with
  |some (~~~d)=>sd.set i (~~~(dr hp n d))
  |_=>sd)
section
variable {K:W.Frag}{B B':Bs}{F H F' H':Hp}{sd:SD}{hp hp':HP}{Z: St}
theorem Ti.mapOf {g:D->D}(h:∀d v,Tj K F d v->Tj K F (g d) v):∀{ds:Yz} {xs:Yx},Ti K F ds xs->Ti K F (ds.map g) xs
 | [],_,i=>i
 |d::ds,xs,i=>by
  obtain⟨x,r,a,b,c⟩:=Tp.mp i;exact Tp.mpr ⟨x,r,a,h d x b,Ti.mapOf h c⟩
theorem Tj.dr (g:∀a d,Tr hp a=some d->Tj K F d (.ref a)):∀(n:Nat) (d:D) (v:V),Tj K F d v->Tj K F (dr hp n d) v
 | 0,_,_,h=>h
 |n+1,.adr a,v,h=>by
  obtain rfl:=j7.mp h;unfold L2.DL.dr
  split
  .rename_i d q;exact Tj.dr g n d _ (g a d q)
  .exact h
 |n+1,.lst ds,v,h=>by
  obtain⟨a,xs,b,e,f⟩:=Tl.mp h;exact Tl.mpr ⟨a,xs,b,e,Ti.mapOf (Tj.dr g n) f⟩
 |n+1,.tup ds,v,h=>by
  obtain⟨a,xs,b,e,f⟩:=Tq.mp h;exact Tq.mpr ⟨a,xs,b,e,Ti.mapOf (Tj.dr g n) f⟩
 |n+1,.dct ks ds,v,h=>by
  obtain⟨a,xs,b,e,i,f⟩:=TH.mp h;exact TH.mpr ⟨a,xs,b,e,i,Ti.mapOf (Tj.dr g n) f⟩
 |n+1,.ins c fs ds,v,h=>by
  obtain⟨a,C,j,xs,b,l,e,i,f⟩:=je.mp h;exact je.mpr ⟨a,C,j,xs,b,l,e,i,Ti.mapOf (Tj.dr g n) f⟩
 |_+1,.non,_,h=>h
 |_+1,.bl _,_,h=>h
 |_+1,.int _,_,h=>h
 |_+1,.str _,_,h=>h
 |_+1,.ty _,_,h=>h
 |_+1,.scr _,_,h=>h
 |_+1,.exc _,_,h=>h
 |_+1,.exr _ _,_,h=>h
 |_+1,.ucl _,_,h=>h
 |_+1,.dcf _ _,_,h=>h
 |_+1,.pin _ _,_,h=>h
theorem RS.drI (b:∀a d,Tr hp a=some d->Tj K F d (.ref a))(n:Nat):∀(is:Yh) {sd:SD},RS K B F H sd Z -> RS K B F H (drI n hp is sd) Z
 | [],sd,r=>r
 |i::is,sd,r=>by
  unfold L2.DL.drI
  split
  .rename_i d h;exact RS.drI b n is (r.reval h λv q=>Tj.dr b n d v q)
  .exact RS.drI b n is r
def V0:Nat->D->Bool
 |n+1,.tup ds=>ds.all (V0 n)
 |_,d=>Wt d
theorem jU {g:D->Bool}(h:∀d v,g d=true->Tj K F d v->Tj K F' d v):∀{ds:Yz} {xs:Yx},ds.all g=true->Ti K F ds xs->Ti K F' ds xs
 | [],_,_,i=>i
 |d::ds,xs,s,i=>by
  obtain⟨x,r,a,b,c⟩:=Tp.mp i;rw[UH,Ue] at s;exact Tp.mpr ⟨x,r,a,h d x s.1 b,jU h s.2 c⟩
theorem qO (b:∀a xs,F a=some (.tup xs)->F' a=some (.tup xs)):∀(n:Nat) (d:D) (v:V),V0 n d=true->Tj K F d v->Tj K F' d v
 | 0,d,v,s,h=>h.scal (by cases d<;>exact s)
 |n+1,d,v,s,h=>by
  cases d with
  |tup ds =>
   obtain⟨a,xs,c,e,f⟩:=Tq.mp h;exact Tq.mpr ⟨a,xs,c,.of (b a xs e),jU (qO b n) s f⟩
  |_=>exact h.scal s
def xu.noTup {a:Addr}{d:D}{o:HO}(h:xu K F H a d)(e:H a=Option.some o)(xs:Yx):o ≠ .tup xs:=λz=>by
 subst z;cases d with
 |lst ds=>obtain⟨_,q,_⟩:=h;rw[e] at q;cases q
 |dct ks ds=>obtain⟨_,q,_⟩:=h;rw[e] at q;cases q
 |ins c fs ds=>obtain⟨_,_,_,_,q,_⟩:=h;rw[e] at q;cases q
 |_=>exact h
def RT.frzA (t:RT K B B' F H sd hp Z):Tu F (qH F B'.H0 hp)/\RS K B (qH F B'.H0 hp) H sd Z /\ ∀a d,Tr hp a=some d->Tj K (qH F B'.H0 hp) d (.ref a):=by
 have m:∀b d,Tr hp b=some d->qH F B'.H0 hp b=B'.H0 b:=λb d e=>by unfold qH;rw[e]
 have g:∀b,Tr hp b=none->qH F B'.H0 hp b=F b:=λb e=>by unfold qH;rw[e]
 have f:Tu F (qH F B'.H0 hp):=λb u e=>by
  cases q:Tr hp b with
  |none=>rw[g b q];exact e
  |some d=>rw[t.free q] at e;exact J2 e
 refine⟨f,⟨⟨?_,λb u e=>?_,t.sub.trans t.rs.ext.hh,λb w h=>?_⟩,t.rs.len,λq=>let ⟨v,h,h2⟩:=t.rs.val q;⟨v,h,Tj.same f _ _ h2⟩,λ{i p e} q=>?_,t.rs.apart⟩,λb e j=>?_⟩
 .rw[<- t.f0];exact t.rs.ext.ff.trans f
 .cases q:Tr hp b with
  |none=>rw[g b q] at e;exact t.rs.ext.fh _ _ e
  |some d=>rw[m b d q] at e;exact t.rs.ext.hh _ _ e
 .cases q:Tr hp b with
  |none=>rw[g b q];exact t.rs.ext.new b (by rw[t.f0];exact w) (by rw[t.out b q];exact h)
  |some d=>exact Zn (t.obj b d q).2.1 h
 .obtain⟨l,x,n,y,A,C⟩:=t.rs.own q;have E:Tr hp l=none:=by
   cases z:Tr hp l with
   |none=>rfl
   |some d'=>exact Zn rfl (t.no_own z n)
  exact⟨l,x,Qh t.sub n,by rw[g l E];exact y,A.ext f λ_ q=>q,λz=>by rw[<- t.pa];exact C z⟩
 .obtain⟨G,I,r⟩:=t.obj b e j;obtain⟨o,s⟩:=r.has;refine Tj.same (λc u q=>?_) _ _ (r.frz s (t.free j));by_cases z:c=b
  .subst z;rw[JQ] at q;rw[m c e j,s];exact q
  .rw[JL z] at q;exact f _ _ q
def RT.thaw (t:RT K B B' F H sd hp Z){b c:Hp}(e:Ext (qH F B'.H0 hp) H b c):RT K B B' (jM b hp) c sd hp Z /\ Tu F (jM b hp)/\∀a xs,b a=some (.tup xs)->jM b hp a=some (.tup xs):=by
 obtain⟨j,p,f⟩:=t.frzA;have g:Tu F (jM b hp):=λa o q=>by
  cases z:Tr hp a with
  |none=>rw[QR z];exact e.ff _ _ (j _ _ q)
  |some d=>rw[t.free z] at q;exact J2 q
 have l:Ext F H (jM b hp) c:=⟨g,λa o q=>by
  cases z:Tr hp a with
  |none=>rw[QR z] at q;exact e.fh _ _ q
  |some d=>rw[XV z] at q;exact J2 q,e.hh,λa m n=>by
  cases z:Tr hp a with
  |none=>rw[QR z];exact e.new a (by unfold qH;rw[z];exact m) n
  |some d=>exact XV z⟩
 refine⟨t.go g (t.rs.step l),g,λa xs q=>?_⟩;cases z:Tr hp a with
 |none=>rw[QR z];exact q
 |some d =>
  obtain⟨_,_,h⟩:=t.obj a d z;obtain⟨o,f⟩:=h.has;have i:=e.ff a o (by unfold qH;rw[z];exact f);rw[q] at i;exact Zn (Zqi i).symm (h.noTup f xs)
structure ExtV (K:W.Frag)(F H:Hp)(hp:HP)(F' H':Hp)(hp':HP):Prop where
 ff:Tu F F'
 fh:Tu F' H'
 hh:∀a o,Tr hp a=none->H a=some o->H' a=some o
 new:∀a,F a=none->H a≠none->F' a=none
 len:z4 K F' H' hp'
 dom:∀a,Tr hp' a=none->Tr hp a=none
 frs:∀a,Tr hp a=none->Tr hp' a≠none->H a=none
def RT.callV (t:RT K B B' F H sd hp Z)(w:ExtV K F H hp F' H' hp'):∃x,RT K B x F' H' sd hp' Z:= by
 have I:∀a,(match Tr hp' a with
  |none=>B'.H0 a
  |some _=>H' a)=if Tr hp' a=none then B'.H0 a else H' a:=λa=>by cases Tr hp' a<;>rfl
 refine⟨⟨B'.F0,λa=>match Tr hp' a with
  |none=>B'.H0 a
  |some _=>H' a,B'.pa⟩,⟨⟨t.rs.ext.ff.trans w.ff,w.fh,λa o e=>?_,λa A c=>?_⟩,t.rs.len,λq=>let ⟨v,h1,h2⟩:=t.rs.val q;⟨v,h1,Tj.same w.ff _ _ h2⟩,λ{i p e} q=>?_,t.rs.apart⟩,t.f0,t.pa,λa b=>?_,λa d b=>?_⟩
 .have e:(match Tr hp' a with
   |none=>B'.H0 a
   |some _=>H' a)=some o:=e
  cases z:Tr hp' a with
  |none=>rw[z] at e;exact w.hh a o (w.dom a z) (t.rs.ext.hh _ _ e)
  |some d=>rw[z] at e;exact e
 .have c:(match Tr hp' a with
   |none=>B'.H0 a
   |some _=>H' a)≠none:=c
  cases z:Tr hp' a with
  |none =>
   rw[z] at c;exact w.new a (t.rs.ext.new a A c) λy=>c (Qh t.rs.ext.hh y)
  |some d=>exact(w.len a d z).1
 .obtain⟨l,C,j,E,m,G⟩:=t.rs.own q;have g:Tr hp l=none:=by
   cases z:Tr hp l with
   |none=>rfl
   |some d'=>exact Zn rfl (t.no_own z j)
  obtain⟨o,n⟩:=m.has;have h:Tr hp' l=none:=by
   cases z:Tr hp' l with
   |none=>rfl
   |some d' =>
    have:=w.frs l g (by rw[z];simp);rw[n] at this;exact J2 this.symm
  refine⟨l,C,?_,w.new l E (by rw[n];simp),m.ext w.ff λu q=>w.hh _ _ g q,λz=>(G z).mono λu q=>w.hh _ _ g q⟩;show(match Tr hp' l with
   |none=>B'.H0 l
   |some _=>H' l)=none
  rw[h];exact j
 .show(match Tr hp' a with
   |none=>B'.H0 a
   |some _=>H' a)=B.H0 a
  rw[b];exact t.out a (w.dom a b)
 .have f:B.F0 a=none/\B.H0 a=none:=by
   cases z:Tr hp a with
   |none =>
    have r:=w.frs a z (by rw[b];simp);exact⟨by rw[<- t.f0];exact Qh t.rs.ext.ff (Qh t.rs.ext.fh r),by rw[<- t.out a z];exact Qh t.rs.ext.hh r⟩
   |some s=>exact⟨(t.obj a s z).1,(t.obj a s z).2.1⟩
  refine⟨f.1,f.2,(w.len a d b).2.ext (.refl _) λo q=>?_⟩;show(match Tr hp' a with
   |none=>B'.H0 a
   |some _=>H' a)=some o
  rw[b];exact q
end
abbrev FV:=SD->HP->Wr (D×HP)
abbrev y3:=SD->HP->Wr (Yz×HP)
abbrev z5:=SD->HP->Wr (Bool×HP)
def kt (K:W.Frag)(B:Bs)(F:Hp)(sd:SD)(Z: St)(Q:VK)(p:D×HP):Prop:=∀v a F' H',Tu F F'->RT K B a F' H' sd p.2 Z -> Tj K F' p.1 v->Q v H'
def z9 (K:W.Frag)(E:XK)(f:FV):TE:=λZ H Q=>∃B a F sd hp,RT K B a F H sd hp Z /\ (f sd hp).need (kt K B F sd Z Q) (XW K E B.F0 B.H0)
abbrev QV (X:Cx)(E:XK)(e:Expr)(f:FV):Prop:=PE X e (z9 X.K E f)
def kJ (K:W.Frag)(E:XK)(f:y3):TA:=λZ H Q=>∃B a F sd hp,RT K B a F H sd hp Z /\ (f sd hp).need (λp=>∀vs b F' H',Tu F F'->RT K B b F' H' sd p.2 Z -> Ti K F' p.1 vs->Q vs H') (XW K E B.F0 B.H0)
abbrev uk (X:Cx)(E:XK)(es:Yk)(f:y3):Prop:=PA X es (kJ X.K E f)
def kI (K:W.Frag)(E:XK)(f:z5):TT:=λZ H Q=>∃B a F sd hp,RT K B a F H sd hp Z /\ (f sd hp).need (λp=>∀b F' H',Tu F F'->RT K B b F' H' sd p.2 Z -> Q p.1 H') (XW K E B.F0 B.H0)
abbrev gK (X:Cx)(E:XK)(e:Expr)(f:z5):Prop:=PT X e (kI X.K E f)
section
variable {X:Cx}{E:XK}{m:Option Bool}{a b e o i:Expr}{es:Yk}{fe fa fb fo fi:FE}{ft:FT}{vo vi ve:FV}{fr:y3}{pos pos':Pos}
def vL (f:FE):FV:=λsd hp=>(Wr.of (f sd)).bind λd=>.ok (d,hp)
def Ks (h:QE X E e fe):QV X E e (vL fe):=PE.weak h λZ H Q ⟨B,f,F,sd,hp,t,n⟩=>⟨f,F,sd,t.rs,qN n (λd g v j l c p=>g v f j l c.ff (t.go c.ff (t.rs.step c)) p) λ_ _ q=>q.ext (t.ext0 t.rs.ext)⟩
def k6 (f:FT):z5:=λsd hp=>(Wr.of (f sd)).bind λd=>.ok (d,hp)
def Pq (h:QT X E e ft):gK X E e (k6 ft):=PT.weak h λZ H Q ⟨B,f,F,sd,hp,t,n⟩=>⟨f,F,sd,t.rs,qN n (λd g j l c=>g f j l c.ff (t.go c.ff (t.rs.step c))) λ_ _ q=>q.ext (t.ext0 t.rs.ext)⟩
def k4 (k:Nat)(is:Yh)(f:FE):FV:=λsd hp=>(Wr.of (f (drI k hp is sd)).strict).bind λd=>if V0 8 d then .ok (d,hp) else .no
def wv (k:Nat)(is:Yh)(h:QE X E e fe):QV X E e (k4 k is fe):=PE.weak h λZ H Q g=>by
 obtain⟨B,j,F,sd,hp,t,n⟩:=g;obtain⟨y,l,p⟩:=t.frzA;refine⟨B,_,_,l.drI p k is,(Res.need_strict (jm.mp (Wr.need_bind.mp n))).mono (λd f v z r s u=>?_) λc fs q=>q⟩
 split at f
 .rename_i hs;obtain⟨w,x,k2⟩:=t.thaw s;exact f v j _ r x w (qO k2 8 d v hs u)
 .exact f.elim
def yj (k:Nat)(is:Yh)(f:FT):z5:=λsd hp=>(Wr.of (f (drI k hp is sd)).strict).bind λd=>.ok (d,hp)
def Cy (k:Nat)(is:Yh)(h:QT X E e ft):gK X E e (yj k is ft):=PT.weak h λZ H Q f=>by
 obtain⟨B,g,F,sd,hp,t,n⟩:=f;obtain⟨w,j,l⟩:=t.frzA;refine⟨B,_,_,j.drI l k is,(Res.need_strict (jm.mp (Wr.need_bind.mp n))).mono (λd p x r s=>?_) λc fs q=>q⟩;obtain⟨u,v,k2⟩:=t.thaw s;exact p g _ r v u
def xx:y3:=λ_ hp=>.ok ([],hp)
def Q1 (f:FV)(g:y3):y3:=λsd hp=>(f sd hp).bind λp=>(g sd p.2).bind λq=>.ok (p.1::q.1,q.2)
def G0:uk X E [] xx:=PA.weak WH λZ H Q ⟨B,c,F,sd,hp,t,n⟩=>n [] c F H (.refl _) t .nil
def Xa (d:QV X E e ve)(f:uk X E es fr)(hs:starEach (e::es) X.env=(false,eval e X.env)::starEach es X.env:=by rfl):uk X E (e::es) (Q1 ve fr):=PA.weak (WI d f hs) λZ H Q g=>by
 obtain⟨B,h,F,sd,hp,t,n⟩:=g;refine⟨B,h,F,sd,hp,t,jT n λp j v l r I s u w=>⟨B,l,r,sd,p.2,u,jT j λq x vs y z A c C G=>?_⟩⟩;exact x (v::vs) y z A (s.trans c) C (.mk (Tj.same c _ _ w) G)
def zD (K:W.Frag)(c:Yz->HP->Wr (D×HP)):Sp:=λvs H Q _=>∃F ds hp,Tu F H/\Ti K F ds vs/\z4 K F H hp/\(c ds hp).need (λp=>∀v F' H',ExtV K F H hp F' H' p.2->Tj K F' p.1 v->Q v H') (XW K E0 F (jM H hp))
def Xb (c:Yz->HP->Wr (D×HP))(fr:y3):FV:=λsd hp=>(fr sd hp).bind λp=>c p.1 p.2
def Pr {name:Str}{k:Nat}{ps:Yi}{f:Yz->HP->Wr (D×HP)}{p:Pos}(c:ye X.prog X.w X.K X.mg X.base name k ps (zD X.K f))(j:Room k X.A)(l:Gl X name)(r:uk X E0 (e::es) fr)
 (g:(name == ("__debug__" : Str))=false:=by decide) (s:starEach (e::es) X.env=(false,eval e X.env)::starEach es X.env:=by rfl) (h:(backTo pos (starEach es X.env)).any (·.1)=false:=by rfl):
 QV X E0 (.Call (.Name name p) (e::es) [] pos) (Xb f fr):=PE.weak (Z3 c j l r g s h) λZ H Q u=>by
 obtain⟨B,x,F,sd,hp,t,n⟩:=u;refine⟨B,x,F,sd,hp,t,jT n λp y vs N z A C d G=>?_⟩;show zD X.K f (vs++[]) A Q E0;rw[ZA];refine⟨z,p.1,p.2,d.rs.ext.fh,G,d.lent,y.mono (λq I v J K w i=>?_) λ_ _ q=>q.ext d.hidden⟩;obtain⟨L,M⟩:=d.callV w;exact I v L J K (C.trans w.ff) M i
end
inductive Out3 where
 |next (sd:SD) (hp:HP)|ret (d:D) (hp:HP)|brk (sd:SD) (hp:HP)|cont (sd:SD) (hp:HP)
def zm (K:W.Frag)(B:Bs)(F:Hp)(T:Ends):Out3->Prop
 | .next sd hp=>∀Z a F' H',Tu F F'->RT K B a F' H' sd hp Z -> T.nx Z H'
 | .brk sd hp=>∀Z a F' H',Tu F F'->RT K B a F' H' sd hp Z -> T.bk Z H'
 | .cont sd hp=>∀Z a F' H',Tu F F'->RT K B a F' H' sd hp Z -> T.ct Z H'
 | .ret d hp=>∀v Z sd a F' H',Tu F F'->RT K B a F' H' sd hp Z -> Tj K F' d v->T.rt v H'
def zm.mono {K:W.Frag}{B:Bs}{F F':Hp}{T:Ends}{o:Out3}(h:zm K B F T o)(e:Tu F F'):zm K B F' T o:=by
 cases o with
 |next sd hp=>exact λZ a b c s r=>h Z a b c (e.trans s) r
 |brk sd hp=>exact λZ a b c s r=>h Z a b c (e.trans s) r
 |cont sd hp=>exact λZ a b c s r=>h Z a b c (e.trans s) r
 |ret d hp=>exact λv Z sd a b c s r i=>h v Z sd a b c (e.trans s) r i
abbrev jF:=SD->HP->Wr Out3
def u9 (K:W.Frag)(E:XK)(g:jF):TS:=λT Z H=>∃B a F sd hp,RT K B a F H sd hp Z /\ (g sd hp).need (zm K B F T) (XW K E B.F0 B.H0)
abbrev VS (X:Cx)(E:XK)(st:Stmt)(g:jF):Prop:=PS X st (u9 X.K E g)
abbrev yP (X:Cx)(E:XK)(st:List Stmt)(g:jF):Prop:=qJ X st (u9 X.K E g)
def k7 (hp:HP):Out->Wr Out3
 | .next sd=>.ok (.next sd hp)
 | .ret _=>.no
 | .brk sd=>.ok (.brk sd hp)
 | .cont sd=>.ok (.cont sd hp)
section
variable {X:Cx}{E:XK}{m:Option Bool}{st:Stmt}{sts:List Stmt}{g:FS}{g1 g2:jF}{pos pos':Pos}{o i e:Expr}{vo vi ve:FV}
def zL (g:FS):jF:=λsd hp=>(Wr.of (g sd)).bind (k7 hp)
def KD (h:QS X E m st g):VS X E st (zL g):=PS.weak h λT Z H ⟨B,b,F,sd,hp,t,n⟩=>⟨b,F,sd,t.rs,qN n (λo c=>by
 cases o with
 |next sd'=>exact λa F' H' s r=>c a b F' H' s (t.go s r)
 |brk sd'=>exact λa F' H' s r=>c a b F' H' s (t.go s r)
 |cont sd'=>exact λa F' H' s r=>c a b F' H' s (t.go s r)
 |ret d=>exact c.elim) λ_ _ q=>t.xw q⟩
def Xc:jF:=λsd hp=>.ok (.next sd hp)
def zK (g2:jF):Out3->Wr Out3
 | .next sd' hp'=>g2 sd' hp'
 |o=>.ok o
def ji (g1 g2:jF):jF:=λsd hp=>(g1 sd hp).bind (zK g2)
def Ak:yP X E [] Xc:=qJ.weak CU λT Z H ⟨B,a,F,sd,hp,t,n⟩=>n Z a F H (.refl _) t
def V1 (h:VS X E st g1):yP X E [st] g1:=CW h
def Q6 (b:VS X E st g1)(c:yP X E sts g2):yP X E (st::sts) (ji g1 g2):=qJ.weak (CV b c) λT Z H f=>by
 obtain⟨B,h,F,sd,hp,t,n⟩:=f;refine⟨B,h,F,sd,hp,t,jT n λo a=>?_⟩;cases o with
 |next sd' hp'=>exact λp j F' H' s l=>⟨B,j,F',sd',hp',l,a.mono (λo q=>q.mono s) λ_ _ q=>q⟩
 |ret d hp'=>exact a
 |brk sd' hp'=>exact a
 |cont sd' hp'=>exact a
def qo (f:FV):jF:=λsd hp=>(f sd hp).bind λp=>.ok (.ret p.1 p.2)
def Xd (h:QV X E e ve):VS X E (.Return (some e) pos) (qo ve):=PS.weak (YV h) λT Z H ⟨B,a,F,sd,hp,t,n⟩=>⟨B,a,F,sd,hp,t,jT n λp b v c d f j l q=>b v Z sd c d f j l q⟩
def qQ (i:Nat)(f:FV):jF:=λsd hp=>(f sd hp).bind λp=>.ok (.next (sd.set i (~~~(p.1))) p.2)
def G1 {i:Nat}{x:Str}{a:Pos}(c:X.N.Nodup)(hi:X.N[i]? = some x)(hx:x4 X.env.scope x)(d:QV X E e ve)(hs:swapsWith e (some (.Name x pos')) a.line X.env=pure false:=by rfl)(f:X.fn x=true\/X.env.scope.names.lookup x=some .local:=by trivial):
 VS X E (.Assign [.Name x pos'] e a) (qQ i ve):=PS.weak (AR c hi hx d hs f) λT Z H h=>by
 obtain⟨B,j,F,sd,hp,t,n⟩:=h;refine⟨B,j,F,sd,hp,t,jT n λp l v q r s u b w=>?_⟩;exact l _ q r s u (b.go (.refl _) (b.rs.setVal w))
def Xe (c:z5)(g1 g2:jF):jF:=λsd hp=>(c sd hp).bind λp=>if p.1 then g1 sd p.2 else g2 sd p.2
def Am {c:Expr}{a b:List Stmt}{f:z5}(u:gK X E c f)(v:yP X E a g1)(w:yP X E b g2):VS X E (.If c a b pos) (Xe f g1 g2):=PS.weak (CY u v w) λT Z H x=>by
 obtain⟨B,y,F,sd,hp,t,n⟩:=x;refine⟨B,y,F,sd,hp,t,jT n λp h j l z r s=>?_⟩;obtain⟨b,d⟩:=p;cases b with
 |true=>exact⟨B,j,l,sd,d,s,(show(g1 sd d).need _ _ from h).mono (λ_ q=>q.mono r) λ_ _ q=>q⟩
 |false=>exact⟨B,j,l,sd,d,s,(show(g2 sd d).need _ _ from h).mono (λ_ q=>q.mono r) λ_ _ q=>q⟩
def Xf (sd:SD)(a:Addr)(q:D×HP):Wr Out3:=match Tr q.2 a with
 |some (.lst es)=>if es.length<sizeLine then .ok (.next sd (KC q.2 a (.lst (es++[q.1])))) else .no
 |_=>.no
def Xg (b:FV)(sd:SD)(p:D×HP):Wr Out3:=match p.1 with
 | .adr a=>match Tr p.2 a with
  |some (.lst _)=>(b sd p.2).bind (Xf sd a)
  |_=>.no
 |_=>.no
def xR (a b:FV):jF:=λsd hp=>(a sd hp).bind (Xg b sd)
def Ps {b c:Pos}(A:QV X E o vo)(C:QV X E e ve)
 (hp:∀{s:TE} {t:TA},PE X o s->PA X [e] t->PE X (.Call (.Attribute o "append" b) [e] [] c) (uB X.K "list" AZ s t))
 (hs:swapsWith (.Call (.Attribute o "append" b) [e] [] c) none pos.line X.env=pure false:=by rfl)
 (h:starEach [e] X.env=(false,eval e X.env)::starEach [] X.env:=by rfl):VS X E (.Expr (.Call (.Attribute o "append" b) [e] [] c) pos) (xR vo ve):=
 PS.weak (AQ (hp A (WI C WH h)) hs) λT Z H G=>by
  obtain⟨B,I,F,sd,hp,t,n⟩:=G;refine⟨B,I,F,sd,hp,t,jT n λp d v J K Q L u x=>?_⟩;unfold Xg at d
  split at d
  .rename_i a j;rw[j] at x;obtain rfl:=j7.mp x
   split at d
   .rename_i M l;obtain⟨r,k1,k2⟩:=u.lies l;refine⟨.inl ⟨rfl,r,qh.of k1⟩,B,J,K,sd,p.2,u,jT d λq f w R N S O y P=>?_⟩;unfold Xf at f
    split at f
    .rename_i es z
     split at f
     .rename_i hz;obtain⟨xs,g1,g2⟩:=y.lies z;have U:=g2.length;refine⟨a,xs,w,rfl,rfl,g1,(),?_⟩;exact f Z _ N _ (L.trans O) (y.chg z ⟨xs++[w],JQ,g2.snoc P⟩)
     .exact f.elim
    .exact f.elim
   .exact d.elim
  .exact d.elim
def qp (b:D->jF):Yz->jF
 | [],sd,hp=>.ok (.next sd hp)
 |x::xs,sd,hp=>(b x sd hp).bind λo=>match o with
  | .next sd' hp'=>qp b xs sd' hp'
  | .cont sd' hp'=>qp b xs sd' hp'
  | .brk sd' hp'=>.ok (.next sd' hp')
  | .ret d hp'=>.ok (.ret d hp')
def K0 (tg:Tg)(b:jF)(x:D):jF:=λsd hp=>(Wr.of (JS tg x sd)).bind λs=>b s hp
def xQ (it:FA)(tg:Tg)(b:jF):jF:=λsd hp=>(Wr.of (it sd)).bind λds=>qp (K0 tg b) ds sd hp
def Pt {T:Ends}{B Y:Bs}{w H1:Hp}{sd:SD}{hp:HP}{Z: St}{t:Tg}{J:It}{ds:Yz}(wk:yO X.K w J ds)(r:RT X.K B Y w H1 sd hp Z)(n1:(qp (K0 t g1) ds sd hp).need (zm X.K B w T) (XW X.K E B.F0 B.H0)):
 ∃W:Nat->Nat->St->Hp->Prop,(∃m,W 0 m Z H1)/\∀i m' Z H,W i m' Z H->(J.stop i H/\T.nx Z H)\/(J.go i H/\∃N:St->Hp->Prop,(∀z H',N z H'->∃m2,m2<m'/\W (i+1) m2 z H')/\∀x H',J.yld i H x H'->gT t X.K x Z H' λO I=>u9 X.K E g1 { T with nx:=N,ct:=N,bk:=T.nx } O I):=by
 refine⟨λi k Z H=>k=ds.length-i/\i<=ds.length/\∃K A sd hp,Tu w A/\RT X.K B K A H sd hp Z /\ (qp (K0 t g1) (ds.drop i) sd hp).need (zm X.K B A T) (XW X.K E B.F0 B.H0),
  ⟨ds.length,rfl,Uc _,Y,w,sd,hp,.refl _,r,n1⟩,?_⟩
 rintro i k O I ⟨rfl,hi,K,A,P,Q,R,L,C⟩;obtain⟨w1,w2⟩:=wk i A I R L.rs.ext.fh;by_cases c:i<ds.length
 .obtain⟨go,yl⟩:=w1 c;refine .inr ⟨go,λz H'=>∃S n f h,Tu w n/\RT X.K B S n H' f h z/\(qp (K0 t g1) (ds.drop (i+1)) f h).need (zm X.K B n T) (XW X.K E B.F0 B.H0),
   λz H' ⟨S,n,f,h,q1,q2,q3⟩=>⟨ds.length-(i+1),(),rfl,c,S,n,f,h,q1,q2,q3⟩,λx H3 y=>?_⟩
  obtain⟨d,n,hd,l,i3⟩:=yl x H3 y;rw[Uz c] at C;have U:ds[i]=d:=by rw[Zqg c] at hd;exact Zqi hd
  rw[U] at C;have r3:=L.go l.ff (L.rs.step l);unfold qp at C;have n3:(JS t d P).need _ _:=jm.mp (Wr.need_bind.mp (Wr.need_bind.mp C));refine XB r3.rs i3 n3 λsd' z n4 _ r4=>?_;refine⟨B,K,n,sd',Q,r3.go (.refl _) r4,n4.mono (λo M=>?_) λ_ _ q=>q⟩;cases o with
  |next a b=>exact λF p s G j u=>⟨p,s,a,b,(R.trans l.ff).trans j,u,M.mono (λ_ q=>q.mono (l.ff.trans j)) λ_ _ q=>q⟩
  |cont a b=>exact λF p s G j u=>⟨p,s,a,b,(R.trans l.ff).trans j,u,M.mono (λ_ q=>q.mono (l.ff.trans j)) λ_ _ q=>q⟩
  |brk a b=>exact λF p s G j u=>M F p s G (l.ff.trans j) u
  |ret d b=>exact λv F a p s G j u i5=>M v F a p s G (l.ff.trans j) u i5
 .have he:i=ds.length:=()
  refine .inl ⟨w2 (),?_⟩;subst he;rw[UK] at C;exact C O K A I (.refl _) L
def G2 {tg a:Expr}{b:List Stmt}{it:FA}{t:Tg}(hp:PassesOwn (model X.prog X.w) X.A X.env X.xe)(f:X.calm=true)(hi:QI X E tg a it)(h:QG X tg t)(j:yP X E b g1)
 (c:∀x,foldedSetIterable a X.env x=pure x:=by intro _;rfl):VS X E (.For tg a b [] pos) (xQ it t g1):=PS.weak (Da hp f hi h j c) λT Z H l=>by
 obtain⟨B,p,F,sd,hp,r,n⟩:=l;refine⟨p,F,sd,r.rs,qN n (λds s J u v d wk=>?_) λ_ _ q=>q.ext (r.ext0 r.rs.ext)⟩;exact Pt wk (r.go d.ff (r.rs.step d)) (s.mono (λ_ q=>q.mono d.ff) λ_ _ q=>q)
end
def q0:Out3->Wr (D×HP)
 | .ret d hp=>.ok (d,hp)
 | .next _ hp=>.ok (.non,hp)
 |_=>.no
def xE (n a:Nat)(g:jF)(ds:Yz)(hp:HP):Wr (D×HP):=if ds.length=a then((g (Qv n ds) hp).bind q0).bind λp=>if hp.all λz=>(Tr p.2 z.1).isSome then .ok p else .no else .no
section
variable {P:Program}{w:World}{K:W.Frag}{mg:Yc}{base:Heap}{x qual:Str}{st:Stmt}{f:Addr}{fd:FuncData}{N ps:Yi}{k:Nat}
theorem Cz:∀{hp:HP} {a:Addr} {d:D},Tr hp a=some d->∃z∈hp,z.1=a
 | [],a,d,h=>by cases h
 |p::r,a,d,h=>by
  rw[Kh] at h;by_cases z:a=p.1
  .exact⟨p,Zqs,z.symm⟩
  .rw[Ze z] at h;obtain⟨y,b,c⟩:=Cz h;exact⟨y,Zqm _ b,c⟩
def v4 {g:jF}(F:Fun K x qual st f fd)(S:FnScope N ps (JZ st))
 (L:∀(h:Value) (A:Around) (b:List Env) (s:Shared) (H:Hp) (E:XK),Room k (A.deeper (envOfC qual (JZ st) s.heap.objs.size f h))->yP (js xp P w K mg base N qual (JZ st) f h A b s H E).nox E0 (QX st) g):
 FnOk P w K mg base xp (k+1) f fd ps (zD K (xE N.length ps.length g)):=by
 refine F.ok S (λvs H Q E ⟨F,ds,hp,_,i,_,n⟩=>?_) λh A b s H vs Q E M ⟨F,ds,hp,hs,i,I,n⟩=>⟨_,L h A b s H E M,?_⟩
 .unfold xE at n
  split at n
  .rw[i.length];assumption
  .exact n.elim
 .unfold xE at n
  split at n
  .have t:RT K ⟨F,jM H hp,λ_=>none⟩ ⟨F,H,λ_=>none⟩ F H (Qv N.length ds) hp (L2.start N vs):=⟨RS.start hs i,rfl,rfl,λa j=>(QR j).symm,λa d j=>⟨(I a d j).1,XV j,(I a d j).2⟩⟩;have m:∀{d:D} {hp':HP} {v:V} {B:St} {sd':SD} {C:Bs} {F' H':Hp},(Wr.need (if hp.all λz=>(Tr hp' z.1).isSome then(.ok (d,hp'):Wr (D×HP)) else .no) (λp=>∀v F' H',ExtV K F H hp F' H' p.2->Tj K F' p.1 v->Q v H') (XW K E0 F (jM H hp))) ->
    Tu F F'->RT K ⟨F,jM H hp,λ_=>none⟩ C F' H' sd' hp' B->Tj K F' d v->Q v H':=λ{d hp' v B sd' C F' H'} l r c G=>by
    split at l
    .rename_i O;have u:∀a,Tr hp' a=none->Tr hp a=none:=λa j=>by
      cases z:Tr hp a with
      |none=>rfl
      |some Y =>
       obtain⟨y,R,T⟩:=Cz z;have:=UW.mp O y R;rw[T,j] at this;cases this
     have e:=c.ext0 c.rs.ext;refine l v F' H' ⟨r,c.rs.ext.fh,λa o j q=>e.hh a o ((QR j).trans q),λa U X=>?_,c.lent,u,λa z y=>?_⟩ G
     .cases z:Tr hp a with
      |none=>exact e.new a U λy=>X ((QR z).symm.trans y)
      |some d =>
       cases y:Tr hp' a with
       |none=>rw[u a y] at z;cases z
       |some d'=>exact c.free y
     .cases J:Tr hp' a with
      |none=>exact Zn J y
      |some d' =>
       have:=(c.obj a d' J).2.1;rw[<- QR (H:=H) z];exact this
    .exact l.elim
   refine⟨_,_,F,_,hp,t,jT (Wr.need_bind.mp n |> λq=>Wr.need_bind.mpr q |> λq=>(Wr.need_bind.mp q)) λo l=>?_⟩;cases o with
   |next sd' hp'=>exact λB C F' H' r c=>m l r c (T9.mpr rfl)
   |ret d hp'=>exact λv B sd' C F' H' r c G=>m l r c G
   |brk sd' hp'=>exact l.elim
   |cont sd' hp'=>exact l.elim
  .exact n.elim
def v3 {g:jF}{e:Yz->Res D}{kk:Nat}(F:Fun K x qual st f fd)(S:FnScope N ps (JZ st))
 (hw:∀ds d,e ds=.ok d->ds.length=ps.length/\((g (Qv N.length ds) []).bind q0).need (λp=>dr p.2 kk p.1=d) λ_ _=>False) (hx:∀ds,∀c fs,e ds ≠ .ex c fs)
 (B:∀(b:Value) (A:Around) (a:List Env) (s:Shared) (H:Hp) (E:XK),Room k (A.deeper (envOfC qual (JZ st) s.heap.objs.size f b))->yP (js xp P w K mg base N qual (JZ st) f b A a s H E).nox E0 (QX st) g):
 FnOk P w K mg base xp (k+1) f fd ps (qr K e):=by
 refine F.ok S (λvs H Q E ⟨F,ds,_,i,n⟩=>?_) λb A a s H vs Q E C ⟨F,ds,hs,i,n⟩=>⟨_,B b A a s H E C,?_⟩
 .cases q:e ds with
  |ok d=>rw[i.length];exact(hw ds d q).1
  |ex c fs=>exact Zn q (hx ds c fs)
  |no=>rw[q] at n;exact n.elim
 .cases q:e ds with
  |ex c fs=>exact Zn q (hx ds c fs)
  |no=>rw[q] at n;exact n.elim
  |ok d =>
   rw[q] at n;have n:x3 K F H Q d:=n;have t:=RT.start (RS.start (N:=N) hs i);have h:∀{d':D} {hp':HP} {v:V} {l:St} {sd':SD} {m:Bs} {F' H':Hp},dr hp' kk d'=d->RT K ⟨F,H,λ_=>none⟩ m F' H' sd' hp' l->Tj K F' d' v->Q v H':=λ{d' hp' v l sd' m F' H'} G j u=>by
    obtain⟨y,I,J⟩:=j.frzA;have:=Tj.dr J kk d' v (Tj.same y _ _ u);rw[G] at this;exact n v _ _ I.ext this
   refine⟨_,_,F,_,[],t,(Wr.need_bind.mp (hw ds d q).2).mono (λo r=>?_) λ_ _ z=>z.elim⟩;cases o with
   |next sd' hp'=>exact λl m F' H' y j=>h r j (T9.mpr rfl)
   |ret d hp'=>exact λv l sd' m F' H' y j u=>h r j u
   |brk sd' hp'=>exact r.elim
   |cont sd' hp'=>exact r.elim
end
@[simp]def G3 (f:FE)(sd:SD)(hp:HP):vL f sd hp=(Wr.of (f sd)).bind λd=>.ok (d,hp):=rfl
@[simp]def gn (f:FT)(sd:SD)(hp:HP):k6 f sd hp=(Wr.of (f sd)).bind λd=>.ok (d,hp):=rfl
@[simp]def gm (k:Nat)(is:Yh)(f:FE)(sd:SD)(hp:HP):k4 k is f sd hp=(Wr.of (f (drI k hp is sd)).strict).bind λd=>if V0 8 d then .ok (d,hp) else .no:=rfl
@[simp]def uU (k:Nat)(is:Yh)(f:FT)(sd:SD)(hp:HP):yj k is f sd hp=(Wr.of (f (drI k hp is sd)).strict).bind λd=>.ok (d,hp):=rfl
@[simp]def Pu (n:Nat)(hp:HP)(sd:SD):drI n hp [] sd=sd:=rfl
def fu (n:Nat)(hp:HP)(i:Nat)(sd:SD):Option (Option SV)->SD
 |some (~~~d)=>sd.set i (~~~(dr hp n d))
 |_=>sd
@[simp]def km (n:Nat)(hp:HP)(i:Nat)(sd:SD)(d:D):fu n hp i sd (some (~~~d))=sd.set i (~~~(dr hp n d)):=rfl
@[simp]def Pv (n:Nat)(hp:HP)(i:Nat)(is:Yh)(sd:SD):drI n hp (i::is) sd=drI n hp is (fu n hp i sd sd[i]?):=by
 show drI n hp is _=drI n hp is _
 congr 1
@[simp]def uV (sd:SD)(hp:HP):xx sd hp=.ok ([],hp):=rfl
@[simp]def vM (f:FV)(g:y3)(sd:SD)(hp:HP):Q1 f g sd hp=(f sd hp).bind λp=>(g sd p.2).bind λq=>.ok (p.1::q.1,q.2):=rfl
@[simp]def vN (a:Yz->HP->Wr (D×HP))(b:y3)(sd:SD)(hp:HP):Xb a b sd hp=(b sd hp).bind λp=>a p.1 p.2:=rfl
@[simp]def gZ (g:FS)(sd:SD)(hp:HP):zL g sd hp=(Wr.of (g sd)).bind (k7 hp):=rfl
@[simp]def zR (hp:HP)(sd:SD):k7 hp (.next sd)=.ok (.next sd hp):=rfl
@[simp]def vK (sd:SD)(hp:HP):Xc sd hp=.ok (.next sd hp):=rfl
@[simp]def An (a b:jF)(sd:SD)(hp:HP):ji a b sd hp=(a sd hp).bind (zK b):=rfl
@[simp]def uT (f:FV)(sd:SD)(hp:HP):qo f sd hp=(f sd hp).bind λp=>.ok (.ret p.1 p.2):=rfl
@[simp]def uS (i:Nat)(f:FV)(sd:SD)(hp:HP):qQ i f sd hp=(f sd hp).bind λp=>.ok (.next (sd.set i (~~~(p.1))) p.2):=rfl
@[simp]def gj (c:z5)(a b:jF)(sd:SD)(hp:HP):Xe c a b sd hp=(c sd hp).bind λp=>if p.1 then a sd p.2 else b sd p.2:=rfl
@[simp]def Pw (a b:FV)(sd:SD)(hp:HP):xR a b sd hp=(a sd hp).bind (Xg b sd):=rfl
def Px {b:FV}{sd:SD}{a:Addr}{hp:HP}{es:Yz}(h:Tr hp a=some (.lst es)):Xg b sd (.adr a,hp)=(b sd hp).bind (Xf sd a):=by
 unfold Xg;simp only[h]
def Py {sd:SD}{a:Addr}{d:D}{hp:HP}{es:Yz}(h:Tr hp a=some (.lst es))(b:es.length<sizeLine):Xf sd a (d,hp)=.ok (.next sd (KC hp a (.lst (es++[d])))):=by
 unfold Xf;simp only[h];rw[Zd b]
def vU {hp:HP}{a:Addr}{d:D}(n:Nat)(h:Tr hp a=some d):dr hp (n+1) (.adr a)=dr hp n d:=by
 show(match Tr hp a with
  |some d=>dr hp n d
  |none=>.adr a)=_
 rw[h]
@[simp]def uR (n:Nat)(i:Bool):V0 n (.bl i)=true:=by cases n<;>rfl
def Pz {hp:HP}{a:Addr}{d:D}(h:Tr hp a≠none):Tr (KC hp a d) a=some d:=by rw[XU a h,Zd rfl]
def G4 {hp:HP}{a b:Addr}{d:D}(h:Tr hp a≠none)(n:b≠a):Tr (KC hp a d) b=Tr hp b:=by rw[XU b h,Ze n]
def G5 {n b:Nat}{g:jF}{ds:Yz}{hp:HP}{P:D×HP->Prop}{Q:Str->Yz->Prop}(e:ds.length=b)(h:((g (Qv n ds) hp).bind q0).need (λp=>(∀a,Tr hp a≠none->Tr p.2 a≠none)/\P p) Q):(xE n b g ds hp).need P Q:=by
 unfold xE;rw[Zd e];refine Wr.need_bind.mpr (h.mono (λp c=>?_) λ_ _ q=>q);have:(hp.all λz=>(Tr p.2 z.1).isSome)=true:=UW.mpr λz hz=>by
  have f:Tr hp z.1≠none:=by
   rw[Ne,Cu];exact λy=>y (Ja.mpr ⟨z,hz,rfl⟩)
  have:=c.1 z.1 f;cases y:Tr p.2 z.1 with
  |none=>exact Zn y this
  |some d=>rfl
 rw[Zd this];exact c.2
section
variable {K:W.Frag}{B B' B2:Bs}{F H F' H':Hp}{sd sd':SD}{hp hp':HP}{Z Z':St}
def RT.extV (b:RT K ⟨F,jM H hp,λ_=>none⟩ B2 F' H' sd' hp' Z')(h:Tu F F')(i:(hp.all λz=>(Tr hp' z.1).isSome)=true):ExtV K F H hp F' H' hp':=by
 have c:∀a,Tr hp' a=none->Tr hp a=none:=λa f=>by
  cases z:Tr hp a with
  |none=>rfl
  |some p =>
   obtain⟨y,j,l⟩:=Cz z;have:=UW.mp i y j;rw[l,f] at this;cases this
 have e:=b.ext0 b.rs.ext;refine⟨h,b.rs.ext.fh,λa o f q=>e.hh a o ((QR f).trans q),λa m n=>?_,b.lent,c,λa z y=>?_⟩
 .cases z:Tr hp a with
  |none=>exact e.new a m λy=>n ((QR z).symm.trans y)
  |some d =>
   cases y:Tr hp' a with
   |none=>rw[c a y] at z;cases z
   |some d'=>exact b.free y
 .cases g:Tr hp' a with
  |none=>exact Zn g y
  |some d' =>
   have:=(b.obj a d' g).2.1;rw[<- QR (H:=H) z];exact this
def P0 (cap:List (Option Nat))(sd:SD)(i:Nat)(p:Bool)(d:D):(jg cap sd)[i]? ≠ some (some (.own p d)):=λq=>by
 unfold jg at q;rw[Zv] at q;cases a:cap[i]? with
 |none=>rw[a] at q;cases q
 |some o =>
  rw[a] at q;cases o with
  |none=>cases q
  |some j =>
   have q:(match sd[j]? with
    |some (~~~d)=>some (SV.val d)
    |_=>none)=some (SV.own p d):=Zqi q
   split at q<;>cases q
def RS.rebase (r:RS K B F H sd Z)(no:∀(i:Nat) (p:Bool) (d:D),sd[i]? ≠ some (some (.own p d))):RS K ⟨F,H,λ_=>none⟩ F H sd Z:=
 ⟨.refl r.ext.fh,r.len,r.val,λq=>Zn q (no _ _ _),λ_ q=>Zn q (no _ _ _)⟩
end
section
variable {X:Cx}{E:XK}{m:Option Bool}{a e o:Expr}{st:Stmt}{g1:jF}{ve vo:FV}{pos p:Pos}
def q9 (tg:Tg)(f:FV)(c:SD):Yz->HP->Wr (Yz×HP)
 | [],hp=>.ok ([],hp)
 |x::xs,hp=>(Wr.of (JS tg x c)).bind λs=>(f s hp).bind λp=>if(hp.all λz=>(Tr p.2 z.1).isSome)=true then(q9 tg f c xs p.2).bind λq=>.ok (p.1::q.1,q.2) else .no
end
end L2.DL
namespace L2
end L2
namespace L2.DL
def Wr.strict {α: Type}:Wr α -> Wr α
 | .ok a=>.ok a
 | .ex _ _=>.no
 | .no=>.no
 | .new hp k=>.new hp λa=>(k a).strict
theorem Wr.need_strict {α: Type}{p:α -> Prop}{q b:Str->Yz->Prop}:∀{r:Wr α},r.strict.need p q->r.need p b
 | .ok _,h=>h
 | .ex _ _,h=>h.elim
 | .no,h=>h.elim
 | .new _ k,h=>λa z=>Wr.need_strict (r:=k a) (h a z)
theorem jS {α: Type}{p:α -> Prop}{q:Str->Yz->Prop}:∀{r:Wr α},(r.need p λ_ _=>False)->r.strict.need p q
 | .ok _,h=>h
 | .ex _ _,h=>h.elim
 | .no,h=>h.elim
 | .new _ k,h=>λa z=>jS (r:=k a) (h a z)
def P1 {P:Program}{w:World}{K:W.Frag}{b:Yc}{base:Heap}{name:Str}{k:Nat}{ps:Yi}{sp:Sp}(c:ye P w K b base name k ps sp):yf P w K b base name k ps sp:=by
 obtain⟨f,d,F,r⟩:=c;refine⟨f,d,⟨F.len,λA a s H args g vs Q E h i j l hs=>codeAny_mono (F.run A a s H args g vs Q E h i j l hs) λr s' q=>?_⟩,r⟩;cases r with
 |error e=>exact False.elim q
 |ok m=>cases m<;>exact q
section
variable {X:Cx}{E:XK}{e:Expr}{fe:FE}{pos:Pos}
def vf (hp:HP):D->Wr (D×HP)
 | .lst ds=>if ds.all (V0 8) then .new hp λa=>.ok (.adr a,(a,.lst ds)::hp) else .no
 |_=>.no
def xj (k:Nat)(is:Yh)(f:FE):FV:=λsd hp=>(Wr.of (f (drI k hp is sd)).strict).bind (vf hp)
def G6 (k:Nat)(is:Yh)(h:QN X E e fe):QV X E e (xj k is fe):=PE.weak h λZ H Q y=>by
 obtain⟨B,O,F,sd,hp,t,n⟩:=y;obtain⟨P,A,C⟩:=t.frzA;refine⟨B,_,_,A.drI C k is,(Res.need_strict (jm.mp (Wr.need_bind.mp n))).mono (λd f l m p i r G I=>?_) λc fs q=>q⟩;cases d with
 |lst ds =>
  have f:(if ds.all (V0 8) then(Wr.new hp λa=>.ok (.adr a,(a,.lst ds)::hp)) else .no:Wr (D×HP)).need (kt X.K B F sd Z Q) (XW X.K E B.F0 B.H0):=f
  split at f
  .rename_i hs;obtain⟨s,v,k2⟩:=t.thaw i;obtain⟨xs,J,K⟩:=I;have L:Ti X.K (jM m hp) ds xs:=jU (qO k2 8) hs K;have w:Tr hp l=none:=by
    cases z:Tr hp l with
    |none=>rfl
    |some d' =>
     obtain⟨u,x⟩:=(t.lies z).has;rw[r] at x;exact J2 x
   obtain⟨M,N⟩:=t.callV (F':=jM m hp) (H':=p) (hp':=(l,.lst ds)::hp) ⟨v,s.rs.ext.fh,λa o _ q=>i.hh a o q,λa j g=>by
    cases z:Tr hp a with
    |none=>rw[QR z];exact i.new a (by unfold qH;rw[z];exact j) g
    |some d=>exact XV z,λa d b=>by
    rw[Kh] at b;by_cases z:a=l
    .rw[Zd z] at b;obtain rfl:=Zqi b;rw[z];exact⟨by rw[QR w];exact G,xs,J,L⟩
    .rw[Ze z] at b;exact s.lent a d b,λa b=>by
    rw[Kh] at b;by_cases z:a=l
    .rw[Zd z] at b;exact J2 b.symm
    .rw[Ze z] at b;exact b,λa j g=>by
    rw[Kh] at g;by_cases z:a=l
    .rw[z];exact r
    .rw[Ze z] at g;exact Zn j g⟩
   exact f l w _ M _ p v N (j7.mpr rfl)
  .exact f.elim
 |_=>exact f.elim
def Xh (cap:List (Option Nat))(it:FA)(tg:Tg)(f:FV):FV:=λsd hp=>(Wr.of (it sd)).bind λds=>if KW (jg cap sd) tg=true/\ds.length<sizeLine then(q9 tg f (jg cap sd) ds hp).bind λq=>.ok (.lst q.1,q.2) else .no
def G7 {K:W.Frag}{t:Tg}{R:FA}{f:FV}{cap:List (Option Nat)}{Z: St}{H:Hp}{Q:VK}(G:z9 K E (Xh cap R t f) Z H Q):WM cap (uA K E R) (gT t K) (z9 K E f) Z H Q:=by
 obtain⟨B,B',F,sd,hp,l,n⟩:=G;refine⟨B',F,sd,l.rs,qN n (λds I J S H1 L wk=>?_) λ_ _ q=>q.ext (l.ext0 l.rs.ext)⟩
 split at I
 .rename_i G;obtain⟨hn,hz⟩:=G;have T:=l.go L.ff (l.rs.step L);refine⟨λi k ys U p=>k=ds.length-i/\i<=ds.length/\∃Y B3 g es b,Tu F g/\Tu S g/\RT K B Y g p sd b Z /\ RS K B3 g p (jg cap sd) U/\Ti K g es ys/\es.length=i /\
   (q9 t f (jg cap sd) (ds.drop i) b).need (λq=>kt K B F sd Z Q (.lst (es++q.1),q.2)) (XW K E B.F0 B.H0),⟨ds.length,rfl,Uc _,_,_,S,[],hp,L.ff,.refl _,T,T.rs.cap cap,.nil,rfl,Wr.need_bind.mp I⟩,?_⟩
  rintro i k ys U p ⟨rfl,hi,Y,B3,g,es,b,s0,s2,h,r2,M,hl,m⟩;have ly:=M.length;refine⟨(),?_⟩;obtain⟨w1,w2⟩:=wk i g p s2 h.rs.ext.fh;by_cases c:i<ds.length
  .obtain⟨go,yl⟩:=w1 c;refine .inr ⟨go,λx r y=>?_⟩;obtain⟨d,s,hd,j,i3⟩:=yl x r y;have N:ds[i]=d:=by rw[Zqg c] at hd;exact Zqi hd
   rw[Uz c,N] at m;unfold q9 at m;have u:=jm.mp (Wr.need_bind.mp m);have w:=h.go j.ff (h.rs.step j);refine XB (K:=K) ((r2.step j).rebase (P0 cap sd)) i3 u λsd' Z' n4 hb r4=>?_;obtain⟨b1,b2⟩:=B8 hn hb;have t4:RT K ⟨s,jM r b,λ_=>none⟩ ⟨s,r,λ_=>none⟩ s r sd' b Z':=⟨r4,rfl,rfl,λa o=>(QR o).symm,λa d o=>⟨(w.lent a d o).1,XV o,(w.lent a d o).2⟩⟩;refine⟨_,_,s,sd',b,t4,(Wr.need_bind.mp n4).mono (λq O v B5 F5 H5 A t5 i5=>?_) λ_ _ q=>q.ext w.hidden⟩
   split at O
   .rename_i P;obtain⟨B6,t6⟩:=w.callV (t5.extV A P);refine⟨ds.length-(i+1),(),rfl,c,B6,B5,F5,es++[q.1],q.2,(s0.trans j.ff).trans A,(s2.trans j.ff).trans A,t6,t5.rs.forget b1 b2,(Ti.same (j.ff.trans A) _ _ M).snoc i5,by rw[Ua,hl];rfl,?_⟩;refine(Wr.need_bind.mp O).mono (λz n6=>?_) λ_ _ z=>z;rw[Uy];exact n6
   .exact O.elim
  .have he:i=ds.length:=()
   subst he;refine .inl ⟨w2 (Zf _),λD hD=>?_⟩;rw[UK] at m;have u:kt K B F sd Z Q (.lst (es++[]),b):=m;rw[ZA] at u;have C:=jG h.rs.ext.fh hD (.lst ys);exact u (.ref D) _ _ _ (s0.trans C.ff) (h.go C.ff (h.rs.step C)) (Tl.mpr ⟨D,ys,rfl,.of JQ,Ti.same C.ff _ _ M⟩)
 .exact I.elim
def P3 {tg b c:Expr}{a:Scope}{t:Tg}{l:FA}{f:FV}(N:Yi)(cap:List (Option Nat))(m:X.calm=true)(d:QB a X.env N X.N cap=true)(hi:QI X E tg b l)
 (n:∀i C s H j,QG (JH X a N i C s H j) tg t) (o:∀i C s H j,QV (JH X a N i C s H j) E c f) (hs:∀x,foldedSetIterable b X.env x=pure x:=by intro _;rfl):
 QV X E (.ListComp c [⟨tg,b,[],0⟩] a pos) (Xh cap l t f):=PE.weak (D5 (g:=gT t X.K) (te:=z9 X.K E f) N cap m d hi n o hs) λ_ _ _ h=>G7 h
@[simp]def Ta (cap:List (Option Nat))(it:FA)(tg:Tg)(f:FV)(sd:SD)(hp:HP):Xh cap it tg f sd hp=(Wr.of (it sd)).bind λds=>if KW (jg cap sd) tg=true/\ds.length<sizeLine then(q9 tg f (jg cap sd) ds hp).bind λq=>.ok (.lst q.1,q.2) else .no:=rfl
end
section
variable {X:Cx}{E:XK}
def P4 {K:W.Frag}{te:TE}{i:Nat}{a:FV}(w:∀Z H Q,z9 K E a Z H Q->te Z H Q){T:Ends}{Z: St}{H:Hp}(h:u9 K E (qQ i a) T Z H):ym te (KG i) T Z H:=w _ _ _ (by
 obtain⟨B,c,F,sd,hp,t,n⟩:=h;exact⟨B,c,F,sd,hp,t,jT n λp d v e f g j b l=>d _ e f g j (b.go (.refl _) (b.rs.setVal l))⟩)
def P5 {tg b d:Expr}{a:Scope}{e c u:Pos}{y:Str}{v:Nat}{t:Tg}{w:FA}{f:FV}(N:Yi)(cap:List (Option Nat))(i:X.N.Nodup)(j:X.N[v]? = some y)(l:x4 X.env.scope y)(z:X.calm=true)(m:QB a X.env N X.N cap=true)(hi:QI X E tg b w)
 (A:∀n C s H o,QG (JH X a N n C s H o) tg t) (B:∀n C s H o,QV (JH X a N n C s H o) E d f) (p:swapsWith (.ListComp d [⟨tg,b,[],0⟩] a e) (some (.Name y u)) c.line X.env=pure true:=by rfl)
 (r:X.fn y=true\/X.env.scope.names.lookup y=some .local:=by trivial) (hs:∀x,foldedSetIterable b X.env x=pure x:=by intro _;rfl):
 VS X E (.Assign [.Name y u] (.ListComp d [⟨tg,b,[],0⟩] a e) c) (qQ v (Xh cap w t f)):=by
 have F:=EI (g:=gT t X.K) (te:=z9 X.K E f) p i j l r N cap z m hi A B hs;exact PS.weak F λT Z H h=>P4 (λ_ _ _ q=>G7 q) h
end
def Ao (i:Nat)(a:Yz->HP->Wr (D×HP))(b:y3):jF:=λsd hp=>(b sd hp).strict.bind λp=>(a p.1 p.2).strict.bind λq=>.ok (.next (sd.set i (~~~(q.1))) q.2)
section
variable {X:Cx}{E:XK}{st:Stmt}{g1 g2:jF}
def P6 {i:Nat}{y c name:Str}{C:Addr}{k:Nat}{ps:Yi}{z:Yz->HP->Wr (D×HP)}{A:y3}{gs:FS}{m:Option Bool}{e:Expr}{es:Yk}{b₀:Stmt}{suite:List Stmt}{p G J f a d g:Pos}(h:X.stack=X.env::X.outer)(j:X.env.frame=some X.env.locals)
 (K:X.N.Nodup) (hi:X.N[i]? = some y) (hx:x4 X.env.scope y) (L:ye X.prog X.w X.K X.mg X.base name k ps (zD X.K z)) (M:Room k X.A) (N:Gl X name) (O:uk X.nox E0 (e::es) A) (P:Exc X.K X.mg c C) (l:Gl X c) (hs:∀x,ya (X.inSuite x) E0 m (b₀::suite) gs)
 (o:(name == ("__debug__" : Str))=false:=by decide) (Q:starEach (e::es) X.env=(false,eval e X.env)::starEach es X.env:=by rfl) (r:(backTo a (starEach es X.env)).any (·.1)=false:=by rfl) (R:(c == ("__debug__" : Str))=false:=by decide)
 (s:swapsWith (.Call (.Name name p) (e::es) [] a) (some (.Name y G)) d.line X.env=pure false:=by rfl) (S:X.fn y=true\/X.env.scope.names.lookup y=some .local:=by trivial):
 VS X E (.Try [.Assign [.Name y G] (.Call (.Name name p) (e::es) [] a) d] [.ExceptHandler (some (.Name c J)) none (b₀::suite) f] [] [] g) (Ao i z A):=
 PS.weak (Go (ts:=zB X.K E0 m gs) h j K hi hx (P1 L) M N O P l hs o Q r R s S) λT Z H U=>by
  obtain⟨B,Y,F,sd,hp,t,n⟩:=U;refine⟨B,Y,F,sd,hp,t,(Wr.need_strict (Wr.need_bind.mp n)).mono (λp n1 vs B1 F1 H1 s1 u i1=>?_) λ_ _ q=>q⟩;refine⟨F1,p.1,p.2,u.rs.ext.fh,i1,u.lent,(Wr.need_strict (Wr.need_bind.mp n1)).mono (λq n2 v F2 H2 w i=>?_) λ_ _ q=>q⟩;obtain⟨B2,I⟩:=u.callV w;exact n2 _ B2 F2 H2 (s1.trans w.ff) (I.go (.refl _) (I.rs.setVal i))
def XX (p:SD->Prop)(g1 g2:jF):jF:=λsd hp => @ite _ (p sd) (Classical.propDecidable _) (g1 sd hp) (g2 sd hp)
def zQ {p:SD->Prop}(b:VS X E st g1)(c:VS X E st g2):VS X E st (XX p g1 g2):=λY s Z H T I d=>by
 obtain⟨B,a,F,sd,hp,t,n⟩:=d;unfold XX at n
 split at n
 .exact b Y s Z H T I ⟨B,a,F,sd,hp,t,n⟩
 .exact c Y s Z H T I ⟨B,a,F,sd,hp,t,n⟩
def P7 {p:SD->Prop}{sd:SD}(h:p sd)(hp:HP):XX p g1 g2 sd hp=g1 sd hp:=@if_pos _ (Classical.propDecidable _) h _ _ _
def P8 {p:SD->Prop}{sd:SD}(h:¬p sd)(hp:HP):XX p g1 g2 sd hp=g2 sd hp:=@if_neg _ (Classical.propDecidable _) h _ _ _
end
end L2.DL
namespace L2
def G8:Yx->Hp->VK->Prop:=λxs H Q=>∃d a,∃ks:Yf,xs=[.ref d]/\Rd H d (.dK a)/\a.map (·.1)=ks.map Ub/\ks.length<=1000/\∀l,H l=none->Q (.ref l) (TQ H l (.lst (ks.map V.int)))
theorem G9:∀{vs:Yd} {ks:Yf},IntsAre vs ks->T4 (ks.map V.int) vs
 |_,_,.nil=>.nil
 |_,_,.cons n t r=>.cons ⟨t,rfl⟩ (G9 r)
def P9 {X:Cx}(E:X.calm=true):jc X (.type "list") G8:=by
 intro Y s Z H xs us Q I F h;obtain⟨d,a,ks,rfl,G,w,l,q⟩:=h;obtain⟨u,rfl,J⟩:=Q9 F;obtain rfl:u=Value.ref d:=J;obtain⟨z,lo,x,f,K,es,ep,L,M,N,O,P,R⟩:=KL I.hok G;have S:a.length=x.length:=f.length;have m:a.length=ks.length:=by have:=Zt List.length w;simpa using this
 have n:s.heap.DictAt (Qy X.prog X.w) d x ep:=⟨K,es,L,M,N,O,P,R⟩;refine W.kdl_call (W.kdl_dict lo) (I.ok.hd E) n (by rw[<- S,m];exact Qz ()) λh' tk b c T U e=>?_;have la:b.toList.length=ks.length:=by rw[Ui,e.1];lia
 have o:IntsAre b.toList ks:=Ct la λi k hi=>by
  have hlt:i<ks.length:=(Jd.mp hi).1;have y:a[i]? = some a[i]:=Zqg ();have g:(a.map (·.1))[i]? = (ks.map Ub)[i]?:= by rw[w]
  rw[Zv,Zv,y,hi] at g;have g:a[i].1=(Ub k:TF):=Zqi g;obtain⟨v,p,_⟩:=KV.at f y;have A:b.toList[i]? = some b.toList[i]:=Zqg ();obtain⟨k',x',j,B⟩:=e.2 i b.toList[i] (by rw[<- Array.getElem?_toList];exact A);rw[p] at j;have j:(a[i].1,v)=(k',x'):=Zqi j;cases j;rw[g] at B;rcases K3 (show V4 (Ub k) b.toList[i]=true from B) with ⟨i0,t,r,C⟩|⟨x0,t,r,C⟩
  .cases r;exact⟨t,by rw[A,C]⟩
  .cases r
 exact⟨.ref s.heap.objs.size,_,I.laid (t':=tk) T (Zf _) (show jK X.prog X.w _ h' _ (.lst _) from ⟨by rw[Zql];exact Qz l,b.toList,c,G9 o,U⟩),rfl,q _ (I.hok.fresh (Zf _))⟩
end L2
namespace L2.DL
def GA (ks:List TF):YA:=(VX ks).bind λl=>if l.length<=1000 then some (.lst (l.map .int)) else none
def Ap:Yz->YA
 | [.dct ks _]=>GA ks
 |_=>none
def PB {l:Yf}{ds:Yz}(h:l.length<=1000):Ap [.dct (l.map Ub) ds]=some (.lst (l.map .int)):=by
 show(VX (l.map Ub)).bind _=_;rw[Gw];exact Zd h
section
variable {X:Cx}
def PD (g:X.calm=true):jc X (.type "list") (xF X.K Ap):=jc.weak (P9 g) λxs H Q j=>by
 obtain⟨F,ds,z,b,id,hz,q⟩:=j;have c:∀{d:D} {ks:List TF} {es:Yz} {v:V},(d=.dct ks es\/d=.dcf ks es)->Tj X.K F d v->GA ks=some z->G8 [v] H Q:=λ{d ks es v} m i hs=>by
  obtain⟨l,n,f⟩:=Jh.mp (show(VX ks).bind (λl=>if l.length<=1000 then some (D.lst (l.map .int)) else none)=some z from hs)
  split at f
  .rename_i o;obtain rfl:=Zqi f;obtain⟨a,ys,rfl,r,t,u⟩:=BD m i;have s:=Gv n;refine⟨a,_,l,rfl,XG b r,?_,o,λp hp=>q p F _ (.keep b hp _) hp (Qh b hp) ⟨_,JQ,jd _⟩⟩;rw[List.map_fst_zip (),s]
  .exact J2 f
 cases ds with
 |nil=>exact J2 hz
 |cons d ds =>
  cases ds with
  |nil =>
   obtain⟨v,rfl,h⟩:=Qw id;cases d with
   |dct ks es=>exact c (.inl rfl) h hz
   |_=>exact J2 hz
  |cons e ds=>cases d<;>exact J2 hz
end
end L2.DL
set_option maxHeartbeats 4000000
namespace My
open PySem L2 L2.DL
@[simp high] def hQ {α: Type}(b a:α)(l:List α):(b::a::l)[1]? = some a:=rfl
@[simp high] def fX {α: Type}(a b v:α)(l:List α):(a::b::l).set 1 v=a::v::l:=rfl
@[simp high] def hO {α: Type}(b c a:α)(l:List α):(b::c::a::l)[2]? = some a:=rfl
@[simp high] def fW {α: Type}(a b c v:α)(l:List α):(a::b::c::l).set 2 v=a::b::v::l:=rfl
@[simp high] def hJ {α: Type}(b c d a:α)(l:List α):(b::c::d::a::l)[3]? = some a:=rfl
@[simp high] def fV {α: Type}(a b c d v:α)(l:List α):(a::b::c::d::l).set 3 v=a::b::c::v::l:=rfl
@[simp high] def hF {α: Type}(b c d e a:α)(l:List α):(b::c::d::e::a::l)[4]? = some a:=rfl
@[simp high] def fU {α: Type}(a b c d e v:α)(l:List α):(a::b::c::d::e::l).set 4 v=a::b::c::d::v::l:=rfl
@[simp high] def hB {α: Type}(b c d e f a:α)(l:List α):(b::c::d::e::f::a::l)[5]? = some a:=rfl
@[simp high] def fT {α: Type}(a b c d e f v:α)(l:List α):(a::b::c::d::e::f::l).set 5 v=a::b::c::d::e::v::l:=rfl
@[simp high] def hA {α: Type}(b c d e f g a:α)(l:List α):(b::c::d::e::f::g::a::l)[6]? = some a:=rfl
@[simp high] def fS {α: Type}(a b c d e f g v:α)(l:List α):(a::b::c::d::e::f::g::l).set 6 v=a::b::c::d::e::f::v::l:=rfl
@[simp high] def h8 {α: Type}(b c d e f g h a:α)(l:List α):(b::c::d::e::f::g::h::a::l)[7]? = some a:=rfl
@[simp high] def fR {α: Type}(a b c d e f g h v:α)(l:List α):(a::b::c::d::e::f::g::h::l).set 7 v=a::b::c::d::e::f::g::v::l:=rfl
@[simp high] def fZ {α: Type}(b c d e f g h i a:α)(l:List α):(b::c::d::e::f::g::h::i::a::l)[8]? = some a:=rfl
@[simp high] def fQ {α: Type}(a b c d e f g h i v:α)(l:List α):(a::b::c::d::e::f::g::h::i::l).set 8 v=a::b::c::d::e::f::g::h::v::l:=rfl
@[simp high] def fY {α: Type}(b c d e f g h i j a:α)(l:List α):(b::c::d::e::f::g::h::i::j::a::l)[9]? = some a:=rfl
@[simp high] def fP {α: Type}(a b c d e f g h i j v:α)(l:List α):(a::b::c::d::e::f::g::h::i::j::l).set 9 v=a::b::c::d::e::f::g::h::i::v::l:=rfl
@[simp high] def fK {α: Type}(b c d e f g h i j m a:α)(l:List α):(b::c::d::e::f::g::h::i::j::m::a::l)[10]? = some a:=rfl
@[simp high] def fG {α: Type}(b c d e f g h i j m a v:α)(l:List α):(b::c::d::e::f::g::h::i::j::m::a::l).set 10 v=b::c::d::e::f::g::h::i::j::m::v::l:=rfl
def qV (a b:Int):Int:=((a % 2147483647+b)*48271 % 2147483647)*((a % 2147483647+b)*48271 % 2147483647) % 2147483629
def W7 (a b:Int):Int:=
 if 0<qV a b % 4 then qV a b / 4 % 5-2
 else if qV a b / 20 % 2=0 then a / 7*(b+2) % (10:Int) ^ (60:Nat) else -(a / 7*(b+2) % (10:Int) ^ (60:Nat))
def Xi (a:Int):Nat->Int
 | 0=>qV a 5
 |i+1=>Xi a i / 2
def Q7 (a:Int):Nat->Jx
 | 0=>[]
 |i+1=>if Xi a i % 2=1 then Q7 a i++[((i:Int),W7 a (11+i))] else Q7 a i
def qa (a:Int)(n:Int):Jx:=if Q7 a n.toNat=[] then[(a % n,W7 a 29)] else Q7 a n.toNat
theorem XY (a:Int):∀(i:Nat) (p:Int×Int),p∈Q7 a i->0<=p.1/\p.1<(i:Int)
 | 0,p,h=>by cases h
 |i+1,p,h=>by
  unfold Q7 at h
  split at h
  .rcases Jc.mp h with q|q
   .have z:=XY a i p q;lia
   .have e:=Vt.mp q;subst e;show(0:Int)<=(i:Int)/\(i:Int)<((i+1:Nat):Int);lia
  .have z:=XY a i p h;lia
theorem Aq (a:Int):∀i:Nat,(Q7 a i).length<=i
 | 0=>Zf _
 |i+1=>by
  have z:=Aq a i;unfold Q7
  split
  .rw[Ua,Uv];lia
  .omega
def PF (a n:Int):qa a n ≠ []:=by
 unfold qa
 split
 .simp
 .assumption
def PH {a n:Int}(b:1<=n):∀p∈qa a n,0<=p.1/\p.1<n:=by
 intro p h;unfold qa at h
 split at h
 .have e:=Vt.mp h;subst e;exact⟨Int.emod_nonneg _ (),VC _ ()⟩
 .have z:=XY a _ p h;lia
def PJ {a n:Int}(b:n<=12):(qa a n).length<=12:=by
 unfold qa
 split
 .exact Nat.le_of_ble_eq_true rfl
 .have z:=Aq a n.toNat;lia
def VY (ns:Yf)(k:Int):Int:=ns.getD k.toNat 0
def XZ (ns:Yf)(a:Int)(n:Nat):Yf:=(List.range n).map λk:Nat=>W7 (VY ns (0+k) / 3+(0+k)) (a+(0+k))
def TY (hs:Yf)(t:Int):Int:=hs.getD t.toNat 0
def JJ (r:Jx)(hs:Yf):Int:=j8 (r.map λp=>TY hs p.1+p.2)
theorem GB (a:Int):∀i:Nat,T5 (Q7 a i)
 | 0=>UZ
 |i+1=>by
  have b:=GB a i;unfold Q7
  split
  .exact LQ b λp hp=>(XY a i p hp).2
  .exact b
def PK (a n:Int):T5 (qa a n):=by
 unfold qa
 split
 .unfold T5;simp
 .exact GB a _
def V2:jy 12 (.lst [])=true:=rfl
def PL (r:Jx):jy 12 (.lst (r.map ja))=true:=by
 show(r.map ja).all (jy 11)=true;rw[Vc,UW];exact λp _=>rfl
def Y0 (r:Yf):jy 12 (.lst (r.map D.int))=true:=by
 show(r.map D.int).all (jy 11)=true;rw[Vc,UW];exact λp _=>rfl
def GC {α: Type}(f:α -> D)(l:List α):Qj (.lst (l.map f)) (.lst [])=l.isEmpty:=by
 cases l with
 |nil=>exact Ky _
 |cons x r=>exact z7.mpr λh=>by injection h with h;cases h
def Y1 {α: Type}{l:List α}{k:Nat}(h:k<l.length):jY l (k:Int)=l[k]?:= by
 unfold jY yG;rw[Zd (),Zd (),UF];rfl
def PM {l:Yf}(h:l ≠ [])(x:Int):j8 (l++[x])=if j8 l<x then x else j8 l:=by
 obtain⟨a,b⟩:=V6 h;refine(Bk ?_ λy c=>?_).symm
 .split
  .exact Ug _ Zqs
  .exact Uu _ a
 .rcases Jc.mp c with q|q
  .have:=b y q
   split<;>lia
  .rw[Vt.mp q]
   split<;>lia
def PN (x:Int):j8 [x]=x:=rfl
def C0 {hs:Yf}{t:Int}(b:0<=t)(c:t<(hs.length:Int)):jY (hs.map D.int) t=some (.int (TY hs t)):=by
 have e:yG hs.length t=some t.toNat:=by unfold yG;rw[Zd b,Zd c]
 have a:t.toNat<hs.length:=()
 unfold jY TY;rw[Zql,e];show(hs.map D.int)[t.toNat]? = _;rw[Zv,Zqg a,Uf,Zqg a];rfl
def QU {α: Type}{f:α -> D}{l:List α}{i:Nat}{x:D}(h:(l.map f)[i]? = some x):∃p,l[i]? = some p/\x=f p:=by
 rw[Zv] at h;cases q:l[i]? with
 |none=>rw[q] at h;cases h
 |some p=>rw[q] at h;exact⟨p,rfl,(Zqi h).symm⟩
structure RowOk (n:Int)(r:Jx):Prop where
 ne:r ≠ []
 once:T5 r
 mem:∀p∈r,0<=p.1/\p.1<n
 len:r.length<=12
def GD {a:Jy}(h:∀r∈a,r ≠ [])(b:a.length<64):VU [.lst (a.map Ts)]=some (.lst ((JE T7 a).map Ts)):=by
 show(Qq Kx (a.map Ts)).bind _=_;rw[BA];exact Zd ⟨h,b⟩
def Tn (f:Jy):D:=.lst (f.map Ts)
def jq (all:Jy)(row:Jx):Bool:=(all.filter λone => !decide (one=row)&&J9 one row).isEmpty
def Xj (all a:Jy)(row:Jx):Jy:=if jq all row=true/\row∉a then a++[row] else a
def Ar (all rs:Jy):Jy:=rs.foldl (Xj all) []
def JI (rs:Jy):Jy:=JE T7 (Ar rs rs)
theorem Y2 (all:Jy):∀(rs d:Jy),(rs.foldl (Xj all) d).length<=d.length+rs.length/\(∀r,r∈rs.foldl (Xj all) d↔r∈d\/(r∈rs/\jq all r=true))/\(d.Nodup->(rs.foldl (Xj all) d).Nodup)
 | [],d=>⟨Zf _,λr=>(),id⟩
 |row::rs,d=>by
  rw[U7];obtain⟨e,f,g⟩:=Y2 all rs (Xj all d row);unfold Xj at e f g ⊢;by_cases c:jq all row=true/\row∉d
  .rw[Zd c] at e f g ⊢;refine⟨by rw[Ua] at e;simp only[Zu,ZC] at e ⊢;lia,λr=>?_,λl=>g ?_⟩
   .rw[f,List.mem_append,Vt,UQ];constructor
    .rintro((h|h)|⟨h,hq⟩)
     .exact .inl h
     .exact .inr ⟨.inl h,h ▸ c.1⟩
     .exact .inr ⟨.inr h,hq⟩
    .rintro(h|⟨h|h,hq⟩)
     .exact .inl (.inl h)
     .exact .inl (.inr h)
     .exact .inr ⟨h,hq⟩
   .rw[Vo];exact⟨l,(),λa m b i=>by rw[Vt] at i;subst i;exact λz=>c.2 (z ▸ m)⟩
  .rw[Ze c] at e f g ⊢;refine⟨by rw[Zu];lia,λr=>?_,g⟩;rw[f,UQ];constructor
   .rintro(h|⟨h,hq⟩)
    .exact .inl h
    .exact .inr ⟨.inr h,hq⟩
   .rintro(h|⟨h|h,hq⟩)
    .exact .inl h
    .by_cases j:row∈d
     .exact .inl (h ▸ j)
     .exact Zn ⟨h ▸ hq,j⟩ c
    .exact .inr ⟨h,hq⟩
def qD {rs:Jy}{r:Jx}:r∈JI rs↔r∈rs/\jq rs r=true:=by
 unfold JI Ar;rw[(Qe (ltb:=T7) _).mem_iff,(Y2 rs rs []).2.1];simp
def GE (rs:Jy):(JI rs).length<=rs.length:=by
 unfold JI Ar;rw[(Qe (ltb:=T7) _).length_eq];have:=(Y2 rs rs []).1;simpa using this
def JB (f:Jy)(hs:Yf):Int:=qG (f.map λr=>JJ r hs)
@[simp]def vt (f:Jy):K8 [Tn f]=some (Tn f):=rfl
@[simp]def zN (f:Jy):W0 (Tn f)=some (f.map Ts):=rfl
@[simp]def zJ (r:Jx):W0 (Ts r)=some (r.map ja):=rfl
@[simp]def C1 (f:Jy):TV [Tn f]=some (.int f.length):=by show some (D.int (f.map Ts).length)=_;rw[Zql]
@[simp]def Tb (f:Jy):ju [Tn f,.ty "list"]=some (.bl true):=rfl
@[simp]def Tc (f:Jx):ju [Ts f,.ty "tuple"]=some (.bl true):=rfl
@[simp]def Td (p:Int×Int):ju [ja p,.ty "tuple"]=some (.bl true):=rfl
@[simp]def uG (p:Int×Int):TV [ja p]=some (.int 2):=rfl
@[simp]def uM (p:Int×Int):qi (ja p) (.int 0)=some (.int p.1):=rfl
@[simp]def uL (p:Int×Int):qi (ja p) (.int 1)=some (.int p.2):=rfl
def wC (n:Nat)(r:Jx):jy (n+3) (Ts r)=true:=by
 show(r.map ja).all (jy (n+2))=true;rw[Vc,UW];exact λp _=>rfl
def GF (n:Nat)(f:Jy):jy (n+4) (Tn f)=true:=by
 show(f.map Ts).all (jy (n+3))=true;rw[Vc,UW];exact λr _=>wC n r
structure FormOk (n:Int)(f:Jy):Prop where
 ne:f ≠ []
 rows:∀r∈f,RowOk n r
 len:f.length<=100
def PP {l:Yf}(h:l ≠ [])(w:Int):qG (l.map (· + w))=qG l+w:=by
 obtain⟨a,b⟩:=Z1 h;refine(Bl (Ja.mpr ⟨_,a,rfl⟩) λy c=>?_).symm;obtain⟨z,hz,rfl⟩:=Ja.mp c;have:=b z hz;show qG l+w<=z+w;lia
def PQ {l:Yf}(h:l ≠ [])(w:Int):j8 (l.map (· + w))=j8 l+w:=by
 obtain⟨a,b⟩:=V6 h;refine(Bk (Ja.mpr ⟨_,a,rfl⟩) λy c=>?_).symm;obtain⟨z,hz,rfl⟩:=Ja.mp c;have:=b z hz;show z+w<=j8 l+w;lia
def jo (r:Jx):Prop:=(r.map (·.1)).Pairwise (· < ·)
def GG (p:Int×Int):jo [p]:=Vz _ _
def PR {r:Jx}{t w:Int}(h:jo r)(c:∀p∈r,p.1<t):jo (r++[(t,w)]):=by
 unfold jo at *;rw[Uh,List.pairwise_append];refine⟨h,Vz _ _,λa d b e=>?_⟩;obtain⟨p,hp,rfl⟩:=Ja.mp d;have:b=t:=by simpa using e
 rw[this];exact c p hp
def GH {r:Jx}(h:jo r):r.Pairwise λx y=>TM x y=true:=by
 unfold jo at h;rw[UT] at h;refine h.imp λ{a b} z=>?_;unfold TM;simp;lia
def xC {r o:Jx}:J9 r o=true↔∀p∈r,∃w,J5 o p.1=some w/\p.2<=w:=by
 unfold J9;rw[UW];refine forall_congr' λp=>forall_congr' λ_=>?_;unfold qS;cases J5 o p.1 with
 |none=>simp
 |some w=>simp
def Kb {a b c:Jx}(d:J9 a b=true)(e:J9 b c=true):J9 a c=true:=by
 rw[xC] at *;intro p hp;obtain⟨w,f,g⟩:=d p hp;obtain⟨v,h,i⟩:=e _ (Qp f);exact⟨v,h,Int.le_trans g i⟩
def GI {a b:Jx}(f:T5 a)(g:J9 a b=true)(h:J9 b a=true):∀p∈a,p∈b:=by
 rw[xC] at *;intro p hp;obtain⟨w,i,j⟩:=g p hp;have d:=Qp i;obtain⟨v,c,e⟩:=h _ d;have c:J5 a p.1=some v:=c;rw[f.look (t:=p.1) (w:=p.2) hp] at c;cases c;have e:w<=p.2:=e;have:w=p.2:=()
 rw[this] at d;exact d
def C2 {a b:Jx}(e:T5 a)(f:T5 b)(g:jo a)(h:jo b)(c:J9 a b=true)(d:J9 b a=true):a=b:=
 V8 yi (GH g) (GH h) λp=>⟨GI e c d p,GI f d c p⟩
theorem C3:∀{rs:Jy},rs ≠ []->(∀r∈rs,T5 r/\jo r)->∃m∈rs,∀o∈rs,J9 o m=true->o=m
 | [],h,_=>Zn rfl h
 |x::rs,_,ok=>by
  by_cases q:rs=[]
  .subst q;exact⟨x,Zqs,λo a _=>Vt.mp a⟩
  .obtain⟨m,g,i⟩:=C3 q λr j=>ok r (Zqm _ j);have b:=ok m (Zqm _ g);have d:=ok x Zqs;by_cases c:J9 x m=true
   .refine⟨x,Zqs,λo a f=>?_⟩;rcases UQ.mp a with e|e
    .exact e
    .have l:=i o e (Kb f c);subst l;exact C2 b.1 d.1 b.2 d.2 f c
   .refine⟨m,Zqm _ g,λo a f=>?_⟩;rcases UQ.mp a with e|e
    .exact Zn (e ▸ f) c
    .exact i o e f
def yC {rs:Jy}{m:Jx}:jq rs m=true↔∀o∈rs,J9 o m=true->o=m:=by
 unfold jq;rw[List.isEmpty_iff,List.filter_eq_nil_iff];refine forall_congr' λo=>forall_congr' λ_=>?_;by_cases h:o=m
 .simp[h]
 .simp[h]
structure Good (n:Int)(f:Jy):Prop where
 ne:f ≠ []
 rows:∀r∈f,RowOk n r
 rise:∀r∈f,jo r
 len:f.length<=40
 anti:∀r∈f,∀s∈f,J9 r s=true->r=s
 srt:f.Pairwise λa b=>T7 a b=true
def PU (j n:Nat):min (j:Int) (n:Int)=((min j n:Nat):Int):=by
 rcases Nat.le_total j n with h|h
 .rw[Nat.min_eq_left h,Int.min_eq_left (Int.ofNat_le.mpr h)]
 .rw[Nat.min_eq_right h,Int.min_eq_right (Int.ofNat_le.mpr h)]
def GJ {α: Type}(l:List α){k:Int}(a:0<=k):Qk l (some k) none none=l.drop k.toNat:=by
 have e:sliceBounds (some k) none none l.length=(((min k.toNat l.length:Nat):Int),(l.length:Int),1):=by
  obtain⟨j,rfl⟩:=Int.eq_ofNat_of_zero_le a;unfold sliceBounds;simp only[Option.getD_none];simp;rw[Ze (Int.not_lt.mpr a),PU];exact Int.max_eq_right (Int.natCast_nonneg _)
 unfold Qk;rw[e];show(sliceRange _ _ 1).filterMap _=_;have p:=pick_run l.toArray (min k.toNat l.length) (l.length-min k.toNat l.length);rw[sliceRange_one];have ep:(λx:Nat=>l[x]?)=λx:Nat=>l.toArray[x]?:= by funext x;simp
 rw[ep,p];simp;by_cases c:k.toNat<=l.length
 .rw[Nat.min_eq_left c,Vh ()]
 .rw[Nat.min_eq_right (),VM (Zf _),VM ()];exact List.take_nil
structure ThingsOk (ts:Yf):Prop where
 ne:ts ≠ []
 len:ts.length<=4
 rng:∀t∈ts,0<=t/\t<12
 up:ts.Pairwise (· < ·)
def Au {r:Jx}(h:jo r):T5 r:=by
 unfold jo at h;unfold T5 List.Nodup;exact h.imp λh e=>()
def GK {r:Jx}(h:T5 r){p q:Int×Int}(hp:p∈r)(b:q∈r)(e:p.1=q.1):p=q:=by
 induction r with
 |nil=>cases hp
 |cons a r c =>
  unfold T5 at h;rw[Zl,List.nodup_cons] at h;rcases UQ.mp hp with z|z
  .rcases UQ.mp b with y|y
   .rw[z,y]
   .exact Zn (Ja.mpr ⟨q,y,by rw[<- e,z]⟩) h.1
  .rcases UQ.mp b with y|y
   .exact Zn (Ja.mpr ⟨p,z,by rw[e,y]⟩) h.1
   .exact c h.2 z y
def GL {r:Jx}{hs:Yf}{p:Int×Int}(hp:p∈r):TY hs p.1+p.2<=JJ r hs:=
 (V6 (l:=r.map λp=>TY hs p.1+p.2) (λz=>by rw[List.map_eq_nil_iff] at z;subst z;cases hp)).2 _ (Ja.mpr ⟨p,hp,rfl⟩)
def PX {r:Jx}{hs:Yf}(a:r ≠ []):∃p∈r,JJ r hs=TY hs p.1+p.2:=by
 obtain⟨p,hp,e⟩:=Ja.mp (V6 (l:=r.map λp=>TY hs p.1+p.2) (λz=>a (Jf.mp z))).1;exact⟨p,hp,e.symm⟩
def PY {r:Jx}{hs:Yf}{x:Int}(a:r ≠ []):JJ r hs<=x↔∀p∈r,TY hs p.1+p.2<=x:=by
 constructor
 .intro h p hp;exact Int.le_trans (GL hp) h
 .intro h;obtain⟨p,hp,e⟩:=PX (hs:=hs) a;rw[e];exact h p hp
def VZ {f:Jy}{hs:Yf}{r:Jx}(a:r∈f):JB f hs<=JJ r hs:=
 (Z1 (l:=f.map λr=>JJ r hs) (λz=>by rw[List.map_eq_nil_iff] at z;subst z;cases a)).2 _ (Ja.mpr ⟨r,a,rfl⟩)
def W8 {f:Jy}{hs:Yf}(a:f ≠ []):∃r∈f,JB f hs=JJ r hs:=by
 obtain⟨p,hp,e⟩:=Ja.mp (Z1 (l:=f.map λr=>JJ r hs) (λz=>a (Jf.mp z))).1;exact⟨p,hp,e.symm⟩
structure Over (f:Jy)(hs:Yf):Prop where
 ne:f ≠ []
 rne:∀r∈f,r ≠ []
 once:∀r∈f,T5 r
 bnd:∀r∈f,∀p∈r,0<=p.1/\p.1<(hs.length:Int)
def jv (r o:Jx):Bool:=r.all λp=>o.any λq=>decide (q.1=p.1)&&decide (p.2<=q.2)
def W9 (fs:List Jy)(hs:Yf):Yf:=fs.map λf=>JB f hs
def xO (fs:List Jy)(hs:Yf):Nat->List Int
 | 0=>hs
 |n+1=>W9 fs (xO fs hs n)
def PZ {fs:List Jy}{hs:Yf}(h:hs.length=fs.length):∀n,(xO fs hs n).length=fs.length
 | 0=>h
 |n+1=>by unfold xO W9;rw[Zql]
structure RoundOk (n:Int)(fs:List Jy):Prop where
 len:(fs.length:Int)=n
 low:1<=n
 most:n<=12
 forms:∀f∈fs,FormOk n f
def RoundOk.over {n:Int}{fs:List Jy}(R:RoundOk n fs){hs:Yf}(h:hs.length=fs.length):∀f∈fs,Over f hs:=λf b=>⟨(R.forms f b).ne,λr a=>((R.forms f b).rows r a).ne,λr a=>((R.forms f b).rows r a).once,λr a p hp=>by
 have:=((R.forms f b).rows r a).mem p hp;have:=R.len;lia⟩
def TB (fs:List Jy):D:=.lst (fs.map Tn)
@[simp]def zM (fs:List Jy):W0 (TB fs)=some (fs.map Tn):=rfl
def Av (n:Nat)(fs:List Jy):jy (n+5) (TB fs)=true:=by
 show(fs.map Tn).all (jy (n+4))=true;rw[Vc,UW];exact λf _=>GF n f
open L2.ST
theorem C4:∀{ys xs:Yf},xs.Pairwise (· < ·)->ys.Pairwise (· < ·)->(∀x∈xs,x∈ys)->xs.length<=ys.length/\(xs.length=ys.length->xs=ys)
 | [],xs,_,_,h=>by
  cases xs with
  |nil=>exact⟨Zf _,λ_=>rfl⟩
  |cons x xs=>cases h x Zqs
 |y::ys,[],_,_,_=>⟨Uc _,λe=>by simp at e⟩
 |y::ys,x::xs,hx,hy,h=>by
  rw[List.pairwise_cons] at hx hy;rcases UQ.mp (h x Zqs) with q|q
  .subst q;obtain⟨a,b⟩:=C4 (ys:=ys) hx.2 hy.2 λz hz=>by
    rcases UQ.mp (h z (Zqm _ hz)) with w|w
    .have:=hx.1 z hz;lia
    .exact w
   refine⟨by rw[Zu,Zu];lia,λe=>?_⟩;rw[Zu,Zu] at e;rw[b ()]
  .have c:=hy.1 x q;obtain⟨a,_⟩:=C4 (ys:=ys) (xs:=x::xs) (Jk.mpr hx) hy.2 λz hz=>by
    rcases UQ.mp (h z hz) with w|w
    .rcases UQ.mp hz with v|v
     .omega
     .have:=hx.1 z v;lia
    .exact w
   refine⟨by rw[Zu (as:=ys)];lia,λe=>?_⟩;rw[Zu (as:=ys)] at e;lia
theorem GM:∀{a b:Jx},a.map (·.1)=b.map (·.1)->(∀(i:Nat) p q,a[i]? = some p->b[i]? = some q->p.2<=q.2)->a≠b->T7 a b=true
 | [],[],_,_,h=>Zn rfl h
 | [],_::_,e,_,_=>by simp at e
 |_::_,[],e,_,_=>by simp at e
 |p::a,q::b,e,hw,hn=>by
  rw[Zl,Zl] at e;have c:p.1=q.1:=(List.cons.inj e).1;have d:=(List.cons.inj e).2;have f:=hw 0 p q rfl rfl;rw[KO];by_cases z:p=q
  .rw[Zd z];refine GM d (λi p q hp g=>hw (i+1) p q hp g) λy=>hn (by rw[z,y])
  .rw[Ze z,KN];refine .inr ⟨c,?_⟩;rcases Int.lt_or_eq_of_le f with y|y
   .exact y
   .exact Zn (Prod.ext c y) z
def Ra {a b:Jx}(m:jo a)(d:jo b)(h:J9 a b=true)(n:a≠b):xn a b=true:=by
 have u:=xC.mp h;have o:=Au d;obtain⟨f,g⟩:=C4 m d λx hx=>by
  obtain⟨p,hp,rfl⟩:=Ja.mp hx;obtain⟨w,hw,_⟩:=u p hp;exact Ja.mpr ⟨(p.1,w),Qp hw,rfl⟩
 rw[Zql,Zql] at f g;rw[W5];rcases Nat.lt_or_eq_of_le f with q|q
 .exact .inl q
 .have e:=g q;refine .inr ⟨q,GM e (λi p r hp j=>?_) n⟩;obtain⟨w,hw,c⟩:=u p (Uj hp);have s:p.1=r.1:=by
   have l:(a.map (·.1))[i]? = some p.1:=by rw[Zv,hp];rfl
   have t:(b.map (·.1))[i]? = some r.1:=by rw[Zv,j];rfl
   rw[e,t] at l;exact(Zqi l).symm
  have:=GK o (Uj j) (Qp hw) s.symm;rw[this];exact c
def Wa {α: Type}{ltb:α -> α -> Bool}(T:Tot ltb){l:List α}(d:l.Nodup):(JE ltb l).Pairwise λa b=>ltb a b=true:=by
 have c:(JE ltb l).Nodup:=(Qe (ltb:=ltb) l).nodup_iff.mpr d;have hs:=Wn T l;generalize JE ltb l=s at c hs;unfold Sd at hs;unfold List.Nodup at c;refine List.Pairwise.imp ?_ (hs.and c);rintro a b ⟨e,f⟩;cases q:ltb a b with
 |true=>rfl
 |false=>exact Zn (T.tot _ _ q e) f
def qc (rs:Jy):Jy:=JE xn (JE T7 (jR rs))
def u6 {rs:Jy}{r:Jx}:r∈qc rs↔r∈rs:=by
 unfold qc;rw[(Qe (ltb:=xn) _).mem_iff,(Qe (ltb:=T7) _).mem_iff,kx]
def GN (rs:Jy):(qc rs).Pairwise λa b=>xn a b=true:=Wa z6 ((Qe (ltb:=T7) _).nodup_iff.mpr (Ga rs))
def GO (rs:Jy):(qc rs).length<=rs.length:=by
 unfold qc;rw[(Qe (ltb:=xn) _).length_eq,(Qe (ltb:=T7) _).length_eq];exact Gb rs
def xT (kept:Jy)(r:Jx):Jy:=if kept.any (λo=>J9 o r)=true then kept else kept++[r]
def qg (rs:Jy):Jy:=(qc rs).filter (jq rs)
theorem GP {rs:Jy}(l:∀r∈rs,jo r):∀i,i<=(qc rs).length->((qc rs).take i).foldl xT []=((qc rs).take i).filter (jq rs)
 | 0,_=>by simp
 |i+1,hi=>by
  have H:=GP l i ();have st:=GN rs;have t:∀r,r∈qc rs↔r∈rs:=λr=>u6;generalize qc rs=L at hi H st t;have c:i<L.length:=()
  rw[QD (Zqg c),Vj,List.filter_append,H];have u:∀o∈L.take i,xn o L[i]=true:=λo a=>by
   obtain⟨j,v,rfl⟩:=UE a;rw[UG] at v;rw[List.getElem_take];exact Jn.mp st j i () c ()
  have A:=(t L[i]).mp (UD c);show xT ((L.take i).filter (jq rs)) L[i]=_;unfold xT;cases q:jq rs L[i] with
  |true =>
   have B:=yC.mp q;rw[Ze,VH q,List.filter_nil];intro z;obtain⟨o,a,d⟩:=U9.mp z;have a:=(Jb.mp a).1;have e:=B o ((t o).mp (List.mem_of_mem_take a)) d;have b:=u o a;rw[e] at b;have:=z6.asy _ _ b;rw[b] at this;cases this
  |false =>
   have J:¬ ∀o∈rs,J9 o L[i]=true->o=L[i]:=λz=>by rw[yC.mpr z] at q;cases q
   obtain⟨o,a,d,hne⟩:∃o∈rs,J9 o L[i]=true/\o≠L[i]:=by
    apply VD;intro z;exact J λo a d=>VD λy=>z ⟨o,a,d,y⟩
   obtain⟨g,C,m⟩:=C3 (rs:=rs.filter λo=>J9 o L[i]) (λz=>by
    have:o∈rs.filter λo=>J9 o L[i]:=Jb.mpr ⟨a,d⟩;rw[z] at this;cases this) λr h=>⟨Au (l r (Jb.mp h).1),l r (Jb.mp h).1⟩
   obtain⟨I,E⟩:=Jb.mp C;have n:jq rs g=true:=yC.mpr λx hx p=>m x (Jb.mpr ⟨hx,Kb p E⟩) p;have s:g≠L[i]:=λz=>hne (by
    have:=m o (Jb.mpr ⟨a,d⟩) (by rw[z];exact d);rw[this,z])
   have F:=Ra (l g I) (l _ A) E s;have f:g∈L.take i:=by
    obtain⟨j,v,G⟩:=UE ((t g).mpr I);rcases UL j i with w|w|w
    .rw[<- G,List.mem_take_iff_getElem];exact⟨j,(),rfl⟩
    .subst w;exact Zn G.symm s
    .have b:=Jn.mp st i j c v w;rw[G] at b;have:=z6.asy _ _ b;rw[F] at this;cases this
   rw[Zd (U9.mpr ⟨g,Jb.mpr ⟨f,n⟩,E⟩),VI (by rw[q];simp),List.filter_nil,ZA]
def GQ (rs:Jy):JE T7 (qg rs)=JI rs:=by
 have c:(qg rs).Nodup:=by
  have:(qc rs).Nodup:=by
   unfold List.Nodup;refine(GN rs).imp λ{a b} h e=>?_;subst e;have:=z6.asy _ _ h;rw[h] at this;cases this
  exact List.Pairwise.sublist (List.filter_sublist) this
 have d:(Ar rs rs).Nodup:=(Y2 rs rs []).2.2 UZ;refine V8 qP (Wa qP c) (Wa qP d) λr=>?_;rw[(Qe (ltb:=T7) _).mem_iff];show r∈qg rs↔r∈JI rs;rw[qD];unfold qg;rw[List.mem_filter,u6]
structure PairsOk (ts:Yf)(r:Jx):Prop where
 ne:r ≠ []
 len:r.length<=4
 mem:∀p∈r,p.1∈ts
 up:r.Pairwise λp q=>p.1<q.1
def Rb {r:Jx}(h:r.Pairwise λp q=>p.1<q.1):T5 r:=by
 unfold T5 List.Nodup;rw[UT];exact h.imp λh e=>()
def PairsOk.row {ts:Yf}{r:Jx}(T:ThingsOk ts)(P:PairsOk ts r):RowOk 12 r:=⟨P.ne,Rb P.up,λp hp=>T.rng _ (P.mem p hp),Zh P.len ()⟩
def Rc {s r:Jx}{hs:Yf}(a:s ≠ [])(c:T5 r)(h:J9 s r=true):JJ s hs<=JJ r hs:=by
 rw[PY a];intro p hp;obtain⟨w,hw,b⟩:=xC.mp h p hp;have:=GL (hs:=hs) (Qp hw);show TY hs p.1+p.2<=_;have this:TY hs p.1+w<=JJ r hs:=this;lia
def Xk {rs:Jy}(ok:∀r∈rs,T5 r/\jo r){r:Jx}(d:r∈rs):∃s∈JI rs,J9 s r=true:=by
 have f:J9 r r=true:=xC.mpr λp hp=>⟨p.2,(ok r d).1.look (t:=p.1) (w:=p.2) hp,U6 _⟩;have ne:rs.filter (λo=>J9 o r) ≠ []:=λz=>by
  have:r∈rs.filter λo=>J9 o r:=Jb.mpr ⟨d,f⟩;rw[z] at this;cases this
 obtain⟨m,g,h⟩:=C3 ne λo b=>ok o (Jb.mp b).1;obtain⟨c,a⟩:=Jb.mp g;exact⟨m,qD.mpr ⟨c,yC.mpr λo b e=>h o (Jb.mpr ⟨b,Kb e a⟩) e⟩,a⟩
def Re {rs:Jy}{hs:Yf}(i:rs ≠ [])(ok:∀r∈rs,r ≠ []/\T5 r/\jo r):JB (JI rs) hs=JB rs hs:=by
 obtain⟨r,g,e⟩:=W8 (hs:=hs) i;obtain⟨s,d,j⟩:=Xk (λr h=>(ok r h).2) g;have a:=VZ (hs:=hs) d;have b:=Rc (hs:=hs) (ok s (qD.mp d).1).1 (ok r g).2.1 j;have ne:JI rs ≠ []:=λz=>by rw[z] at d;cases d
 obtain⟨l,f,m⟩:=W8 (hs:=hs) ne;have c:=VZ (hs:=hs) (qD.mp f).1;lia
def GR {f g:Jy}(h:f.length+g.length<=1000):TL (Tn f) (Tn g)=some (Tn (f++g)):=by
 show(if(f.map Ts).length+(g.map Ts).length<=sizeLine then _ else _)=_;rw[Zql,Zql,Zd (Qz h)];unfold Tn;rw[Uh]
def Wb (rs:Jy):(JI rs).Pairwise λa b=>T7 a b=true:=Wa qP ((Y2 rs rs []).2.2 UZ)
def C5 {s r:Jx}(o:T5 r):jv s r=J9 s r:=by
 refine U1.mpr ?_;rw[xC];unfold jv;rw[UW];refine forall_congr' λp=>forall_congr' λ_=>?_;rw[U9];constructor
 .rintro⟨q,b,h⟩;rw[Ue,decide_eq_true_iff,decide_eq_true_iff] at h;exact⟨q.2,by rw[<- h.1];exact o.look (t:=q.1) (w:=q.2) b,h.2⟩
 .rintro⟨w,hw,a⟩;exact⟨(p.1,w),Qp hw,by simp[a]⟩
structure JRow (r:Jx):Prop where
 ne:r ≠ []
 rise:jo r
 bnd:∀p∈r,0<=p.1/\p.1<12
def JRow.once {r:Jx}(h:JRow r):T5 r:=Au h.rise
def JRow.len {r:Jx}(h:JRow r):r.length<=12:=by
 have e:(r.map (·.1)).Pairwise (· < ·):=h.rise;have b:∀(l:Yf) (a:Int),l.Pairwise (· < ·)->(∀x∈l,a<=x/\x<12)->(l.length:Int)<=max 0 (12-a):=by
  intro l
  induction l with
  |nil=>intro a _ _;simp;lia
  |cons x l f =>
   intro a hp c;rw[List.pairwise_cons] at hp;have g:=c x Zqs;have:=f (x+1) hp.2 λy d=>⟨by have:=hp.1 y d;lia,(c y (Zqm _ d)).2⟩;rw[Zu];lia
 have:=b _ 0 e λx hx=>by
  obtain⟨p,hp,rfl⟩:=Ja.mp hx;exact h.bnd p hp
 rw[Zql] at this;lia
theorem GS {α: Type}:∀{l m:List α},l.Nodup->(∀x∈l,x∈m)->l.length<=m.length
 | [],m,_,_=>Uc _
 |x::l,m,h,s=>by
  obtain⟨a,b,rfl⟩:=List.append_of_mem (s x Zqs);obtain⟨d,e⟩:=Ji.mp h;have f:=GS (l:=l) (m:=a++b) e λy c=>by
   rcases Jc.mp (s y (Zqm _ c)) with z|z
   .exact Uu _ z
   .rcases UQ.mp z with z|z
    .rw[z] at c;exact Zn c d
    .exact Ug _ z
  rw[Ua] at f;rw[Ua,Zu,Zu];lia
def jO (t g:Jy):Jy:=JI (t++g)
structure Fm (n:Int)(U:Jy)(f:Jy):Prop where
 good:Good n f
 sub:∀r∈f,r∈U
def Rf {n:Int}{f:Jy}(G:Good n f):f.Nodup:=G.srt.imp λ{a b} h e=>by
 subst e;have:=qP.asy _ _ h;rw[h] at this;cases this
def Fm.len {n:Int}{U f:Jy}(F:Fm n U f)(h:U.length<=28):f.length<=28:=Zh (GS (Rf F.good) F.sub) h
def Rg {a b:Jy}{hs:Yf}(d:a ≠ [])(g:b ≠ []):JB (a++b) hs<=JB a hs/\JB (a++b) hs<=JB b hs/\(JB (a++b) hs=JB a hs\/JB (a++b) hs=JB b hs):=by
 obtain⟨r,h,e⟩:=W8 (hs:=hs) d;obtain⟨s,c,j⟩:=W8 (hs:=hs) g;have l:=VZ (hs:=hs) (Uu b h);have m:=VZ (hs:=hs) (Ug a c);obtain⟨q,i,n⟩:=W8 (f:=a++b) (hs:=hs) (λz=>d (Jw.mp z).1);refine⟨(),(),?_⟩;rcases Jc.mp i with z|z
 .have:=VZ (hs:=hs) z;exact .inl ()
 .have:=VZ (hs:=hs) z;exact .inr ()
def Y3:FS:=(Tx (jQ (JC (T1 gc (Tf 1) (T2 TV (Jz (Tf 0) Th)))) (T6 (T1 qi (Tf 0) (Tf 1))) JX) (T6 (dC (.int 0))))
def Wc:Yz->Res D:=TX 2 2 Y3
def GT (ns:Yf)(k:Nat):Wc [.scr ns,.int k]=.ok (.int (VY ns k)):=by
 unfold VY;rw[UF];by_cases h:k<ns.length
 .have e:jY ns (k:Int)=some ns[k]:=by rw[Y1 h];exact Zqg h
  have a:ns.getD k 0=ns[k]:=by rw[Uf,Zqg h];rfl
  rw[a];simp[Wc,Y3,h,e]
 .have a:ns.getD k 0=0:=by rw[Uf,VB ()];rfl
  rw[a];simp[Wc,Y3,h]
def Aw:FS:=(Tx (TC 2 (j1 Th)) (Tx (jp (iS (Tf 0)) (.tup [3,4]) (jQ (xz (JC (T1 xg (Tf 2) (j1 Th))) (JC (T1 yJ (T1 TL (T1 qi (Tf 1) (Tf 3)) (Tf 4)) (T1 qi (Tf 2) (dC (.int 0)))))) (TC 2 (j1 (Jz (T1 TL (T1 qi (Tf 1) (Tf 3)) (Tf 4)) Th))) JX)) (T6 (T1 qi (Tf 2) (dC (.int 0))))))
def Y4:Yz->Res D:=TX 5 2 Aw
def vB {r:Jx}{hs:Yf}(a:r ≠ [])(n:∀p∈r,0<=p.1/\p.1<(hs.length:Int)):Y4 [Ts r,.lst (hs.map .int)]=.ok (.int (JJ r hs)):=by
 simp[Y4,Aw,Ts];generalize o:jQ _ _ JX=b;obtain⟨sd',e,u,v,h⟩:=Kz (tg:=.tup [3,4]) (b:=b) (ds:=r.map ja) (sd:=[~~~(.tup (r.map ja)),~~~(.lst (hs.map .int)),~~~(.lst []),none,none])
  (P:=λi sd=>∃u v,sd=[~~~(.tup (r.map ja)),~~~(.lst (hs.map .int)),~~~(.lst ((if i=0 then[] else[JJ (r.take i) hs]).map .int)),u,v]) ⟨none,none,rfl⟩ (by
   rintro i x sd hx ⟨u,v,rfl⟩;obtain⟨p,hp,rfl⟩:=QU hx;obtain⟨s,t⟩:=n p (Uj hp);have j:=C0 s t;have l:r.take (i+1)=r.take i++[p]:=QD hp;subst o;by_cases q:i=0
   .subst q;simp[VQ V2 V2,Ky,j,l,JJ,PN]
   .have d:xg (.lst [.int (JJ (r.take i) hs)]) (.lst [])=some (.bl false):=by
     rw[VQ rfl V2,z7.mpr];intro z;injection z with z;cases z
    have m:(r.take i).map (λp=>TY hs p.1+p.2) ≠ []:=by
     intro z;have:=Zt List.length z;rw[Zql,UG] at this;have hi:=(Jd.mp hp).1;simp only[ZC] at this;lia
    have f:JJ (r.take (i+1)) hs=if JJ (r.take i) hs<TY hs p.1+p.2 then TY hs p.1+p.2 else JJ (r.take i) hs:=by
     rw[l];unfold JJ;rw[Uh];exact PM m _
    have g:jY [D.int (JJ (r.take i) hs)] 0=some (.int (JJ (r.take i) hs)):=rfl;by_cases c:JJ (r.take i) hs<TY hs p.1+p.2
    .rw[Zd c] at f;simp[q,d,j,g,c,f]
    .rw[Ze c] at f;simp[q,d,j,g,c,f])
 rw[e];subst h;have m:(r.map ja).length=r.length:=Zql _;have w:¬r.length=0:=λz=>a (Je.mp z);have g:jY [D.int (JJ r hs)] 0=some (.int (JJ r hs)):=rfl;simp[w,g,a]
def Ax:FS:=(T6 (T2 WV (Jz (JV [none,some 1] (iS (Tf 0)) (.one 0) (J3 Y4 (Jz (Tf 0) (Jz (Tf 1) Th)))) Th)))
def Y5:Yz->Res D:=TX 2 2 Ax
def vA {f:Jy}{hs:Yf}(g:f ≠ [])(h:f.length<=1000)(a:∀r∈f,r ≠ [])(i:∀r∈f,∀p∈r,0<=p.1/\p.1<(hs.length:Int)):Y5 [Tn f,.lst (hs.map .int)]=.ok (.int (JB f hs)):=by
 have b:TW (.one 0) (J3 Y4 (Jz (Tf 0) (Jz (Tf 1) Th))) [none,~~~(.lst (hs.map .int))] (f.map Ts)=.ok (f.map λr=>.int (JJ r hs)):=Q5 λr c=>by
  simp[vB (a r c) (i r c)]
 have e:f.map (λr=>D.int (JJ r hs))=(f.map λr=>JJ r hs).map .int:=by rw[Zw];rfl
 have d:=ER (ns:=f.map λr=>JJ r hs) (λz=>g (Jf.mp z));rw[<- e] at d;simp[Y5,Ax,Tn,b,JW h,d,JB]
def Ay:FS:=(Tx (jH 2 BI) (Tx (jp (iS (T1 TL (Tf 0) (Tf 1))) (.tup [3,4]) (Wz 2 (Tf 3) (T2 WU (Jz (Tf 4) (Jz (xW [2] (XL (Tf 2) (Tf 3) (Tf 4))) Th))))) (λsd=>(T6 (T2 Uk (Jz (JV [none,some 2] (iS (T2 Cv (Jz (T2 Ap (Jz (Tf 2) Th)) Th))) (.one 0) (jr (Jz (Tf 0) (Jz (T1 qi (Tf 1) (Tf 0)) Th)))) Th))) (j0 [2] sd))))
def WA:Yz->Res D:=TX 5 2 Ay
def Az:FS:=(Tx (jp (iS (Tf 0)) (.tup [2,3]) (Tx (TC 4 (dC (.bl false))) (Tx (jp (iS (Tf 1)) (.tup [5,6]) (jQ (ZL (JC (T1 xg (Tf 5) (Tf 2))) (JC (T1 uI (Tf 3) (Tf 6)))) (TC 4 (dC (.bl true))) JX)) (jQ (QZ (JC (Tf 4))) (T6 (dC (.bl false))) JX)))) (T6 (dC (.bl true))))
def WB:Yz->Res D:=TX 7 2 Az
def GU (r o:Jx):WB [Ts r,Ts o]=.ok (.bl (jv r o)):=by
 simp[WB,Az];refine W2 (R:=λz=>(z.bind (jA (T6 (dC (.bl true))))).bind jL=.ok (.bl (jv r o))) (P:=λi sd=>(∃(u2 f u4 u5 a:Option SV),sd=[~~~(Ts r),~~~(Ts o),u2,f,u4,u5,a])/\jv (r.take i) o=true) ⟨⟨none,none,none,none,none,rfl⟩,rfl⟩ ?_ ?_
 .rintro sd ⟨⟨u2,f,u4,u5,a,rfl⟩,hu⟩;rw[Zql,UM] at hu;simp[hu]
 .rintro i x sd hx ⟨⟨u2,f,u4,u5,a,rfl⟩,hu⟩;obtain⟨p,hp,rfl⟩:=QU hx;obtain⟨sd',e,c,d,g⟩:=Kz (tg:=.tup [5,6]) (b:=jQ (ZL (JC (T1 xg (Tf 5) (Tf 2))) (JC (T1 uI (Tf 3) (Tf 6)))) (TC 4 (dC (.bl true))) JX) (ds:=o.map ja) (sd:=[~~~(Ts r),~~~(Ts o),~~~(.int p.1),~~~(.int p.2),~~~(.bl false),u5,a])
   (P:=λj sd=>∃(c d:Option SV),sd=[~~~(Ts r),~~~(Ts o),~~~(.int p.1),~~~(.int p.2),~~~(.bl ((o.take j).any λq=>decide (q.1=p.1)&&decide (p.2<=q.2))),c,d]) ⟨_,_,rfl⟩ (by
    rintro j x sd hx ⟨c,d,rfl⟩;obtain⟨q,n,rfl⟩:=QU hx;have s:(o.take (j+1)).any (λq=>decide (q.1=p.1)&&decide (p.2<=q.2))=((o.take j).any (λq=>decide (q.1=p.1)&&decide (p.2<=q.2))||(decide (q.1=p.1)&&decide (p.2<=q.2))):=by
     rw[QD n,List.any_append];simp
    rw[s];refine⟨[~~~(Ts r),~~~(Ts o),~~~(.int p.1),~~~(.int p.2),~~~(.bl ((o.take j).any (λq=>decide (q.1=p.1)&&decide (p.2<=q.2))||(decide (q.1=p.1)&&decide (p.2<=q.2)))),~~~(.int q.1),~~~(.int q.2)],?_,_,_,rfl⟩;generalize (o.take j).any (λq=>decide (q.1=p.1)&&decide (p.2<=q.2))=old;by_cases h:q.1=p.1
    .by_cases m:p.2<=q.2
     .simp[h,m]
     .simp[h,m]
    .simp[h])
  subst g;rw[Zql,UM] at e;have bs:∀l:Jx,jv (l++[p]) o=(jv l o&&o.any λq=>decide (q.1=p.1)&&decide (p.2<=q.2)):=λl=>by
   unfold jv;rw[List.all_append];simp
  cases z:o.any λq=>decide (q.1=p.1)&&decide (p.2<=q.2) with
  |true =>
   rw[z] at e;exact .inl ⟨[~~~(Ts r),~~~(Ts o),~~~(.int p.1),~~~(.int p.2),~~~(.bl true),c,d],.inl (by simp[e]),⟨_,_,_,_,_,rfl⟩,by rw[QD hp,bs,hu,z];rfl⟩
  |false =>
   have t:jv r o=false:=by
    unfold jv;rw[List.all_eq_false];exact⟨p,Uj hp,by rw[z];simp⟩
   rw[t];rw[z] at e;exact .inr (.inr ⟨.bl false,by simp[e],()⟩)
def A0:FS:=(Tx (TC 1 (j1 Th)) (Tx (jp (iS (Tf 0)) (.one 2) (jQ (QZ (JC (T2 yL (Jz (JV [none,some 2] (iS (Tf 1)) (.one 0) (J3 WB (Jz (Tf 0) (Jz (Tf 1) Th)))) Th)))) (TC 1 (T1 TL (VR [none,some 2] (iS (Tf 1)) (.one 0) (QZ (JC (J3 WB (Jz (Tf 1) (Jz (Tf 0) Th))))) (Tf 0)) (j1 (Jz (Tf 2) Th)))) JX)) (T6 (T2 VU (Jz (Tf 1) Th)))))
def K2:Yz->Res D:=jk 3 1 A0
def A1:FS:=(Tx (TC 3 (dC .non)) (Tx (jp (iS (Tf 0)) (.tup [4,5]) (Tx (TC 6 (JV [none,some 5] (iS (T1 qi (Tf 1) (Tf 4))) (.one 0) (T2 Uk (Jz (JV [none,none,some 1] (iS (Tf 0)) (.tup [0,1]) (jr (Jz (Tf 0) (Jz (T1 TL (Tf 1) (Tf 2)) Th)))) Th)))) (Tx (jQ (JC (xJ (qk false) (Tf 3))) (TC 3 (Tf 6)) (Tx (jH 7 (j1 Th)) (Tx (jp (iS (Tf 3)) (.one 8) (KS 7 (JV [none,some 8] (iS (Tf 6)) (.one 0) (J3 WA (Jz (Tf 1) (Jz (Tf 0) Th)))))) (λsd=>(TC 3 (J3 K2 (Jz (Tf 7) Th))) (j0 [7] sd))))) (jQ (JC (T1 yJ (T2 TV (Jz (Tf 3) Th)) (Tf 2))) (T6 (dC .non)) JX)))) (T6 (Tf 3))))
def Xl:Yz->Res D:=TX 9 3 A1
def A3:FS:=(Tx (TC 3 (j1 Th)) (Tx (jp (iS (Tf 0)) (.one 4) (Tx (TC 5 (J3 Xl (Jz (Tf 4) (Jz (Tf 1) (Jz (Tf 2) Th))))) (Tx (jQ (JC (xJ (qk false) (Tf 5))) (T6 (dC .non)) JX) (Tx (TC 3 (J3 K2 (Jz (T1 TL (Tf 3) (Tf 5)) Th))) (jQ (JC (T1 yJ (T2 TV (Jz (Tf 3) Th)) (Tf 2))) (T6 (dC .non)) JX))))) (T6 (Tf 3))))
def Xm:Yz->Res D:=TX 6 3 A3
def A4:FS:=(Tx (TC 3 (JV [none] (qW (Jz (T2 TV (Jz (Tf 0) Th)) Th)) (.one 0) (j1 (Jz (jr (Jz (jr (Jz (Tf 0) (Jz (dC (.int 0)) Th))) Th)) Th)))) (Tx (jp (qW (Jz (Tf 1) Th)) (.one 4) (Tx (TC 3 (JV [none,some 2,some 3] (iS (Tf 0)) (.one 0) (J3 Xm (Jz (Tf 0) (Jz (Tf 2) (Jz (Tf 1) Th)))))) (jQ (JC (T1 (yI false) (dC .non) (Tf 3))) (T6 (dC .non)) JX))) (T6 (Tf 3))))
def A5:Yz->Res D:=TX 5 3 A4
def A6:FS:=(Tx (TC 2 (T1 jz (T1 qM (T1 TL (T1 jz (Tf 0) (dC (.int 2147483647))) (Tf 1)) (dC (.int 48271))) (dC (.int 2147483647)))) (T6 (T1 jz (T1 qM (Tf 2) (Tf 2)) (dC (.int 2147483629)))))
def WC:Yz->Res D:=TX 3 2 A6
@[simp]def vE (c s:Int):WC [.int c,.int s]=.ok (.int (qV c s)):=by
 have a:Kl (c % 2147483647+s) 48271=true:=BR () ();have b:Kl ((c % 2147483647+s)*48271 % 2147483647) ((c % 2147483647+s)*48271 % 2147483647)=true:=BR () ();simp[WC,A6,WZ a,WZ b,qV]
def Xn:FS:=(Tx (TC 2 (J3 WC (Jz (Tf 0) (Jz (Tf 1) Th)))) (Tx (jQ (JC (T1 yJ (T1 jz (Tf 2) (dC (.int 4))) (dC (.int 0)))) (T6 (T1 yH (T1 jz (T1 Km (Tf 2) (dC (.int 4))) (dC (.int 5))) (dC (.int 2)))) JX) (Tx (TC 3 (T1 jz (T1 qM (T1 Km (Tf 0) (dC (.int 7))) (T1 TL (Tf 1) (dC (.int 2)))) (T1 zw (dC (.int 10)) (dC (.int 60))))) (Tx (jQ (JC (T1 xg (T1 jz (T1 Km (Tf 2) (dC (.int 20))) (dC (.int 2))) (dC (.int 0)))) (T6 (Tf 3)) JX) (T6 (xJ zx (Tf 3)))))))
def V3:Yz->Res D:=TX 4 2 Xn
def C6 {c s:Int}(f: -1000000<=s)(g:s<=1000000):V3 [.int c,.int s]=.ok (.int (W7 c s)):=by
 have b:Kl (c / 7) (s+2)=true:=BR () ();have d:zw (.int 10) (.int 60)=some (.int (10 ^ 60)):=rfl;unfold W7;by_cases a:0<qV c s % 4
 .simp[V3,Xn,a]
 .by_cases e:qV c s / 20 % 2=0
  .simp[V3,Xn,a,e,WZ b,d]
  .simp[V3,Xn,a,e,WZ b,d]
def A7:FS:=(T6 (JV [none,some 0,some 1] (qW (Jz (Tf 2) Th)) (.one 0) (J3 V3 (Jz (T1 TL (T1 Km (J3 Wc (Jz (Tf 1) (Jz (Tf 0) Th))) (dC (.int 3))) (Tf 0)) (Jz (T1 TL (Tf 2) (Tf 0)) Th)))))
def Y6:Yz->Res D:=jk 3 3 A7
def vC (ns:Yf){s n:Int}(d:0<=s)(f:s<=1000)(g:0<=n)(h:n<=12):Y6 [.scr ns,.int s,.int n]=.ok (.lst ((XZ ns s n.toNat).map .int)):=by
 have b:QJ [.int n]=.ok (JK 0 n.toNat):=Kp () ();have a:TW (.one 0) (J3 V3 (Jz (T1 TL (T1 Km (J3 Wc (Jz (Tf 1) (Jz (Tf 0) Th))) (dC (.int 3))) (Tf 0)) (Jz (T1 TL (Tf 2) (Tf 0)) Th))) [none,~~~(.scr ns),~~~(.int s)] (JK 0 n.toNat)=.ok ((List.range n.toNat).map λk:Nat=>.int (W7 (VY ns k / 3+k) (s+k))):=ZZ λi hi=>by
  have hw:=C6 (c:=VY ns i / 3+i) (s:=s+i) () ();simp[GT,hw]
 have e:(XZ ns s n.toNat).map D.int=(List.range n.toNat).map λk:Nat=>.int (W7 (VY ns k / 3+k) (s+k)):=by
  unfold XZ;rw[Zw]
  congr 1
  funext k
  simp
 simp[Y6,A7,b,a,Kq,JW (show n.toNat<=1000 from ()),e]
def A8:FS:=(Tx (jH 2 (j1 Th)) (Tx (TC 3 (J3 WC (Jz (Tf 0) (Jz (dC (.int 5)) Th)))) (Tx (jp (qW (Jz (Tf 1) Th)) (.one 4) (Tx (jQ (JC (T1 xg (T1 jz (Tf 3) (dC (.int 2))) (dC (.int 1)))) (Kw 2 (jr (Jz (Tf 4) (Jz (J3 V3 (Jz (Tf 0) (Jz (T1 TL (dC (.int 11)) (Tf 4)) Th))) Th)))) JX) (TC 3 (T1 Km (Tf 3) (dC (.int 2)))))) (Tx (jQ (B4 [2] (JC (T1 xg (Tf 2) (j1 Th)))) (Kw 2 (jr (Jz (T1 jz (Tf 0) (Tf 1)) (Jz (J3 V3 (Jz (Tf 0) (Jz (dC (.int 29)) Th))) Th)))) JX) (λsd=>(T6 (T2 Uk (Jz (Tf 2) Th))) (j0 [2] sd))))))
def Xo:Yz->Res D:=TX 5 2 A8
def vD {c n:Int}(g:1<=n)(h:n<=12):Xo [.int c,.int n]=.ok (Ts (qa c n)):=by
 have a:QJ [.int n]=.ok (JK 0 n.toNat):=Kp () ();simp[Xo,A8,a];generalize d:Tx (jQ _ _ _) (TC 3 _)=b;obtain⟨sd',e,u,rfl⟩:=Kz (tg:=.one 4) (b:=b) (ds:=JK 0 n.toNat) (sd:=[~~~(.int c),~~~(.int n),some (.own false (.lst [])),~~~(.int (qV c 5)),none])
  (P:=λi sd=>∃u,sd=[~~~(.int c),~~~(.int n),some (.own false (.lst ((Q7 c i).map ja))),~~~(.int (Xi c i)),u]) ⟨none,rfl⟩ (by
   rintro i x sd hx ⟨u,rfl⟩;obtain⟨rfl,hi⟩:=Um hx;have hw:=C6 (c:=c) (s:=11+i) () ();have f:=Aq c i;subst d;by_cases q:Xi c i % 2=1
   .simp[q,hw,JW (show(Q7 c i).length<=1000 by lia),Q7,Xi,ja]
   .simp[q,Q7,Xi])
 rw[e];have hp:=VQ (PL (Q7 c n.toNat)) V2;have hw:=C6 (c:=c) (s:=29) () ();have f:=Aq c n.toNat;rw[Kq];by_cases q:Q7 c n.toNat=[]
 .simp[q,hw,VQ V2 V2,Ky,show 0<n by lia,JW (show 0<=1000 from ()),qa,Ts,ja]
 .simp[q,hp,GC,qa,Ts]
def A9:FS:=(Tx (TC 3 (T2 ZV (Jz (Tf 2) (Jz (T2 WU (Jz (dC (.int 0)) (Jz (T1 yH (T2 TV (Jz (Tf 0) Th)) (Tf 1)) Th))) Th)))) (T6 (JV [none,some 0,some 1,some 2] (qW (Jz (Tf 3) Th)) (.one 0) (T2 yu (Jz (zC (Tf 1) (Ux (T1 TL (Tf 2) (Tf 0))) VT (Ux (Tf 3))) Th)))))
def Y7:Yz->Res D:=jk 4 3 A9
def Rh {ns:Yf}(h:ns.length<=63){a most:Int}(g:0<=a)(j:a<=100)(l:1<=most)(n:most<=60):∃d:Yf,(d.length:Int)<=most/\Y7 [.scr ns,.int a,.int most]=.ok (.lst (d.map .int)):=by
 obtain⟨m,hm,em⟩:∃m:Nat,(m:Int)<=most/\(if(if a<(ns.length:Int) then(ns.length:Int)-a else 0)<most then(if a<(ns.length:Int) then(ns.length:Int)-a else 0) else most)=(m:Int):=by
  refine⟨(if(if a<(ns.length:Int) then(ns.length:Int)-a else 0)<most then(if a<(ns.length:Int) then(ns.length:Int)-a else 0) else most).toNat,?_,?_⟩<;>(repeat' split)<;>lia
 have e:QJ [.int (m:Int)]=.ok (JK 0 m):=by
  rw[Kp () (),UF]
 have b:TW (.one 0) (T2 yu (Jz (zC (Tf 1) (Ux (T1 TL (Tf 2) (Tf 0))) VT (Ux (Tf 3))) Th)) [none,~~~(.scr ns),~~~(.int a),~~~(.int most)] (JK 0 m)=.ok ((List.range m).map λk:Nat=>.int (Qk ns (some (a+(k:Int))) none (some most)).sum):=ZZ λi hi=>by
  have gs:=Nk (ds:=ns) (lo:=some (a+(i:Int))) (hi:=none) (c:=most) ();simp[gs]
 refine⟨(List.range m).map λk:Nat=>(Qk ns (some (a+(k:Int))) none (some most)).sum,by simpa using hm,?_⟩;rw[Zw];have f:=JW (show m<=1000 from ());simp[Y7,A9,em,e,b,Kq,f]
def Y8:FS:=(Tx (TC 3 (J3 Y7 (Jz (Tf 0) (Jz (dC (.int 1)) (Jz (dC (.int 24)) Th))))) (Tx (jQ (JC (T1 xg (Tf 3) (j1 Th))) (TC 3 (j1 (Jz (T2 TV (Jz (Tf 0) Th)) Th))) JX) (Tx (jH 4 (j1 Th)) (Tx (jp (qW (Jz (Tf 1) Th)) (.one 5) (Tx (jH 6 (j1 Th)) (Tx (jp (qW (Jz (T1 TL (dC (.int 1)) (T1 jz (J3 WC (Jz (T1 qi (Tf 3) (T1 jz (Tf 5) (T2 TV (Jz (Tf 3) Th)))) (Jz (dC (.int 89)) Th))) (Tf 2))) Th)) (.one 7) (Tx (TC 8 (T1 qi (Tf 3) (T1 jz (T1 TL (Tf 5) (T1 qM (dC (.int 5)) (Tf 7))) (T2 TV (Jz (Tf 3) Th))))) (Kw 6 (J3 Xo (Jz (T1 TL (T1 TL (T1 Km (Tf 8) (T1 TL (Tf 7) (dC (.int 1)))) (T1 qM (dC (.int 7)) (Tf 5))) (Tf 7)) (Jz (Tf 1) Th)))))) (λsd=>(Kw 4 (J3 K2 (Jz (Tf 6) Th))) (j0 [6] sd))))) (Kv 4)))))
def AA:Yz->Res D:=jk 9 3 Y8
def AB:FS:=(T6 (Ws (T2 ju (Jz (Tf 0) (Jz (dC (.ty "int")) Th))) (Bz (T2 ju (Jz (Tf 0) (Jz (dC (.ty "bool")) Th))))))
def AC:Yz->Res D:=TX 1 1 AB
@[simp]def Te (i:Int):AC [.int i]=.ok (.bl true):=by
 simp[AC,AB]
def Y9 (a:Yz->Res D):FS:=(Tx (jQ (JC (T2 ju (Jz (Tf 1) (Jz (dC (.ty "int")) Th)))) (T6 (Ws (J3 AC (Jz (Tf 0) Th)) (T1 xg (Tf 0) (Tf 1)))) JX) (Tx (jQ (JC (T2 ju (Jz (Tf 1) (Jz (dC (.ty "str")) Th)))) (T6 (Ws (T2 ju (Jz (Tf 0) (Jz (dC (.ty "str")) Th))) (T1 xg (Tf 0) (Tf 1)))) JX) (Tx (jQ (xz (JC (T1 x9 (T2 ju (Jz (Tf 0) (Jz (dC (.ty "list")) Th))) (T2 ju (Jz (Tf 1) (Jz (dC (.ty "list")) Th))))) (JC (T1 x9 (T2 ju (Jz (Tf 0) (Jz (dC (.ty "tuple")) Th))) (T2 ju (Jz (Tf 1) (Jz (dC (.ty "tuple")) Th)))))) (T6 (dC (.bl false))) JX) (Tx (jQ (JC (T1 x9 (T2 TV (Jz (Tf 0) Th)) (T2 TV (Jz (Tf 1) Th)))) (T6 (dC (.bl false))) JX) (Tx (jp (qW (Jz (T2 TV (Jz (Tf 1) Th)) Th)) (.one 2) (jQ (QZ (JC (J3 a (Jz (T1 qi (Tf 0) (Tf 2)) (Jz (T1 qi (Tf 1) (Tf 2)) Th))))) (T6 (dC (.bl false))) JX)) (T6 (dC (.bl true))))))))
def Kc:Nat->Yz->Res D
 | 0=>λ_=>.no
 |n+1=>TX 3 2 (Y9 (Kc n))
def Ri (n:Nat)(i j:Int):Kc (n+1) [.int i,.int j]=.ok (.bl (decide (i=j))):=by
 simp[Kc,Y9]
def yq:Nat->D->Bool
 | 0,_=>false
 |_+1,.int _=>true
 |n+1,.tup ds=>ds.all (yq n)&&Nat.ble ds.length 1000
 |n+1,.lst ds=>ds.all (yq n)&&Nat.ble ds.length 1000
 |_+1,_=>false
theorem GV:∀(n:Nat) (d:D),yq n d=true->Kc n [d,d]=.ok (.bl true)
 | 0,d,h=>by unfold yq at h;cases h
 |n+1,d,h=>by
  have seq:∀(mk:Yz->D) (ds:Yz),(mk=D.tup\/mk=D.lst)->ds.all (yq n)=true->ds.length<=1000->Kc (n+1) [mk ds,mk ds]=.ok (.bl true):=by
   intro mk ds hk b j;have c:QJ [.int ds.length]=.ok (JK 0 ds.length):=by rw[Kp () (),UF]
   have a:∃sd',jN (.one 2) (jQ (QZ (JC (J3 (Kc n) (Jz (T1 qi (Tf 0) (Tf 2)) (Jz (T1 qi (Tf 1) (Tf 2)) Th))))) (T6 (dC (.bl false))) JX) (JK 0 ds.length) [~~~(mk ds),~~~(mk ds),none]=.ok (.next sd')/\∃u,sd'=[~~~(mk ds),~~~(mk ds),u]:=
    Kz (P:=λ_ sd=>∃u,sd=[~~~(mk ds),~~~(mk ds),u]) ⟨none,rfl⟩ (by
     rintro i x sd hx ⟨u,rfl⟩;obtain⟨rfl,hi⟩:=Um hx;have f:jY ds (i:Int)=some ds[i]:=by rw[Y1 hi,Zqg hi]
     have g:=GV n ds[i] (UW.mp b _ (UD hi));rcases hk with hk|hk<;>subst hk<;>simp[f,g])
   obtain⟨sd',e,u,rfl⟩:=a;rcases hk with hk|hk<;>subst hk<;>simp[Kc,Y9,c,e]
  cases d with
  |int i=>rw[Ri];simp
  |tup ds =>
   unfold yq at h;rw[Ue,UP] at h;exact seq D.tup ds (.inl rfl) h.1 h.2
  |lst ds =>
   unfold yq at h;rw[Ue,UP] at h;exact seq D.lst ds (.inr rfl) h.1 h.2
  |_=>unfold yq at h;cases h
def za:FS:=(Tx (jp (iS (Tf 0)) (.tup [2,3]) (jQ (xz (JC (T1 (yI true) (Tf 2) (Tf 1))) (JC (T1 yJ (Tf 3) (T1 qi (Tf 1) (Tf 2))))) (T6 (dC (.bl false))) JX)) (T6 (dC (.bl true))))
def zd:Yz->Res D:=TX 4 2 za
def gh {r o:Jx}(b:T5 o):zd [Ts r,qI o]=.ok (.bl (J9 r o)):=by
 simp[zd,za];refine W2 (R:=λz=>(z.bind (jA (T6 (dC (.bl true))))).bind jL=.ok (.bl (J9 r o))) (P:=λi sd=>(∃u v,sd=[~~~(Ts r),~~~(qI o),u,v])/\J9 (r.take i) o=true) ⟨⟨none,none,rfl⟩,rfl⟩ ?_ ?_
 .rintro sd ⟨⟨u,v,rfl⟩,hu⟩;rw[Zql,UM] at hu;simp[hu]
 .rintro i x sd hx ⟨⟨u,v,rfl⟩,hu⟩;obtain⟨p,hp,rfl⟩:=QU hx;have a:=XM b p.1;cases q:J5 o p.1 with
  |none =>
   rw[q] at a;have z:qS o p=false:=by unfold qS;rw[q]
   rw[DJ hp z];exact .inr (.inr ⟨.bl false,by simp[qI,a],()⟩)
  |some w =>
   rw[q] at a;by_cases c:w<p.2
   .have z:qS o p=false:=by unfold qS;rw[q];exact Zo ()
    rw[DJ hp z];exact .inr (.inr ⟨.bl false,by simp[qI,a,c],()⟩)
   .have z:qS o p=true:=by unfold qS;rw[q];exact Zp ()
    exact .inl ⟨[~~~(Ts r),~~~(qI o),~~~(.int p.1),~~~(.int p.2)],.inl (by simp[qI,a,c]),⟨_,_,rfl⟩,LR hp hu z⟩
def yW:FS:=(Tx (TC 2 (T2 Wy (Jz (Tf 0) Th))) (Tx (jp (iS (Tf 1)) (.one 3) (jQ (JC (J3 zd (Jz (Tf 3) (Jz (Tf 2) Th)))) (T6 (dC (.bl true))) JX)) (T6 (dC (.bl false)))))
def qx:Yz->Res D:=TX 4 2 yW
def v6 {r:Jx}{ks:Jy}(b:T5 r)(d:r.length<=100):qx [Ts r,Tn ks]=.ok (.bl (ks.any λo=>J9 o r)):=by
 have f:=EQ d b;simp[qx,yW,f];refine W2 (R:=λz=>(z.bind (jA (T6 (dC (.bl false))))).bind jL=.ok (.bl (ks.any λo=>J9 o r))) (P:=λi sd=>(∃u,sd=[~~~(Ts r),~~~(Tn ks),~~~(qI r),u])/\∀o∈ks.take i,J9 o r=false) ⟨⟨none,rfl⟩,λ_ h=>by simp at h⟩ ?_ ?_
 .rintro sd ⟨⟨u,rfl⟩,hu⟩;rw[Zql,UM] at hu;have e:ks.any (λo=>J9 o r)=false:=Ve.mpr λo h=>by rw[hu o h];simp
  rw[e];simp
 .rintro i x sd hx ⟨⟨u,rfl⟩,hu⟩;obtain⟨o,hp,rfl⟩:=QU hx;have a:=gh (r:=o) b;cases q:J9 o r with
  |true =>
   rw[q] at a;have e:ks.any (λo=>J9 o r)=true:=U9.mpr ⟨o,Uj hp,q⟩;rw[e];exact .inr (.inr ⟨.bl true,by simp[a],()⟩)
  |false =>
   rw[q] at a;refine .inl ⟨[~~~(Ts r),~~~(Tn ks),~~~(qI r),~~~(Ts o)],.inl (by simp[a]),⟨_,rfl⟩,λy c=>?_⟩;rw[QD hp] at c;rcases Jc.mp c with z|z
   .exact hu y z
   .rw[Vt.mp z];exact q
def yX:FS:=(Tx (jH 2 (j1 Th)) (Tx (jp (iS (T2 XS (Jz (T2 XR (Jz (Tf 0) Th)) Th))) (.one 3) (Tx (jQ (JC (T1 xg (xW [2] (T2 TV (Jz (Tf 2) Th))) (Tf 1))) zr JX) (jQ (QZ (JC (xW [2] (J3 qx (Jz (Tf 3) (Jz (Tf 2) Th)))))) (Kw 2 (Tf 3)) JX))) (Kv 2)))
def zc:Yz->Res D:=jk 4 2 yX
def Rj (rs:Jy):(JE T7 (jR rs)).Pairwise λa b=>T7 a b=true:=Wa qP (Ga rs)
def Rk {rs:Jy}{en:Int}(ne:∀r∈rs,r ≠ [])(l:∀r∈rs,jo r)(m:∀r∈rs,r.length<=100)(t:rs.length<64)(v:0<=en):zc [Tn rs,.int en]=.ok (Tn ((qg rs).take en.toNat)):=by
 have dl:=Gb rs;have w:XR [Tn rs]=some (.lst ((JE T7 (jR rs)).map Ts)):=OC ne () ();have H:(JE T7 (jR rs)).length=(jR rs).length:=(Qe (ltb:=T7) _).length_eq;have y:XS [.lst ((JE T7 (jR rs)).map Ts)]=some (.lst ((qc rs).map Ts)):=OK (Rj rs) () λr A=>by
  have:=m r (kx.mp ((Qe (ltb:=T7) _).mem_iff.mp A));lia
 have c:=GP l;have n:∀r,r∈qc rs->r∈rs:=λr h=>u6.mp h;have B:=GO rs;have C:qg rs=(qc rs).filter (jq rs):=rfl;rw[C];simp[zc,yX,w,y];generalize qc rs=L at c n B;refine W2 (R:=λz=>(z.bind (jA (Kv 2))).bind xy=.ok (Tn ((L.filter (jq rs)).take en.toNat))) (P:=λi sd=>i<=L.length/\(((L.take i).filter (jq rs)).length:Int)<=en/\∃u,sd=[~~~(Tn rs),~~~(.int en),some (.own false (.lst (((L.take i).filter (jq rs)).map Ts))),u]) ⟨Uc _,by simpa using v,none,rfl⟩ ?_ ?_
 .rintro sd ⟨_,g,u,rfl⟩;rw[Zql,UM] at g ⊢;rw[Vh ()];simp[Tn]
 .rintro i x sd hx ⟨_,g,u,rfl⟩;obtain⟨r,hp,rfl⟩:=QU hx;have hi:=(Jd.mp hp).1;have j:=c (i+1) ();rw[QD hp,Vj,c i (),<- QD hp] at j;have j:xT ((L.take i).filter (jq rs)) r=(L.take (i+1)).filter (jq rs):=j;have E:((L.take i).filter (jq rs)).length<=i:=by
   have a:=Vd (jq rs) (L.take i);rw[UG] at a;lia
  rw[<- j];have p:=n r (Uj hp);have e:=v6 (r:=r) (ks:=(L.take i).filter (jq rs)) (Au (l r p)) (m r p);have d:L.filter (jq rs)=(L.take i).filter (jq rs)++(L.drop i).filter (jq rs):=by rw[<- List.filter_append,VG]
  generalize (L.take i).filter (jq rs)=ks at E e g d;have e:qx [Ts r,.lst (ks.map Ts)]=.ok (.bl (ks.any λo=>J9 o r)):=e;have hz:=JW (show ks.length<=1000 from ());by_cases f:(ks.length:Int)=en
  .have F:(L.filter (jq rs)).take en.toNat=ks:=by
    rw[d,List.take_left' ()]
   refine .inr (.inl ⟨[~~~(Tn rs),~~~(.int en),some (.own false (.lst (ks.map Ts))),~~~(Ts r)],by simp[f],?_⟩);rw[F];simp[Tn]
  .have s:∀b,(ks.any λo=>J9 o r)=b->xT ks r=if b=true then ks else ks++[r]:=λb G=>by unfold xT;rw[G]
   cases q:ks.any λo=>J9 o r with
   |true =>
    rw[q] at e;rw[s true q,Zd rfl];exact .inl ⟨[~~~(Tn rs),~~~(.int en),some (.own false (.lst (ks.map Ts))),~~~(Ts r)],.inl (by simp[f,e]),(),g,_,rfl⟩
   |false =>
    rw[q] at e;rw[s false q,Ze Zj];exact .inl ⟨[~~~(Tn rs),~~~(.int en),some (.own false (.lst ((ks++[r]).map Ts))),~~~(Ts r)],.inl (by simp[f,e,hz]),(),(by rw[Ua,Uv];lia),_,rfl⟩
def YE:FS:=(Tx (TC 2 (U3 zc (Jz (Tf 0) (Jz (T1 TL (Tf 1) (dC (.int 1))) Th)))) (Tx (jQ (JC (T1 yJ (T2 TV (Jz (Tf 2) Th)) (Tf 1))) (Aj "TooMany" (xJ (yK "more than ") (Tf 1))) JX) (T6 (T2 VU (Jz (Tf 2) Th)))))
def Q4:Yz->Res D:=jk 3 2 YE
def Rl (rs:Jy):(qg rs).length=(JI rs).length:=by
 rw[<- GQ,(Qe (ltb:=T7) _).length_eq]
def TJ (most:Int)(t:Jy):Option Jy:=if(t.length:Int)<=most then some t else none
def qb:Option Jy->Res D
 |some t=>.ok (Tn t)
 |none=>.ex "TooMany" []
def C7 {rs:Jy}{most:Int}(ne:∀r∈rs,r ≠ [])(h:∀r∈rs,jo r)(i:∀r∈rs,r.length<=100)(g:rs.length<64)(m:0<=most)(j:most<=1000):Q4 [Tn rs,.int most]=qb (TJ most (JI rs)):=by
 have d:=Rk (en:=most+1) ne h i g ();have n:(qg rs).length<=rs.length:=Zh (Vd _ _) (GO rs);have o:=Rl rs;have b:∀k:Jy,TV [Tn k]=some (.int k.length):=λk=>by
  show some (D.int (k.map Ts).length)=_;rw[Zql]
 unfold TJ;by_cases c:((JI rs).length:Int)<=most
 .rw[Zd c];rw[Vh ()] at d;have gs:VU [Tn (qg rs)]=some (.lst ((JE T7 (qg rs)).map Ts)):=GD (λr l=>ne r (u6.mp (Jb.mp l).1)) ();rw[GQ] at gs;have gs:VU [Tn (qg rs)]=some (Tn (JI rs)):=gs;have e:=b (qg rs);have f:¬most<((qg rs).length:Int):=()
  show _=Res.ok (Tn (JI rs));simp[Q4,YE,d,e,f,gs]
 .rw[Ze c];have e:=b ((qg rs).take (most+1).toNat);have f:most<(((qg rs).take (most+1).toNat).length:Int):=by
   rw[UG];lia
  generalize (qg rs).take (most+1).toNat=k at d e f;obtain⟨z,hz⟩:=OX (x:= "more than ") (a:=most) () ();show _=Res.ex "TooMany" [];simp[Q4,YE,d,e,f,hz]
def yy:FS:=(Tx (jH 2 (J3 Q4 (Jz (T1 qi (Tf 0) (dC (.int 0))) (Jz (Tf 1) Th)))) (Tx (jp (iS (zC (Tf 0) (Ux (dC (.int 1))) VT VT)) (.one 3) (λsd=>(jH 2 (J3 Q4 (Jz (T1 TL (Tf 2) (Tf 3)) (Jz (Tf 1) Th)))) (j0 [2] sd))) (Kv 2)))
def xN:Yz->Res D:=jk 4 2 yy
def qB (most:Int):Jy->List Jy->Option Jy
 |t,[]=>TJ most t
 |t,g::gs=>(TJ most t).bind λ_=>qB most (jO t g) gs
def C8 {most:Int}{t:Jy}(h:TJ most t=none)(gs:List Jy):qB most t gs=none:=by
 cases gs with
 |nil=>exact h
 |cons g gs=>show(TJ most t).bind _=none;rw[h];rfl
def WD {most:Int}{t:Jy}(h:(t.length:Int)<=most):TJ most t=some t:=Zd h
def YF {most:Int}{t:Jy}(h:most<(t.length:Int)):TJ most t=none:=Ze ()
def yZ:FS:=(Tx (jH 2 (T2 Wy (Jz (Tf 0) Th))) (Tx (jp (iS (Tf 1)) (.tup [3,4]) (Wz 2 (Tf 3) (T2 WU (Jz (Tf 4) (Jz (xW [2] (XL (Tf 2) (Tf 3) (Tf 4))) Th))))) (λsd=>(T6 (T2 Uk (Jz (BN (Tf 2)) Th))) (j0 [2] sd))))
def yc:Yz->Res D:=TX 5 2 yZ
def Qc (r o:Jx):Jx:=JE TM (JG r o)
def gg {r o:Jx}(d:r ≠ [])(or:T5 r)(f:T5 o)(q:r.length<=20)(lo:o.length<=20):yc [Ts r,Ts o]=.ok (Ts (Qc r o)):=by
 have g:Wy [.tup (r.map ja)]=some (qI r):=EQ (show r.length<=100 from ()) or;simp[yc,yZ,g,Ts];generalize h:Wz 2 _ _=b;obtain⟨sd',e,u,v,c⟩:=Kz (tg:=.tup [3,4]) (b:=b) (ds:=o.map ja) (sd:=[~~~(.tup (r.map ja)),~~~(.tup (o.map ja)),some (.own false (qI r)),none,none])
  (P:=λi sd=>∃u v,sd=[~~~(.tup (r.map ja)),~~~(.tup (o.map ja)),some (.own false (qI (JG r (o.take i)))),u,v]) ⟨none,none,rfl⟩ (by
   rintro i x sd hx ⟨u,v,rfl⟩;obtain⟨p,hp,rfl⟩:=QU hx;have j:JG r (o.take (i+1))=QY (JG r (o.take i)) p:=by
    rw[QD hp];unfold JG;rw[Vj];rfl
   have l:=X4 (o.take i) r;have s:(o.take i).length<=o.length:=by rw[UG];lia
   have hz:=JW (show(JG r (o.take i)).length<=1000 by lia);have m:=XM (WP (o.take i) r or) p.1;have a:=ET (JG r (o.take i)) p.1 (if(J5 (JG r (o.take i)) p.1).getD p.2 > p.2 then(J5 (JG r (o.take i)) p.1).getD p.2 else p.2);have n:((J5 (JG r (o.take i)) p.1).map D.int).getD (.int p.2)=.int ((J5 (JG r (o.take i)) p.1).getD p.2):=by cases J5 (JG r (o.take i)) p.1<;>rfl
   subst h;have es:QY (JG r (o.take i)) p=jC (JG r (o.take i)) p.1 (if(J5 (JG r (o.take i)) p.1).getD p.2 > p.2 then(J5 (JG r (o.take i)) p.1).getD p.2 else p.2):=rfl;rw[j,es,<- a];simp[qI,m,n,hz])
 rw[e];subst c;have l:=X4 o r;have hs:=Nf (r:=JG r o) (Ei d f) ();simp[hs,Qc]
def AD:FS:=(Tx (jH 2 (T1 Cs (VR [none,some 1] (iS (Tf 0)) (.one 0) (JC (J3 qx (Jz (Tf 0) (Jz (Tf 1) Th)))) (Tf 0)) (VR [none,some 0] (iS (Tf 1)) (.one 0) (JC (J3 qx (Jz (Tf 0) (Jz (Tf 1) Th)))) (Tf 0)))) (Tx (TC 3 (VR [none,some 0] (iS (Tf 1)) (.one 0) (QZ (JC (J3 qx (Jz (Tf 0) (Jz (Tf 1) Th))))) (Tf 0))) (Tx (jp (iS (Tf 0)) (.one 4) (jQ (QZ (JC (J3 qx (Jz (Tf 4) (Jz (Tf 1) Th))))) (KS 2 (JV [none,some 4] (iS (Tf 3)) (.one 0) (J3 yc (Jz (Tf 1) (Jz (Tf 0) Th))))) JX)) (Kv 2))))
def YG:Yz->Res D:=jk 5 2 AD
def Qx (f g:Jy):Jy:=f.flatMap λr=>g.map (Qc r)
def yD {f g:Jy}{q:Jx}:q∈Qx f g↔∃r∈f,∃o∈g,Qc r o=q:=by
 unfold Qx;rw[List.mem_flatMap];refine exists_congr λr=>and_congr_right λ_=>?_;rw[List.mem_map]
def C9 (f g:Jy):(Qx f g).length=f.length*g.length:=by
 unfold Qx
 induction f with
 |nil=>simp
 |cons r f a=>rw[List.flatMap_cons,Ua,a,Zql,Zu,Nat.succ_mul,Nat.add_comm]
def Rm {a b:Jx}(c:T5 a)(p:b.Perm a)(t:Int):J5 b t=J5 a t:=by
 have d:T5 b:=((p.map λz:Int×Int=>z.1).nodup_iff).mpr c;cases h:J5 a t with
 |some w=>exact(Ej d).mp (p.mem_iff.mpr (Qp h))
 |none =>
  cases e:J5 b t with
  |none=>rfl
  |some w =>
   have:=(Ej c).mp (p.mem_iff.mp (Qp e));rw[h] at this;cases this
def AE {r o:Jx}(or:T5 r)(a:T5 o)(t:Int):J5 (Qc r o) t=jw (J5 r t) (J5 o t):=by
 rw[<- ZJ t o r a];exact Rm (WP o r or) (Qe (ltb:=TM) _) t
def Xp {r o:Jx}(a:JRow r)(b:JRow o):JRow (Qc r o):=by
 have g:JG r o ≠ []:=Ei a.ne b.once;have c:=WP o r a.once;refine⟨λz=>g ?_,?_,λp hp=>?_⟩
 .have:=(Qe (ltb:=TM) (JG r o)).length_eq;unfold Qc at z;rw[z,ZC] at this;exact Je.mp this.symm
 .unfold jo Qc;have st:=Mn c;have i:(JE TM (JG r o)).Pairwise λx y=>x.1≠y.1:=by
   have:T5 (JE TM (JG r o)):=(((Qe (ltb:=TM) (JG r o)).map λz:Int×Int=>z.1).nodup_iff).mpr c;unfold T5 List.Nodup at this;rw[UT] at this;exact this
  rw[UT];refine(List.Pairwise.and st i).imp λ{x y} h=>?_;have j:=h.1;rw[KN] at j;have l:=h.2;lia
 .have hp':=(Qe (ltb:=TM) (JG r o)).mem_iff.mp hp;have d:=c.look (t:=p.1) (w:=p.2) hp';rw[ZJ p.1 o r b.once] at d;cases e:J5 r p.1 with
  |some w=>exact a.bnd (p.1,w) (Qp e)
  |none =>
   cases f:J5 o p.1 with
   |some w=>exact b.bnd (p.1,w) (Qp f)
   |none=>rw[e,f] at d;cases d
def GW {r o:Jx}(a:JRow r)(b:JRow o):J9 r (Qc r o)=true:=by
 rw[xC];intro p hp;have c:=a.once.look (t:=p.1) (w:=p.2) hp;rw[AE a.once b.once,c];cases J5 o p.1 with
 |none=>exact⟨p.2,rfl,U6 _⟩
 |some y=>exact⟨_,rfl,by split<;>lia⟩
def GX {r o:Jx}(b:JRow r)(a:JRow o):J9 o (Qc r o)=true:=by
 rw[xC];intro p hp;have c:=a.once.look (t:=p.1) (w:=p.2) hp;rw[AE b.once a.once,c];cases J5 r p.1 with
 |none=>exact⟨p.2,rfl,U6 _⟩
 |some y=>exact⟨_,rfl,by split<;>lia⟩
def CA {r o q:Jx}(j:JRow r)(l:JRow o)(g:J9 r q=true)(h:J9 o q=true):J9 (Qc r o) q=true:=by
 rw[xC] at g h ⊢;intro p hp;have c:=(Xp j l).once.look (t:=p.1) (w:=p.2) hp;rw[AE j.once l.once] at c;cases d:J5 r p.1 with
 |none =>
  rw[d] at c;exact h p (Qp c)
 |some x =>
  cases i:J5 o p.1 with
  |none =>
   rw[d,i] at c;cases c;exact g (p.1,p.2) (Qp d)
  |some y =>
   rw[d,i] at c;obtain⟨w,hw,a⟩:=g (p.1,x) (Qp d);obtain⟨m,f,b⟩:=h (p.1,y) (Qp i);have hw:J5 q p.1=some w:=hw;rw[hw] at f;cases f;have e:(if x > y then x else y)=p.2:=Zqi c;have a:x<=w:=a;have b:y<=w:=b;exact⟨w,hw,by rw[<- e];split<;>lia⟩
def TR (g:Jy)(r:Jx):Bool:=g.any λo=>J9 o r
def gS {g:Jy}{r:Jx}:TR g r=true↔∃o∈g,J9 o r=true:=U9
def QK (f g:Jy)(l:Jy):Jy:=(l.filter λr => !TR g r).flatMap λr=>(g.filter λo => !TR f o).map (Qc r)
def Ki (f g:Jy):Jy:=(f.filter (TR g)++g.filter (TR f))++QK f g f
def GY (f g l:Jy):(QK f g l).length=(l.filter λr => !TR g r).length*(g.filter λo => !TR f o).length:=by
 unfold QK;generalize l.filter (λr => !TR g r)=a
 induction a with
 |nil=>simp
 |cons r a b=>rw[List.flatMap_cons,Ua,b,Zql,Zu,Nat.succ_mul,Nat.add_comm]
theorem AF {α: Type}(p:α -> Bool):∀l:List α,(l.filter p).length+(l.filter λx => !p x).length=l.length
 | []=>rfl
 |x::l=>by
  have:=AF p l;cases h:p x with
  |true=>rw[VH h,VI (by rw[h];simp),Zu,Zu];lia
  |false=>rw[VI (by rw[h];simp),VH (by rw[h];rfl),Zu,Zu];lia
def GZ {f g:Jy}(a:∀r∈f,JRow r)(b:∀r∈g,JRow r):∀q∈Ki f g,JRow q:=λq hq=>by
 unfold Ki QK at hq;rcases Jc.mp hq with hq|hq
 .rcases Jc.mp hq with hq|hq
  .exact a q (Jb.mp hq).1
  .exact b q (Jb.mp hq).1
 .obtain⟨r,c,hq⟩:=Ju.mp hq;obtain⟨o,d,rfl⟩:=Ja.mp hq;exact Xp (a r (Jb.mp c).1) (b o (Jb.mp d).1)
def Rn {f g:Jy}(e:∀r∈f,JRow r)(h:∀r∈g,JRow r)(q:Jx):(∃x∈Ki f g,J9 x q=true)↔(∃x∈Qx f g,J9 x q=true):=by
 constructor
 .rintro⟨x,hx,b⟩;unfold Ki QK at hx;rcases Jc.mp hx with hx|hx
  .rcases Jc.mp hx with hx|hx
   .obtain⟨hx,i⟩:=Jb.mp hx;obtain⟨o,a,c⟩:=gS.mp i;exact⟨Qc x o,yD.mpr ⟨x,hx,o,a,rfl⟩,CA (e x hx) (h o a) b (Kb c b)⟩
   .obtain⟨hx,i⟩:=Jb.mp hx;obtain⟨o,a,c⟩:=gS.mp i;exact⟨Qc o x,yD.mpr ⟨o,a,x,hx,rfl⟩,CA (e o a) (h x hx) (Kb c b) b⟩
  .obtain⟨r,d,hx⟩:=Ju.mp hx;obtain⟨o,a,rfl⟩:=Ja.mp hx;exact⟨_,yD.mpr ⟨r,(Jb.mp d).1,o,(Jb.mp a).1,rfl⟩,b⟩
 .rintro⟨x,hx,b⟩;obtain⟨r,d,o,a,rfl⟩:=yD.mp hx;have u1:=Kb (GW (e r d) (h o a)) b;have u2:=Kb (GX (e r d) (h o a)) b;unfold Ki QK;cases j:TR g r with
  |true=>exact⟨r,Uu _ (Uu _ (Jb.mpr ⟨d,j⟩)),u1⟩
  |false =>
   cases l:TR f o with
   |true=>exact⟨o,Uu _ (Ug _ (Jb.mpr ⟨a,l⟩)),u2⟩
   |false=>exact⟨Qc r o,Ug _ (Ju.mpr ⟨r,Jb.mpr ⟨d,by rw[j];rfl⟩,Ja.mpr ⟨o,Jb.mpr ⟨a,by rw[l];rfl⟩,rfl⟩⟩),b⟩
def vJ {f g:Jy}(j:∀r∈f,JRow r)(q:∀r∈g,JRow r)(E:f.length+g.length+f.length*g.length<=1000):YG [Tn f,Tn g]=.ok (Tn (Ki f g)):=by
 have l:∀(ks:Jy) (r:Jx),JRow r->qx [Ts r,Tn ks]=.ok (.bl (TR ks r)):=λks r h=>v6 h.once (by have:=h.len;lia);have w:Ko (.one 0) (JC (J3 qx (Jz (Tf 0) (Jz (Tf 1) Th)))) (Tf 0) [none,~~~(Tn g)] (f.map Ts)=.ok ((f.filter (TR g)).map Ts):=
  Aa (s:=λr=>[~~~(Ts r),~~~(Tn g)]) (λr _=>rfl) (λr d=>by simp[l g r (j r d)]) (λr _ _=>())
 have y:Ko (.one 0) (JC (J3 qx (Jz (Tf 0) (Jz (Tf 1) Th)))) (Tf 0) [none,~~~(Tn f)] (g.map Ts)=.ok ((g.filter (TR f)).map Ts):=
  Aa (s:=λr=>[~~~(Ts r),~~~(Tn f)]) (λr _=>rfl) (λr d=>by simp[l f r (q r d)]) (λr _ _=>())
 have t:Ko (.one 0) (QZ (JC (J3 qx (Jz (Tf 0) (Jz (Tf 1) Th))))) (Tf 0) [none,~~~(Tn f)] (g.map Ts)=.ok ((g.filter λo => !TR f o).map Ts):=
  Aa (s:=λr=>[~~~(Ts r),~~~(Tn f)]) (λr _=>rfl) (λr d=>by simp[l f r (q r d)]) (λr _ _=>())
 have N:=AF (TR g) f;have F:=AF (TR f) g;have a:∀o∈g.filter (λo => !TR f o),JRow o:=λo m=>q o (Jb.mp m).1;have z:Ki f g=(f.filter (TR g)++g.filter (TR f))++QK f g f:=rfl;have bl:∀i,(QK f g (f.take i)).length<=min i f.length*g.length:=λi=>by
  rw[GY];refine Vk ?_ (Vd _ _);have:=Vd (λr => !TR g r) (f.take i);rw[UG] at this;exact this
 have B:∀(i:Nat) (r:Jx),f[i]? = some r->QK f g (f.take (i+1))=QK f g (f.take i)++(if TR g r=true then[] else(g.filter λo => !TR f o).map (Qc r)):=λi r d=>by
  unfold QK;rw[QD d,List.filter_append,List.flatMap_append];cases c:TR g r with
  |true=>rw[VI (by rw[c];simp),Zd rfl];rfl
  |false=>rw[VH (by rw[c];rfl),Ze Zj];simp
 generalize O:(g.filter λo => !TR f o)=rest at t a B F;have Q:rest.length<=g.length:=()
 generalize C:f.filter (TR g)++g.filter (TR f)=A at z;have R:A.length<=f.length+g.length:=by rw[<- C,Ua];lia
 have G:(f.filter (TR g)).length+(g.filter (TR f)).length<=sizeLine:=Qz ();have H:(f.filter (TR g)).map Ts++(g.filter (TR f)).map Ts=A.map Ts:=by rw[<- C,Uh]
 obtain⟨sd',e,u4,u⟩:=Kz (tg:=.one 4) (b:=(jQ (QZ (JC (J3 qx (Jz (Tf 4) (Jz (Tf 1) Th))))) (KS 2 (JV [none,some 4] (iS (Tf 3)) (.one 0) (J3 yc (Jz (Tf 1) (Jz (Tf 0) Th))))) JX)) (ds:=f.map Ts) (sd:=[~~~(Tn f),~~~(Tn g),some (.own false (.lst (A.map Ts))),~~~(.lst (rest.map Ts)),none])
  (P:=λi sd=>∃(u4:Option SV),sd=[~~~(Tn f),~~~(Tn g),some (.own false (.lst ((A++QK f g (f.take i)).map Ts))),~~~(.lst (rest.map Ts)),u4]) ⟨none,by rw[List.take_zero];simp[QK]⟩ (by
   rintro i x sd hx ⟨u4,rfl⟩;obtain⟨r,d,rfl⟩:=QU hx;have hi:=(Jd.mp d).1;have n:=Uj d;have p:=l g r (j r n);have S:=bl i;have I:(min i f.length+1)*g.length<=f.length*g.length:=Vk () (Zf _);rw[Nat.succ_mul] at I;rw[B i r d];cases c:TR g r with
   |true =>
    rw[c] at p;rw[Zd rfl,ZA];exact⟨[~~~(Tn f),~~~(Tn g),some (.own false (.lst ((A++QK f g (f.take i)).map Ts))),~~~(.lst (rest.map Ts)),~~~(Ts r)],by simp[p],_,rfl⟩
   |false =>
    rw[c] at p;rw[Ze Zj];have v:TW (.one 0) (J3 yc (Jz (Tf 1) (Jz (Tf 0) Th))) [none,~~~(Ts r)] (rest.map Ts)=.ok (rest.map λo=>Ts (Qc r o)):=Q5 λo m=>by
     have E:=(j r n).len;have T:=(a o m).len;simp[gg (j r n).ne (j r n).once (a o m).once () ()]
    have J:(rest.map (Qc r)).map Ts=rest.map λo=>Ts (Qc r o):=by rw[Zw];rfl
    have sz:(A++QK f g (f.take i)).length+rest.length<=sizeLine:=Qz (by rw[Ua];lia);have K:=JW (show rest.length<=1000 from ());refine⟨[~~~(Tn f),~~~(Tn g),some (.own false (.lst ((A++(QK f g (f.take i)++rest.map (Qc r))).map Ts))),~~~(.lst (rest.map Ts)),~~~(Ts r)],?_,_,rfl⟩;rw[<- Uy];generalize A++QK f g (f.take i)=acc at sz ⊢;rw[Uh,J];simp[p,v,K,sz])
 subst u;rw[Zql,UM] at e;have L:=JW (show f.length<=1000 from ());have M:=JW (show g.length<=1000 from ());rw[z];simp[Tn] at w y t e ⊢;simp[YG,AD,w,y,t,L,M,G,H,e]
def YH:FS:=(Tx (TC 2 (J3 Q4 (Jz (T1 qi (Tf 0) (dC (.int 0))) (Jz (Tf 1) Th)))) (Tx (jp (iS (zC (Tf 0) (Ux (dC (.int 1))) VT VT)) (.one 3) (TC 2 (J3 Q4 (Jz (U3 YG (Jz (Tf 2) (Jz (Tf 3) Th))) (Jz (Tf 1) Th))))) (T6 (Tf 2))))
def WE:Yz->Res D:=TX 4 2 YH
def Qd (t f:Jy):Jy:=JI (Qx t f)
structure AllOk (fs:List Jy)(t:Jy):Prop where
 row:∀r∈t,JRow r
 abv:∀r∈t,∀f∈fs,∃s∈f,J9 s r=true
 least:∀q:Jx,(∀f∈fs,∃s∈f,J9 s q=true)->∃r∈t,J9 r q=true
 anti:∀r∈t,∀s∈t,J9 r s=true->r=s
 strict:t.Pairwise λa b=>T7 a b=true
def YI {r:Jx}(o:T5 r):J9 r r=true:=xC.mpr λp hp=>⟨p.2,o.look (t:=p.1) (w:=p.2) hp,U6 _⟩
def CB {rs:Jy}:∀r∈JI rs,∀s∈JI rs,J9 r s=true->r=s:=λr a s hs b=>yC.mp (qD.mp hs).2 r (qD.mp a).1 b
def Ha {f:Jy}(h:∀r∈f,JRow r):AllOk [f] (JI f):=by
 refine⟨λr a=>h r (qD.mp a).1,λr a g c=>?_,λq d=>?_,CB,Wb f⟩
 .rw[Vt.mp c];exact⟨r,(qD.mp a).1,YI (h r (qD.mp a).1).once⟩
 .obtain⟨s,hs,e⟩:=d f (Vt.mpr rfl);obtain⟨r,a,b⟩:=Xk (λr a=>⟨(h r a).once,(h r a).rise⟩) hs;exact⟨r,a,Kb b e⟩
def Hb {fs:List Jy}{t f:Jy}(A:AllOk fs t)(h:∀r∈f,JRow r):AllOk (fs++[f]) (Qd t f):=by
 have b:∀q∈Qx t f,JRow q:=λq d=>by
  obtain⟨r,a,o,c,rfl⟩:=yD.mp d;exact Xp (A.row r a) (h o c)
 refine⟨λr a=>b r (qD.mp a).1,λq d g e=>?_,λq d=>?_,CB,Wb _⟩
 .obtain⟨r,a,o,c,rfl⟩:=yD.mp (qD.mp d).1;rcases Jc.mp e with z|z
  .obtain⟨s,hs,i⟩:=A.abv r a g z;exact⟨s,hs,Kb i (GW (A.row r a) (h o c))⟩
  .rw[Vt.mp z];exact⟨o,c,GX (A.row r a) (h o c)⟩
 .obtain⟨r,a,i⟩:=A.least q λg e=>d g (Uu _ e);obtain⟨o,c,j⟩:=d f (Ug _ (Vt.mpr rfl));have m:Qc r o∈Qx t f:=yD.mpr ⟨r,a,o,c,rfl⟩;obtain⟨s,hs,l⟩:=Xk (λr a=>⟨(b r a).once,(b r a).rise⟩) m;exact⟨s,hs,Kb l (CA (A.row r a) (h o c) i j)⟩
def CC {rs:Jy}(h:∀r∈rs,JRow r)(c:rs ≠ []):JI rs ≠ []:=λz=>by
 cases rs with
 |nil=>exact c rfl
 |cons r rs =>
  obtain⟨s,hs,_⟩:=Xk (λr b=>⟨(h r b).once,(h r b).rise⟩) (Zqs (a:=r) (l:=rs));rw[z] at hs;cases hs
def Ro {f g:Jy}(c:f ≠ [])(d:g ≠ []):Qx f g ≠ []:=λz=>by
 have:=C9 f g;rw[z,ZC] at this;have a:=Jm.mpr c;have b:=Jm.mpr d;have:=Nat.mul_pos a b;lia
def Hc {a b:Jy}(i:∀r∈a,JRow r)(d:∀r∈b,JRow r)(h:∀q,(∃x∈a,J9 x q=true)↔∃x∈b,J9 x q=true):JI a=JI b:=by
 have f:∀{a b:Jy},(∀r∈a,JRow r)->(∀r∈b,JRow r)->(∀q,(∃x∈a,J9 x q=true)↔∃x∈b,J9 x q=true)->∀r,r∈JI a->r∈JI b:=by
  intro a b i d h r m;obtain⟨n,p⟩:=qD.mp m;obtain⟨y,s,t⟩:=(h r).mp ⟨r,n,YI (i r n).once⟩;obtain⟨j,l,o⟩:=Xk (λr m=>⟨(d r m).once,(d r m).rise⟩) s;have c:=(qD.mp l).1;have u1:=Kb o t;obtain⟨x,hx,g⟩:=(h j).mpr ⟨j,c,YI (d j c).once⟩;have e:=yC.mp p x hx (Kb g u1);rw[e] at g;rw[C2 (i r n).once (d j c).once (i r n).rise (d j c).rise g u1];exact l
 exact V8 qP (Wb a) (Wb b) λr=>⟨f i d h r,f d i (λq=>(h q).symm) r⟩
def CD {f g:Jy}(a:∀r∈f,JRow r)(b:∀r∈g,JRow r):∀q∈Qx f g,JRow q:=λq c=>by
 obtain⟨r,d,o,e,rfl⟩:=yD.mp c;exact Xp (a r d) (b o e)
def Rp {t g:Jy}(a:∀r∈t,JRow r)(b:∀r∈g,JRow r):JI (Ki t g)=Qd t g:=Hc (GZ a b) (CD a b) (Rn a b)
def j2 (most:Int):Jy->List Jy->Option Jy
 |t,[]=>some t
 |t,g::gs=>(TJ most (Qd t g)).bind λt'=>j2 most t' gs
def Xq (most:Int)(t g:Jy)(gs:List Jy):j2 most t (g::gs)=(TJ most (Qd t g)).bind λt'=>j2 most t' gs:=rfl
def jE (most:Int)(f:Jy)(fs:List Jy):Option Jy:=(TJ most (JI f)).bind λt=>j2 most t fs
def Wd {most:Int}{t t':Jy}(h:TJ most t=some t'):t'=t/\(t.length:Int)<=most:=by
 unfold TJ at h
 split at h
 .rename_i c;cases h;exact⟨rfl,c⟩
 .cases h
def Rq {t g:Jy}(a:∀r∈t,JRow r)(b:∀r∈g,JRow r)(c:t ≠ [])(d:g ≠ []):Qd t g ≠ []:=CC (CD a b) (Ro c d)
theorem Hd {most:Int}:∀{gs fs:List Jy} {t t':Jy},AllOk fs t->(t.length:Int)<=most->t ≠ []->(∀g∈gs,g ≠ []/\∀r∈g,JRow r)->j2 most t gs=some t'->AllOk (fs++gs) t'/\(t'.length:Int)<=most/\t' ≠ []
 | [],fs,t,t',A,hl,hn,_,h=>by
  cases h;rw[ZA];exact⟨A,hl,hn⟩
 |g::gs,fs,t,t',A,hl,hn,hg,h=>by
  unfold j2 at h;cases q:TJ most (Qd t g) with
  |none=>rw[q] at h;cases h
  |some c =>
   rw[q] at h;obtain⟨e,b⟩:=Wd q;have a:=hg g Zqs;have:=Hd (Hb A a.2) b (Rq A.row a.2 hn a.1) (λx hx=>hg x (Zqm _ hx)) (t':=t') (by rw[<- e];exact h);rw[Uy] at this;exact this
def Gx (a:f ≠ []/\∀r∈f,JRow r)(b:∀g∈fs,g ≠ []/\∀r∈g,JRow r)(h:jE most f fs=some t):AllOk (f::fs) t/\(t.length:Int)<=most/\t ≠ []:=by
 unfold jE at h;cases q:TJ most (JI f) with
 |none=>rw[q] at h;cases h
 |some d =>
  rw[q] at h;obtain⟨e,c⟩:=Wd q;exact Hd (fs:=[f]) (Ha a.2) c (CC a.2 a.1) b (by rw[<- e];exact h)
def Rr {f:Jy}{fs:List Jy}{most:Int}(n:f ≠ []/\∀r∈f,JRow r)(c:∀g∈fs,g ≠ []/\∀r∈g,JRow r)(s:f.length<64)(w:0<=most)(B:most<=1000)(M:fs.length<=900)
 (sz:∀(i:Nat) (t g:Jy),AllOk (f::fs.take i) t->(t.length:Int)<=most->fs[i]? = some g->(Ki t g).length<64/\t.length+g.length+t.length*g.length<=1000):
 WE [.lst ((f::fs).map Tn),.int most]=qb (jE most f fs):=by
 have e:=C7 (rs:=f) (most:=most) (λr a=>(n.2 r a).ne) (λr a=>(n.2 r a).rise) (λr a=>by have:=(n.2 r a).len;lia) s w B;have o:jY ((f::fs).map Tn) 0=some (Tn f):=by
  rw[show((0:Int))=((0:Nat):Int) from rfl,Y1 ()];rfl
 have G:Qk (Tn f::fs.map Tn) (some 1) none none=fs.map Tn:=by
  rw[GJ _ ()];rfl
 unfold jE;cases q:TJ most (JI f) with
 |none =>
  rw[q] at e;have e:Q4 [Tn f,.int most]=.ex "TooMany" []:=e;show _=Res.ex "TooMany" [];simp[WE,YH] at o ⊢;simp[o,e]
 |some h =>
  rw[q] at e;obtain⟨C,H⟩:=Wd q;have e:Q4 [Tn f,.int most]=.ok (Tn h):=e;show _=qb (j2 most h fs);have I:AllOk [f] h:=by rw[C];exact Ha n.2
  have m:((jN (.one 3) (TC 2 (J3 Q4 (Jz (U3 YG (Jz (Tf 2) (Jz (Tf 3) Th))) (Jz (Tf 1) Th)))) (fs.map Tn) [~~~(.lst ((f::fs).map Tn)),~~~(.int most),~~~(Tn h),none]).bind (jA (T6 (Tf 2)))).bind jL=qb (j2 most h fs):=by
   refine Cr (R:=λz=>(z.bind (jA (T6 (Tf 2)))).bind jL=qb (j2 most h fs)) (P:=λi sd=>∃(t:Jy) (u:Option SV),sd=[~~~(.lst ((f::fs).map Tn)),~~~(.int most),~~~(Tn t),u]/\AllOk (f::fs.take i) t/\(t.length:Int)<=most/\j2 most t (fs.drop i)=j2 most h fs) ⟨h,none,rfl,I,by rw[C];exact H,rfl⟩ ?_ ?_
   .rintro sd ⟨t,u,rfl,A,lt,j⟩;rw[Zql,UK] at j;rw[<- j];simp[qb,j2]
   .rintro i x sd hx ⟨t,u,rfl,A,lt,j⟩;obtain⟨g,l,rfl⟩:=QU hx;have hi:=(Jd.mp l).1;have p:=Uj l;obtain⟨J,K⟩:=sz i t g A lt l;have E:=vJ (f:=t) (g:=g) A.row (c g p).2 K;have b:=GZ A.row (c g p).2;have d:=C7 (rs:=Ki t g) (most:=most) (λr a=>(b r a).ne) (λr a=>(b r a).rise) (λr a=>by have:=(b r a).len;lia) J w B;rw[Rp A.row (c g p).2] at d;have L:fs.drop i=g::fs.drop (i+1):=by
     rw[Uz hi];rw[Zqg hi] at l;rw[Zqi l]
    rw[L,Xq] at j;cases y:TJ most (Qd t g) with
    |none =>
     rw[y] at d j;have d:Q4 [Tn (Ki t g),.int most]=.ex "TooMany" []:=d;refine .inr ⟨"TooMany",[],by simp[E,d],?_⟩;rw[<- j];rfl
    |some v =>
     rw[y] at d j;obtain⟨F,s⟩:=Wd y;have d:Q4 [Tn (Ki t g),.int most]=.ok (Tn v):=d;refine .inl ⟨[~~~(.lst ((f::fs).map Tn)),~~~(.int most),~~~(Tn v),~~~(Tn g)],by simp[E,d],v,_,rfl,?_,by rw[F];exact s,j⟩;rw[QD l,F];exact Hb A (c g p).2
  simp[WE,YH] at o m ⊢;simp[o,e,G,m]
def Rs {f g:Jy}(i:g ≠ []):(Ki f g).length<=f.length*g.length+g.length:=by
 unfold Ki;rw[Ua,Ua,GY];have a:=AF (TR g) f;have b:=Vd (TR f) g;have c:=Vd (λo => !TR f o) g;have p:0<g.length:=Jm.mpr i;have d:=Vk (Zf (f.filter λr => !TR g r).length) c;have e:=Nat.le_mul_of_pos_right (f.filter (TR g)).length p;have h:f.length*g.length=(f.filter (TR g)).length*g.length+(f.filter λr => !TR g r).length*g.length:=by rw[<- Nat.add_mul,a]
 lia
def yY:FS:=(T6 (T2 Uk (Jz (JV [none,none,some 1] (iS (Tf 0)) (.tup [0,1]) (jr (Jz (Tf 0) (Jz (T1 TL (Tf 1) (Tf 2)) Th)))) Th)))
def y1:Yz->Res D:=TX 2 2 yY
def Qr (r:Jx)(w:Int):Jx:=r.map λp=>(p.1,p.2+w)
def gf {r:Jx}{w:Int}(b:r.length<=1000):y1 [Ts r,.int w]=.ok (Ts (Qr r w)):=by
 have a:TW (.tup [0,1]) (jr (Jz (Tf 0) (Jz (T1 TL (Tf 1) (Tf 2)) Th))) [none,none,~~~(.int w)] (r.map ja)=.ok (r.map λp=>ja (p.1,p.2+w)):=Q5 λp hp=>by
  simp[ja]
 simp[y1,yY,Ts,a,JW b,Qr]
def yU:FS:=(T6 (JV [none,some 1] (iS (Tf 0)) (.one 0) (J3 y1 (Jz (Tf 0) (Jz (Tf 1) Th)))))
def y0:Yz->Res D:=jk 2 2 yU
def Q8 (f:Jy)(w:Int):Jy:=f.map λr=>Qr r w
def ge {f:Jy}{w:Int}(b:f.length<=1000)(c:∀r∈f,r.length<=1000):y0 [Tn f,.int w]=.ok (Tn (Q8 f w)):=by
 have a:TW (.one 0) (J3 y1 (Jz (Tf 0) (Jz (Tf 1) Th))) [none,~~~(.int w)] (f.map Ts)=.ok (f.map λr=>Ts (Qr r w)):=Q5 λr h=>by
  simp[gf (w:=w) (c r h)]
 have e:(Q8 f w).map Ts=f.map λr=>Ts (Qr r w):=by unfold Q8;rw[Zw];rfl
 simp[y0,yU,Tn,a,JW b,e]
def AG:FS:=(T6 (J3 WE (Jz (JV [none,none,some 1] (iS (Tf 0)) (.tup [0,1]) (U3 y0 (Jz (T1 qi (Tf 2) (Tf 0)) (Jz (Tf 1) Th)))) (Jz (Tf 2) Th))))
def KE:Yz->Res D:=TX 3 3 AG
def qd (fs:List Jy)(t:Int):Jy:=fs.getD t.toNat []
def AH {fs:List Jy}{t:Int}(a:0<=t)(b:t<(fs.length:Int)):qd fs t∈fs:=by
 unfold qd;rw[Uf,Zqg ()];exact UD _
def He {fs:List Jy}{t:Int}(a:0<=t)(b:t<(fs.length:Int)):jY (fs.map Tn) t=some (Tn (qd fs t)):=by
 obtain⟨k,rfl⟩:∃k:Nat,t=(k:Int):=⟨t.toNat,()⟩;rw[Y1 (by rw[Zql];lia),Zv];unfold qd;rw[UF,Uf,Zqg ()];rfl
def Rt {r:Jx}{fs:List Jy}(c:∀p∈r,0<=p.1/\p.1<(fs.length:Int))(d:∀f∈fs,f.length<=1000/\∀r∈f,r.length<=1000):
 TW (.tup [0,1]) (U3 y0 (Jz (T1 qi (Tf 2) (Tf 0)) (Jz (Tf 1) Th))) [none,none,~~~(.lst (fs.map Tn))] (r.map ja)=.ok ((r.map λp=>Q8 (qd fs p.1) p.2).map Tn):=by
 rw[Zw];exact Q5 λp hp=>by
  obtain⟨a,b⟩:=c p hp;have e:=He a b;obtain⟨g,h⟩:=d _ (AH a b);have i:=ge (w:=p.2) g h;simp[ja,e,i]
def YJ:FS:=(T6 (J3 xN (Jz (JV [none,some 1,some 2] (iS (Tf 0)) (.one 0) (J3 KE (Jz (Tf 0) (Jz (Tf 1) (Jz (Tf 2) Th))))) (Jz (Tf 2) Th))))
def QL:Yz->Res D:=jk 3 3 YJ
def YK:FS:=(T6 (JV [none,some 1,some 2] (iS (Tf 0)) (.one 0) (J3 QL (Jz (Tf 0) (Jz (Tf 1) (Jz (Tf 2) Th))))))
def We:Yz->Res D:=jk 3 3 YK
def YL:jF:=(qo (Xh [none,some 1,some 2] (iS (Tf 0)) (.one 0) (xj 4 [1] (J3 QL (Jz (Tf 0) (Jz (Tf 1) (Jz (Tf 2) Th)))))))
def WF:Yz->HP->Wr (D×HP):=xE 3 3 YL
def yV:FS:=(T6 (j1 (Jz (jr (Jz (jr (Jz (Tf 0) (Jz (dC (.int 0)) Th))) Th)) Th)))
def x6:Yz->Res D:=jk 1 1 yV
@[simp]def fL (t:Int):x6 [.int t]=.ok (Tn [[(t,0)]]):=by
 simp[x6,yV,Tn,Ts,ja]
def AI:FS:=(Tx (TC 3 (JV [none] (qW (Jz (T2 TV (Jz (Tf 0) Th)) Th)) (.one 0) (U3 x6 (Jz (Tf 0) Th)))) (Tx (jp (qW (Jz (Tf 1) Th)) (.one 4) (TC 3 (J3 We (Jz (Tf 0) (Jz (Tf 3) (Jz (Tf 2) Th)))))) (T6 (Tf 3))))
def KJ:Yz->Res D:=TX 5 3 AI
def YM:jF:=(ji (qQ 3 (Xh [none] (qW (Jz (T2 TV (Jz (Tf 0) Th)) Th)) (.one 0) (xj 4 [] (J3 x6 (Jz (Tf 0) Th))))) (ji (xQ (qW (Jz (Tf 1) Th)) (.one 4) (qQ 3 (Xb WF (Q1 (vL (Tf 0)) (Q1 (vL (Tf 3)) (Q1 (vL (Tf 2)) xx)))))) (qo (vL (Tf 3)))))
def YN:Yz->HP->Wr (D×HP):=xE 5 3 YM
def zb:FS:=(T6 (T2 XH (Jz (JV [none,none,some 1] (iS (Tf 0)) (.tup [0,1]) (T1 TL (T1 qi (Tf 2) (Tf 0)) (Tf 1))) Th)))
def y2:Yz->Res D:=TX 2 2 zb
def gi {r:Jx}{hs:Yf}(a:r ≠ [])(f:r.length<=1000)(c:∀p∈r,0<=p.1/\p.1<(hs.length:Int)):y2 [Ts r,.lst (hs.map .int)]=.ok (.int (JJ r hs)):=by
 have b:TW (.tup [0,1]) (T1 TL (T1 qi (Tf 2) (Tf 0)) (Tf 1)) [none,none,~~~(.lst (hs.map .int))] (r.map ja)=.ok (r.map λp=>.int (TY hs p.1+p.2)):=Q5 λp hp=>by
  simp[C0 (c p hp).1 (c p hp).2]
 have e:r.map (λp=>D.int (TY hs p.1+p.2))=(r.map λp=>TY hs p.1+p.2).map .int:=by rw[Zw];rfl
 have d:=Nc (ns:=r.map λp=>TY hs p.1+p.2) (λz=>a (Jf.mp z));rw[<- e] at d;simp[y2,zb,Ts,b,JW f,d,JJ]
def yT:FS:=(T6 (T2 WV (Jz (JV [none,some 1] (iS (Tf 0)) (.one 0) (J3 y2 (Jz (Tf 0) (Jz (Tf 1) Th)))) Th)))
def yz:Yz->Res D:=TX 2 2 yT
def gd {f:Jy}{hs:Yf}(d:f ≠ [])(g:f.length<=1000)(a:∀r∈f,r ≠ [])(i:∀r∈f,r.length<=1000)(j:∀r∈f,∀p∈r,0<=p.1/\p.1<(hs.length:Int)):yz [Tn f,.lst (hs.map .int)]=.ok (.int (JB f hs)):=by
 have b:TW (.one 0) (J3 y2 (Jz (Tf 0) (Jz (Tf 1) Th))) [none,~~~(.lst (hs.map .int))] (f.map Ts)=.ok (f.map λr=>.int (JJ r hs)):=Q5 λr h=>by
  simp[gi (a r h) (i r h) (j r h)]
 have e:f.map (λr=>D.int (JJ r hs))=(f.map λr=>JJ r hs).map .int:=by rw[Zw];rfl
 have c:=ER (ns:=f.map λr=>JJ r hs) (λz=>d (Jf.mp z));rw[<- e] at c;simp[yz,yT,Tn,b,JW g,c,JB]
def AJ:FS:=(T6 (JV [none,some 1] (iS (Tf 0)) (.one 0) (J3 yz (Jz (Tf 0) (Jz (Tf 1) Th)))))
def YO:Yz->Res D:=jk 2 2 AJ
def vG {fs:List Jy}{hs:Yf}{n:Int}(R:RoundOk n fs)(h:hs.length=fs.length):YO [TB fs,.lst (hs.map .int)]=.ok (.lst ((W9 fs hs).map .int)):=by
 have a:TW (.one 0) (J3 yz (Jz (Tf 0) (Jz (Tf 1) Th))) [none,~~~(.lst (hs.map .int))] (fs.map Tn)=.ok (fs.map λf=>.int (JB f hs)):=Q5 λf b=>by
  have o:=R.over h f b;have:=(R.forms f b).len;simp[gd o.ne () o.rne (λr c=>by have:=((R.forms f b).rows r c).len;lia) o.bnd]
 have e:(W9 fs hs).map D.int=fs.map λf=>.int (JB f hs):=by unfold W9;rw[Zw];rfl
 rw[e];have:=R.len;have:=R.most;simp[YO,AJ,a,JW (show fs.length<=1000 from ())]
def YP:FS:=(Tx (jH 3 (T2 K8 (Jz (Tf 1) Th))) (Tx (jp (qW (Jz (Tf 2) Th)) (.one 4) (λsd=>(jH 3 (J3 YO (Jz (Tf 0) (Jz (Tf 3) Th)))) (j0 [3] sd))) (Kv 3)))
def AK:Yz->Res D:=jk 5 3 YP
def vI {fs:List Jy}{hs:Yf}{n t:Int}(R:RoundOk n fs)(h:hs.length=fs.length)(j:0<=t)(l:t<=1000):AK [TB fs,.lst (hs.map .int),.int t]=.ok (.lst ((xO fs hs t.toNat).map .int)):=by
 have c:QJ [.int t]=.ok (JK 0 t.toNat):=Kp () ();obtain⟨sd',e,u,a⟩:=Kz (tg:=.one 4) (b:=(λsd=>(jH 3 (J3 YO (Jz (Tf 0) (Jz (Tf 3) Th)))) (j0 [3] sd))) (ds:=JK 0 t.toNat) (sd:=[~~~(TB fs),~~~(.lst (hs.map .int)),~~~(.int t),some (.own false (.lst (hs.map .int))),none])
  (P:=λi sd=>∃(u:Option SV),sd=[~~~(TB fs),~~~(.lst (hs.map .int)),~~~(.int t),some (.own false (.lst ((xO fs hs i).map .int))),u]) ⟨none,rfl⟩ (by
   rintro i x sd hx ⟨u,rfl⟩;obtain⟨rfl,hi⟩:=Um hx;have d:=vG R (PZ h i);have e:xO fs hs (i+1)=W9 fs (xO fs hs i):=rfl;exact⟨[~~~(TB fs),~~~(.lst (hs.map .int)),~~~(.int t),some (.own false (.lst ((xO fs hs (i+1)).map .int))),~~~(.int i)],by rw[e];simp[d],_,rfl⟩)
 subst a;rw[Kq] at e;have f:jH 3 (T2 K8 (Jz (Tf 1) Th)) (~~~(TB fs)::~~~(.lst (hs.map .int))::~~~(.int t)::List.replicate (5-3) none)=.ok (.next [~~~(TB fs),~~~(.lst (hs.map .int)),~~~(.int t),some (.own false (.lst (hs.map .int))),none]):=by simp
 have g:qW (Jz (Tf 2) Th) [~~~(TB fs),~~~(.lst (hs.map .int)),~~~(.int t),some (.own false (.lst (hs.map .int))),none]=.ok (JK 0 t.toNat):=by simp[c]
 rw[show AK=jk 5 3 YP from rfl,EN];unfold YP;rw[WY,f,Res.bind_ok,ZY,WY,EU,g,Res.bind_ok,e];simp
def Xr:jF:=(ji (zL (TC 1 (J3 Wc (Jz (Tf 0) (Jz (dC (.int 0)) Th))))) (ji (zL (TC 2 (T1 TL (dC (.int 1)) (T1 jz (Tf 1) (dC (.int 3)))))) (ji (zL (TC 3 (T1 jz (T1 Km (Tf 1) (dC (.int 3))) (dC (.int 6))))) (ji (Xe (k6 (JC (T1 yJ (Tf 3) (dC (.int 3))))) (zL (TC 2 (T1 TL (dC (.int 1)) (T1 jz (Tf 1) (dC (.int 2)))))) Xc) (ji (zL (TC 4 (J3 AA (Jz (Tf 0) (Jz (Tf 2) (Jz (dC (.int 2)) Th)))))) (ji (zL (TC 5 (T1 TL (dC (.int 1)) (T1 jz (T1 Km (Tf 1) (dC (.int 18))) (dC (.int 6)))))) (ji (zL (TC 6 (J3 A5 (Jz (Tf 4) (Jz (Tf 3) (Jz (Tf 5) Th)))))) (ji (zL (TC 7 (JV [none] (iS (Tf 4)) (.one 0) (T2 K8 (Jz (Tf 0) Th))))) (ji (qQ 8 (vL (dC .non))) (ji (XX (λsd=>∃c fs,J3 KJ (Jz (Tf 7) (Jz (Tf 3) (Jz (Tf 5) Th))) sd=.ex c fs) (zL (yn 8 "TooMany" KJ (Jz (Tf 7) (Jz (Tf 3) (Jz (Tf 5) Th))) (TC 8 (dC .non)))) (Ao 8 YN (Q1 (vL (Tf 7)) (Q1 (vL (Tf 3)) (Q1 (vL (Tf 5)) xx))))) (ji (Xe (yj 5 [8] (xz (JC (T1 x9 (Tf 7) (Tf 4))) (xz (JC (xJ (qk false) (Tf 6))) (JC (xJ (qk false) (Tf 8)))))) (qo (k4 5 [8] (Ws (T1 xg (Tf 7) (Tf 4)) (Ws (xJ (qk false) (Tf 6)) (xJ (qk false) (Tf 8)))))) Xc) (ji (zL (TC 9 (J3 Y6 (Jz (Tf 0) (Jz (dC (.int 83)) (Jz (Tf 2) Th)))))) (ji (zL (TC 10 (J3 AK (Jz (Tf 4) (Jz (T2 K8 (Jz (Tf 9) Th)) (Jz (Tf 3) Th)))))) (ji (Xe (yj 5 [8] (xz (QZ (JC (J3 (Kc 6) (Jz (Tf 8) (Jz (Tf 6) Th))))) (JC (T1 x9 (JV [none,some 9] (iS (Tf 8)) (.one 0) (J3 Y5 (Jz (Tf 0) (Jz (Tf 1) Th)))) (Tf 10))))) (qo (vL (dC (.bl false)))) Xc) (ji (xQ (iS (Tf 8)) (.one 11) (xR (vL (Tf 11)) (vL (jr (Jz (jr (Jz (dC (.int 0)) (Jz (dC (.int 0)) Th))) Th))))) (ji (Xe (yj 5 [8] (JC (T1 x9 (JV [none] (iS (Tf 8)) (.one 0) (T2 TV (Jz (Tf 0) Th))) (JV [none] (iS (Tf 6)) (.one 0) (T1 TL (dC (.int 1)) (T2 TV (Jz (Tf 0) Th))))))) (qo (vL (dC (.bl false)))) Xc) (qo (vL (J3 (Kc 6) (Jz (J3 KJ (Jz (Tf 7) (Jz (Tf 3) (Jz (Tf 5) Th)))) (Jz (Tf 6) Th)))))))))))))))))))))
def gW (f:Jy)(q:Jx):Prop:=∃x∈f,J9 x q=true
structure Cn (f:Jy):Prop where
 ne:f ≠ []
 rows:∀r∈f,JRow r
 thin:JI f=f
def Cn.anti {f:Jy}(C:Cn f):∀r∈f,∀s∈f,J9 r s=true->r=s:=by
 have h:=CB (rs:=f);rw[C.thin] at h;exact h
def Cn.strict {f:Jy}(C:Cn f):f.Pairwise λa b=>T7 a b=true:=by
 have h:=Wb f;rw[C.thin] at h;exact h
def Ru {l:Jy}(h:∀r∈l,JRow r)(q:Jx):gW (JI l) q↔gW l q:=by
 constructor
 .rintro⟨x,hx,a⟩;exact⟨x,(qD.mp hx).1,a⟩
 .rintro⟨x,hx,a⟩;obtain⟨s,hs,b⟩:=Xk (λr c=>⟨(h r c).once,(h r c).rise⟩) hx;exact⟨s,hs,Kb b a⟩
def CF {l:Jy}(h:∀r∈l,JRow r)(b:l ≠ []):Cn (JI l):=⟨CC h b,λr a=>h r (qD.mp a).1,Hc (λr a=>h r (qD.mp a).1) h (Ru h)⟩
theorem CG (w:Int):∀(r:Jx) (t:Int),J5 (Qr r w) t=(J5 r t).map (· + w)
 | [],_=>rfl
 |p::r,t=>by
  have a:=CG w r t;show(match J5 (Qr r w) t with|some v=>some v|none=>if p.1=t then some (p.2+w) else none)=Option.map _ (match J5 r t with|some v=>some v|none=>if p.1=t then some p.2 else none);rw[a];cases J5 r t with
  |some v=>rfl
  |none =>
   show(if p.1=t then some (p.2+w) else none)=Option.map (· + w) (if p.1=t then some p.2 else none);by_cases h:p.1=t
   .rw[Zd h,Zd h];rfl
   .rw[Ze h,Ze h];rfl
def Rv (r:Jx)(w:Int):Qr (Qr r w) (-w)=r:=by
 unfold Qr;rw[Zw];refine(UJ λp _=>?_).trans (List.map_id r);show(p.1,p.2+w + -w)=p;rw[Int.add_neg_cancel_right]
def fA {r q:Jx}{w:Int}:J9 (Qr r w) q=true↔J9 r (Qr q (-w))=true:=by
 rw[xC,xC];constructor
 .intro h p hp;obtain⟨u,a,l⟩:=h (p.1,p.2+w) (Ja.mpr ⟨p,hp,rfl⟩);have a:J5 q p.1=some u:=a;have l:p.2+w<=u:=l;refine⟨u + -w,?_,()⟩;rw[CG,a];rfl
 .intro h p hp;obtain⟨b,hp',rfl⟩:=Ja.mp hp;obtain⟨u,a,l⟩:=h b hp';rw[CG] at a;show ∃c,J5 q b.1=some c/\b.2+w<=c;cases e:J5 q b.1 with
  |none=>rw[e] at a;cases a
  |some v =>
   rw[e] at a;have a:v + -w=u:=Zqi a;exact⟨v,rfl,()⟩
def Rw {r:Jx}(h:JRow r)(w:Int):JRow (Qr r w):=by
 refine⟨λz=>h.ne (Jf.mp z),?_,λp hp=>?_⟩
 .have e:(Qr r w).map (·.1)=r.map (·.1):=by
   unfold Qr;rw[Zw];rfl
  unfold jo;rw[e];exact h.rise
 .obtain⟨a,hp',rfl⟩:=Ja.mp hp;exact h.bnd a hp'
theorem Hf (w:Int):∀a b:Jx,T7 (Qr a w) (Qr b w)=T7 a b
 | [],[]=>rfl
 | [],_::_=>rfl
 |_::_,[]=>rfl
 |p::a,q::b=>by
  show T7 ((p.1,p.2+w)::Qr a w) ((q.1,q.2+w)::Qr b w)=_;rw[KO,KO,Hf w a b];by_cases h:p=q
  .rw[Zd h,h,Zd rfl]
  .rw[Ze h,Ze λz=>h ?_]
   .unfold TM;have e:decide (p.2+w<q.2+w)=decide (p.2<q.2):=by
     rw[decide_eq_decide];lia
    rw[e]
   .have c:=Zt Prod.fst z;have d:=Zt Prod.snd z;have c:p.1=q.1:=c;have d:p.2+w=q.2+w:=d;exact Prod.ext c ()
def vZ {f:Jy}(C:Cn f)(w:Int):Cn (Q8 f w):=by
 refine⟨λz=>C.ne (Jf.mp z),λr i=>?_,V8 qP (Wb _) ?_ λr=>⟨λh=>(qD.mp h).1,λh=>qD.mpr ⟨h,yC.mpr λo j d=>?_⟩⟩⟩
 .obtain⟨e,c,rfl⟩:=Ja.mp i;exact Rw (C.rows e c) w
 .unfold Q8;rw[UT];exact C.strict.imp λ{a b} h=>by rw[Hf];exact h
 .obtain⟨l,g,rfl⟩:=Ja.mp j;obtain⟨e,c,rfl⟩:=Ja.mp h;have d:=fA.mp d;rw[Rv] at d;rw[C.anti l g e c d]
def Rx {r:Jx}(h:r ≠ [])(w:Int)(hs:Yf):JJ (Qr r w) hs=JJ r hs+w:=by
 unfold JJ Qr;rw[<- PQ (λz=>h (Jf.mp z)),Zw,Zw]
 congr 1
 refine UJ λp _=>?_;show TY hs p.1+(p.2+w)=TY hs p.1+p.2+w;lia
def Ry {f:Jy}(b:f ≠ [])(a:∀r∈f,r ≠ [])(w:Int)(hs:Yf):JB (Q8 f w) hs=JB f hs+w:=by
 unfold JB Q8;rw[<- PP (λz=>b (Jf.mp z)),Zw,Zw]
 congr 1
 exact UJ λr c=>Rx (a r c) w hs
def Rz {n:Int}{fs:List Jy}{t:Jy}{hs:Yf}(A:AllOk fs t)(E:t ≠ [])(F:fs ≠ [])(u:∀f∈fs,f ≠ []/\∀r∈f,r ≠ []/\T5 r/\∀p∈r,0<=p.1/\p.1<12):JB t hs=j8 (fs.map λf=>JB f hs):=by
 have d:∀{r:Jx},r ≠ []->∀p∈r,TY hs p.1+p.2<=JJ r hs:=λ{r} g p hp=>(V6 (l:=r.map λp=>TY hs p.1+p.2) (λz=>g (Jf.mp z))).2 _ (Ja.mpr ⟨p,hp,rfl⟩);have i:∀{r:Jx} {M:Int},r ≠ []->(∀p∈r,TY hs p.1+p.2<=M)->JJ r hs<=M:=λ{r M} g h=>by
  obtain⟨m,_⟩:=V6 (l:=r.map λp=>TY hs p.1+p.2) (λz=>g (Jf.mp z));obtain⟨p,hp,e⟩:=Ja.mp m;have:=h p hp;have e:TY hs p.1+p.2=JJ r hs:=e;lia
 obtain⟨G,o⟩:=V6 (l:=fs.map λf=>JB f hs) (λz=>F (Jf.mp z));have o:∀f∈fs,JB f hs<=j8 (fs.map λf=>JB f hs):=λf h=>o _ (Ja.mpr ⟨f,h,rfl⟩);obtain⟨v,j,x⟩:=Ja.mp G;have x:JB v hs=j8 (fs.map λf=>JB f hs):=x;generalize j8 (fs.map λf=>JB f hs)=M at o x;obtain⟨r,g,Q⟩:=W8 (hs:=hs) E;have lo:M<=JB t hs:=by
  obtain⟨s,c,y⟩:=A.abv r g v j;have H:=VZ (hs:=hs) c;have I:JJ s hs<=JJ r hs:=i ((u v j).2 s c).1 λp hp=>by
   obtain⟨w,hw,J⟩:=xC.mp y p hp;have:=d (A.row r g).ne (p.1,w) (Qp hw);have this:TY hs p.1+w<=JJ r hs:=this;lia
  lia
 obtain⟨q,B,y⟩:=A.least ((List.range 12).map λk:Nat=>((k:Int),M-TY hs (k:Int))) λf h=>by
  obtain⟨s,c,es⟩:=W8 (hs:=hs) (u f h).1;obtain⟨K,R,L⟩:=(u f h).2 s c;refine⟨s,c,xC.mpr λp hp=>⟨M-TY hs p.1,?_,?_⟩⟩
  .have N:T5 ((List.range 12).map λk:Nat=>((k:Int),M-TY hs (k:Int))):=by
    unfold T5;rw[Zw];unfold List.Nodup;rw[UT];exact(List.nodup_range (n:=12)).imp λ{a b} h e=>h (by have e:(a:Int)=(b:Int):=e;lia)
   have b:=L p hp;exact N.look (Ja.mpr ⟨p.1.toNat,Jg.mpr (),by rw[show((p.1.toNat:Nat):Int)=p.1 by lia]⟩)
  .have a:=d K p hp;have b:=o f h;lia
 have H:=VZ (hs:=hs) B;have I:JJ q hs<=M:=i (A.row q B).ne λp hp=>by
  obtain⟨w,hw,J⟩:=xC.mp y p hp;obtain⟨k,S,C⟩:=Ja.mp (Qp hw);have O:((k:Nat):Int)=p.1:=Zt Prod.fst C;have P:M-TY hs ((k:Nat):Int)=w:=Zt Prod.snd C;rw[O] at P;lia
 lia
def R0 {a b:Jx}(d:JRow a)(e:JRow b){n:Int}(h:∀p∈a,p.1<n)(i:∀p∈b,p.1<n):∀p∈Qc a b,p.1<n:=λp hp=>by
 have c:=(Xp d e).once.look (t:=p.1) (w:=p.2) hp;rw[AE d.once e.once] at c;cases f:J5 a p.1 with
 |some w=>exact h (p.1,w) (Qp f)
 |none =>
  cases g:J5 b p.1 with
  |some w=>exact i (p.1,w) (Qp g)
  |none=>rw[f,g] at c;cases c
theorem Hg {n:Int}:∀(gs:List Jy) (t:Jy),(∀r∈t,JRow r/\∀p∈r,p.1<n)->(∀g∈gs,∀r∈g,JRow r/\∀p∈r,p.1<n)->∀r∈gs.foldl Qd t,∀p∈r,p.1<n
 | [],t,ht,_=>λr c=>(ht r c).2
 |g::gs,t,ht,hg=>Hg gs (Qd t g) (λr c=>by
  obtain⟨a,f,b,h,rfl⟩:=yD.mp (qD.mp c).1;obtain⟨d,i⟩:=ht a f;obtain⟨e,j⟩:=hg g Zqs b h;exact⟨Xp d e,R0 d e i j⟩) λx hx=>hg x (Zqm _ hx)
def R1 {f:Jy}{fs:List Jy}{most:Int}(o:Cn f/\f.length<=20)(p:∀g∈fs,Cn g/\g.length<=20)(w:0<=most)(B:most<=20)(C:fs.length<=900):
 xN [.lst ((f::fs).map Tn),.int most]=qb (qB most f fs):=by
 have s:∀{rs:Jy},(∀r∈rs,JRow r)->rs.length<=60->Q4 [Tn rs,.int most]=qb (TJ most (JI rs)):=λ{rs} h l=>C7 (λr d=>(h r d).ne) (λr d=>(h r d).rise) (λr d=>by have:=(h r d).len;lia) () w ();have e:=s (rs:=f) o.1.rows ();rw[o.1.thin] at e;have m:jY ((f::fs).map Tn) 0=some (Tn f):=by
  rw[show((0:Int))=((0:Nat):Int) from rfl,Y1 ()];rfl
 have y:Qk (Tn f::fs.map Tn) (some 1) none none=fs.map Tn:=by
  rw[GJ _ ()];rfl
 by_cases u:(f.length:Int)<=most
 .rw[WD u] at e;have e:Q4 [Tn f,.int most]=.ok (Tn f):=e;have j:((jN (.one 3) (λsd=>(jH 2 (J3 Q4 (Jz (T1 TL (Tf 2) (Tf 3)) (Jz (Tf 1) Th)))) (j0 [2] sd)) (fs.map Tn) [~~~(.lst ((f::fs).map Tn)),~~~(.int most),some (.own false (Tn f)),none]).bind (jA (Kv 2))).bind xy=qb (qB most f fs):=by
   refine Cr (R:=λz=>(z.bind (jA (Kv 2))).bind xy=qb (qB most f fs)) (P:=λi sd=>∃(t:Jy) (q:Option SV),sd=[~~~(.lst ((f::fs).map Tn)),~~~(.int most),some (.own false (Tn t)),q]/\(∀r∈t,JRow r)/\(t.length:Int)<=most/\qB most t (fs.drop i)=qB most f fs) ⟨f,none,rfl,o.1.rows,u,rfl⟩ ?_ ?_
   .rintro sd ⟨t,q,rfl,T,lt,b⟩;rw[Zql,UK] at b;rw[<- b];show _=qb (TJ most t);rw[WD lt];simp[qb]
   .rintro i x sd hx ⟨t,q,rfl,T,lt,b⟩;obtain⟨g,n,rfl⟩:=QU hx;have hi:=(Jd.mp n).1;obtain⟨G,E⟩:=p g (Uj n);have v:=GR (f:=t) (g:=g) ();have tg:∀r∈t++g,JRow r:=λr d=>(Jc.mp d).elim (λz=>T r z) λz=>G.rows r z;have a:=s (rs:=t++g) tg (by rw[Ua];lia);have A:fs.drop i=g::fs.drop (i+1):=by
     rw[Uz hi];rw[Zqg hi] at n;rw[Zqi n]
    rw[A] at b;have b:(TJ most t).bind (λ_=>qB most (jO t g) (fs.drop (i+1)))=qB most f fs:=b;rw[WD lt] at b;have b:qB most (jO t g) (fs.drop (i+1))=qB most f fs:=b;by_cases c:((jO t g).length:Int)<=most
    .have a:Q4 [Tn (t++g),.int most]=.ok (Tn (jO t g)):=by
      rw[a];show qb (TJ most (jO t g))=_;rw[WD c];rfl
     exact .inl ⟨[~~~(.lst ((f::fs).map Tn)),~~~(.int most),some (.own false (Tn (jO t g))),~~~(Tn g)],by simp[v,a],jO t g,_,rfl,λr d=>tg r (qD.mp d).1,c,b⟩
    .have no:TJ most (jO t g)=none:=Ze c;have a:Q4 [Tn (t++g),.int most]=.ex "TooMany" []:=by
      rw[a];show qb (TJ most (jO t g))=_;rw[no];rfl
     refine .inr ⟨"TooMany",[],by simp[v,a],?_⟩;rw[<- b,C8 no];rfl
  simp[xN,yy] at m j ⊢;simp[m,e,y,j]
 .rw[YF ()] at e;have e:Q4 [Tn f,.int most]=.ex "TooMany" []:=e;rw[C8 (YF ())];show _=Res.ex "TooMany" [];simp[xN,yy] at m ⊢;simp[m,e]
def R3 {a b:Jy}(A:Cn a)(B:Cn b)(hs:Yf):Cn (jO a b)/\JB (jO a b) hs<=JB a hs/\JB (jO a b) hs<=JB b hs/\(JB (jO a b) hs=JB a hs\/JB (jO a b) hs=JB b hs):=by
 have c:∀r∈a++b,JRow r:=λr d=>(Jc.mp d).elim (A.rows r) (B.rows r);have ne:a++b ≠ []:=λz=>A.ne (Jw.mp z).1;refine⟨CF c ne,?_⟩;unfold jO;rw[Re ne λr d=>⟨(c r d).ne,(c r d).once,(c r d).rise⟩];exact Rg A.ne B.ne
theorem CH (hs:Yf):∀(gs:List Jy) (t:Jy),Cn t->(∀g∈gs,Cn g)->Cn (gs.foldl jO t)/\(JB (gs.foldl jO t) hs=JB t hs\/∃g∈gs,JB (gs.foldl jO t) hs=JB g hs)/\JB (gs.foldl jO t) hs<=JB t hs/\∀g∈gs,JB (gs.foldl jO t) hs<=JB g hs
 | [],t,T,_=>⟨T,.inl rfl,U6 _,λ_ h=>nomatch h⟩
 |g::gs,t,T,G=>by
  obtain⟨a,f,i,b⟩:=R3 T (G g Zqs) hs;obtain⟨c,d,j,e⟩:=CH hs gs (jO t g) a λx hx=>G x (Zqm _ hx);rw[U7];refine⟨c,?_,(),λx hx=>?_⟩
  .rcases d with z|⟨x,hx,z⟩
   .rcases b with y|y
    .exact .inl (z.trans y)
    .exact .inr ⟨g,Zqs,z.trans y⟩
   .exact .inr ⟨x,Zqm _ hx,z⟩
  .rcases UQ.mp hx with z|z
   .rw[z];lia
   .exact e x z
theorem Hh {P:Jx->Prop}:∀(gs:List Jy) (t:Jy),(∀r∈t,P r)->(∀g∈gs,∀r∈g,P r)->∀r∈gs.foldl jO t,P r
 | [],_,h,_=>h
 |g::gs,t,h,k=>Hh gs (jO t g) (λr a=>(Jc.mp (qD.mp a).1).elim (h r) (k g Zqs r)) λx hx=>k x (Zqm _ hx)
theorem Hi {most:Int}:∀(gs:List Jy) (t t':Jy),j2 most t gs=some t'->t'=gs.foldl Qd t
 | [],_,_,h=>(Zqi h).symm
 |g::gs,t,t',h=>by
  rw[Xq] at h;cases q:TJ most (Qd t g) with
  |none=>rw[q] at h;cases h
  |some a =>
   rw[q] at h;have e:=(Wd q).1;have h:j2 most a gs=some t':=h;rw[U7,<- e];exact Hi gs a t' h
def R4 {most:Int}{f:Jy}{fs:List Jy}{t:Jy}(h:jE most f fs=some t):t=fs.foldl Qd (JI f):=by
 unfold jE at h;cases q:TJ most (JI f) with
 |none=>rw[q] at h;cases h
 |some a =>
  rw[q] at h;have h:j2 most a fs=some t:=h;rw[<- (Wd q).1];exact Hi fs a t h
theorem CI {most:Int}:∀(gs:List Jy) (t t':Jy),qB most t gs=some t'->t'=gs.foldl jO t/\(t'.length:Int)<=most
 | [],t,t',h=>by
  obtain⟨e,l⟩:=Wd (show TJ most t=some t' from h);rw[e];exact⟨rfl,l⟩
 |g::gs,t,t',h=>by
  have h:(TJ most t).bind (λ_=>qB most (jO t g) gs)=some t':=h;cases q:TJ most t with
  |none=>rw[q] at h;cases h
  |some a =>
   rw[q] at h;exact CI gs (jO t g) t' h
def CJ {rs:Jy}(ok:∀r∈rs,JRow r)(O:rs.length<64):K2 [Tn rs]=.ok (Tn (JI rs)):=by
 simp[K2,A0];generalize G:jQ (QZ _) _ JX=b;obtain⟨sd',e,c,u2,A,sub,len,anti,v,all⟩:=Kz (tg:=.one 2) (b:=b) (ds:=rs.map Ts) (sd:=[~~~(Tn rs),~~~(.lst []),none])
  (P:=λi sd=>∃(c:Jy) (u2:Option SV),sd=[~~~(Tn rs),~~~(Tn c),u2]/\(∀r∈c,r∈rs)/\c.length<=i/\(∀r∈c,∀s∈c,J9 r s=true->r=s)/\c.Nodup/\∀r∈rs.take i,∃o∈c,J9 o r=true) ⟨[],none,rfl,λ_ h=>(nomatch h),Zf _,λ_ h=>(nomatch h),UZ,λ_ h=>(nomatch h)⟩ (by
   rintro i x sd hx ⟨c,u2,rfl,sub,len,anti,v,all⟩;obtain⟨row,j,rfl⟩:=QU hx;have hi:=(Jd.mp j).1;have B:=Uj j;have J:=ok row B;have k1:TW (.one 0) (J3 WB (Jz (Tf 0) (Jz (Tf 1) Th))) [none,~~~(Ts row)] (c.map Ts)=.ok (c.map λo=>.bl (jv o row)):=Q5 λo _=>by simp[GU]
   have H:c.map (λo=>D.bl (jv o row))=(c.map λo=>jv o row).map .bl:=by rw[Zw];rfl
   have t:=Nu (c.map λo=>jv o row);rw[<- H] at t;have k2:Ko (.one 0) (QZ (JC (J3 WB (Jz (Tf 1) (Jz (Tf 0) Th))))) (Tf 0) [none,~~~(Ts row)] (c.map Ts)=.ok ((c.filter λo => !jv row o).map Ts):=
    Aa (s:=λo=>[~~~(Ts o),~~~(Ts row)]) (λo _=>rfl) (λo _=>by simp[GU]) (λo _ _=>())
   have C:=JW (show c.length<=1000 from ());have Q:(c.filter λo => !jv row o).length<=c.length:=Vd _ _;have I:TL (.lst ((c.filter λo => !jv row o).map Ts)) (.lst [Ts row])=some (Tn ((c.filter λo => !jv row o)++[row])):=by
    show(if((c.filter λo => !jv row o).map Ts).length+1<=sizeLine then _ else _)=_;rw[Zql,Zd (Qz ())];unfold Tn;rw[Uh];rfl
   subst G;have E:∀o,jv o row=J9 o row:=λo=>C5 J.once;cases q:(c.map λo=>jv o row).any id with
   |true =>
    rw[q] at t;obtain⟨y,K,L⟩:=U9.mp q;obtain⟨o,l,rfl⟩:=Ja.mp K;refine⟨[~~~(Tn rs),~~~(Tn c),~~~(Ts row)],by simp[k1,C,t],c,_,rfl,sub,(),anti,v,λr f=>?_⟩;rw[QD j] at f;rcases Jc.mp f with z|z
    .exact all r z
    .rw[Vt.mp z];exact⟨o,l,(E o).symm.trans L⟩
   |false =>
    rw[q] at t;have no:∀o∈c,J9 o row=false:=λo l=>by
     cases z:J9 o row with
     |false=>rfl
     |true =>
      have:(c.map λo=>jv o row).any id=true:=U9.mpr ⟨_,Ja.mpr ⟨o,l,rfl⟩,(E o).trans z⟩;rw[q] at this;cases this
    have u:∀o,o∈c.filter (λo => !jv row o)↔o∈c/\J9 row o=false:=λo=>by
     rw[List.mem_filter];constructor
     .rintro⟨m,n⟩;rw[C5 (ok o (sub o m)).once] at n;exact⟨m,by simpa using n⟩
     .rintro⟨m,n⟩;rw[C5 (ok o (sub o m)).once,n];exact⟨m,rfl⟩
    refine⟨[~~~(Tn rs),~~~(Tn ((c.filter λo => !jv row o)++[row])),~~~(Ts row)],by simp[k1,k2,C,t,I],_,_,rfl,λr j=>?_,?_,λr j s hs d=>?_,?_,λr f=>?_⟩
    .rcases Jc.mp j with y|y
     .exact sub r (Jb.mp y).1
     .rw[Vt.mp y];exact B
    .rw[Ua,Uv];lia
    .rcases Jc.mp j with y|y
     .obtain⟨F,R⟩:=(u r).mp y;rcases Jc.mp hs with z|z
      .exact anti r F s ((u s).mp z).1 d
      .rw[Vt.mp z,no r F] at d;cases d
     .rw[Vt.mp y] at d ⊢;rcases Jc.mp hs with z|z
      .rw[((u s).mp z).2] at d;cases d
      .exact(Vt.mp z).symm
    .refine Vo.mpr ⟨v.filter _,(Vz _ _),λa M b N=>?_⟩;rw[Vt.mp N];rintro rfl;have:=no a ((u a).mp M).1;rw[YI J.once] at this;cases this
    .rw[QD j] at f;have yk:J9 row row=true:=YI J.once;rcases Jc.mp f with z|z
     .obtain⟨o,l,d⟩:=all r z;cases w:J9 row o with
      |false=>exact⟨o,Uu _ ((u o).mpr ⟨l,w⟩),d⟩
      |true=>exact⟨row,Ug _ (Vt.mpr rfl),Kb w d⟩
     .rw[Vt.mp z];exact⟨row,Ug _ (Vt.mpr rfl),yk⟩)
 rw[e];subst A;rw[Zql] at len all;rw[UM] at all;have hs:VU [Tn c]=some (.lst ((JE T7 c).map Ts)):=GD (λr j=>(ok r (sub r j)).ne) ();have eq:JE T7 c=JI rs:=V8 qP (Wa qP v) (Wb rs) λr=>by
  rw[(Qe (ltb:=T7) _).mem_iff,qD,yC];constructor
  .refine λh=>⟨sub r h,λo l d=>?_⟩;obtain⟨p,hp,g⟩:=all o l;have:=anti p hp r h (Kb g d);rw[this] at g;exact C2 (ok o l).once (ok r (sub r h)).once (ok o l).rise (ok r (sub r h)).rise d g
  .rintro⟨m,n⟩;obtain⟨p,hp,g⟩:=all r m;rw[<- n p (sub p hp) g];exact hp
 rw[eq] at hs;simp[hs];rfl
theorem Hj:∀(r a:Jx),T5 (a++r)->JG a r=a++r
 | [],a,_=>by rw[ZA];rfl
 |p::r,a,h=>by
  have h':T5 ((a++[p])++r):=by rw[Uy];exact h
  have no:(a.any λq=>decide (q.1=p.1))=false:=by
   rw[Ve];intro q b z;unfold T5 at h;rw[Uh,Zl] at h;exact(Vo.mp h).2.2 q.1 (Ja.mpr ⟨q,b,rfl⟩) p.1 Zqs (by simpa using z)
  have c:J5 a p.1=none:=by
   cases q:J5 a p.1 with
   |none=>rfl
   |some w =>
    have:=Qp q;rw[Ve] at no;exact Zn (no _ this) ()
  have st:QY a p=a++[p]:=by
   unfold QY jC;rw[no,Ze (by decide),c];simp
  show JG (QY a p) r=_;rw[st,Hj r (a++[p]) h',Uy];rfl
def R5 {t:Jx}(h:T5 t):(JE xf (t.map (·.1))).map (λk=>(k,(J5 t k).getD 0))=JE TM t:=by
 have d:=Qe (ltb:=TM) t;have mem:∀p,p∈JE TM t↔p∈t:=λp=>d.mem_iff;have f:t.Nodup:=List.Pairwise.of_map (·.1) (λa b c e=>c (by rw[e])) h;have st:=Wa yi f;have g:JE xf (t.map (·.1))=(JE TM t).map (·.1):=by
  refine V8 uz (Wa uz h) ?_ λk=>?_
  .rw[UT];refine VN ?_ st;intro a b i j c;have ne:a.1≠b.1:=λe=>by
    have:=GK h ((mem a).mp i) ((mem b).mp j) e;rw[this] at c;rw[yi.irr b] at c;cases c
   unfold xf;unfold TM at c;simp at c ⊢;lia
  .rw[(Qe (ltb:=xf) _).mem_iff,(d.map _).mem_iff]
 rw[g,Zw]
 conv=>rhs;rw[<- List.map_id (JE TM t)]
 refine UJ λp hp=>?_;have:=h.look (t:=p.1) (w:=p.2) ((mem p).mp hp);show(p.1,(J5 t p.1).getD 0)=p;rw[this];rfl
def v9 {a b:Jx}(f:JRow a)(n:JRow b):WA [Ts a,Ts b]=.ok (Ts (Qc a b)):=by
 have H:=f.len;have I:=n.len;have o:TL (Ts a) (Ts b)=some (.tup ((a++b).map ja)):=by
  show(if a.map ja ≠ []/\b.map ja ≠ []/\(a.map ja).length+(b.map ja).length<=sizeLine then some (D.tup (a.map ja++b.map ja)) else none)=_;rw[Zd ⟨λz=>f.ne (Jf.mp z),λz=>n.ne (Jf.mp z),by rw[Zql,Zql];exact Qz ()⟩,Uh]
 have A:JG [] (a++b)=JG a b:=by
  show(a++b).foldl QY []=_;rw[Vj];show JG (JG [] a) b=_;rw[Hj a [] (by rw[List.nil_append];exact f.once)];rfl
 have g:T5 (JG a b):=WP b a f.once;have lt:(JG a b).length<=24:=by have:=X4 b a;lia
 unfold WA Ay;generalize B:Wz 2 _ _=bd;obtain⟨sd',e,u,v,h⟩:=Kz (tg:=.tup [3,4]) (b:=bd) (ds:=(a++b).map ja) (sd:=[~~~(Ts a),~~~(Ts b),some (.own false (.dct [] [])),none,none])
  (P:=λi sd=>∃u v,sd=[~~~(Ts a),~~~(Ts b),some (.own false (qI (JG [] ((a++b).take i)))),u,v]) ⟨none,none,rfl⟩ (by
   rintro i x sd hx ⟨u,v,rfl⟩;obtain⟨p,hp,rfl⟩:=QU hx;have C:JG [] ((a++b).take (i+1))=QY (JG [] ((a++b).take i)) p:=by
    rw[QD hp];unfold JG;rw[Vj];rfl
   have J:=X4 ((a++b).take i) [];have K:((a++b).take i).length<=24:=by rw[UG,Ua];lia
   have L:([]:Jx).length=0:=rfl;have hz:=JW (show(JG [] ((a++b).take i)).length<=1000 by lia);have c:=XM (WP ((a++b).take i) [] UZ) p.1;have d:=ET (JG [] ((a++b).take i)) p.1 (if(J5 (JG [] ((a++b).take i)) p.1).getD p.2 > p.2 then(J5 (JG [] ((a++b).take i)) p.1).getD p.2 else p.2);have E:((J5 (JG [] ((a++b).take i)) p.1).map D.int).getD (.int p.2)=.int ((J5 (JG [] ((a++b).take i)) p.1).getD p.2):=by cases J5 (JG [] ((a++b).take i)) p.1<;>rfl
   subst B;have es:QY (JG [] ((a++b).take i)) p=jC (JG [] ((a++b).take i)) p.1 (if(J5 (JG [] ((a++b).take i)) p.1).getD p.2 > p.2 then(J5 (JG [] ((a++b).take i)) p.1).getD p.2 else p.2):=rfl;rw[C,es,<- d];simp[qI,c,E,hz])
 subst h;rw[Zql,UM,A] at e;generalize F:JG a b=T at *;have q:Ap [qI T]=some (.lst ((T.map (·.1)).map .int)):=by
  have:=PB (l:=T.map (·.1)) (ds:=T.map λp=>.int p.2) (by rw[Zql];lia);rw[Zw] at this;exact this
 have gs:=Po (ns:=T.map (·.1)) (by rw[Zql];lia);have j:(JE xf (T.map (·.1))).length=T.length:=by rw[(Qe (ltb:=xf) _).length_eq,Zql]
 have r:TW (.one 0) (jr (Jz (Tf 0) (Jz (T1 qi (Tf 1) (Tf 0)) Th))) [none,~~~(qI T)] ((JE xf (T.map (·.1))).map .int)=.ok ((JE TM T).map ja):=by
  rw[<- R5 g,Zw];refine Q5 λk s=>?_;rw[(Qe (ltb:=xf) _).mem_iff] at s;obtain⟨p,hp,rfl⟩:=Ja.mp s;have c:=XM g p.1;have lo:=g.look (t:=p.1) (w:=p.2) hp;rw[lo] at c;have c:jt (T.map λp=>.inl p.1) (T.map λp=>.int p.2) (.inl p.1)=some (.int p.2):=c;simp[qI,c,ja,lo]
 have m:=JW (show(JE xf (T.map (·.1))).length<=1000 by lia);have G:Qc a b=JE TM T:=by unfold Qc;rw[F]
 rw[G];have M:D.dct [] []=qI []:=rfl;rw[Uh] at e o;obtain⟨y,hK⟩:∃y,y=T.map (·.1):=⟨_,rfl⟩;rw[<- hK] at q gs r m j;rw[j] at m;simp[o,e,q,gs,r,m,j];rfl
abbrev Fo:=Jy
structure Kf (n m:Nat)(t:Fo):Prop where
 cn:Cn t
 len:t.length<=m
 th:∀r∈t,∀p∈r,p.1<(n:Int)
def Kf.wait {n m:Nat}{t:Fo}(T:Kf n m t)(w:Int):Kf n m (Q8 t w):=by
 refine⟨vZ T.cn w,by unfold Q8;rw[Zql];exact T.len,λr b p hp=>?_⟩;obtain⟨c,a,rfl⟩:=Ja.mp b;obtain⟨d,hp',rfl⟩:=Ja.mp hp;exact T.th c a d hp'
def j4 (fs:List Fo)(r:Jx):List Fo:=r.map λp=>Q8 (qd fs p.1) p.2
def jj (most:Int)(fs:List Fo)(r:Jx):Option Fo:=match j4 fs r with
 | []=>none
 |f::gs=>jE most f gs
def Qa (most:Int)(fs:List Fo):Fo->Option (List Fo)
 | []=>some []
 |r::rs=>(jj most fs r).bind λt=>(Qa most fs rs).map (t :: ·)
def YQ (most:Int)(fs:List Fo)(r:Jx)(rs:Fo):Qa most fs (r::rs)=(jj most fs r).bind λt=>(Qa most fs rs).map (t :: ·):=rfl
def wB (most:Int):List Fo->Option Fo
 | []=>none
 |t::ts=>qB most t ts
def jf (most:Int)(fs:List Fo)(a:Fo):Option Fo:=(Qa most fs a).bind (wB most)
section
variable {n m:Nat}{most:Int}{fs:List Fo}
def Hk (l:1<=most)(p:(m:Int)=most){f:Fo}{gs:List Fo}(h:∀g∈f::gs,Kf n m g){t:Fo}(q:jE most f gs=some t):Kf n m t/\∀hs,JB t hs=j8 ((f::gs).map λg=>JB g hs):=by
 have c:=h f Zqs;have a:∀g∈gs,g ≠ []/\∀r∈g,JRow r:=λg a=>⟨(h g (Zqm _ a)).cn.ne,(h g (Zqm _ a)).cn.rows⟩;obtain⟨A,lt,d⟩:=Gx ⟨c.cn.ne,c.cn.rows⟩ a q;have e:=R4 q;rw[c.cn.thin] at e;refine⟨⟨⟨d,A.row,V8 qP (Wb _) A.strict λr=>⟨λh=>(qD.mp h).1,λh=>qD.mpr ⟨h,yC.mpr λo i j=>A.anti o i r h j⟩⟩⟩,(),?_⟩,λhs=>Rz (n:=0) A d (List.cons_ne_nil _ _) λg a=>⟨(h g a).cn.ne,λr b=>⟨((h g a).cn.rows r b).ne,((h g a).cn.rows r b).once,((h g a).cn.rows r b).bnd⟩⟩⟩;rw[e];exact Hg gs f (λr b=>⟨c.cn.rows r b,c.th r b⟩) λg a r b=>⟨(h g (Zqm _ a)).cn.rows r b,(h g (Zqm _ a)).th r b⟩
def CK (h:∀g∈fs,Kf n m g){r:Jx}(a:∀p∈r,0<=p.1/\p.1<(fs.length:Int)):∀g∈j4 fs r,Kf n m g:=λg b=>by
 obtain⟨p,hp,rfl⟩:=Ja.mp b;obtain⟨c,d⟩:=a p hp;exact(h _ (AH c d)).wait p.2
def Hl (c:1<=most)(d:(m:Int)=most)(h:∀g∈fs,Kf n m g){r:Jx}(a:∀p∈r,0<=p.1/\p.1<(fs.length:Int)){t:Fo}(q:jj most fs r=some t):Kf n m t/\∀hs,JB t hs=JJ r (fs.map λg=>JB g hs):=by
 have b:=CK h a;unfold jj at q;cases z:j4 fs r with
 |nil=>rw[z] at q;cases q
 |cons f gs =>
  rw[z] at q;obtain⟨k1,k2⟩:=Hk c d (by rw[z] at b;exact b) q;refine⟨k1,λhs=>?_⟩;rw[k2,<- z];unfold j4 JJ;rw[Zw]
  congr 1
  refine UJ λp hp=>?_;obtain⟨e,i⟩:=a p hp;have K:=h _ (AH e i);show JB (Q8 (qd fs p.1) p.2) hs=TY (fs.map λg=>JB g hs) p.1+p.2;rw[Ry K.cn.ne (λr j=>(K.cn.rows r j).ne)]
  congr 1
  unfold TY qd;rw[Uf,Uf,Zv,Zqg ()];rfl
def R6 (s:1<=most)(u:most<=6)(v:(m:Int)=most)(h:∀g∈fs,Kf n m g){r:Jx}(b:JRow r)(j:∀p∈r,p.1<(fs.length:Int)):KE [Ts r,.lst (fs.map Tn),.int most]=qb (jj most fs r):=by
 have j:∀p∈r,0<=p.1/\p.1<(fs.length:Int):=λp hp=>⟨(b.bnd p hp).1,j p hp⟩;have w:=b.len;have q:∀f∈fs,f.length<=1000/\∀r∈f,r.length<=1000:=λf a=>⟨by have:=(h f a).len;lia,λr b=>by have:=((h f a).cn.rows r b).len;lia⟩;have c:=Rt j q;have hz:=JW (show r.length<=1000 from ());have e:KE [Ts r,.lst (fs.map Tn),.int most]=WE [.lst ((j4 fs r).map Tn),.int most]:=by
  unfold j4;generalize (r.map λp=>Q8 (qd fs p.1) p.2).map Tn=ds at c;simp[KE,AG,c,hz];cases WE [D.lst ds,D.int most]<;>rfl
 rw[e];have d:=CK h j;have o:(j4 fs r).length=r.length:=Zql _;unfold jj;cases z:j4 fs r with
 |nil=>exact Zn (Jf.mp z) b.ne
 |cons f gs =>
  rw[z] at d o;have o:gs.length+1=r.length:=o;have a:=d f Zqs;have x:=a.len;refine Rr ⟨a.cn.ne,a.cn.rows⟩ (λg l=>⟨(d g (Zqm _ l)).cn.ne,(d g (Zqm _ l)).cn.rows⟩) () () () () λi t g _ lt l=>?_;have G:=d g (Zqm _ (Uj l));have y:=G.len;have e:=Rs (f:=t) G.cn.ne;have lt:t.length<=6:=()
  have A:=Vk lt (show g.length<=6 from ());lia
theorem Hm (b:1<=most)(c:most<=6)(d:(m:Int)=most)(h:∀g∈fs,Kf n m g):∀(a:Fo),(∀r∈a,JRow r/\∀p∈r,p.1<(fs.length:Int))->TW (.one 0) (J3 KE (Jz (Tf 0) (Jz (Tf 1) (Jz (Tf 2) Th)))) [none,~~~(.lst (fs.map Tn)),~~~(.int most)] (a.map Ts)=(match Qa most fs a with|some ts=>.ok (ts.map Tn)|none=>.ex "TooMany" [])
 | [],_=>rfl
 |r::a,hr=>by
  obtain⟨e,f⟩:=hr r Zqs;have i:=Hm b c d h a λx hx=>hr x (Zqm _ hx);have p:=R6 b c d h e f;have nx:TW (.one 0) (J3 KE (Jz (Tf 0) (Jz (Tf 1) (Jz (Tf 2) Th)))) [none,~~~(.lst (fs.map Tn)),~~~(.int most)] ((r::a).map Ts)=(KE [Ts r,.lst (fs.map Tn),.int most]).bind λv=>(TW (.one 0) (J3 KE (Jz (Tf 0) (Jz (Tf 1) (Jz (Tf 2) Th)))) [none,~~~(.lst (fs.map Tn)),~~~(.int most)] (a.map Ts)).bind λvs=>.ok (v::vs):=rfl;rw[nx,p,i];rw[YQ];cases jj most fs r with
  |none=>rfl
  |some t =>
   show(match Qa most fs a with|some ts=>Res.ok (ts.map Tn)|none=>.ex "TooMany" []).bind _=_;cases Qa most fs a with
   |none=>rfl
   |some ts=>rfl
theorem YR (b:1<=most)(c:(m:Int)=most)(h:∀g∈fs,Kf n m g):∀(a:Fo),(∀r∈a,JRow r/\∀p∈r,p.1<(fs.length:Int))->∀{ts:List Fo},Qa most fs a=some ts->(∀t∈ts,Kf n m t)/\ts.length=a.length/\∀hs,ts.map (λt=>JB t hs)=a.map λr=>JJ r (fs.map λg=>JB g hs)
 | [],_,ts,q=>by cases q;exact⟨λ_ z=>(nomatch z),rfl,λ_=>rfl⟩
 |r::a,hr,ts,q=>by
  obtain⟨d,f⟩:=hr r Zqs;rw[YQ] at q;cases z:jj most fs r with
  |none=>rw[z] at q;cases q
  |some t =>
   rw[z] at q;obtain⟨o,e,rfl⟩:=Jj.mp (show(Qa most fs a).map (t :: ·)=some ts from q);obtain⟨i,j,l⟩:=YR b c h a (λx hx=>hr x (Zqm _ hx)) e;obtain⟨k1,k2⟩:=Hl b c h (λp hp=>⟨(d.bnd p hp).1,f p hp⟩) z;refine⟨λx hx=>?_,by rw[Zu,Zu,j],λhs=>by rw[Zl,Zl,l,k2]⟩;rcases UQ.mp hx with y|y
   .rw[y];exact k1
   .exact i x y
def Hn (d:1<=most)(j:most<=6)(f:(m:Int)=most)(h:∀g∈fs,Kf n m g){a:Fo}(F:Kf fs.length 2 a):QL [Tn a,.lst (fs.map Tn),.int most]=qb (jf most fs a):=by
 have c:∀r∈a,JRow r/\∀p∈r,p.1<(fs.length:Int):=λr c=>⟨F.cn.rows r c,F.th r c⟩;have b:=Hm d j f h a c;have l:=F.len;have hz:=JW (show a.length<=1000 from ());unfold jf;cases q:Qa most fs a with
 |none =>
  rw[q] at b;have b:TW (.one 0) (J3 KE (Jz (Tf 0) (Jz (Tf 1) (Jz (Tf 2) Th)))) [none,~~~(.lst (fs.map Tn)),~~~(.int most)] (a.map Ts)=.ex "TooMany" []:=b;show _=Res.ex "TooMany" [];simp[QL,YJ,b,hz]
 |some ts =>
  rw[q] at b;have b:TW (.one 0) (J3 KE (Jz (Tf 0) (Jz (Tf 1) (Jz (Tf 2) Th)))) [none,~~~(.lst (fs.map Tn)),~~~(.int most)] (a.map Ts)=.ok (ts.map Tn):=b;obtain⟨k1,k2,_⟩:=YR d f h a c q;have e:QL [Tn a,.lst (fs.map Tn),.int most]=xN [.lst (ts.map Tn),.int most]:=by
   generalize ts.map Tn=ds at b;simp[QL,YJ,b,hz];cases xN [D.lst ds,D.int most]<;>rfl
  rw[e];cases ts with
  |nil=>exact Zn (Je.mp k2.symm) F.cn.ne
  |cons t ts =>
   have k2:ts.length+1=a.length:=k2;exact R1 ⟨(k1 t Zqs).cn,by have:=(k1 t Zqs).len;lia⟩ (λg i=>⟨(k1 g (Zqm _ i)).cn,by have:=(k1 g (Zqm _ i)).len;lia⟩) () () ()
def R7 (u:1<=most)(v:(m:Int)=most)(h:∀g∈fs,Kf n m g){a:Fo}(F:Kf fs.length 2 a){t:Fo}(q:jf most fs a=some t):Kf n m t/\∀hs,JB t hs=JB a (fs.map λg=>JB g hs):=by
 have d:∀r∈a,JRow r/\∀p∈r,p.1<(fs.length:Int):=λr d=>⟨F.cn.rows r d,F.th r d⟩;obtain⟨ts,w,i⟩:=Jh.mp q;obtain⟨k1,k2,k3⟩:=YR u v h a d w;cases ts with
 |nil=>cases i
 |cons f ts =>
  obtain⟨e,lt⟩:=CI ts f t i;have j:=k1 f Zqs;have c:∀g∈ts,Kf n m g:=λg b=>k1 g (Zqm _ b);have C:=λhs=>CH hs ts f j.cn λg b=>(c g b).cn;rw[<- e] at C;refine⟨⟨(C []).1,(),?_⟩,λhs=>?_⟩
  .rw[e];exact Hh (P:=λr=>∀p∈r,p.1<(n:Int)) ts f j.th λg b=>(c g b).th
  .obtain⟨_,l,o,s⟩:=C hs;unfold JB at k3 l o s ⊢;rw[<- k3 hs];refine Bl ?_ λy x=>?_
   .rcases l with z|⟨g,b,z⟩
    .exact Ja.mpr ⟨f,Zqs,z.symm⟩
    .exact Ja.mpr ⟨g,Zqm _ b,z.symm⟩
   .obtain⟨g,b,rfl⟩:=Ja.mp x;rcases UQ.mp b with z|z
    .rw[z];exact o
    .exact s g z
end
def j3:Option Fo->D
 |some t=>Tn t
 |none=>.non
section
variable {n m:Nat}{most:Int}{fs:List Fo}
theorem Ho (most:Int)(g:Fo):∀(gs:List Fo) (t:Fo),j2 most t (gs++[g])=(j2 most t gs).bind λt'=>TJ most (Qd t' g)
 | [],t=>by
  show(TJ most (Qd t g)).bind (λt'=>some t')=TJ most (Qd t g);cases TJ most (Qd t g)<;>rfl
 |x::gs,t=>by
  rw[Vn,Xq,Xq];cases TJ most (Qd t x) with
  |none=>rfl
  |some t'=>exact Ho most g gs t'
theorem Hq (most:Int)(hs:List Fo):∀(gs:List Fo) (t:Fo),j2 most t gs=none->j2 most t (gs++hs)=none
 | [],t,h=>by cases h
 |x::gs,t,h=>by
  rw[Vn,Xq];rw[Xq] at h;cases q:TJ most (Qd t x) with
  |none=>rfl
  |some t'=>rw[q] at h;exact Hq most hs gs t' h
inductive MadeA (most:Int):List Fo->D->Prop
 |no:MadeA most [] .non
 |so {f:Fo} {gs:List Fo} {t:Fo}:jE most f gs=some t->MadeA most (f::gs) (Tn t)
def R8 {f:Fo}(w:Int)(a:∀r∈f,r.length<=1000):TW (.one 0) (T2 Uk (Jz (JV [none,none,some 1] (iS (Tf 0)) (.tup [0,1]) (jr (Jz (Tf 0) (Jz (T1 TL (Tf 1) (Tf 2)) Th)))) Th)) [none,~~~(.int w)] (f.map Ts)=.ok ((Q8 f w).map Ts):=by
 unfold Q8;rw[Zw];refine Q5 λr b=>?_;have c:=JW (a r b);have k:TW (.tup [0,1]) (jr (Jz (Tf 0) (Jz (T1 TL (Tf 1) (Tf 2)) Th))) [none,none,~~~(.int w)] (r.map ja)=.ok ((Qr r w).map ja):=by
  unfold Qr;rw[Zw];exact Q5 λp _=>by simp[ja]
 simp[Ts,k,c]
def R9 {t g:Fo}{j:Nat}{r:Jx}(h:t[j]? = some r):Qx (t.take (j+1)) g=Qx (t.take j) g++g.map (Qc r):=by
 unfold Qx;rw[QD h,List.flatMap_append];simp
def RA {t w:Fo}{u0 u1 u2 u4 u5 u8:Option SV}(g:∀r∈t,JRow r)(hw:∀r∈w,JRow r)(q:t.length<=6)(h:w.length<=6):∃a,jN (.one 8) (KS 7 (JV [none,some 8] (iS (Tf 6)) (.one 0) (J3 WA (Jz (Tf 1) (Jz (Tf 0) Th))))) (t.map Ts) [u0,u1,u2,~~~(Tn t),u4,u5,~~~(Tn w),some (.own false (.lst [])),u8]=.ok (.next [u0,u1,u2,~~~(Tn t),u4,u5,~~~(Tn w),some (.own false (Tn (Qx t w))),a]):=by
 obtain⟨sd',e,a,c⟩:=Kz (tg:=.one 8) (b:=KS 7 (JV [none,some 8] (iS (Tf 6)) (.one 0) (J3 WA (Jz (Tf 1) (Jz (Tf 0) Th))))) (ds:=t.map Ts) (sd:=[u0,u1,u2,~~~(Tn t),u4,u5,~~~(Tn w),some (.own false (.lst [])),u8])
  (P:=λj sd=>∃a,sd=[u0,u1,u2,~~~(Tn t),u4,u5,~~~(Tn w),some (.own false (.lst ((Qx (t.take j) w).map Ts))),a]) ⟨u8,rfl⟩ (by
   rintro j x sd hx ⟨a,rfl⟩;obtain⟨one,d,rfl⟩:=QU hx;have s:=(Jd.mp d).1;have J:=g one (Uj d);have k:TW (.one 0) (J3 WA (Jz (Tf 1) (Jz (Tf 0) Th))) [none,~~~(Ts one)] (w.map Ts)=.ok ((w.map (Qc one)).map Ts):=by
    rw[Zw];exact Q5 λo i=>by simp[v9 J (hw o i)]
   have l:=JW (show w.length<=1000 from ());have u:(Qx (t.take j) w).length<=36:=by
    rw[C9,UG];have:=Vk (show min j t.length<=6 from ()) h;lia
   have f:(Qx (t.take j) w).length+w.length<=sizeLine:=Qz ();rw[R9 d,Uh];have dl:((w.map (Qc one)).map Ts).length=w.length:=by rw[Zql,Zql]
   generalize (w.map (Qc one)).map Ts=ds at *;refine⟨[u0,u1,u2,~~~(Tn t),u4,u5,~~~(Tn w),some (.own false (.lst ((Qx (t.take j) w).map Ts++ds))),~~~(Ts one)],?_,_,rfl⟩;have p:Tn w=.lst (w.map Ts):=rfl;rw[p];simp[k,l,dl,f])
 subst c;rw[Zql,UM] at e;exact⟨a,e⟩
def RB (U:1<=most)(m6:most<=6)(X:(m:Int)=most)(h:∀g∈fs,Kf n m g){r:Jx}(v:JRow r)(y:∀p∈r,p.1<(fs.length:Int)):Xl [Ts r,.lst (fs.map Tn),.int most]=.ok (j3 (jj most fs r)):=by
 have y:∀p∈r,0<=p.1/\p.1<(fs.length:Int):=λp hp=>⟨(v.bnd p hp).1,y p hp⟩;have Y:=CK h y;have Z:j4 fs r ≠ []:=λz=>v.ne (Jf.mp z);unfold Xl A1;generalize E:Tx (TC 6 _) _=b;have F:(((jN (.tup [4,5]) b (r.map ja) [~~~(Ts r),~~~(.lst (fs.map Tn)),~~~(.int most),~~~(.non),none,none,none,none,none]).bind (jA (T6 (Tf 3)))).bind jL)=.ok (j3 (jj most fs r)):=by
  refine W2 (R:=λz=>(z.bind (jA (T6 (Tf 3)))).bind jL=.ok (j3 (jj most fs r))) (P:=λi sd=>∃(d:D) (u4 u5 A s u8:Option SV),sd=[~~~(Ts r),~~~(.lst (fs.map Tn)),~~~(.int most),~~~d,u4,u5,A,s,u8]/\MadeA most ((j4 fs r).take i) d) ⟨.non,none,none,none,none,none,rfl,.no⟩ ?_ ?_
  .rintro sd ⟨d,u4,u5,A,s,u8,rfl,M⟩;rw[Zql,Vh (by unfold j4;rw[Zql];exact Zf _)] at M;unfold jj;generalize hI:j4 fs r=I at *;cases M with
   |no=>exact Zn rfl Z
   |so q =>
    simp only[q];rfl
  .rintro i x sd hx ⟨d,u4,u5,A,s,u8,rfl,M⟩;obtain⟨p,hp,rfl⟩:=QU hx;obtain⟨L,N⟩:=y p (Uj hp);have K:=h _ (AH L N);have B:=K.wait p.2;have l:=He L N;have mk:=R8 (f:=qd fs p.1) p.2 λr v=>by have:=(K.cn.rows r v).len;lia
   have l1:=K.len;have G:=JW (show(qd fs p.1).length<=1000 by lia);have j:(j4 fs r).take (i+1)=(j4 fs r).take i++[Q8 (qd fs p.1) p.2]:=QD (by unfold j4;rw[Zv,hp];rfl);have lw:(Q8 (qd fs p.1) p.2).length=(qd fs p.1).length:=Zql _;have mem:∀g∈(j4 fs r).take i,Kf n m g:=λg hg=>Y g (List.mem_of_mem_take hg);have rest:∀(f:Fo) (gs:List Fo),(j4 fs r).take (i+1)=f::gs->jE most f gs=none->j3 (jj most fs r)=.non:=λf gs e q=>by
    have sp:=VG (i+1) (j4 fs r);rw[e,Vn] at sp;unfold jj;rw[<- sp];show j3 (jE most f (gs++_))=_;unfold jE at q ⊢;cases z:TJ most (JI f) with
    |none=>rfl
    |some t=>rw[z] at q;rw[show(some t).bind (λt=>j2 most t (gs++(j4 fs r).drop (i+1)))=j2 most t (gs++(j4 fs r).drop (i+1)) from rfl,Hq most _ gs t q];rfl
   generalize hW:Q8 (qd fs p.1) p.2=w at *;cases H:(j4 fs r).take i with
   |nil =>
    rw[H] at M j;cases M;have a:jE most w []=TJ most w:=by
     unfold jE;rw[B.cn.thin];cases TJ most w<;>rfl
    by_cases c:most<(w.length:Int)
    .refine .inr (.inr ⟨.non,?_,?_⟩)
     .subst E;have o:TV [.lst (w.map Ts)]=some (.int w.length):=C1 w;simp[ja,l,Tn,mk,G,o,c]
     .rw[rest w [] j (a.trans (YF c))];rfl
    .refine .inl ⟨[~~~(Ts r),~~~(.lst (fs.map Tn)),~~~(.int most),~~~(Tn w),~~~(.int p.1),~~~(.int p.2),~~~(Tn w),s,u8],.inl ?_,Tn w,_,_,_,_,_,rfl,?_⟩
     .subst E;have o:TV [.lst (w.map Ts)]=some (.int w.length):=C1 w;simp[ja,l,Tn,mk,G,o,c]
     .rw[j];exact .so (a.trans (WD ()))
   |cons f gs =>
    rw[H] at M j;obtain⟨t,q,rfl⟩:∃t,jE most f gs=some t/\d=Tn t:=by
     cases M with
     |so q=>exact⟨_,q,rfl⟩
    obtain⟨T,_⟩:=Hk U X (by rw[<- H];exact mem) q;have lt:=T.len;have lw':=B.len;have u:=RA (u0:= ~~~(Ts r)) (u1:= ~~~(.lst (fs.map Tn))) (u2:= ~~~(.int most)) (u4:= ~~~(.int p.1)) (u5:= ~~~(.int p.2)) (u8:=u8) T.cn.rows B.cn.rows () ();obtain⟨v8,u⟩:=u;have C:K2 [Tn (Qx t w)]=.ok (Tn (Qd t w)):=CJ (CD T.cn.rows B.cn.rows) (by
     rw[C9];have:=Vk (show t.length<=6 from ()) (show w.length<=6 from ());lia)
    have a:jE most f (gs++[w])=TJ most (Qd t w):=by
     unfold jE at q ⊢;cases z:TJ most (JI f) with
     |none=>rw[z] at q;cases q
     |some O =>
      rw[z] at q;have q:j2 most O gs=some t:=q;show j2 most O (gs++[w])=_;rw[Ho,q];rfl
    have j:(j4 fs r).take (i+1)=f::(gs++[w]):=j;have Q:qk false (Tn t)=some (.bl false):=rfl;have J:(JS (.tup [4,5]) (ja p) [~~~(Ts r),~~~(.lst (fs.map Tn)),~~~(.int most),~~~(Tn t),u4,u5,A,s,u8]).bind b=(if most<((Qd t w).length:Int) then .ok (.ret .non) else .ok (.next [~~~(Ts r),~~~(.lst (fs.map Tn)),~~~(.int most),~~~(Tn (Qd t w)),~~~(.int p.1),~~~(.int p.2),~~~(Tn w),~~~(Tn (Qx t w)),v8])):=by
     subst E;have o:TV [Tn (Qd t w)]=some (.int (Qd t w).length):=C1 _;have l:jY (fs.map Tn) p.1=some (.lst ((qd fs p.1).map Ts)):=l;have e0:Tn t=.lst (t.map Ts):=rfl;have e1:(D.lst (w.map Ts))=Tn w:=rfl;have C:K2 [.lst ((Qx t w).map Ts)]=.ok (Tn (Qd t w)):=C;generalize Qd t w=S at *;generalize fs.map Tn=FS at u l ⊢;unfold Tn at u o C ⊢;generalize (Qx t w).map Ts=EJ at *;unfold Tn at Q;by_cases c:most<(S.length:Int)<;>simp[ja,l,mk,G,Q,u,C,o,c]
    rw[J];by_cases c:most<((Qd t w).length:Int)
    .rw[Zd c];refine .inr (.inr ⟨.non,rfl,?_⟩);rw[rest f (gs++[w]) j (a.trans (YF c))];rfl
    .rw[Ze c];refine .inl ⟨_,.inl rfl,Tn (Qd t w),_,_,_,_,_,rfl,?_⟩;rw[j];exact .so (a.trans (WD ()))
 simp[F]
end
section
variable {n m:Nat}{most:Int}{fs:List Fo}
theorem Hr (most:Int)(g:Fo):∀(gs:List Fo) (t:Fo),qB most t (gs++[g])=(qB most t gs).bind λt'=>TJ most (jO t' g)
 | [],t=>by
  show(TJ most t).bind (λ_=>TJ most (jO t g))=(TJ most t).bind λt'=>TJ most (jO t' g);cases q:TJ most t with
  |none=>rfl
  |some t'=>rw[(Wd q).1];rfl
 |x::gs,t=>by
  show(TJ most t).bind (λ_=>qB most (jO t x) (gs++[g]))=((TJ most t).bind λ_=>qB most (jO t x) gs).bind _;cases TJ most t with
  |none=>rfl
  |some t'=>exact Hr most g gs (jO t x)
theorem Hs (most:Int)(hs:List Fo):∀(gs:List Fo) (t:Fo),qB most t gs=none->qB most t (gs++hs)=none
 | [],t,h=>C8 h hs
 |x::gs,t,h=>by
  show(TJ most t).bind (λ_=>qB most (jO t x) (gs++hs))=none;have h:(TJ most t).bind (λ_=>qB most (jO t x) gs)=none:=h;cases q:TJ most t with
  |none=>rfl
  |some t'=>rw[q] at h;exact Hs most hs gs (jO t x) h
theorem AL (most:Int)(fs:List Fo)(b:Fo):∀a:Fo,Qa most fs (a++b)=(Qa most fs a).bind λx=>(Qa most fs b).map (x ++ ·)
 | []=>by
  show Qa most fs b=(Qa most fs b).map ([] ++ ·);cases Qa most fs b<;>rfl
 |r::a=>by
  rw[Vn,YQ,YQ,AL most fs b a];cases jj most fs r with
  |none=>rfl
  |some t =>
   show((Qa most fs a).bind λx=>(Qa most fs b).map (x ++ ·)).map (t :: ·)=((Qa most fs a).map (t :: ·)).bind λx=>(Qa most fs b).map (x ++ ·);cases Qa most fs a with
   |none=>rfl
   |some x=>show((Qa most fs b).map (x ++ ·)).map (t :: ·)=(Qa most fs b).map ((t::x) ++ ·);cases Qa most fs b<;>rfl
inductive MadeQ (most:Int):List Fo->Fo->Prop
 |no:MadeQ most [] []
 |so {f:Fo} {gs:List Fo} {t:Fo}:qB most f gs=some t->MadeQ most (f::gs) t
def RC (A:1<=most)(N:most<=6)(B:(m:Int)=most)(h:∀g∈fs,Kf n m g){a:Fo}(F:Kf fs.length 2 a):Xm [Tn a,.lst (fs.map Tn),.int most]=.ok (j3 (jf most fs a)):=by
 have s:∀r∈a,JRow r/\∀p∈r,p.1<(fs.length:Int):=λr s=>⟨F.cn.rows r s,F.th r s⟩;unfold Xm A3;generalize J:Tx (TC 5 _) _=b;have u:(((jN (.one 4) b (a.map Ts) [~~~(Tn a),~~~(.lst (fs.map Tn)),~~~(.int most),~~~(.lst []),none,none]).bind (jA (T6 (Tf 3)))).bind jL)=.ok (j3 (jf most fs a)):=by
  refine W2 (R:=λz=>(z.bind (jA (T6 (Tf 3)))).bind jL=.ok (j3 (jf most fs a))) (P:=λi sd=>∃(t:Fo) (ts:List Fo) (u4 u5:Option SV),sd=[~~~(Tn a),~~~(.lst (fs.map Tn)),~~~(.int most),~~~(Tn t),u4,u5]/\Qa most fs (a.take i)=some ts/\MadeQ most ts t) ⟨[],[],none,none,rfl,rfl,.no⟩ ?_ ?_
  .rintro sd ⟨t,ts,u4,u5,rfl,R,M⟩;rw[Zql,UM] at R;unfold jf;rw[R];cases M with
   |no =>
    obtain⟨_,k2,_⟩:=YR A B h a s R;exact Zn (Je.mp k2.symm) F.cn.ne
   |so q =>
    show _=Res.ok (j3 (qB most _ _));rw[q];rfl
  .rintro i x sd hx ⟨t,ts,u4,u5,rfl,R,M⟩;obtain⟨r,hp,rfl⟩:=QU hx;have v:=Uj hp;obtain⟨K,L⟩:=s r v;have d:=RB A N B h K L;have tk:a.take (i+1)=a.take i++[r]:=QD hp;have sp:=VG (i+1) a;obtain⟨k1,k2,_⟩:=YR A B h (a.take i) (λx hx=>s x (List.mem_of_mem_take hx)) R;have j:Qa most fs (a.take (i+1))=(jj most fs r).map λy=>ts++[y]:=by
    rw[tk,AL,R,YQ];show(Option.map (ts ++ ·) ((jj most fs r).bind λt=>some [t]))=_;cases jj most fs r<;>rfl
   have rest:Qa most fs (a.take (i+1))=none->j3 (jf most fs a)=.non:=λz=>by
    unfold jf;rw[<- sp,AL,z];rfl
   have o:∀f gs,Qa most fs (a.take (i+1))=some (f::gs)->qB most f gs=none->j3 (jf most fs a)=.non:=λf gs z q=>by
    unfold jf;rw[<- sp,AL,z];show j3 (((Qa most fs (a.drop (i+1))).map ((f::gs) ++ ·)).bind (wB most))=_;cases Qa most fs (a.drop (i+1)) with
    |none=>rfl
    |some hs =>
     show j3 (qB most f (gs++hs))=_;rw[Hs most hs gs f q];rfl
   cases E:jj most fs r with
   |none =>
    rw[E] at d j;refine .inr (.inr ⟨.non,?_,?_⟩)
    .subst J;have d:Xl [Ts r,.lst (fs.map Tn),.int most]=.ok .non:=d;have G:qk false .non=some (.bl true):=rfl;generalize fs.map Tn=FS at *;simp[d,G]
    .rw[rest j];rfl
   |some w =>
    rw[E] at d j;have d:Xl [Ts r,.lst (fs.map Tn),.int most]=.ok (Tn w):=d;have j:Qa most fs (a.take (i+1))=some (ts++[w]):=j;obtain⟨H,_⟩:=Hl A B h (λp hp=>⟨(K.bnd p hp).1,L p hp⟩) E;have U:=H.len;obtain⟨lt,tr,f,gs,ets,lim⟩:t.length<=6/\(∀x∈t,JRow x)/\∃f gs,ts++[w]=f::gs/\qB most f gs=TJ most (JI (t++w)):=by
     cases M with
     |no=>exact⟨(),λ_ z=>(nomatch z),w,[],rfl,by rw[List.nil_append,H.cn.thin];rfl⟩
     | @so f gs _ q =>
      obtain⟨e,l⟩:=CI gs f t q;have C:=CH [] gs f (k1 f Zqs).cn λg O=>(k1 g (Zqm _ O)).cn;rw[<- e] at C;refine⟨(),C.1.rows,f,gs++[w],rfl,?_⟩;rw[Hr,q];rfl
    have Q:=GR (f:=t) (g:=w) ();have T:K2 [Tn (t++w)]=.ok (Tn (JI (t++w))):=CJ (λx hx=>(Jc.mp hx).elim (tr x) (H.cn.rows x)) (by rw[Ua];lia);have G:qk false (Tn w)=some (.bl false):=rfl;have I:(JS (.one 4) (Ts r) [~~~(Tn a),~~~(.lst (fs.map Tn)),~~~(.int most),~~~(Tn t),u4,u5]).bind b=(if most<((JI (t++w)).length:Int) then .ok (.ret .non) else .ok (.next [~~~(Tn a),~~~(.lst (fs.map Tn)),~~~(.int most),~~~(Tn (JI (t++w))),~~~(Ts r),~~~(Tn w)])):=by
     subst J;generalize JI (t++w)=S at *;generalize fs.map Tn=FS at d ⊢;by_cases c:most<(S.length:Int)<;>simp[d,G,Q,T,c]
    rw[I];by_cases c:most<((JI (t++w)).length:Int)
    .rw[Zd c];refine .inr (.inr ⟨.non,rfl,?_⟩);rw[o f gs (by rw[j,ets]) (lim.trans (YF c))];rfl
    .rw[Ze c];refine .inl ⟨_,.inl rfl,JI (t++w),ts++[w],_,_,rfl,j,?_⟩;rw[ets];exact .so (lim.trans (WD ()))
 have X:iS (Tf 0) [~~~(Tn a),~~~(.lst (fs.map Tn)),~~~(.int most),~~~(.lst []),none,none]=.ok (a.map Ts):=rfl;generalize fs.map Tn=FS at *;simp[Tn] at u ⊢;simp[u]
end
theorem Ht (a:Int):∀i:Nat,jo (Q7 a i)
 | 0=>List.Pairwise.nil
 |i+1=>by
  have b:=Ht a i;unfold Q7
  split
  .exact PR b λp hp=>(XY a i p hp).2
  .exact b
def RD (a n:Int):jo (qa a n):=by
 unfold qa
 split
 .exact GG _
 .exact Ht a _
def RE {ns:Yf}(h:ns.length<=63){n:Int}(A:1<=n)(B:n<=12):∃fs,AA [.scr ns,.int n,.int 2]=.ok (TB fs)/\RoundOk n fs/\∀f∈fs,Kf n.toNat 2 f:=by
 obtain⟨g,O,E⟩:=Rh h (a:=1) (most:=24) () () () ();have Q:=VQ (Y0 g) V2;rw[GC] at Q;obtain⟨d,ecs,cne,cl⟩:∃d:Yf,d=(if g=[] then[(ns.length:Int)] else g)/\d ≠ []/\d.length<=24:=by
  refine⟨_,rfl,?_,?_⟩<;>split
  .simp
  .assumption
  .simp
  .omega
 have Y:QJ [.int n]=.ok (JK 0 n.toNat):=Kp () ();have cp:0<d.length:=Jm.mpr cne;have v:∀x:Int,∃c:Int,jY (d.map D.int) (x % (d.length:Int))=some (.int c):=λx=>⟨_,C0 (Int.emod_nonneg x ()) (VC x ())⟩;have R:∀x:Int,jz (.int x) (.int d.length)=some (.int (x % d.length)):=λx=>Na ();have start:(jQ (JC (T1 xg (Tf 3) (j1 Th))) (TC 3 (j1 (Jz (T2 TV (Jz (Tf 0) Th)) Th))) JX) [~~~(.scr ns),~~~(.int n),~~~(.int 2),~~~(.lst (g.map .int)),none,none,none,none,none]=.ok (.next [~~~(.scr ns),~~~(.int n),~~~(.int 2),~~~(.lst (d.map .int)),none,none,none,none,none]):=by
  by_cases q:g=[]
  .rw[Zd q] at ecs;rw[ecs];subst q;simp[VQ V2 V2,Ky]
  .rw[Ze q] at ecs;rw[ecs];simp[Q,q]
 obtain⟨sd',e,fs,u5,F,m,u8,s,G,o⟩:=Kz (tg:=.one 5) (b:=(Tx (jH 6 (j1 Th)) (Tx (jp (qW (Jz (T1 TL (dC (.int 1)) (T1 jz (J3 WC (Jz (T1 qi (Tf 3) (T1 jz (Tf 5) (T2 TV (Jz (Tf 3) Th)))) (Jz (dC (.int 89)) Th))) (Tf 2))) Th)) (.one 7) (Tx (TC 8 (T1 qi (Tf 3) (T1 jz (T1 TL (Tf 5) (T1 qM (dC (.int 5)) (Tf 7))) (T2 TV (Jz (Tf 3) Th))))) (Kw 6 (J3 Xo (Jz (T1 TL (T1 TL (T1 Km (Tf 8) (T1 TL (Tf 7) (dC (.int 1)))) (T1 qM (dC (.int 7)) (Tf 5))) (Tf 7)) (Jz (Tf 1) Th)))))) (λsd=>(Kw 4 (J3 K2 (Jz (Tf 6) Th))) (j0 [6] sd))))) (ds:=JK 0 n.toNat) (sd:=[~~~(.scr ns),~~~(.int n),~~~(.int 2),~~~(.lst (d.map .int)),some (.own false (.lst [])),none,none,none,none])
  (P:=λi sd=>∃(fs:List Jy) (u5 F m u8:Option SV),sd=[~~~(.scr ns),~~~(.int n),~~~(.int 2),~~~(.lst (d.map .int)),some (.own false (.lst (fs.map Tn))),u5,F,m,u8]/\fs.length=i/\∀f∈fs,FormOk n f/\Kf n.toNat 2 f) ⟨[],none,none,none,none,rfl,rfl,λ_ h=>(nomatch h)⟩ (by
   rintro i x sd hx ⟨fs,u5,F,m,u8,rfl,G,o⟩;obtain⟨rfl,hi⟩:=Um hx;obtain⟨c,Z⟩:=v (i:Int);have S:=vE c 89;generalize qV c 89=mx at S;obtain⟨k,hk,k1,k3⟩:∃k:Int,1+mx % 2=k/\1<=k/\k<=2:=⟨_,rfl,(),()⟩;have r2:QJ [.int k]=.ok (JK 0 k.toNat):=Kp () ();obtain⟨sd',e,rs,m,u8,s,w,l⟩:=Kz (tg:=.one 7) (b:=(Tx (TC 8 (T1 qi (Tf 3) (T1 jz (T1 TL (Tf 5) (T1 qM (dC (.int 5)) (Tf 7))) (T2 TV (Jz (Tf 3) Th))))) (Kw 6 (J3 Xo (Jz (T1 TL (T1 TL (T1 Km (Tf 8) (T1 TL (Tf 7) (dC (.int 1)))) (T1 qM (dC (.int 7)) (Tf 5))) (Tf 7)) (Jz (Tf 1) Th)))))) (ds:=JK 0 k.toNat) (sd:=[~~~(.scr ns),~~~(.int n),~~~(.int 2),~~~(.lst (d.map .int)),some (.own false (.lst (fs.map Tn))),~~~(.int i),some (.own false (.lst [])),m,u8])
    (P:=λj sd=>∃(rs:Jy) (m u8:Option SV),sd=[~~~(.scr ns),~~~(.int n),~~~(.int 2),~~~(.lst (d.map .int)),some (.own false (.lst (fs.map Tn))),~~~(.int i),some (.own false (.lst (rs.map Ts))),m,u8]/\rs.length=j/\∀r∈rs,RowOk n r/\jo r) ⟨[],m,u8,rfl,rfl,λ_ h=>(nomatch h)⟩ (by
     rintro j x sd hx ⟨rs,m,u8,rfl,w,l⟩;obtain⟨rfl,hj⟩:=Um hx;obtain⟨u,H⟩:=v ((i:Int)+5*j);have I:=WZ (EO (i:=5) (j:=(j:Int)) () ());have J:=WZ (EO (i:=7) (j:=(i:Int)) () ());have fd:=Nb (i:=u) (j:=(j:Int)+1) () ();have T:=vD (c:=u / ((j:Int)+1)+7*i+j) A B;have ok:RowOk n (qa (u / ((j:Int)+1)+7*i+j) n)/\jo (qa (u / ((j:Int)+1)+7*i+j) n):=⟨⟨PF _ _,PK _ _,PH A,PJ B⟩,RD _ _⟩;generalize qa (u / ((j:Int)+1)+7*i+j) n=r at T ok;have hz:=JW (show rs.length<=1000 from ());refine⟨[~~~(.scr ns),~~~(.int n),~~~(.int 2),~~~(.lst (d.map .int)),some (.own false (.lst (fs.map Tn))),~~~(.int i),some (.own false (.lst ((rs++[r]).map Ts))),~~~(.int j),~~~(.int u)],by simp[R,I,H,J,fd,T,hz],_,_,_,rfl,by rw[Ua,Uv,w],λq K=>?_⟩;rcases Jc.mp K with y|y
     .exact l q y
     .rw[Vt.mp y];exact ok)
   subst s;rw[Kq] at w;have L:rs ≠ []:=λz=>by rw[z] at w;simp at w;lia
   have U:∀r∈rs,JRow r:=λr t=>⟨(l r t).1.ne,(l r t).2,λp hp=>by have:=(l r t).1.mem p hp;lia⟩;have C:=CF U L;have tl:(JI rs).length<=rs.length:=GE rs;have X:∀r∈JI rs,RowOk n r:=λr t=>(l r (qD.mp t).1).1;obtain⟨f,M,fo⟩:∃f,K2 [Tn rs]=.ok (Tn f)/\FormOk n f/\Kf n.toNat 2 f:=⟨_,CJ U (),⟨C.ne,X,()⟩,⟨C,(),λr t p hp=>by have:=(X r t).mem p hp;lia⟩⟩;have M:K2 [.lst (rs.map Ts)]=.ok (Tn f):=M;have hz:=JW (show fs.length<=1000 from ());refine⟨[~~~(.scr ns),~~~(.int n),~~~(.int 2),~~~(.lst (d.map .int)),some (.own false (.lst ((fs++[f]).map Tn))),~~~(.int i),~~~(.lst (rs.map Ts)),m,u8],by simp[R,Z,S,hk,r2,e,M,hz],_,_,_,_,_,rfl,by rw[Ua,Uv,G],λq K=>?_⟩;rcases Jc.mp K with y|y
   .exact o q y
   .rw[Vt.mp y];exact fo)
 subst s;rw[Kq] at G;refine⟨fs,?_,⟨(),A,B,λf N=>(o f N).1⟩,λf N=>(o f N).2⟩;have s1:TC 3 (J3 Y7 (Jz (Tf 0) (Jz (dC (.int 1)) (Jz (dC (.int 24)) Th)))) (~~~(.scr ns)::~~~(.int n)::~~~(.int 2)::List.replicate (9-3) none)=.ok (.next [~~~(.scr ns),~~~(.int n),~~~(.int 2),~~~(.lst (g.map .int)),none,none,none,none,none]):=by
  simp[E]
 rw[show AA=jk 9 3 Y8 from rfl,EN];unfold Y8;rw[WY,s1,Res.bind_ok,ZY,WY,start,Res.bind_ok,ZY];have s2:jH 4 (j1 Th) [~~~(.scr ns),~~~(.int n),~~~(.int 2),~~~(.lst (d.map .int)),none,none,none,none,none]=.ok (.next [~~~(.scr ns),~~~(.int n),~~~(.int 2),~~~(.lst (d.map .int)),some (.own false (.lst [])),none,none,none,none]):=by simp
 have s3:qW (Jz (Tf 1) Th) [~~~(.scr ns),~~~(.int n),~~~(.int 2),~~~(.lst (d.map .int)),some (.own false (.lst [])),none,none,none,none]=.ok (JK 0 n.toNat):=by simp[Y]
 rw[WY,s2,Res.bind_ok,ZY,WY,EU,s3,Res.bind_ok,e];simp[TB]
def Qo (most:Int)(fs:List Fo):List Fo->Option (List Fo)
 | []=>some []
 |f::r=>(jf most fs f).bind λt=>(Qo most fs r).map (t :: ·)
def AM (most:Int)(fs:List Fo)(f:Fo)(r:List Fo):Qo most fs (f::r)=(jf most fs f).bind λt=>(Qo most fs r).map (t :: ·):=rfl
def Qf (most:Int)(forms:List Fo):Nat->Option (List Fo)
 | 0=>some ((List.range forms.length).map λk:Nat=>[[((k:Int),0)]])
 |k+1=>(Qf most forms k).bind λt=>Qo most t forms
def yo:Option (List Fo)->Res D
 |some t=>.ok (TB t)
 |none=>.ex "TooMany" []
def qR:Option (List Fo)->D
 |some t=>TB t
 |none=>.non
structure Told (n m:Nat)(forms told:List Fo):Prop where
 fl:forms.length=n
 tl:told.length=n
 fk:∀f∈forms,Kf n 2 f
 tk:∀t∈told,Kf n m t
section
variable {n m:Nat}{most:Int}{forms told:List Fo}
def Told.fk' (T:Told n m forms told):∀f∈forms,Kf told.length 2 f:=λf a=>by rw[T.tl];exact T.fk f a
theorem CL (a:1<=most)(b:(m:Int)=most)(h:∀g∈told,Kf n m g):∀{forms:List Fo},(∀f∈forms,Kf told.length 2 f)->∀{ts:List Fo},Qo most told forms=some ts->(∀t∈ts,Kf n m t)/\ts.length=forms.length/\∀hs,ts.map (λt=>JB t hs)=forms.map λf=>JB f (told.map λg=>JB g hs)
 | [],_,ts,q=>by cases q;exact⟨λ_ z=>(nomatch z),rfl,λ_=>rfl⟩
 |f::r,hf,ts,q=>by
  rw[AM] at q;cases z:jf most told f with
  |none=>rw[z] at q;cases q
  |some t =>
   rw[z] at q;obtain⟨j,e,rfl⟩:=Jj.mp (show(Qo most told r).map (t :: ·)=some ts from q);obtain⟨c,d,i⟩:=CL a b h (λx hx=>hf x (Zqm _ hx)) e;obtain⟨k1,k2⟩:=R7 a b h (hf f Zqs) z;refine⟨λx hx=>?_,by rw[Zu,Zu,d],λhs=>by rw[Zl,Zl,i,k2]⟩;rcases UQ.mp hx with y|y
   .rw[y];exact k1
   .exact c x y
def Told.next (T:Told n m forms told)(a:1<=most)(b:(m:Int)=most){ts:List Fo}(q:Qo most told forms=some ts):Told n m forms ts/\∀hs,ts.map (λt=>JB t hs)=W9 forms (told.map λg=>JB g hs):=by
 obtain⟨k1,k2,k3⟩:=CL a b T.tk T.fk' q;exact⟨⟨T.fl,k2.trans T.fl,T.fk,k1⟩,k3⟩
def RF (f:1<=m)(g:n<=12)(k:Nat)(i:k<n):Kf n m [[((k:Int),0)]]:=by
 have J:JRow [((k:Int),0)]:=⟨(),GG _,λp hp=>by rw[Vt.mp hp];show 0<=(k:Int)/\(k:Int)<12;lia⟩;have C:=CF (l:=[[((k:Int),0)]]) (λr d=>by rw[Vt.mp d];exact J) ();have e:JI [[((k:Int),0)]]=[[((k:Int),0)]]:=by
  have l:=GE [[((k:Int),0)]]
  match h:JI [[((k:Int),0)]] with
  | []=>exact Zn h C.ne
  | [r] =>
   have:r∈JI [[((k:Int),0)]]:=by rw[h];exact Zqs
   rw[Vt.mp (qD.mp this).1]
  |a::b::c=>rw[h] at l;simp at l
 rw[e] at C;exact⟨C,f,λr d p hp=>by rw[Vt.mp d] at hp;rw[Vt.mp hp];show(k:Int)<n;lia⟩
theorem YS (c:1<=most)(d:(m:Int)=most)(a:n<=12)(b:forms.length=n)(h:∀f∈forms,Kf n 2 f){hs:Yf}(j:hs.length=n):∀(k:Nat) {ts:List Fo},Qf most forms k=some ts->Told n m forms ts/\ts.map (λt=>JB t hs)=xO forms hs k
 | 0,ts,q=>by
  have e:ts=(List.range forms.length).map λk:Nat=>[[((k:Int),0)]]:=(Zqi q).symm;refine⟨⟨b,by rw[e,Zql,ZB,b],h,λt l=>?_⟩,?_⟩
  .rw[e] at l;obtain⟨k,o,rfl⟩:=Ja.mp l;rw[List.mem_range,b] at o;exact RF () a k o
  .rw[e,Zw];show _=hs;refine List.ext_getElem (by rw[Zql,ZB,b,j]) λi v p=>?_;rw[Vr,List.getElem_range];show JB [[((i:Int),0)]] hs=_;unfold JB JJ TY;show((hs.getD (i:Int).toNat 0+0:Int))=_;rw[UF,Uf,Zqg p,Int.add_zero];rfl
 |k+1,ts,q=>by
  obtain⟨w,e,r⟩:=Jh.mp (show(Qf most forms k).bind (λt=>Qo most t forms)=some ts from q);obtain⟨T,g⟩:=YS c d a b h j k e;obtain⟨s,u⟩:=T.next c d r;refine⟨s,?_⟩;rw[u,g];rfl
def vF (d:1<=most)(e:most<=6)(i:(m:Int)=most)(h:∀g∈told,Kf n m g)(j:forms.length<=12)(a:∀f∈forms,Kf told.length 2 f):We [TB forms,TB told,.int most]=yo (Qo most told forms):=by
 have b:∀forms:List Fo,(∀f∈forms,Kf told.length 2 f)->TW (.one 0) (J3 QL (Jz (Tf 0) (Jz (Tf 1) (Jz (Tf 2) Th)))) [none,~~~(TB told),~~~(.int most)] (forms.map Tn)=(match Qo most told forms with|some ts=>.ok (ts.map Tn)|none=>.ex "TooMany" []):=by
  intro forms
  induction forms with
  |nil=>intro _;rfl
  |cons f r c =>
   intro a;have c:=c λx hx=>a x (Zqm _ hx);have p:=Hn d e i h (a f Zqs);have nx:TW (.one 0) (J3 QL (Jz (Tf 0) (Jz (Tf 1) (Jz (Tf 2) Th)))) [none,~~~(TB told),~~~(.int most)] ((f::r).map Tn)=(QL [Tn f,.lst (told.map Tn),.int most]).bind λv=>(TW (.one 0) (J3 QL (Jz (Tf 0) (Jz (Tf 1) (Jz (Tf 2) Th)))) [none,~~~(TB told),~~~(.int most)] (r.map Tn)).bind λvs=>.ok (v::vs):=rfl;rw[nx,p,c,AM];cases jf most told f with
   |none=>rfl
   |some t =>
    show(match Qo most told r with|some ts=>Res.ok (ts.map Tn)|none=>.ex "TooMany" []).bind _=_;cases Qo most told r with
    |none=>rfl
    |some ts=>rfl
 have k:=b forms a;have hz:=JW (show forms.length<=1000 from ());cases q:Qo most told forms with
 |none =>
  rw[q] at k;have k:TW (.one 0) (J3 QL (Jz (Tf 0) (Jz (Tf 1) (Jz (Tf 2) Th)))) [none,~~~(TB told),~~~(.int most)] (forms.map Tn)=.ex "TooMany" []:=k;show _=Res.ex "TooMany" [];simp[We,YK,k,hz]
 |some ts =>
  rw[q] at k;have k:TW (.one 0) (J3 QL (Jz (Tf 0) (Jz (Tf 1) (Jz (Tf 2) Th)))) [none,~~~(TB told),~~~(.int most)] (forms.map Tn)=.ok (ts.map Tn):=k;show _=Res.ok (TB ts);simp[We,YK,k,hz];rfl
def RG (a:forms.length<=12):TW (.one 0) (U3 x6 (Jz (Tf 0) Th)) [none] (JK 0 forms.length)=.ok (((List.range forms.length).map λk:Nat=>[[((k:Int),0)]]).map Tn):=by
 rw[Zw];exact ZZ λi hi=>by simp
def vH (e:1<=most)(h:most<=6)(g:(m:Int)=most)(c:n<=12)(l:forms.length=n)(o:∀f∈forms,Kf n 2 f){k:Nat}(w:k<=10):KJ [TB forms,.int k,.int most]=yo (Qf most forms k):=by
 have hs:(List.replicate n (0:Int)).length=n:=Vm;have p:TV [TB forms]=some (.int forms.length):=by show some (D.int ((forms.map Tn).length:Int))=_;rw[Zql]
 have r:QJ [.int (forms.length:Int)]=.ok (JK 0 forms.length):=Kp () ();have s:QJ [.int (k:Int)]=.ok (JK 0 k):=Kp () ();have t:=RG (forms:=forms) ();have hz:(JK 0 forms.length).length<sizeLine:=JW (by rw[Kq];lia);have b:(((jN (.one 4) (TC 3 (J3 We (Jz (Tf 0) (Jz (Tf 3) (Jz (Tf 2) Th))))) (JK 0 k) [~~~(TB forms),~~~(.int k),~~~(.int most),~~~(TB ((List.range forms.length).map λk:Nat=>[[((k:Int),0)]])),none]).bind (jA (T6 (Tf 3)))).bind jL)=yo (Qf most forms k):=by
  refine Cr (R:=λz=>(z.bind (jA (T6 (Tf 3)))).bind jL=yo (Qf most forms k)) (P:=λi sd=>∃(ts:List Fo) (u4:Option SV),sd=[~~~(TB forms),~~~(.int k),~~~(.int most),~~~(TB ts),u4]/\Qf most forms i=some ts) ⟨_,none,rfl,rfl⟩ ?_ ?_
  .rintro sd ⟨ts,u4,rfl,q⟩;rw[Kq] at q;rw[q];rfl
  .rintro i x sd hx ⟨ts,u4,rfl,q⟩;obtain⟨rfl,hi⟩:=Um hx;obtain⟨T,_⟩:=YS e g c l o hs i q;have a:=vF e h g T.tk () T.fk';have nx:Qf most forms (i+1)=Qo most ts forms:=by
    show(Qf most forms i).bind _=_;rw[q];rfl
   cases z:Qo most ts forms with
   |some d =>
    rw[z] at a nx;have a:We [TB forms,TB ts,.int most]=.ok (TB d):=a;exact .inl ⟨[~~~(TB forms),~~~(.int k),~~~(.int most),~~~(TB d),~~~(.int i)],by simp[a],d,_,rfl,nx⟩
   |none =>
    rw[z] at a nx;have a:We [TB forms,TB ts,.int most]=.ex "TooMany" []:=a;refine .inr ⟨"TooMany",[],by simp[a],?_⟩;have all:∀j,Qf most forms (i+1+j)=none:=λj=>by
     induction j with
     |zero=>exact nx
     |succ j u =>
      show(Qf most forms (i+1+j)).bind _=none;rw[u];rfl
    have:=all (k-(i+1));rw[show i+1+(k-(i+1))=k by lia] at this;rw[this];rfl
 have v:TB ((List.range forms.length).map λk:Nat=>[[((k:Int),0)]])=.lst (((List.range forms.length).map λk:Nat=>[[((k:Int),0)]]).map Tn):=rfl;rw[v] at b;generalize (((List.range forms.length).map λk:Nat=>[[((k:Int),0)]]).map Tn)=ds at *;simp[KJ,AI,p,r,t,hz,s,b]
end
section
variable {n m:Nat}{most:Int}{forms told:List Fo}
theorem Hu (most:Int)(told:List Fo):∀forms:List Fo,(match Qo most told forms with|some ts=>forms.map (λf=>j3 (jf most told f))=ts.map Tn|none=>∃f∈forms,jf most told f=none)
 | []=>rfl
 |f::r=>by
  have a:=Hu most told r;rw[AM];cases q:jf most told f with
  |none=>exact⟨f,Zqs,q⟩
  |some t =>
   show match (Qo most told r).map (t :: ·) with|some ts=>_|none=>_
   cases z:Qo most told r with
   |none =>
    rw[z] at a;obtain⟨x,hx,e⟩:=a;exact⟨x,Zqm _ hx,e⟩
   |some ts =>
    rw[z] at a;have a:r.map (λf=>j3 (jf most told f))=ts.map Tn:=a;show(f::r).map (λf=>j3 (jf most told f))=(t::ts).map Tn;rw[Zl,Zl,a,q];rfl
def RH (ds:Yz)(h:∀d∈ds,d=.non\/∃t,d=Tn t):yI false .non (.lst ds)=some (.bl (ds.any λe=>Qj e .non)):=by
 refine Zd ?_;show(jy 12 .non&&ds.all (jy 12))=true;rw[show jy 12 .non=true from rfl,Bool.true_and];refine UW.mpr λd a=>?_;rcases h d a with e|⟨t,e⟩
 .rw[e];rfl
 .rw[e];exact GF 8 t
def v7 (v:1<=most)(B:most<=6)(w:(m:Int)=most)(o:n<=12)(C:forms.length=n)(E:∀f∈forms,Kf n 2 f){k:Nat}(L:k<=10):A5 [TB forms,.int k,.int most]=.ok (qR (Qf most forms k)):=by
 have hs:(List.replicate n (0:Int)).length=n:=Vm;have F:TV [TB forms]=some (.int forms.length):=by show some (D.int ((forms.map Tn).length:Int))=_;rw[Zql]
 have G:QJ [.int (forms.length:Int)]=.ok (JK 0 forms.length):=Kp () ();have H:QJ [.int (k:Int)]=.ok (JK 0 k):=Kp () ();have I:TW (.one 0) (j1 (Jz (jr (Jz (jr (Jz (Tf 0) (Jz (dC (.int 0)) Th))) Th)) Th)) [none] (JK 0 forms.length)=.ok (((List.range forms.length).map λk:Nat=>[[((k:Int),0)]]).map Tn):=by
  rw[Zw];exact ZZ λi hi=>by simp[Tn,Ts,ja]
 have hz:(JK 0 forms.length).length<sizeLine:=JW (by rw[Kq];lia);have c:=JW (show forms.length<=1000 from ());unfold A5 A4;generalize A:Tx (TC 3 (JV [none,some 2,some 3] _ _ _)) _=b;have g:(((jN (.one 4) b (JK 0 k) [~~~(TB forms),~~~(.int k),~~~(.int most),~~~(TB ((List.range forms.length).map λk:Nat=>[[((k:Int),0)]])),none]).bind (jA (T6 (Tf 3)))).bind jL)=.ok (qR (Qf most forms k)):=by
  refine W2 (R:=λz=>(z.bind (jA (T6 (Tf 3)))).bind jL=.ok (qR (Qf most forms k))) (P:=λi sd=>∃(ts:List Fo) (u4:Option SV),sd=[~~~(TB forms),~~~(.int k),~~~(.int most),~~~(TB ts),u4]/\Qf most forms i=some ts) ⟨_,none,rfl,rfl⟩ ?_ ?_
  .rintro sd ⟨ts,u4,rfl,q⟩;rw[Kq] at q;rw[q];rfl
  .rintro i x sd hx ⟨ts,u4,rfl,q⟩;obtain⟨rfl,hi⟩:=Um hx;obtain⟨T,_⟩:=YS v w o C E hs i q;have p:TW (.one 0) (J3 Xm (Jz (Tf 0) (Jz (Tf 2) (Jz (Tf 1) Th)))) [none,~~~(.int most),~~~(TB ts)] (forms.map Tn)=.ok (forms.map λf=>j3 (jf most ts f)):=Q5 λf r=>by
    have:=RC v B w T.tk (T.fk' f r);have:Xm [Tn f,TB ts,.int most]=.ok (j3 (jf most ts f)):=this;simp[this]
   have h:=RH (forms.map λf=>j3 (jf most ts f)) λd s=>by
    obtain⟨f,_,rfl⟩:=Ja.mp s;cases jf most ts f with
    |none=>exact .inl rfl
    |some t=>exact .inr ⟨t,rfl⟩
   have a:=Hu most ts forms;have nx:Qf most forms (i+1)=Qo most ts forms:=by
    show(Qf most forms i).bind _=_;rw[q];rfl
   cases z:Qo most ts forms with
   |some l =>
    rw[z] at a nx;have a:forms.map (λf=>j3 (jf most ts f))=l.map Tn:=a;rw[a] at p h;have u:((l.map Tn).any λe=>Qj e .non)=false:=by
     rw[Ve];intro d s;obtain⟨t,_,rfl⟩:=Ja.mp s;rw[z7.mpr (show Tn t ≠ .non from λy=>nomatch y)]
     decide
    rw[u] at h;refine .inl ⟨[~~~(TB forms),~~~(.int k),~~~(.int most),~~~(.lst (l.map Tn)),~~~(.int i)],.inl ?_,l,_,rfl,nx⟩;subst A;simp[p,c,h]
   |none =>
    rw[z] at a nx;obtain⟨f,r,e⟩:=(show ∃f∈forms,jf most ts f=none from a);have u:((forms.map λf=>j3 (jf most ts f)).any λe=>Qj e .non)=true:=U9.mpr ⟨.non,Ja.mpr ⟨f,r,by rw[e];rfl⟩,Ky _⟩;rw[u] at h;refine .inr (.inr ⟨.non,?_,?_⟩)
    .subst A;generalize (forms.map λf=>j3 (jf most ts f))=ds at *;simp[p,c,h]
    .have all:∀j,Qf most forms (i+1+j)=none:=λj=>by
      induction j with
      |zero=>exact nx
      |succ j J =>
       show(Qf most forms (i+1+j)).bind _=none;rw[J];rfl
     have:=all (k-(i+1));rw[show i+1+(k-(i+1))=k by lia] at this;rw[this];rfl
 have K:TB ((List.range forms.length).map λk:Nat=>[[((k:Int),0)]])=.lst (((List.range forms.length).map λk:Nat=>[[((k:Int),0)]]).map Tn):=rfl;rw[K] at g;generalize (((List.range forms.length).map λk:Nat=>[[((k:Int),0)]]).map Tn)=ds at *;simp[F,G,I,hz,H,g]
def qL (hp:HP):Yj->List Fo->Prop
 | [],[]=>True
 |a::as,t::ts=>Tr hp a=some (Tn t)/\qL hp as ts
 |_,_=>False
theorem qL.mono {hp hp':HP}(h:∀a d,Tr hp a=some d->Tr hp' a=some d):∀{as:Yj} {ts:List Fo},qL hp as ts->qL hp' as ts
 | [],[],_=>trivial
 |_::_,_::_,⟨h1,h2⟩=>⟨h _ _ h1,qL.mono h h2⟩
 | [],_::_,z=>z
 |_::_,[],z=>z
theorem qL.len {hp:HP}:∀{as:Yj} {ts:List Fo},qL hp as ts->as.length=ts.length
 | [],[],_=>rfl
 |_::as,_::ts,⟨_,h2⟩=>by rw[Zu,Zu,qL.len h2]
 | [],_::_,z=>z.elim
 |_::_,[],z=>z.elim
def vS (hp:HP)(p:Int×Int):∀k,dr hp k (ja p)=ja p
 | 0=>rfl
 | 1=>rfl
 |k+2=>rfl
def vR (hp:HP)(r:Jx):∀k,dr hp k (Ts r)=Ts r
 | 0=>rfl
 |k+1=>by
  show D.tup ((r.map ja).map (dr hp k))=_;rw[Zw];exact Zt D.tup (UJ λp _=>vS hp p k)
def vT (hp:HP)(t:Fo):∀k,dr hp k (Tn t)=Tn t
 | 0=>rfl
 |k+1=>by
  show D.lst ((t.map Ts).map (dr hp k))=_;rw[Zw];exact Zt D.lst (UJ λr _=>vR hp r k)
theorem qL.dr {hp:HP}{k:Nat}:∀{as:Yj} {ts:List Fo},qL hp as ts->(as.map D.adr).map (L2.DL.dr hp (k+1))=ts.map Tn
 | [],[],_=>rfl
 |a::as,t::ts,⟨h1,h2⟩=>by
  rw[Zl,Zl,Zl,qL.dr h2,vU k h1,vT]
 | [],_::_,z=>z.elim
 |_::_,[],z=>z.elim
def qL.read {hp:HP}{as:Yj}{ts:List Fo}(h:qL hp as ts)(k:Nat):L2.DL.dr hp (k+2) (.lst (as.map .adr))=TB ts:=Zt D.lst h.dr
def RI (t:Fo):(t.map Ts).all (V0 8)=true:=by
 rw[Vc];refine UW.mpr λr _=>?_;show(r.map ja).all (V0 7)=true;rw[Vc];exact UW.mpr λp _=>rfl
def Hv (hp:HP)(t:Fo):vf hp (Tn t)=.new hp λa=>.ok (.adr a,(a,Tn t)::hp):=Zd (RI t)
def RJ {hp hp':HP}(h:∀a d,Tr hp a=some d->Tr hp' a=some d):(hp.all λz=>(Tr hp' z.1).isSome)=true:=UW.mpr λz hz=>by
 cases q:Tr hp z.1 with
 |none =>
  rw[Cu] at q;exact Zn (Ja.mpr ⟨z,hz,rfl⟩) q
 |some d=>rw[h _ _ q];rfl
def uo (hp:HP)(ts:List Fo)(ds:Yz)(hp':HP):Prop:=∃as:Yj,ds=as.map .adr/\qL hp' as ts/\as.Nodup/\(∀a d,Tr hp a=some d->Tr hp' a=some d)/\∀a∈as,Tr hp a=none
theorem CM {tg:Tg}{f:FV}{c:SD}{Q:Str->Yz->Prop}:∀{xs:Yz} {ts:List Fo} {hp:HP},xs.length=ts.length->(∀(i:Nat) (x:D) (t:Fo) (hp':HP),xs[i]? = some x->ts[i]? = some t->(∀a d,Tr hp a=some d->Tr hp' a=some d)->(Wr.of (JS tg x c)).bind (λs=>f s hp')=.new hp' λa=>.ok (.adr a,(a,Tn t)::hp'))->(q9 tg f c xs hp).need (λq=>uo hp ts q.1 q.2) Q
 | [],[],hp,_,_=>⟨[],rfl,trivial,UZ,λ_ _ h=>h,λ_ h=>(nomatch h)⟩
 |x::xs,t::ts,hp,hl,h=>by
  have l:=h 0 x t hp rfl rfl λ_ _ q=>q;have eq:q9 tg f c (x::xs) hp=((Wr.of (JS tg x c)).bind λs=>f s hp).bind λp=>if(hp.all λz=>(Tr p.2 z.1).isSome)=true then(q9 tg f c xs p.2).bind λq=>.ok (p.1::q.1,q.2) else .no:=by
   show(Wr.of (JS tg x c)).bind (λs=>(f s hp).bind λp=>if(hp.all λz=>(Tr p.2 z.1).isSome)=true then(q9 tg f c xs p.2).bind λq=>.ok (p.1::q.1,q.2) else .no)=_;cases JS tg x c<;>rfl
  rw[eq,l];intro a g;have j:∀b d,Tr hp b=some d->Tr ((a,Tn t)::hp) b=some d:=λb d q=>by
   rw[Kh];by_cases z:b=a
   .rw[z,g] at q;cases q
   .rw[Ze z];exact q
  show(if _ then _ else _:Wr (Yz×HP)).need _ _;rw[Zd (RJ j)];refine Wr.need_bind.mpr ((CM (xs:=xs) (ts:=ts) (hp:=(a,Tn t)::hp) (by simpa using hl) λi y u hp' o r v=>h (i+1) y u hp' o r λb d q=>v b d (j b d q)).mono (λq w=>?_) λ_ _ z=>z);obtain⟨as,e,A,B,k1,k2⟩:=w;refine⟨a::as,by rw[e];rfl,⟨k1 a _ (by rw[Kh,Zd rfl]),A⟩,Ji.mpr ⟨λz=>?_,B⟩,λb d q=>k1 b d (j b d q),λb C=>?_⟩
  .have:=k2 a z;rw[Kh,Zd rfl] at this;cases this
  .rcases UQ.mp C with z|z
   .rw[z];exact g
   .have:=k2 b z;rw[Kh] at this;by_cases y:b=a
    .rw[y];exact g
    .rw[Ze y] at this;exact this
 | [],_::_,_,h,_=>nomatch h
 |_::_,[],_,h,_=>nomatch h
end
theorem Hw {tg:Tg}{b:jF}{Q:Str->Yz->Prop}(P:Nat->SD->HP->Prop):∀{ds:Yz} {sd:SD} {hp:HP} (j:Nat),P j sd hp->(∀(i:Nat) (x:D) (sd:SD) (hp:HP),ds[i]? = some x->P (j+i) sd hp->(K0 tg b x sd hp).need (λo=>∃sd' hp',o=.next sd' hp'/\P (j+i+1) sd' hp') Q) ->
 (qp (K0 tg b) ds sd hp).need (λo=>∃sd' hp',o=.next sd' hp'/\P (j+ds.length) sd' hp') Q
 | [],sd,hp,j,h0,_=>⟨sd,hp,rfl,h0⟩
 |x::xs,sd,hp,j,h0,hs=>by
  unfold qp;refine Wr.need_bind.mpr ((hs 0 x sd hp rfl h0).mono (λo d=>?_) λ_ _ y=>y);obtain⟨sd',hp',rfl,e⟩:=d;have:=Hw P (tg:=tg) (b:=b) (Q:=Q) (ds:=xs) (sd:=sd') (hp:=hp') (j+1) e λi y a c f g=>by
   have:=hs (i+1) y a c f (by rw[show j+(i+1)=j+1+i by lia];exact g);rw[show j+(i+1)+1=j+1+i+1 by lia] at this;exact this
  rw[show j+1+xs.length=j+(x::xs).length by rw[Zu];lia] at this;exact this
section
variable {n m:Nat}{most:Int}{forms told:List Fo}
theorem Hx (most:Int)(told:List Fo):∀{forms ts:List Fo},Qo most told forms=some ts->∀{i:Nat} {f t:Fo},forms[i]? = some f->ts[i]? = some t->jf most told f=some t
 | [],ts,q,i,f,t,h,_=>by cases i<;>cases h
 |g::r,ts,q,i,f,t,h1,h2=>by
  rw[AM] at q;cases z:jf most told g with
  |none=>rw[z] at q;cases q
  |some u =>
   rw[z] at q;obtain⟨a,e,rfl⟩:=Jj.mp (show(Qo most told r).map (u :: ·)=some ts from q);cases i with
   |zero =>
    cases h1;cases h2;exact z
   |succ i=>exact Hx most told e h1 h2
def RK (j:1<=most)(s:most<=6)(l:(m:Int)=most)(h:∀g∈told,Kf n m g)(u:forms.length<=12)(o:∀f∈forms,Kf told.length 2 f){ts:List Fo}(q:Qo most told forms=some ts){hp:HP}{as:Yj}(A:qL hp as told):
 (WF [TB forms,.lst (as.map .adr),.int most] hp).need (λp=>∃ds,p.1=.lst ds/\uo hp ts ds p.2) λ_ _=>False:=by
 have hz:=JW (show forms.length<=1000 from ());have v:=(CL j l h o q).2.1;have e:YL (Qv 3 [TB forms,.lst (as.map .adr),.int most]) hp=(q9 (.one 0) (xj 4 [1] (J3 QL (Jz (Tf 0) (Jz (Tf 1) (Jz (Tf 2) Th))))) [none,~~~(.lst (as.map .adr)),~~~(.int most)] (forms.map Tn) hp).bind λq=>.ok (.ret (.lst q.1) q.2):=by
  simp[YL,Qv,hz];generalize q9 _ _ _ _ _=w
  induction w with
  |ok a=>rfl
  |ex c fs=>rfl
  |no=>rfl
  |new hp k B=>simp[B]
 refine G5 rfl ?_;rw[e];refine Wr.need_bind.mpr (Wr.need_bind.mpr ((CM (ts:=ts) (by rw[Zql,v]) λi x t hp' C E F=>?_).mono (λz G=>?_) λ_ _ z=>z))
 .obtain⟨f,b,rfl⟩:=QU C;have p:=Hn j s l h (o f (Uj b));rw[Hx most told q b E] at p;have p:QL [Tn f,TB told,.int most]=.ok (Tn t):=p;have H:=(A.mono F).read 2;show xj 4 [1] _ [~~~(Tn f),~~~(.lst (as.map .adr)),~~~(.int most)] hp'=_;unfold xj;rw[Pv];show(Wr.of (J3 QL _ [~~~(Tn f),~~~(dr hp' 4 (.lst (as.map .adr))),~~~(.int most)]).strict).bind _=_;rw[H];have c:J3 QL (Jz (Tf 0) (Jz (Tf 1) (Jz (Tf 2) Th))) [~~~(Tn f),~~~(TB told),~~~(.int most)]=.ok (Tn t):=by simp[p]
  rw[c];exact Hv hp' t
 .obtain⟨bs,I,J,K,r,L⟩:=G;exact⟨λa M=>by
   cases y:Tr hp a with
   |none=>exact Zn y M
   |some d=>rw[r a d y];simp,_,rfl,bs,I,J,K,r,L⟩
def RL (F:1<=most)(I:most<=6)(G:(m:Int)=most)(u:n<=12)(J:forms.length=n)(K:∀f∈forms,Kf n 2 f){k:Nat}(hk:k<=10){ts:List Fo}(q:Qf most forms k=some ts):
 (YN [TB forms,.int k,.int most] []).need (λp=>∃as:Yj,p.1=.lst (as.map .adr)/\qL p.2 as ts/\as.Nodup) λ_ _=>False:=by
 have hs:(List.replicate n (0:Int)).length=n:=Vm;have L:TV [TB forms]=some (.int forms.length):=by show some (D.int ((forms.map Tn).length:Int))=_;rw[Zql]
 have M:QJ [.int (forms.length:Int)]=.ok (JK 0 forms.length):=Kp () ();have N:QJ [.int (k:Int)]=.ok (JK 0 k):=Kp () ();have hz:(JK 0 forms.length).length<sizeLine:=JW (by rw[Kq];lia);obtain⟨d,hloop⟩:∃d:jF,d=xQ (qW (Jz (Tf 1) Th)) (.one 4) (qQ 3 (Xb WF (Q1 (vL (Tf 0)) (Q1 (vL (Tf 3)) (Q1 (vL (Tf 2)) xx))))):=⟨_,rfl⟩;have e:YM (Qv 5 [TB forms,.int k,.int most]) []=(q9 (.one 0) (xj 4 [] (J3 x6 (Jz (Tf 0) Th))) [none] (JK 0 forms.length) []).bind λz=>ji d (qo (vL (Tf 3))) [~~~(TB forms),~~~(.int k),~~~(.int most),~~~(.lst z.1),none] z.2:=by
  unfold YM;rw[<- hloop];generalize hg:ji d (qo (vL (Tf 3)))=g;simp[Qv,L,M,hz];generalize q9 _ _ _ _ _=w
  induction w with
  |ok a=>rfl
  |ex c fs=>rfl
  |no=>rfl
  |new hp k v=>simp[v]
 refine G5 rfl ?_;rw[e];refine Wr.need_bind.mpr (Wr.need_bind.mpr ((CM (ts:=(List.range forms.length).map λk:Nat=>[[((k:Int),0)]]) (by rw[Kq,Zql,ZB]) λi x t hp' O H h3=>?_).mono (λz B=>?_) λ_ _ z=>z))
 .obtain⟨rfl,hi⟩:=Um O;rw[Zv,List.getElem?_range hi] at H;cases H;rw[Int.zero_add];show xj 4 [] _ [~~~(.int (i:Int))] hp'=_;unfold xj;have c:J3 x6 (Jz (Tf 0) Th) [~~~(.int (i:Int))]=.ok (Tn [[((i:Int),0)]]):=by simp
  rw[Pu,c];exact Hv hp' _
 .obtain⟨as,P,R,S,_,_⟩:=B;show(ji d (qo (vL (Tf 3))) _ z.2).need _ _;rw[P];have U:(d [~~~(TB forms),~~~(.int k),~~~(.int most),~~~(.lst (as.map .adr)),none] z.2).need (λo=>∃(u4:Option SV) (bs:Yj) (hp':HP),o=.next [~~~(TB forms),~~~(.int k),~~~(.int most),~~~(.lst (bs.map .adr)),u4] hp'/\qL hp' bs ts/\bs.Nodup) λ_ _=>False:=by
   rw[hloop];have X:qW (Jz (Tf 1) Th) [~~~(TB forms),~~~(.int k),~~~(.int most),~~~(.lst (as.map .adr)),none]=.ok (JK 0 k):=by simp[N]
   unfold xQ;rw[X];have C:=Hw (tg:=.one 4) (b:=qQ 3 (Xb WF (Q1 (vL (Tf 0)) (Q1 (vL (Tf 3)) (Q1 (vL (Tf 2)) xx))))) (Q:=λ_ _=>False) (λj sd hp=>j<=k->∃(u4:Option SV) (bs:Yj) (h:List Fo),sd=[~~~(TB forms),~~~(.int k),~~~(.int most),~~~(.lst (bs.map .adr)),u4]/\Qf most forms j=some h/\qL hp bs h/\bs.Nodup) (ds:=JK 0 k) (sd:=[~~~(TB forms),~~~(.int k),~~~(.int most),~~~(.lst (as.map .adr)),none]) (hp:=z.2) 0 (λ_=>⟨none,as,_,rfl,rfl,R,S⟩) λi x sd hp hx r=>by
    obtain⟨rfl,hi⟩:=Um hx;rw[UO] at r;obtain⟨u4,bs,h,rfl,l,A,s⟩:=r ();obtain⟨T,_⟩:=YS F G u J K hs i l;obtain⟨vs,qv⟩:∃vs,Qo most h forms=some vs:=by
     cases y:Qo most h forms with
     |some vs=>exact⟨vs,rfl⟩
     |none =>
      have nx:Qf most forms (i+1)=none:=by
       show(Qf most forms i).bind _=none;rw[l];exact y
      have all:∀j,Qf most forms (i+1+j)=none:=λj=>by
       induction j with
       |zero=>exact nx
       |succ j v =>
        show(Qf most forms (i+1+j)).bind _=none;rw[v];rfl
      have:=all (k-(i+1));rw[show i+1+(k-(i+1))=k by lia,q] at this;cases this
    have Y:=RK F I G T.tk () T.fk' qv A;have Z:K0 (.one 4) (qQ 3 (Xb WF (Q1 (vL (Tf 0)) (Q1 (vL (Tf 3)) (Q1 (vL (Tf 2)) xx))))) (.int (i:Int)) [~~~(TB forms),~~~(.int k),~~~(.int most),~~~(.lst (bs.map .adr)),u4] hp=(WF [TB forms,.lst (bs.map .adr),.int most] hp).bind λp=>.ok (.next [~~~(TB forms),~~~(.int k),~~~(.int most),~~~(p.1),~~~(.int i)] p.2):=by
     unfold K0;simp
    rw[Int.zero_add,Z];refine Wr.need_bind.mpr (Y.mono (λp B=>?_) λ_ _ z=>z);obtain⟨ds,d1,cs,c1,c2,c3,_,_⟩:=B;refine⟨_,_,rfl,λ_=>⟨~~~(.int i),cs,vs,by rw[d1,c1],?_,c2,c3⟩⟩;rw[UO];show(Qf most forms i).bind _=_;rw[l];exact qv
   refine C.mono (λo E=>?_) λ_ _ z=>z;obtain⟨sd',hp',rfl,r⟩:=E;rw[Kq,UO] at r;obtain⟨u4,bs,h,rfl,l,A,s⟩:=r (Zf _);rw[q] at l;obtain rfl:=Zqi l;exact⟨u4,bs,hp',rfl,A,s⟩
  rw[An];refine Wr.need_bind.mpr (U.mono (λo E=>?_) λ_ _ z=>z);obtain⟨u4,bs,hp',rfl,A,s⟩:=E;show(qo (vL (Tf 3)) _ hp').need _ _;have er:qo (vL (Tf 3)) [~~~(TB forms),~~~(.int k),~~~(.int most),~~~(.lst (bs.map .adr)),u4] hp'=.ok (.ret (.lst (bs.map .adr)) hp'):=by simp
  rw[er];exact⟨λa ha=>Zn rfl ha,bs,rfl,A,s⟩
end
def zq {a b:jF}{sd sd':SD}{hp hp':HP}{P:D×HP->Prop}{Q:Str->Yz->Prop}(h:a sd hp=.ok (.next sd' hp'))(k:((b sd' hp').bind q0).need P Q):((ji a b sd hp).bind q0).need P Q:=by
 rw[An,h];exact k
def Hy {a b:jF}{sd:SD}{hp:HP}{P:D×HP->Prop}{Q:Str->Yz->Prop}(h:(a sd hp).need (λo=>∃sd' hp',o=.next sd' hp'/\((b sd' hp').bind q0).need P Q) Q):((ji a b sd hp).bind q0).need P Q:=by
 rw[An];refine Wr.need_bind.mpr (Wr.need_bind.mpr (h.mono (λo c=>?_) λ_ _ z=>z));obtain⟨sd',hp',rfl,k⟩:=c;exact Wr.need_bind.mp k
def RM {a b:jF}{sd:SD}{hp hp':HP}{d:D}{P:D×HP->Prop}{Q:Str->Yz->Prop}(h:a sd hp=.ok (.ret d hp'))(k:P (d,hp')):((ji a b sd hp).bind q0).need P Q:=by
 rw[An,h];exact k
def RN {b:D->jF}{x:D}{xs:Yz}{sd:SD}{hp:HP}{P:Out3->Prop}{Q:Str->Yz->Prop}(h:(b x sd hp).need (λo=>∃sd' hp',o=.next sd' hp'/\(qp b xs sd' hp').need P Q) Q):(qp b (x::xs) sd hp).need P Q:=by
 unfold qp;refine Wr.need_bind.mpr (h.mono (λo a=>?_) λ_ _ z=>z);obtain⟨sd',hp',rfl,h⟩:=a;exact h
def RO {ts:List Fo}(c:ts.length<=1000)(a:∀t∈ts,t.length<=1000/\∀r∈t,r.length<=1000):yq 6 (TB ts)=true:=by
 have all:∀{α: Type} (l:List α) (f:α -> D) (k:Nat),l.length<=1000->(∀x∈l,yq k (f x)=true)->((l.map f).all (yq k)&&Nat.ble (l.map f).length 1000)=true:=λl f k e g=>by
  rw[Ue,UP,Zql];refine⟨UW.mpr λd h=>?_,e⟩;obtain⟨x,hx,rfl⟩:=Ja.mp h;exact g x hx
 exact all ts Tn 5 c λt b=>all t Ts 4 (a t b).1 λr i=>all r ja 3 ((a t b).2 r i) λp _=>rfl
def KF (t:Fo):Fo:=t++[[(0,0)]]
theorem Hz {sd0:SD}{Q:Str->Yz->Prop}(c:∀d u,(sd0.set 11 u)[11]? = some u/\(sd0.set 11 u).set 11 (~~~d)=sd0.set 11 (~~~d)):∀{as:Yj} {ts:List Fo} {hp:HP} {u:Option SV},qL hp as ts->as.Nodup->(∀t∈ts,t.length<=900) ->
 (qp (K0 (.one 11) (xR (vL (Tf 11)) (vL (jr (Jz (jr (Jz (dC (.int 0)) (Jz (dC (.int 0)) Th))) Th))))) (as.map .adr) (sd0.set 11 u) hp).need (λo=>∃g hp',o=.next (sd0.set 11 g) hp'/\qL hp' as (ts.map KF)/\∀b,b∉as->Tr hp' b=Tr hp b) Q
 | [],[],hp,u,_,_,_=>⟨u,hp,rfl,trivial,λ_ _=>rfl⟩
 |a::as,t::ts,hp,u,⟨h1,h2⟩,nd,hl=>by
  obtain⟨m,i⟩:=Ji.mp nd;have lt:=hl t Zqs;have n:(t.map Ts).length<sizeLine:=JW (by rw[Zql];lia);have f:Tr hp a=some (.lst (t.map Ts)):=h1;have e:K0 (.one 11) (xR (vL (Tf 11)) (vL (jr (Jz (jr (Jz (dC (.int 0)) (Jz (dC (.int 0)) Th))) Th)))) (.adr a) (sd0.set 11 u) hp=.ok (.next (sd0.set 11 (~~~(.adr a))) (KC hp a (Tn (KF t)))):=by
   have p:JS (.one 11) (.adr a) (sd0.set 11 u)=.ok (sd0.set 11 (~~~(.adr a))):=by
    show Res.ok ((sd0.set 11 u).set 11 (~~~(.adr a)))=_;rw[(c (.adr a) u).2]
   unfold K0;rw[p];show xR _ _ (sd0.set 11 (~~~(.adr a))) hp=_;have q:Tf 11 (sd0.set 11 (~~~(.adr a)))=.ok (.adr a):=by
    simp[(c .non (~~~(.adr a))).1]
   rw[Pw,G3,q];show Xg _ _ (.adr a,hp)=_;rw[Px f,G3];have r:jr (Jz (jr (Jz (dC (.int 0)) (Jz (dC (.int 0)) Th))) Th) (sd0.set 11 (~~~(.adr a)))=.ok (Ts [(0,0)]):=by simp[Ts,ja]
   rw[r];show Xf _ a (Ts [(0,0)],hp)=_;rw[Py f n];have:D.lst (t.map Ts++[Ts [(0,0)]])=Tn (KF t):=by
    unfold Tn KF;rw[Uh];rfl
   rw[this]
  have ne:Tr hp a≠none:=by rw[h1];simp
  have A:qL (KC hp a (Tn (KF t))) as ts:=by
   have keep:∀{as:Yj} {ts:List Fo},a∉as->qL hp as ts->qL (KC hp a (Tn (KF t))) as ts:=by
    intro as
    induction as with
    |nil=>intro ts _ h;cases ts<;>exact h
    |cons b as s =>
     intro ts v h;cases ts with
     |nil=>exact h
     |cons t' ts =>
      obtain⟨j,l⟩:=not_or.mp λz=>v (UQ.mpr z);exact⟨by rw[G4 ne (Ne.symm j)];exact h.1,s l h.2⟩
   exact keep m h2
  rw[Zl];refine RN ?_;rw[e];refine⟨_,_,rfl,?_⟩;refine(Hz c (u:= ~~~(.adr a)) A i λx hx=>hl x (Zqm _ hx)).mono (λo w=>?_) λ_ _ z=>z;obtain⟨g,hp',rfl,B,k⟩:=w;refine⟨g,hp',rfl,⟨by rw[k a m,Pz ne],B⟩,λb y=>?_⟩;obtain⟨j,l⟩:=not_or.mp λz=>y (UQ.mpr z);rw[k b l,G4 ne j]
 | [],_::_,_,_,z,_,_=>z.elim
 |_::_,[],_,_,z,_,_=>z.elim
def RP (ns:Yf)(h:ns.length<=63):((Xr (Qv 12 [.scr ns]) []).bind q0).need (λp=>dr p.2 1 p.1=.bl true) λ_ _=>False:=by
 have C:Wc [.scr ns,.int 0]=.ok (.int (VY ns 0)):=GT ns 0;generalize VY ns 0=c at C;obtain⟨k,ek,k5⟩:∃k:Nat,(k:Int)=c / 3 % 6/\k<=5:=⟨(c / 3 % 6).toNat,(),()⟩;obtain⟨n,en,n1,n3⟩:∃n:Nat,(n:Int)=(if(k:Int) > 3 then 1+c % 2 else 1+c % 3)/\1<=n/\n<=3:=⟨(if(k:Int) > 3 then 1+c % 2 else 1+c % 3).toNat,by split<;>lia,by split<;>lia,by split<;>lia⟩;obtain⟨m,em,m1,m6⟩:∃m:Nat,(m:Int)=1+c / 18 % 6/\1<=m/\m<=6:=⟨(1+c / 18 % 6).toNat,(),(),()⟩;obtain⟨fs,N,R,K⟩:=RE h (n:=(n:Int)) () ();rw[UF] at K;have j:fs.length=n:=by have:=R.len;lia
 obtain⟨hs,eh⟩:∃hs,hs=XZ ns 83 n:=⟨_,rfl⟩;have E:hs.length=n:=by rw[eh];unfold XZ;rw[Zql,ZB]
 have F:=v7 (n:=n) (m:=m) (most:=(m:Int)) (forms:=fs) () () rfl () j K (k:=k) ();have a:=vH (n:=n) (m:=m) (most:=(m:Int)) (forms:=fs) () () rfl () j K (k:=k) ();have O:Y6 [.scr ns,.int 83,.int (n:Int)]=.ok (.lst (hs.map .int)):=by
  have:=vC ns (s:=83) (n:=(n:Int)) () () () ();rw[UF,<- eh] at this;exact this
 have H:=vI R (hs:=hs) (t:=(k:Int)) () () ();rw[UF] at H;have P:TW (.one 0) (T2 K8 (Jz (Tf 0) Th)) [none] (fs.map Tn)=.ok (fs.map Tn):=Q5 λf _=>by
  have:K8 [Tn f]=some (Tn f):=rfl;simp[this]
 have Q:=JW (show fs.length<=1000 from ());have i:x9 (TB fs) (TB fs)=some (.bl false):=by rw[ZR (Av 7 fs) (Av 7 fs),Ky];rfl
 have l:xg (TB fs) (TB fs)=some (.bl true):=by rw[VQ (Av 7 fs) (Av 7 fs),Ky]
 obtain⟨q,hq⟩:∃q,q=Qf (m:Int) fs k:=⟨_,rfl⟩;rw[<- hq] at F a;unfold Xr;refine zq (sd':=[~~~(.scr ns),~~~(.int c),none,none,none,none,none,none,none,none,none,none]) (hp':=[]) (by simp[Qv,C]) ?_;refine zq (sd':=[~~~(.scr ns),~~~(.int c),~~~(.int (1+c % 3)),none,none,none,none,none,none,none,none,none]) (hp':=[]) () ?_;refine zq (sd':=[~~~(.scr ns),~~~(.int c),~~~(.int (1+c % 3)),~~~(.int k),none,none,none,none,none,none,none,none]) (hp':=[]) (by simp[ek]) ?_;refine zq (sd':=[~~~(.scr ns),~~~(.int c),~~~(.int n),~~~(.int k),none,none,none,none,none,none,none,none]) (hp':=[]) (by
  rw[en];by_cases z:(k:Int) > 3
  .have v:(3:Int)<k:=z;simp[v]
  .have v:¬(3:Int)<k:=z;simp[v]) ?_
 refine zq (sd':=[~~~(.scr ns),~~~(.int c),~~~(.int n),~~~(.int k),~~~(TB fs),none,none,none,none,none,none,none]) (hp':=[]) (by simp[N]) ?_;refine zq (sd':=[~~~(.scr ns),~~~(.int c),~~~(.int n),~~~(.int k),~~~(TB fs),~~~(.int m),none,none,none,none,none,none]) (hp':=[]) (by simp[em]) ?_;refine zq (sd':=[~~~(.scr ns),~~~(.int c),~~~(.int n),~~~(.int k),~~~(TB fs),~~~(.int m),~~~(qR q),none,none,none,none,none]) (hp':=[]) (by simp[F]) ?_;refine zq (sd':=[~~~(.scr ns),~~~(.int c),~~~(.int n),~~~(.int k),~~~(TB fs),~~~(.int m),~~~(qR q),~~~(TB fs),none,none,none,none]) (hp':=[]) (by
  simp[P,Q];rfl) ?_
 refine zq (sd':=[~~~(.scr ns),~~~(.int c),~~~(.int n),~~~(.int k),~~~(TB fs),~~~(.int m),~~~(qR q),~~~(TB fs),~~~(.non),none,none,none]) (hp':=[]) () ?_;have I:J3 KJ (Jz (Tf 7) (Jz (Tf 3) (Jz (Tf 5) Th))) [~~~(.scr ns),~~~(.int c),~~~(.int n),~~~(.int k),~~~(TB fs),~~~(.int m),~~~(qR q),~~~(TB fs),~~~(.non),none,none,none]=yo q:=by
  simp[a]
 cases q with
 |none =>
  have a:KJ [TB fs,.int k,.int m]=.ex "TooMany" []:=a;refine zq (sd':=[~~~(.scr ns),~~~(.int c),~~~(.int n),~~~(.int k),~~~(TB fs),~~~(.int m),~~~(.non),~~~(TB fs),~~~(.non),none,none,none]) (hp':=[]) (by
   rw[P7 ⟨_,_,I⟩];simp[a,qR]) ?_
  have w:qk false .non=some (.bl true):=rfl;have S:dr [] 5 .non=.non:=rfl;refine RM (d:=.bl true) (hp':=[]) (by simp[i,l,w,S]) rfl
 |some ts =>
  have a:KJ [TB fs,.int k,.int m]=.ok (TB ts):=a;obtain⟨T,U⟩:=YS (n:=n) (m:=m) (most:=(m:Int)) (forms:=fs) () rfl () j K E k hq.symm;have X:=RL (n:=n) (m:=m) (most:=(m:Int)) (forms:=fs) () () rfl () j K (k:=k) () hq.symm;have tl:=T.tl;refine Hy ?_;rw[P8 (λ⟨c',Y,z⟩=>by rw[I] at z;cases z)];have Z:Ao 8 YN (Q1 (vL (Tf 7)) (Q1 (vL (Tf 3)) (Q1 (vL (Tf 5)) xx))) [~~~(.scr ns),~~~(.int c),~~~(.int n),~~~(.int k),~~~(TB fs),~~~(.int m),~~~(qR (some ts)),~~~(TB fs),~~~(.non),none,none,none] []=(YN [TB fs,.int k,.int m] []).strict.bind λq=>.ok (.next [~~~(.scr ns),~~~(.int c),~~~(.int n),~~~(.int k),~~~(TB fs),~~~(.int m),~~~(qR (some ts)),~~~(TB fs),~~~(q.1),none,none,none] q.2):=by
   unfold Ao;simp[Wr.strict]
  rw[Z];refine Wr.need_bind.mpr ((jS X).mono (λp hp=>?_) λ_ _ z=>z);obtain⟨as,e1,A,nd⟩:=hp;obtain⟨d,hp⟩:=p;obtain rfl:d=.lst (as.map .adr):=e1;have A:qL hp as ts:=A;refine⟨_,_,rfl,?_⟩;show((ji _ _ [~~~(.scr ns),~~~(.int c),~~~(.int n),~~~(.int k),~~~(TB fs),~~~(.int m),~~~(TB ts),~~~(TB fs),~~~(.lst (as.map .adr)),none,none,none] hp).bind q0).need _ _;have J:=A.read 3;have w:qk false (TB ts)=some (.bl false):=rfl;refine zq (sd':=[~~~(.scr ns),~~~(.int c),~~~(.int n),~~~(.int k),~~~(TB fs),~~~(.int m),~~~(TB ts),~~~(TB fs),~~~(.lst (as.map .adr)),none,none,none]) (hp':=hp) (by simp[J,i,w]) ?_;refine zq (sd':=[~~~(.scr ns),~~~(.int c),~~~(.int n),~~~(.int k),~~~(TB fs),~~~(.int m),~~~(TB ts),~~~(TB fs),~~~(.lst (as.map .adr)),~~~(.lst (hs.map .int)),none,none]) (hp':=hp) (by simp[O]) ?_;refine zq (sd':=[~~~(.scr ns),~~~(.int c),~~~(.int n),~~~(.int k),~~~(TB fs),~~~(.int m),~~~(TB ts),~~~(TB fs),~~~(.lst (as.map .adr)),~~~(.lst (hs.map .int)),~~~(.lst ((xO fs hs k).map .int)),none]) (hp':=hp) (by
   have gl:K8 [.lst (hs.map .int)]=some (.lst (hs.map .int)):=rfl;simp[gl,H]) ?_
  have M:=GV 6 (TB ts) (RO () λt e=>⟨by have:=(T.tk t e).len;lia,λr g=>by have:=((T.tk t e).cn.rows r g).len;lia⟩);have x:TW (.one 0) (J3 Y5 (Jz (Tf 0) (Jz (Tf 1) Th))) [none,~~~(.lst (hs.map .int))] (ts.map Tn)=.ok ((xO fs hs k).map .int):=by
   rw[<- U,Zw];refine Q5 λt e=>?_;have KT:=T.tk t e;have:=vA (f:=t) (hs:=hs) KT.cn.ne (by have:=KT.len;lia) (λr g=>(KT.cn.rows r g).ne) λr g p hp=>⟨((KT.cn.rows r g).bnd p hp).1,by rw[E];exact KT.th r g p hp⟩;simp[this]
  have lt:=JW (show ts.length<=1000 from ());have nb:x9 (.lst ((xO fs hs k).map .int)) (.lst ((xO fs hs k).map .int))=some (.bl false):=by rw[ZR (Y0 _) (Y0 _),Ky];rfl
  generalize (xO fs hs k).map D.int=G at *;refine zq (sd':=[~~~(.scr ns),~~~(.int c),~~~(.int n),~~~(.int k),~~~(TB fs),~~~(.int m),~~~(TB ts),~~~(TB fs),~~~(.lst (as.map .adr)),~~~(.lst (hs.map .int)),~~~(.lst G),none]) (hp':=hp) (by simp[J,M,x,lt,nb]) ?_;refine Hy ?_;have ef:∀b:jF,xQ (iS (Tf 8)) (.one 11) b [~~~(.scr ns),~~~(.int c),~~~(.int n),~~~(.int k),~~~(TB fs),~~~(.int m),~~~(TB ts),~~~(TB fs),~~~(.lst (as.map .adr)),~~~(.lst (hs.map .int)),~~~(.lst G),none] hp=qp (K0 (.one 11) b) (as.map .adr) [~~~(.scr ns),~~~(.int c),~~~(.int n),~~~(.int k),~~~(TB fs),~~~(.int m),~~~(TB ts),~~~(TB fs),~~~(.lst (as.map .adr)),~~~(.lst (hs.map .int)),~~~(.lst G),none] hp:=λb=>rfl;rw[ef];refine(Hz (sd0:=[~~~(.scr ns),~~~(.int c),~~~(.int n),~~~(.int k),~~~(TB fs),~~~(.int m),~~~(TB ts),~~~(TB fs),~~~(.lst (as.map .adr)),~~~(.lst (hs.map .int)),~~~(.lst G),none]) (λd u=>⟨rfl,rfl⟩) (u:=none) A nd λt e=>by have:=(T.tk t e).len;lia).mono (λo ho=>?_) λ_ _ z=>z;obtain⟨y,hp',rfl,A',_⟩:=ho;refine⟨_,_,rfl,?_⟩
  show((ji _ _ [~~~(.scr ns),~~~(.int c),~~~(.int n),~~~(.int k),~~~(TB fs),~~~(.int m),~~~(TB ts),~~~(TB fs),~~~(.lst (as.map .adr)),~~~(.lst (hs.map .int)),~~~(.lst G),y] hp').bind q0).need _ _;have B:=A'.read 3;have l1:TW (.one 0) (T2 TV (Jz (Tf 0) Th)) [none] ((ts.map KF).map Tn)=.ok ((ts.map λt=>1+(t.length:Int)).map .int):=by
   rw[Zw,Zw];refine Q5 λt _=>?_;have:((KF t).length:Int)=1+(t.length:Int):=by unfold KF;rw[Ua];show((t.length+1:Nat):Int)=_;lia
   simp[this]
  have l2:TW (.one 0) (T1 TL (dC (.int 1)) (T2 TV (Jz (Tf 0) Th))) [none] (ts.map Tn)=.ok ((ts.map λt=>1+(t.length:Int)).map .int):=by
   rw[Zw];exact Q5 λt _=>by simp
  have nl:x9 (.lst ((ts.map λt=>1+(t.length:Int)).map .int)) (.lst ((ts.map λt=>1+(t.length:Int)).map .int))=some (.bl false):=by rw[ZR (Y0 _) (Y0 _),Ky];rfl
  have lm:(ts.map KF).length<sizeLine:=by rw[Zql];exact lt
  generalize ((ts.map λt=>1+(t.length:Int)).map D.int)=L at *;generalize ts.map KF=ms at *;refine zq (sd':=[~~~(.scr ns),~~~(.int c),~~~(.int n),~~~(.int k),~~~(TB fs),~~~(.int m),~~~(TB ts),~~~(TB fs),~~~(.lst (as.map .adr)),~~~(.lst (hs.map .int)),~~~(.lst G),y]) (hp':=hp') (by simp[B,l1,l2,lm,lt,nl]) ?_;have er:qo (vL (J3 (Kc 6) (Jz (J3 KJ (Jz (Tf 7) (Jz (Tf 3) (Jz (Tf 5) Th)))) (Jz (Tf 6) Th)))) [~~~(.scr ns),~~~(.int c),~~~(.int n),~~~(.int k),~~~(TB fs),~~~(.int m),~~~(TB ts),~~~(TB fs),~~~(.lst (as.map .adr)),~~~(.lst (hs.map .int)),~~~(.lst G),y] hp'=.ok (.ret (.bl true) hp'):=by simp[a,M]
  rw[er];rfl
def fO (ds:Yz)(d:D):Prop:=ds.length=1/\((Xr (Qv 12 ds) []).bind q0).need (λp=>dr p.2 1 p.1=d) λ_ _=>False
open Classical in
def yh:Yz->Res D:=λds=>if fO ds (.bl true) then .ok (.bl true) else .no
def zP:∀ds d,yh ds=.ok d->ds.length=1/\((Xr (Qv 12 ds) []).bind q0).need (λp=>dr p.2 1 p.1=d) λ_ _=>False:=λds d h=>by
 unfold yh at h
 split at h
 .cases h
  assumption
 .cases h
def zH:∀ds,∀c fs,yh ds ≠ .ex c fs:=λds c fs h=>by
 unfold yh at h
 split at h<;>cases h
def yr (ns:Yf)(h:ns.length<=63):yh [.scr ns]=.ok (.bl true):=by
 unfold yh;exact Zd ⟨rfl,RP ns h⟩
end My
set_option maxHeartbeats 4000000
namespace My
open PySem L2 L2.DL
def yk (i:Nat):Stmt:=PySem.Challenge.pw_allfirst_k40_rounds_as_forms.main.body.getD i (.Pass ⟨0,0,0,0⟩)
abbrev tbl:List (Str×Nat):=List.zip (List.map Str.ofString ["_law_cell_at", "_law_done", "_law_comes", "_law_both", "_law_beneath", "_law_thin", "_law_all", "_law_put", "_law_due", "_law_mixed", "_law_wait", "_law_hours", "_law_row", "_law_turns", "_law_round", "_law_whole", "_law_same", "fits_in", "is_covered", "lowest", "form_within", "first_of", "joined", "each_joined", "all_of", "shifted", "waited", "put_into_row", "put_into", "forms_with", "thing_form", "round_forms", "row_hour", "form_hour", "hours_of_forms", "round_hours"]) [27,34,38,40,35,36,39,41,42,28,30,32,31,29,37,26,33,5,9,8,19,14,6,18,15,7,12,17,16,24,11,22,4,13,23,21]
abbrev bl:Yi:=List.map Str.ofString ["any", "bool", "dict", "int", "isinstance", "len", "list", "max", "min", "range", "set", "sorted", "str", "sum", "tuple"]
structure All (e:Ev):Prop extends Al e yk tbl bl where
 x_TooMany:Exc e.K e.mg "TooMany" (e.C 0)
section
variable {e:Ev}{k j:Nat}
def HA (a:All e):Ca e "_law_cell_at" 1 ["script", "k"] (qr e.K Wc):=
 qf a.toAl 0 27 λF=>jJ (N:=["script", "k"]) (g:=Y3) F JP λ_ _ _ _ _ _ b=>by
 have m:=a.m;unfold Y3;exact(JA (Qi (Qt kX (qv 1) (JT (x:= "len") QH rfl (J8 m) QC (J0 (qv 0) J1)) (Ql _)) (J7 (JR (QQ (Q0 b) (qv 0) (qv 1) (λ_ _=>rfl) (λ_ _=>rfl)))) Qm) (J7 (JR JF)))
def RQ (a:All e):Ca e "_law_done" 1 ["row", "hours"] (qr e.K Y4):=
 qf a.toAl 1 34 λF=>jJ (N:=["row", "hours", "found", "thing", "wait"]) (g:=Aw) F JP λ_ _ _ _ _ _ b=>by
 unfold Aw;exact(JA (JO T8 rfl (.inl rfl) (Tz (QM J1))) (JA (Qu PassesOwn.never rfl (JN (qv 0)) (K9 [3,4] (K5 rfl (Qs (JY T8 rfl (.inl rfl)) (Qs (JY T8 rfl (.inl rfl)) K4)))) (J7 (Qi (xi (WQ (Qt (qU b.units) (qv 2) (Tz (QM J1)) (Ql _)) (X6 (Qt xG (TD Qn (QQ (Q0 b) (qv 1) (qv 3) (λ_ _=>rfl) (λ_ _=>rfl)) (qv 4)) (QQ (Q0 b) (qv 2) JF (λ_ _=>rfl) (λ_ _=>rfl)) (Ql _))))) (J7 (JO T8 rfl (.inl rfl) (Tz (QM (J0 (TD Qn (QQ (Q0 b) (qv 1) (qv 3) (λ_ _=>rfl) (λ_ _=>rfl)) (qv 4)) J1))))) Qm))) (J7 (JR (QQ (Q0 b) (qv 2) JF (λ_ _=>rfl) (λ_ _=>rfl))))))
def RR (a:All e):Ca e "_law_comes" 2 ["form", "hours"] (qr e.K Y5):=
 qf a.toAl 2 38 λF=>jJ (N:=["form", "hours"]) (g:=Ax) F JP λ_ _ _ _ _ _ c=>by
 have m:=a.m;have b:=(RQ a).mono (k:=1) ();unfold Ax;exact(J7 (JR (JT (x:= "min") (E7 rfl) rfl (J8 m) Bn (J0 (Tz (Q2 ["row", "hours"] [none,some 1] rfl rfl (JN (qv 0)) (λ_ _ _ _ _=>(JM (jX 0 T8))) (λ_ _ _ _ _=>(jb b c rfl (J0 (qv 0) (J0 (qv 1) J1)))))) J1))))
def RU (a:All e):Ca e "_law_both" 1 ["one", "other"] (qr e.K WA):=
 qf a.toAl 3 40 λF=>jJ (N:=["one", "other", "waits", "thing", "wait"]) (g:=Ay) F JP λ_ _ _ _ _ _ b=>by
 have m:=a.m;unfold Ay;exact(JA (Ku T8 rfl (.inr rfl) MN) (JA (Qu PassesOwn.never rfl (JN (TD Qn (qv 0) (qv 1))) (K9 [3,4] (K5 rfl (Qs (JY T8 rfl (.inl rfl)) (Qs (JY T8 rfl (.inl rfl)) K4)))) (J7 (EB (Q0 b) (pv 2) (qv 3) (JT (x:= "max") (BF rfl) rfl (J8 m) Z5 (J0 (qv 4) (J0 (ZN [2] (EA (Q0 b) (qv 2) (qv 3) (qv 4) ⟨rfl,rfl,rfl,rfl⟩)) J1)))))) (J7 (Wu [2] (JR (X8 (x:= "tuple") XJ rfl (J8 m) Wm (J0 (Tz (Q2 ["thing", "waits"] [none,some 2] rfl rfl (JN (Tz (B0 (x:= "sorted") Pp rfl (J8 m) X0 (J0 (Tz (WR (x:= "list") (PD rfl) rfl (J8 m) WN (J0 (qv 2) J1))) J1)))) (λ_ _ _ _ _=>(JM (jX 0 T8))) (λ_ _ _ _ _=>(K7 (J0 (qv 0) (J0 (QQ (Q0 b) (qv 1) (qv 0) (λ_ _=>rfl) (λ_ _=>rfl)) J1)))))) J1)))))))
def RV (a:All e):Ca e "_law_beneath" 1 ["row", "other"] (qr e.K WB):=
 qf a.toAl 4 35 λF=>jJ (N:=["row", "other", "thing", "wait", "good", "also", "more"]) (g:=Az) F JP λ_ _ _ _ _ _ b=>by
 unfold Az;exact(JA (Qu PassesOwn.never rfl (JN (qv 0)) (K9 [2,3] (K5 rfl (Qs (JY T8 rfl (.inl rfl)) (Qs (JY T8 rfl (.inl rfl)) K4)))) (JA (JO T8 rfl (.inl rfl) Ke) (JA (Qu PassesOwn.never rfl (JN (qv 1)) (K9 [5,6] (K5 rfl (Qs (JY T8 rfl (.inl rfl)) (Qs (JY T8 rfl (.inl rfl)) K4)))) (J7 (Qi (xi (Mq (Qt (qU b.units) (qv 5) (qv 2) (Ql _)) (Mp (Qt kY (qv 3) (qv 6) (Ql _))))) (J7 (JO T8 rfl (.inl rfl) Ke)) Qm))) (J7 (Qi (V9 (Kk (qv 4))) (J7 (JR Ke)) Qm))))) (J7 (JR Ke)))
def CN (a:All e):Ca e "_law_thin" 2 ["rows"] (xL e.K K2):=
 qf a.toAl 5 36 λF=>qY (N:=["rows", "left", "row"]) (g:=A0) F JP λ_ _ _ _ _ _ c=>by
 have m:=a.m;have b:=(RV a).mono (k:=1) ();unfold A0;exact(JA (JO T8 rfl (.inl rfl) (Tz (QM J1))) (JA (Qu PassesOwn.never rfl (JN (qv 0)) (JM (JY T8 rfl (.inr rfl))) (J7 (Qi (V9 (Kk (JT (x:= "any") (uf rfl) rfl (J8 m) Nv (J0 (Tz (Q2 ["other", "row"] [none,some 2] rfl rfl (JN (qv 1)) (λ_ _ _ _ _=>(JM (jX 0 T8))) (λ_ _ _ _ _=>(jb b c rfl (J0 (qv 0) (J0 (qv 1) J1)))))) J1)))) (J7 (JO T8 rfl (.inl rfl) (TD Qn (Tz (BL ["other", "row"] [none,some 2] rfl rfl (JN (qv 1)) (λ_ _ _ _ _=>(JM (jX 0 T8))) (λ_ _ _ _ _=>(V9 (Kk (jb b c rfl (J0 (qv 1) (J0 (qv 0) J1)))))) (λ_ _ _ _ _=>(qv 0)))) (Tz (QM (J0 (qv 2) J1)))))) Qm))) (J7 (KR (B0 (x:= "sorted") (EZ c.units) rfl (J8 m) X0 (J0 (qv 1) J1))))))
def RW (a:All e):Ca e "_law_all" 3 ["row", "forms", "most"] (qr e.K Xl):=
 qf a.toAl 6 39 λF=>jJ (N:=["row", "forms", "most", "made", "thing", "wait", "moved", "both", "one"]) (g:=A1) F JP λ_ _ _ _ _ _ d=>by
 have m:=a.m;have b:=(RU a).mono (k:=2) ();have c:=(CN a).mono (k:=2) ();unfold A1;exact(JA (JO T8 rfl (.inl rfl) KP) (JA (Qu PassesOwn.never rfl (JN (qv 0)) (K9 [4,5] (K5 rfl (Qs (JY T8 rfl (.inl rfl)) (Qs (JY T8 rfl (.inr rfl)) K4)))) (JA (BO ["one", "wait"] [none,some 5] T8 rfl (.inl rfl) rfl rfl (JN (QQ (Q0 d) (qv 1) (qv 4) (λ_ _=>rfl) (λ_ _=>rfl))) (λ_ _ _ _ _=>(JM (jX 0 T8))) (λ_ _ _ _ _=>(X8 (x:= "tuple") XJ rfl (J8 m) Wm (J0 (Tz (Q2 ["also", "own", "wait"] [none,none,some 1] rfl rfl (JN (qv 0)) (λ_ _ _ _ _=>(K9 [0,1] (K5 rfl (Qs (jX 0 T8) (Qs (jX 1 T8) K4))))) (λ_ _ _ _ _=>(K7 (J0 (qv 0) (J0 (TD Qn (qv 1) (qv 2)) J1)))))) J1)))) (JA (Qi (ZX (qv 3)) (J7 (JO T8 rfl (.inl rfl) (qv 6))) (JA (Ku T8 rfl (.inl rfl) (QM J1)) (JA (Qu PassesOwn.never rfl (JN (qv 3)) (JM (JY T8 rfl (.inr rfl))) (J7 (Em (pv 7) (Q2 ["other", "one"] [none,some 8] rfl rfl (JN (qv 6)) (λ_ _ _ _ _=>(JM (jX 0 T8))) (λ_ _ _ _ _=>(jb b d rfl (J0 (qv 1) (J0 (qv 0) J1))))) (λf h=>V5 Ys PySem.F.slot_list_extend PySem.F.type_list_extend Ds f h)))) (J7 (Wu [7] (JO T8 rfl (.inl rfl) (Tz (KQ c d rfl (J0 (qv 7) J1))))))))) (J7 (Qi (Qt xG (JT (x:= "len") QH rfl (J8 m) QC (J0 (qv 3) J1)) (qv 2) (Ql _)) (J7 (JR KP)) Qm))))) (J7 (JR (qv 3)))))
def RX (a:All e):Ca e "_law_put" 4 ["form", "forms", "most"] (qr e.K Xm):=
 qf a.toAl 7 41 λF=>jJ (N:=["form", "forms", "most", "made", "row", "more"]) (g:=A3) F JP λ_ _ _ _ _ _ d=>by
 have m:=a.m;have b:=(RW a).mono (k:=3) ();have c:=(CN a).mono (k:=3) ();unfold A3;exact(JA (JO T8 rfl (.inl rfl) (Tz (QM J1))) (JA (Qu PassesOwn.never rfl (JN (qv 0)) (JM (JY T8 rfl (.inl rfl))) (JA (JO T8 rfl (.inl rfl) (jb b d rfl (J0 (qv 4) (J0 (qv 1) (J0 (qv 2) J1))))) (JA (Qi (ZX (qv 5)) (J7 (JR KP)) Qm) (JA (JO T8 rfl (.inl rfl) (Tz (KQ c d rfl (J0 (TD Qn (qv 3) (qv 5)) J1)))) (J7 (Qi (Qt xG (JT (x:= "len") QH rfl (J8 m) QC (J0 (qv 3) J1)) (qv 2) (Ql _)) (J7 (JR KP)) Qm)))))) (J7 (JR (qv 3)))))
def RY (a:All e):Ca e "_law_due" 5 ["forms", "times", "most"] (qr e.K A5):=
 qf a.toAl 8 42 λF=>jJ (N:=["forms", "times", "most", "due", "turn"]) (g:=A4) F JP λ_ _ _ _ _ _ c=>by
 have m:=a.m;have b:=(RX a).mono (k:=4) ();unfold A4;exact(JA (JO T8 rfl (.inr rfl) (Tz (Q2 ["thing"] [none] rfl rfl (Kn rfl (J8 m) (J0 (JT (x:= "len") QH rfl (J8 m) QC (J0 (qv 0) J1)) J1)) (λ_ _ _ _ _=>(JM (jX 0 T8))) (λ_ _ _ _ _=>(Tz (QM (J0 (K7 (J0 (K7 (J0 (qv 0) (J0 JF J1))) J1)) J1))))))) (JA (Qu PassesOwn.never rfl (Kn rfl (J8 m) (J0 (qv 1) J1)) (JM (JY T8 rfl (.inl rfl))) (JA (JO T8 rfl (.inr rfl) (Tz (Q2 ["form", "most", "due"] [none,some 2,some 3] rfl rfl (JN (qv 0)) (λ_ _ _ _ _=>(JM (jX 0 T8))) (λ_ _ _ _ _=>(jb b c rfl (J0 (qv 0) (J0 (qv 2) (J0 (qv 1) J1)))))))) (J7 (Qi (ww c.units KP (qv 3)) (J7 (JR KP)) Qm)))) (J7 (JR (qv 3)))))
def CO (a:All e):Ca e "_law_mixed" 1 ["cell", "salt"] (qr e.K WC):=
 qf a.toAl 9 28 λF=>jJ (N:=["cell", "salt", "mixed"]) (g:=A6) F JP λ_ _ _ _ _ _ b=>by
 unfold A6;exact(JA (JO T8 rfl (.inl rfl) (TD QP (TD XF (TD Qn (TD QP (qv 0) JF) (qv 1)) JF) JF)) (J7 (JR (TD QP (TD XF (qv 2) (qv 2)) JF))))
def HB (a:All e):Ca e "_law_wait" 2 ["cell", "salt"] (qr e.K V3):=
 qf a.toAl 10 30 λF=>jJ (N:=["cell", "salt", "mixed", "size"]) (g:=Xn) F JP λ_ _ _ _ _ _ c=>by
 have b:=(CO a).mono (k:=1) ();unfold Xn;exact(JA (JO T8 rfl (.inl rfl) (jb b c rfl (J0 (qv 0) (J0 (qv 1) J1)))) (JA (Qi (Qt xG (TD QP (qv 2) JF) JF (Ql _)) (J7 (JR (TD Es (TD QP (TD VP (qv 2) JF) JF) JF))) Qm) (JA (JO T8 rfl (.inl rfl) (TD QP (TD XF (TD VP (qv 0) JF) (TD Qn (qv 1) JF)) (TD vb JF JF))) (JA (Qi (Qt (qU c.units) (TD QP (TD VP (qv 2) JF) JF) JF (Ql _)) (J7 (JR (qv 3))) Qm) (J7 (JR (kU zS (qv 3))))))))
def RZ (a:All e):Ca e "_law_hours" 3 ["script", "salt", "things"] (xL e.K Y6):=
 qf a.toAl 11 32 λF=>qY (N:=["script", "salt", "things"]) (g:=A7) F JP λ_ _ _ _ _ _ d=>by
 have m:=a.m;have b:=(HA a).mono (k:=2) ();have c:=(HB a).mono (k:=2) ();unfold A7;exact(J7 (KR (Q2 ["k", "script", "salt"] [none,some 0,some 1] rfl rfl (Kn rfl (J8 m) (J0 (qv 2) J1)) (λ_ _ _ _ _=>(JM (jX 0 T8))) (λ_ _ _ _ _=>(jb c d rfl (J0 (TD Qn (TD VP (jb b d rfl (J0 (qv 1) (J0 (qv 0) J1))) JF) (qv 0)) (J0 (TD Qn (qv 2) (qv 0)) J1)))))))
def Sa (a:All e):Ca e "_law_row" 3 ["cell", "things"] (qr e.K Xo):=
 qf a.toAl 12 31 λF=>jJ (N:=["cell", "things", "row", "mask", "thing"]) (g:=A8) F JP λ_ _ _ _ _ _ d=>by
 have m:=a.m;have c:=(CO a).mono (k:=2) ();have b:=(HB a).mono (k:=2) ();unfold A8;exact(JA (Ku T8 rfl (.inl rfl) (QM J1)) (JA (JO T8 rfl (.inl rfl) (jb c d rfl (J0 (qv 0) (J0 JF J1)))) (JA (Qu PassesOwn.never rfl (Kn rfl (J8 m) (J0 (qv 1) J1)) (JM (JY T8 rfl (.inl rfl))) (JA (Qi (Qt (qU d.units) (TD QP (qv 3) JF) JF (Ql _)) (J7 (XA (pv 2) (K7 (J0 (qv 4) (J0 (jb b d rfl (J0 (qv 0) (J0 (TD Qn JF (qv 4)) J1))) J1))) (λf h=>V5 Ys Yt Yu WJ f h))) Qm) (J7 (JO T8 rfl (.inl rfl) (TD VP (qv 3) JF))))) (JA (Qi (Mr [2] (Qt (qU d.units) (qv 2) (Tz (QM J1)) (Ql _))) (J7 (XA (pv 2) (K7 (J0 (TD QP (qv 0) (qv 1)) (J0 (jb b d rfl (J0 (qv 0) (J0 JF J1))) J1))) (λf h=>V5 Ys Yt Yu WJ f h))) Qm) (J7 (Wu [2] (JR (X8 (x:= "tuple") XJ rfl (J8 m) Wm (J0 (qv 2) J1)))))))))
def Sb (a:All e):Ca e "_law_turns" 1 ["script", "start", "most"] (xL e.K Y7):=
 qf a.toAl 13 29 λF=>qY (N:=["script", "start", "most", "many"]) (g:=A9) F JP λ_ _ _ _ _ _ b=>by
 have m:=a.m;unfold A9;exact(JA (JO T8 rfl (.inl rfl) (JT (x:= "min") (MD rfl) rfl (J8 m) Bn (J0 (qv 2) (J0 (JT (x:= "max") (BF rfl) rfl (J8 m) Z5 (J0 JF (J0 (TD Es (JT (x:= "len") QH rfl (J8 m) QC (J0 (qv 0) J1)) (qv 1)) J1))) J1)))) (J7 (KR (Q2 ["k", "script", "start", "most"] [none,some 0,some 1,some 2] rfl rfl (Kn rfl (J8 m) (J0 (qv 3) J1)) (λ_ _ _ _ _=>(JM (jX 0 T8))) (λ_ _ _ _ _=>(JT (x:= "sum") (ue rfl) rfl (J8 m) LJ (J0 (Tz (BS (qv 1) (Ab (TD Qn (qv 2) (qv 0))) XN (Ab (qv 3)))) J1)))))))
def Sc (a:All e):Ca e "_law_round" 4 ["script", "things", "most"] (xL e.K AA):=
 qf a.toAl 14 37 λF=>qY (N:=["script", "things", "most", "pool", "forms", "thing", "rows", "k", "cell"]) (g:=Y8) F JP λ_ _ _ _ _ _ b=>by
 have m:=a.m;have c:=(CO a).mono (k:=3) ();have d:=(Sa a).mono (k:=3) ();have f:=(CN a).mono (k:=3) ();have h:=(Sb a).mono (k:=3) ();unfold Y8
 exact(JA (JO T8 rfl (.inl rfl) (Tz (KQ h b rfl (J0 (qv 0) (J0 JF (J0 JF J1)))))) (JA (Qi (Qt (qU b.units) (qv 3) (Tz (QM J1)) (Ql _)) (J7 (JO T8 rfl (.inl rfl) (Tz (QM (J0 (JT (x:= "len") QH rfl (J8 m) QC (J0 (qv 0) J1)) J1))))) Qm) (JA (Ku T8 rfl (.inl rfl) (QM J1)) (JA (Qu PassesOwn.never rfl (Kn rfl (J8 m) (J0 (qv 1) J1)) (JM (JY T8 rfl (.inl rfl))) (JA (Ku T8 rfl (.inl rfl) (QM J1)) (JA (Qu PassesOwn.never rfl (Kn rfl (J8 m) (J0 (TD Qn JF (TD QP (jb c b rfl (J0 (QQ (Q0 b) (qv 3) (TD QP (qv 5) (JT (x:= "len") QH rfl (J8 m) QC (J0 (qv 3) J1))) (λ_ _=>rfl) (λ_ _=>rfl)) (J0 JF J1))) (qv 2))) J1)) (JM (JY T8 rfl (.inl rfl))) (JA (JO T8 rfl (.inl rfl) (QQ (Q0 b) (qv 3) (TD QP (TD Qn (qv 5) (TD XF JF (qv 7))) (JT (x:= "len") QH rfl (J8 m) QC (J0 (qv 3) J1))) (λ_ _=>rfl) (λ_ _=>rfl))) (J7 (XA (pv 6) (jb d b rfl (J0 (TD Qn (TD Qn (TD VP (qv 8) (TD Qn (qv 7) JF)) (TD XF JF (qv 5))) (qv 7)) (J0 (qv 1) J1))) (λi l=>V5 Ys Yt Yu WJ i l))))) (J7 (Wu [6] (XA (pv 4) (Tz (KQ f b rfl (J0 (qv 6) J1))) (λi l=>V5 Ys Yt Yu WJ i l))))))) (J7 (X9 (pv 4)))))))
def Se (a:All e):Ca e "_law_whole" 1 ["found"] (qr e.K AC):=
 qf a.toAl 15 26 λF=>jJ (N:=["found"]) (g:=AB) F JP λ_ _ _ _ _ _ b=>by
 have m:=a.m;unfold AB;exact(J7 (JR (X7 (JT (x:= "isinstance") KY rfl (J8 m) KM (J0 (qv 0) (J0 (KZ (n:= "int") (x:= "int") rfl (J8 m) DC rfl) J1))) (ZM (w5 (JT (x:= "isinstance") KY rfl (J8 m) KM (J0 (qv 0) (J0 (KZ (n:= "bool") (x:= "bool") rfl (J8 m) LK rfl) J1))))))))
def Sf (a:All e)(c:Ca e "_law_same" (1+k) ["found", "due"] (qr e.K (Kc j))):Ca e "_law_same" (1+k+1) ["found", "due"] (qr e.K (Kc (j+1))):=
 qf a.toAl 16 33 λF=>jJ (N:=["found", "due", "k"]) (g:=(Y9 (Kc j))) F JP λ_ _ _ _ _ _ b=>by
 have m:=a.m;have d:=(Se a).mono (k:=(1+k)) ();unfold Y9
 exact(JA (Qi (Kk (JT (x:= "isinstance") KY rfl (J8 m) KM (J0 (qv 1) (J0 (KZ (n:= "int") (x:= "int") rfl (J8 m) DC rfl) J1)))) (J7 (JR (X7 (jb d b rfl (J0 (qv 0) J1)) (ZM (Bx (qU b.units) (qv 0) (qv 1) (Ql _)))))) Qm) (JA (Qi (Kk (JT (x:= "isinstance") KY rfl (J8 m) KM (J0 (qv 1) (J0 (KZ (n:= "str") (x:= "str") rfl (J8 m) DE rfl) J1)))) (J7 (JR (X7 (JT (x:= "isinstance") KY rfl (J8 m) KM (J0 (qv 0) (J0 (KZ (n:= "str") (x:= "str") rfl (J8 m) DE rfl) J1))) (ZM (Bx (qU b.units) (qv 0) (qv 1) (Ql _)))))) Qm) (JA (Qi (xi (WQ (Qt (xS b.units) (JT (x:= "isinstance") KY rfl (J8 m) KM (J0 (qv 0) (J0 (KZ (n:= "list") (x:= "list") rfl (J8 m) WN rfl) J1))) (JT (x:= "isinstance") KY rfl (J8 m) KM (J0 (qv 1) (J0 (KZ (n:= "list") (x:= "list") rfl (J8 m) WN rfl) J1))) (Ql _)) (X6 (Qt (xS b.units) (JT (x:= "isinstance") KY rfl (J8 m) KM (J0 (qv 0) (J0 (KZ (n:= "tuple") (x:= "tuple") rfl (J8 m) Wm rfl) J1))) (JT (x:= "isinstance") KY rfl (J8 m) KM (J0 (qv 1) (J0 (KZ (n:= "tuple") (x:= "tuple") rfl (J8 m) Wm rfl) J1))) (Ql _))))) (J7 (JR Ke)) Qm) (JA (Qi (Qt (xS b.units) (JT (x:= "len") QH rfl (J8 m) QC (J0 (qv 0) J1)) (JT (x:= "len") QH rfl (J8 m) QC (J0 (qv 1) J1)) (Ql _)) (J7 (JR Ke)) Qm) (JA (Qu PassesOwn.never rfl (Kn rfl (J8 m) (J0 (JT (x:= "len") QH rfl (J8 m) QC (J0 (qv 1) J1)) J1)) (JM (JY T8 rfl (.inl rfl))) (J7 (Qi (V9 (Kk (jb c b rfl (J0 (QQ (Q0 b) (qv 0) (qv 2) (λ_ _=>rfl) (λ_ _=>rfl)) (J0 (QQ (Q0 b) (qv 1) (qv 2) (λ_ _=>rfl) (λ_ _=>rfl)) J1))))) (J7 (JR Ke)) Qm))) (J7 (JR Ke)))))))
theorem HC (a:All e):∀j,Ca e "_law_same" (1+j) ["found", "due"] (qr e.K (Kc j))
 | 0=>qf a.toAl 16 33 λ_=>v5
 |j+1=>Sf (k:=j) a (HC a j)
def Sg (a:All e):Ca e "_law_same" 7 ["found", "due"] (qr e.K (Kc 6)):=HC a 6
def wZ (a:All e):Ca e "fits_in" 1 ["row", "waits"] (qr e.K zd):=
 qf a.toAl 17 5 λF=>jJ (N:=["row", "waits", "thing", "wait"]) (g:=za) F JP λ_ _ _ _ _ _ b=>by
 unfold za;exact(JA (Qu PassesOwn.never rfl (JN (qv 0)) (K9 [2,3] (K5 rfl (Qs (JY T8 rfl (.inl rfl)) (Qs (JY T8 rfl (.inl rfl)) K4)))) (J7 (Qi (xi (WQ (M9 b.units (qv 2) (qv 1)) (X6 (Qt xG (qv 3) (QQ (Q0 b) (qv 1) (qv 2) (λ_ _=>rfl) (λ_ _=>rfl)) (Ql _))))) (J7 (JR Ke)) Qm))) (J7 (JR Ke)))
def HD (a:All e):Ca e "is_covered" 2 ["row", "kept"] (qr e.K qx):=
 qf a.toAl 18 9 λF=>jJ (N:=["row", "kept", "waits", "other"]) (g:=yW) F JP λ_ _ _ _ _ _ c=>by
 have m:=a.m;have b:=(wZ a).mono (k:=1) ();unfold yW;exact(JA (JO T8 rfl (.inl rfl) (Tz (WR (x:= "dict") (E9 rfl) rfl (J8 m) DF (J0 (qv 0) J1)))) (JA (Qu PassesOwn.never rfl (JN (qv 1)) (JM (JY T8 rfl (.inl rfl))) (J7 (Qi (Kk (jb b c rfl (J0 (qv 3) (J0 (qv 2) J1)))) (J7 (JR Ke)) Qm))) (J7 (JR Ke))))
def wW (a:All e):Ca e "lowest" 3 ["rows", "enough"] (xL e.K zc):=
 qf a.toAl 19 8 λF=>qY (N:=["rows", "enough", "kept", "row"]) (g:=yX) F JP λ_ _ _ _ _ _ c=>by
 have m:=a.m;have b:=(HD a).mono (k:=2) ();unfold yX;exact(JA (Ku T8 rfl (.inl rfl) (QM J1)) (JA (Qu PassesOwn.never rfl (JN (Tz (OJ (λh=>L2.ST.pe_sortLen rfl (J8 m) rfl (J8 m) h) (J0 (Tz (OB (λh=>YY (L2.ST.call_sortedSet rfl c.units) rfl (J8 m) X0 (WI (AW (L2.ST.call_setRows rfl c.units) rfl (J8 m) L2.bt_set h) WH)) (J0 (qv 0) J1))) J1)))) (JM (JY T8 rfl (.inl rfl))) (JA (Qi (Qt (qU c.units) (ZN [2] (JT (x:= "len") QH rfl (J8 m) QC (J0 (qv 2) J1))) (qv 1) (Ql _)) (J7 Ms) Qm) (J7 (Qi (V9 (Kk (ZN [2] (jb b c rfl (J0 (qv 3) (J0 (qv 2) J1)))))) (J7 (XA (pv 2) (qv 3) (λd f=>V5 Ys Yt Yu WJ d f))) Qm)))) (J7 (X9 (pv 2)))))
def HE (a:All e):zl e "form_within" 4 ["rows", "most"] (xK e.K Q4):=
 xH a.toAl 20 19 λF=>Ai (N:=["rows", "most", "kept"]) (g:=YE) F JP λ_ _ _ _ _ _ d=>by
 have m:=a.m;have c:=(wW a).mono (k:=3) ();have b:=a.x_TooMany;unfold YE;exact(JA (JO T8 rfl (.inl rfl) (Tz (Ah c d rfl (J0 (qv 0) (J0 (TD Qn (qv 1) JF) J1))))) (JA (Qi (Qt xG (JT (x:= "len") QH rfl (J8 m) QC (J0 (qv 2) J1)) (qv 1) (Ql _)) (J7 (OY OR b rfl rfl (w6 (by decide) (qv 1)))) Qm) (J7 (KR (B0 (x:= "sorted") (EZ d.units) rfl (J8 m) X0 (J0 (qv 2) J1))))))
def wT (a:All e):zl e "first_of" 5 ["forms", "most"] (xK e.K xN):=
 xH a.toAl 21 14 λF=>Ai (N:=["forms", "most", "told", "form"]) (g:=yy) F JP λ_ _ _ _ _ _ c=>by
 have b:=(HE a).mono (k:=4) ();unfold yy;exact(JA (Ku T8 rfl (.inl rfl) (VW b W6 c rfl (J0 (QQ (Q0 c) (qv 0) JF (λ_ _=>rfl) (λ_ _=>rfl)) (J0 (qv 1) J1)))) (JA (Qu Cq rfl (JN (Tz (BS (qv 0) (Ab JF) XN XN))) (JM (JY T8 rfl (.inl rfl))) (J7 (Wu [2] (Ku T8 rfl (.inl rfl) (VW b W6 c rfl (J0 (TD Qn (qv 2) (qv 3)) (J0 (qv 1) J1))))))) (J7 (X9 (pv 2)))))
def wY (a:All e):Ca e "joined" 1 ["row", "other"] (qr e.K yc):=
 qf a.toAl 22 6 λF=>jJ (N:=["row", "other", "waits", "thing", "wait"]) (g:=yZ) F JP λ_ _ _ _ _ _ b=>by
 have m:=a.m;unfold yZ;exact(JA (Ku T8 rfl (.inl rfl) (WR (x:= "dict") (E9 rfl) rfl (J8 m) DF (J0 (qv 0) J1))) (JA (Qu PassesOwn.never rfl (JN (qv 1)) (K9 [3,4] (K5 rfl (Qs (JY T8 rfl (.inl rfl)) (Qs (JY T8 rfl (.inl rfl)) K4)))) (J7 (EB (Q0 b) (pv 2) (qv 3) (JT (x:= "max") (BF rfl) rfl (J8 m) Z5 (J0 (qv 4) (J0 (ZN [2] (EA (Q0 b) (qv 2) (qv 3) (qv 4) ⟨rfl,rfl,rfl,rfl⟩)) J1)))))) (J7 (Wu [2] (JR (X8 (x:= "tuple") XJ rfl (J8 m) Wm (J0 (MV (λh=>YY (Me rfl) rfl (J8 m) X0 (WI (Lf PySem.F.plainAttrs_dict PySem.F.slot_dict_items PySem.F.type_dict_items Md h) WH)) (qv 2)) J1)))))))
def Sh (a:All e):Ca e "each_joined" 3 ["form", "other"] (xL e.K YG):=
 qf a.toAl 23 18 λF=>qY (N:=["form", "other", "rows", "rest", "row"]) (g:=AD) F JP λ_ _ _ _ _ _ c=>by
 have m:=a.m;have b:=(HD a).mono (k:=2) ();have d:=(wY a).mono (k:=2) ();unfold AD;exact(JA (Ku T8 rfl (.inl rfl) (wy Pf (Tz (BL ["row", "other"] [none,some 1] rfl rfl (JN (qv 0)) (λ_ _ _ _ _=>(JM (jX 0 T8))) (λ_ _ _ _ _=>(Kk (jb b c rfl (J0 (qv 0) (J0 (qv 1) J1))))) (λ_ _ _ _ _=>(qv 0)))) (Tz (BL ["row", "form"] [none,some 0] rfl rfl (JN (qv 1)) (λ_ _ _ _ _=>(JM (jX 0 T8))) (λ_ _ _ _ _=>(Kk (jb b c rfl (J0 (qv 0) (J0 (qv 1) J1))))) (λ_ _ _ _ _=>(qv 0)))))) (JA (MZ ["row", "form"] [none,some 0] T8 rfl (.inl rfl) rfl rfl (JN (qv 1)) (λ_ _ _ _ _=>(JM (jX 0 T8))) (λ_ _ _ _ _=>(V9 (Kk (jb b c rfl (J0 (qv 0) (J0 (qv 1) J1)))))) (λ_ _ _ _ _=>(qv 0))) (JA (Qu PassesOwn.never rfl (JN (qv 0)) (JM (JY T8 rfl (.inr rfl))) (J7 (Qi (V9 (Kk (jb b c rfl (J0 (qv 4) (J0 (qv 1) J1))))) (J7 (Em (pv 2) (Q2 ["other_row", "row"] [none,some 4] rfl rfl (JN (qv 3)) (λ_ _ _ _ _=>(JM (jX 0 T8))) (λ_ _ _ _ _=>(jb d c rfl (J0 (qv 1) (J0 (qv 0) J1))))) (λf h=>V5 Ys PySem.F.slot_list_extend PySem.F.type_list_extend Ds f h))) Qm))) (J7 (X9 (pv 2))))))
def Si (a:All e):zl e "all_of" 5 ["forms", "most"] (x2 e.K WE):=
 xH a.toAl 24 15 λF=>Co (N:=["forms", "most", "told", "form"]) (g:=YH) F JP λ_ _ _ _ _ _ d=>by
 have c:=(Sh a).mono (k:=4) ();have b:=(HE a).mono (k:=4) ();unfold YH;exact(JA (JO T8 rfl (.inl rfl) (Tz (VW b W6 d rfl (J0 (QQ (Q0 d) (qv 0) JF (λ_ _=>rfl) (λ_ _=>rfl)) (J0 (qv 1) J1))))) (JA (Qu Cq rfl (JN (Tz (BS (qv 0) (Ab JF) XN XN))) (JM (JY T8 rfl (.inl rfl))) (J7 (JO T8 rfl (.inl rfl) (Tz (VW b W6 d rfl (J0 (Tz (Ah c d rfl (J0 (qv 2) (J0 (qv 3) J1)))) (J0 (qv 1) J1))))))) (J7 (JR (qv 2)))))
def wX (a:All e):Ca e "shifted" 1 ["row", "wait"] (qr e.K y1):=
 qf a.toAl 25 7 λF=>jJ (N:=["row", "wait"]) (g:=yY) F JP λ_ _ _ _ _ _ b=>by
 have m:=a.m;unfold yY;exact(J7 (JR (X8 (x:= "tuple") XJ rfl (J8 m) Wm (J0 (Tz (Q2 ["thing", "own", "wait"] [none,none,some 1] rfl rfl (JN (qv 0)) (λ_ _ _ _ _=>(K9 [0,1] (K5 rfl (Qs (jX 0 T8) (Qs (jX 1 T8) K4))))) (λ_ _ _ _ _=>(K7 (J0 (qv 0) (J0 (TD Qn (qv 1) (qv 2)) J1)))))) J1))))
def wV (a:All e):Ca e "waited" 2 ["form", "wait"] (xL e.K y0):=
 qf a.toAl 26 12 λF=>qY (N:=["form", "wait"]) (g:=yU) F JP λ_ _ _ _ _ _ c=>by
 have b:=(wX a).mono (k:=1) ();unfold yU;exact(J7 (KR (Q2 ["row", "wait"] [none,some 1] rfl rfl (JN (qv 0)) (λ_ _ _ _ _=>(JM (jX 0 T8))) (λ_ _ _ _ _=>(jb b c rfl (J0 (qv 0) (J0 (qv 1) J1)))))))
def Sj (a:All e):zl e "put_into_row" 6 ["row", "forms", "most"] (x2 e.K KE):=
 xH a.toAl 27 17 λF=>Co (N:=["row", "forms", "most"]) (g:=AG) F JP λ_ _ _ _ _ _ d=>by
 have b:=(Si a).mono (k:=5) ();have c:=(wV a).mono (k:=5) ();unfold AG;exact(J7 (JR (Cm b W6 d rfl (J0 (Tz (Q2 ["thing", "wait", "forms"] [none,none,some 1] rfl rfl (JN (qv 0)) (λ_ _ _ _ _=>(K9 [0,1] (K5 rfl (Qs (jX 0 T8) (Qs (jX 1 T8) K4))))) (λ_ _ _ _ _=>(Tz (Ah c d rfl (J0 (QQ (Q0 d) (qv 2) (qv 0) (λ_ _=>rfl) (λ_ _=>rfl)) (J0 (qv 1) J1))))))) (J0 (qv 2) J1)))))
def HF (a:All e):zl e "put_into" 7 ["form", "forms", "most"] (xK e.K QL):=
 xH a.toAl 28 16 λF=>Ai (N:=["form", "forms", "most"]) (g:=YJ) F JP λ_ _ _ _ _ _ d=>by
 have c:=(wT a).mono (k:=6) ();have b:=(Sj a).mono (k:=6) ();unfold YJ;exact(J7 (KR (VW c W6 d rfl (J0 (Tz (Gs ["row", "forms", "most"] [none,some 1,some 2] rfl rfl (JN (qv 0)) (λ_ _ _ _ _=>(JM (jX 0 T8))) (λ_ _ _ _ _ f=>(Cm b (Gr rfl rfl rfl Gp f) d rfl (J0 (qv 0) (J0 (qv 1) (J0 (qv 2) J1))))))) (J0 (qv 2) J1)))))
def Sk (a:All e):zl e "forms_with" 8 ["forms", "put", "most"] (xK e.K We):=
 xH a.toAl 29 24 λF=>Ai (N:=["forms", "put", "most"]) (g:=YK) F JP λ_ _ _ _ _ _ c=>by
 have b:=(HF a).mono (k:=7) ();unfold YK;exact(J7 (KR (Gs ["form", "put", "most"] [none,some 1,some 2] rfl rfl (JN (qv 0)) (λ_ _ _ _ _=>(JM (jX 0 T8))) (λ_ _ _ _ _ d=>(Tz (VW b (Gr rfl rfl rfl Gp d) c rfl (J0 (qv 0) (J0 (qv 1) (J0 (qv 2) J1)))))))))
def Sl (a:All e):Ca e "forms_with" 8 ["forms", "put", "most"] (zD e.K WF):=
 qf a.toAl 29 24 λF=>v4 (N:=["forms", "put", "most"]) (g:=YL) F JP λ_ _ _ _ _ _ c=>by
 have b:=(HF a).mono (k:=7) ();unfold YL;exact(V1 (Xd (P3 ["form", "put", "most"] [none,some 1,some 2] rfl rfl (JN (qv 0)) (λ_ _ _ _ _=>(JM (jX 0 T8))) (λ_ _ _ _ _=>(G6 4 [1] (VW b Gk c rfl (J0 (qv 0) (J0 (qv 1) (J0 (qv 2) J1)))))))))
def HG (a:All e):Ca e "thing_form" 1 ["thing"] (xL e.K x6):=
 qf a.toAl 30 11 λF=>qY (N:=["thing"]) (g:=yV) F JP λ_ _ _ _ _ _ b=>by
 unfold yV;exact(J7 (KR (QM (J0 (K7 (J0 (K7 (J0 (qv 0) (J0 JF J1))) J1)) J1))))
def Sm (a:All e):zl e "round_forms" 9 ["forms", "times", "most"] (x2 e.K KJ):=
 xH a.toAl 31 22 λF=>Co (N:=["forms", "times", "most", "told", "turn"]) (g:=AI) F JP λ_ _ _ _ _ _ d=>by
 have m:=a.m;have b:=(Sk a).mono (k:=8) ();have c:=(HG a).mono (k:=8) ();unfold AI;exact(JA (BO ["thing"] [none] T8 rfl (.inl rfl) rfl rfl (Kn rfl (J8 m) (J0 (JT (x:= "len") QH rfl (J8 m) QC (J0 (qv 0) J1)) J1)) (λ_ _ _ _ _=>(JM (jX 0 T8))) (λ_ _ _ _ _=>(Tz (Ah c d rfl (J0 (qv 0) J1))))) (JA (Qu Cq rfl (Kn rfl (J8 m) (J0 (qv 1) J1)) (JM (JY T8 rfl (.inl rfl))) (J7 (JO T8 rfl (.inl rfl) (Tz (VW b W6 d rfl (J0 (qv 0) (J0 (qv 3) (J0 (qv 2) J1)))))))) (J7 (JR (qv 3)))))
def Sn (a:All e):Ca e "round_forms" 9 ["forms", "times", "most"] (zD e.K YN):=
 qf a.toAl 31 22 λF=>v4 (N:=["forms", "times", "most", "told", "turn"]) (g:=YM) F JP λ_ _ _ _ _ _ d=>by
 have m:=a.m;have b:=(Sl a).mono (k:=8) ();have c:=(HG a).mono (k:=8) ();unfold YM;exact(Q6 (P5 ["thing"] [none] T8 rfl (.inl rfl) rfl rfl (Kn rfl (J8 m) (J0 (JT (x:= "len") QH rfl (J8 m) QC (J0 (qv 0) J1)) J1)) (λ_ _ _ _ _=>(JM (jX 0 T8))) (λ_ _ _ _ _=>(G6 4 [] (KQ c d rfl (J0 (qv 0) J1))))) (Q6 (G2 PassesOwn.never rfl (Kn rfl (J8 m) (J0 (qv 1) J1)) (JM (JY T8 rfl (.inl rfl))) (V1 (G1 T8 rfl (.inl rfl) (Pr b d rfl (Xa (Ks (qv 0)) (Xa (Ks (qv 3)) (Xa (Ks (qv 2)) G0))))))) (V1 (Xd (Ks (qv 3))))))
def va (a:All e):Ca e "row_hour" 1 ["row", "hours"] (qr e.K y2):=
 qf a.toAl 32 4 λF=>jJ (N:=["row", "hours"]) (g:=zb) F JP λ_ _ _ _ _ _ b=>by
 have m:=a.m;unfold zb;exact(J7 (JR (JT (x:= "max") (ME rfl) rfl (J8 m) Z5 (J0 (Tz (Q2 ["thing", "wait", "hours"] [none,none,some 1] rfl rfl (JN (qv 0)) (λ_ _ _ _ _=>(K9 [0,1] (K5 rfl (Qs (jX 0 T8) (Qs (jX 1 T8) K4))))) (λ_ _ _ _ _=>(TD Qn (QQ (Q0 b) (qv 2) (qv 0) (λ_ _=>rfl) (λ_ _=>rfl)) (qv 1))))) J1))))
def wU (a:All e):Ca e "form_hour" 2 ["form", "hours"] (qr e.K yz):=
 qf a.toAl 33 13 λF=>jJ (N:=["form", "hours"]) (g:=yT) F JP λ_ _ _ _ _ _ c=>by
 have m:=a.m;have b:=(va a).mono (k:=1) ();unfold yT;exact(J7 (JR (JT (x:= "min") (E7 rfl) rfl (J8 m) Bn (J0 (Tz (Q2 ["row", "hours"] [none,some 1] rfl rfl (JN (qv 0)) (λ_ _ _ _ _=>(JM (jX 0 T8))) (λ_ _ _ _ _=>(jb b c rfl (J0 (qv 0) (J0 (qv 1) J1)))))) J1))))
def So (a:All e):Ca e "hours_of_forms" 3 ["forms", "hours"] (xL e.K YO):=
 qf a.toAl 34 23 λF=>qY (N:=["forms", "hours"]) (g:=AJ) F JP λ_ _ _ _ _ _ c=>by
 have b:=(wU a).mono (k:=2) ();unfold AJ;exact(J7 (KR (Q2 ["form", "hours"] [none,some 1] rfl rfl (JN (qv 0)) (λ_ _ _ _ _=>(JM (jX 0 T8))) (λ_ _ _ _ _=>(jb b c rfl (J0 (qv 0) (J0 (qv 1) J1)))))))
def Sq (a:All e):Ca e "round_hours" 4 ["forms", "hours", "times"] (xL e.K AK):=
 qf a.toAl 35 21 λF=>qY (N:=["forms", "hours", "times", "told", "turn"]) (g:=YP) F JP λ_ _ _ _ _ _ c=>by
 have m:=a.m;have b:=(So a).mono (k:=3) ();unfold YP;exact(JA (Ku T8 rfl (.inl rfl) (WR (x:= "list") BH rfl (J8 m) WN (J0 (qv 1) J1))) (JA (Qu PassesOwn.never rfl (Kn rfl (J8 m) (J0 (qv 2) J1)) (JM (JY T8 rfl (.inl rfl))) (J7 (Wu [3] (Ku T8 rfl (.inl rfl) (KQ b c rfl (J0 (qv 0) (J0 (qv 3) J1))))))) (J7 (X9 (pv 3)))))
def Sr (a:All e){f:Addr}{s:FuncData}(F:Fun e.K "law" "law" (yk 43) f s):FnOk e.P e.w e.K e.mg e.base xp 10 f s ["script"] (qr e.K yh):=
 v3 (kk:=1) (hw:=zP) (hx:=zH) (N:=["script", "first", "things", "times", "forms", "most", "due", "handed", "found", "hours", "behind", "form"]) (g:=Xr) F JP λ_ _ _ _ _ _ c=>by
 have m:=a.m;have l:=(HA a).mono (k:=9) ();have n:=(RR a).mono (k:=9) ();have o:=(RY a).mono (k:=9) ();have p:=(RZ a).mono (k:=9) ();have q:=(Sc a).mono (k:=9) ();have d:=(Sg a).mono (k:=9) ();have h:=(Sm a).mono (k:=9) ();have r:=(Sq a).mono (k:=9) ();have i:=(Sn a).mono (k:=9) ();have b:=a.x_TooMany;unfold Xr
 exact(Q6 (KD (m:=some false) (JO T8 rfl (.inl rfl) (jb l c rfl (J0 (qv 0) (J0 JF J1))))) (Q6 (KD (m:=some false) (JO T8 rfl (.inl rfl) (TD Qn JF (TD QP (qv 1) JF)))) (Q6 (KD (m:=some false) (JO T8 rfl (.inl rfl) (TD QP (TD VP (qv 1) JF) JF))) (Q6 (Am (Pq (Qt xG (qv 3) JF (Ql _))) (V1 (KD (m:=some false) (JO T8 rfl (.inl rfl) (TD Qn JF (TD QP (qv 1) JF))))) Ak) (Q6 (KD (m:=some false) (JO T8 rfl (.inl rfl) (Tz (KQ q c rfl (J0 (qv 0) (J0 (qv 2) (J0 JF J1))))))) (Q6 (KD (m:=some false) (JO T8 rfl (.inl rfl) (TD Qn JF (TD QP (TD VP (qv 1) JF) JF)))) (Q6 (KD (m:=some false) (JO T8 rfl (.inl rfl) (jb o c rfl (J0 (qv 4) (J0 (qv 3) (J0 (qv 5) J1)))))) (Q6 (KD (m:=some false) (BO ["form"] [none] T8 rfl (.inl rfl) rfl rfl (JN (qv 4)) (λ_ _ _ _ _=>(JM (jX 0 T8))) (λ_ _ _ _ _=>(Tz (WR (x:= "list") BH rfl (J8 m) WN (J0 (qv 0) J1)))))) (Q6 (G1 T8 rfl (.inl rfl) (Ks KP)) (Q6 (zQ (KD (m:=some false) (Pe rfl rfl T8 rfl (.inl rfl) h c rfl (J0 (qv 7) (J0 (qv 3) (J0 (qv 5) J1))) b rfl (λ_=>(J7 (JO T8 rfl (.inl rfl) KP))))) (P6 (m:=some false) (gs:=(TC 8 (dC .non))) rfl rfl T8 rfl (.inl rfl) i c rfl (Xa (Ks (qv 7)) (Xa (Ks (qv 3)) (Xa (Ks (qv 5)) G0))) b rfl (λ_=>(J7 (JO T8 rfl (.inl rfl) KP))))) (Q6 (Am (Cy 5 [8] (xi (WQ (Qt (xS c.units) (qv 7) (qv 4) (Ql _)) (WQ (ZX (qv 6)) (X6 (ZX (qv 8))))))) (V1 (Xd (wv 5 [8] (X7 (Bx (qU c.units) (qv 7) (qv 4) (Ql _)) (X7 (EG (qv 6)) (ZM (EG (qv 8)))))))) Ak) (Q6 (KD (m:=some false) (JO T8 rfl (.inr rfl) (Tz (KQ p c rfl (J0 (qv 0) (J0 JF (J0 (qv 2) J1))))))) (Q6 (KD (m:=some false) (JO T8 rfl (.inl rfl) (Tz (KQ r c rfl (J0 (qv 4) (J0 (Tz (WR (x:= "list") BH rfl (J8 m) WN (J0 (qv 9) J1))) (J0 (qv 3) J1))))))) (Q6 (Am (Cy 5 [8] (xi (WQ (V9 (Kk (jb d c rfl (J0 (qv 8) (J0 (qv 6) J1))))) (X6 (Qt (xS c.units) (Tz (Q2 ["form", "hours"] [none,some 9] rfl rfl (JN (qv 8)) (λ_ _ _ _ _=>(JM (jX 0 T8))) (λ_ _ _ _ _=>(jb n c rfl (J0 (qv 0) (J0 (qv 1) J1)))))) (qv 10) (Ql _)))))) (V1 (Xd (Ks Ke))) Ak) (Q6 (G2 PassesOwn.never rfl (JN (qv 8)) (JM (JY T8 rfl (.inl rfl))) (V1 (Ps (Ks (qv 11)) (Ks (K7 (J0 (K7 (J0 JF (J0 JF J1))) J1))) (λt u=>V5 Ys Yt Yu WJ t u)))) (Q6 (Am (Cy 5 [8] (Qt (xS c.units) (Tz (Q2 ["form"] [none] rfl rfl (JN (qv 8)) (λ_ _ _ _ _=>(JM (jX 0 T8))) (λ_ _ _ _ _=>(JT (x:= "len") QH rfl (J8 m) QC (J0 (qv 0) J1))))) (Tz (Q2 ["form"] [none] rfl rfl (JN (qv 6)) (λ_ _ _ _ _=>(JM (jX 0 T8))) (λ_ _ _ _ _=>(TD Qn JF (JT (x:= "len") QH rfl (J8 m) QC (J0 (qv 0) J1)))))) (Ql _))) (V1 (Xd (Ks Ke))) Ak) (V1 (Xd (Ks (jb d c rfl (J0 (Cm h Gk c rfl (J0 (qv 7) (J0 (qv 3) (J0 (qv 5) J1)))) (J0 (qv 6) J1))))))))))))))))))))))
end
def AN (K:W.Frag):Sp:=λvs H Q _=>∃(a:Addr) (ns:Yf),vs=[.ref a]/\qh K H a (ns.map V.int)/\ns.length<=63/\∀H',Q (.bl true) H'
def Ss (K:W.Frag)(vs:Yx)(H:Hp)(Q:VK)(E:XK)(h:AN K vs H Q E):qr K yh vs H Q E:=by
 obtain⟨a,ns,rfl,b,c,q⟩:=h;refine⟨H,[.scr ns],Tu.refl _,Ti.mk (TN.mpr ⟨a,rfl,b⟩) .nil,?_⟩;rw[yr ns c];intro v F' H' e i;rw[Tv.mp i];exact q H'
def all_mk {l:W.OpenLaw}{w:World}{K:W.Frag}{h:Heap}{i:Yc}{o:Addr}(X:K.In h)(G:h.Ns mainGlobals i)(j:i "law" = some (.ref o))
 {a:Addr}
 (d:zF K yk tbl) (z:Nn K bl) (dl:y8 K "law" (yk 43))
 (b:W.nsIn K mainGlobals "TooMany" = some (some (.ref a))) (c:W.excIn K a [.type "ValueError",.type "Exception",.type "BaseException",.type "object"] "ValueError.__new__" = true):
 ∃p:FuncData,(∀(s:Shared) (v:Value),BindsTo s p ⟨[v],[]⟩ [("script",v)])/\∀base:Heap,K.In base->base.Ns mainGlobals i->FnOk l.prog w K i base xp 10 o p ["script"] (AN K):=by
 obtain⟨m,f,g,yh⟩:=dl;cases j.symm.trans (W.mg_of X G g);exact⟨f,(by obtain⟨_,_,_,_,_,_,_,_,_,rfl,_,_⟩:=id yh.ex;exact λs v=>.of_eq rfl),λbase _ _=>(Sr (e:=⟨l.prog,w,K,i,base,λn=>[a].getD n 0,λn=>[].getD n default⟩) ⟨⟨⟨h,X,G⟩,d,Gy X G z⟩,⟨b,W.mg_of X G b,c⟩⟩ yh).imp (Ss K)⟩
def walk {l:W.OpenLaw}{q:Program}{b:Yi}{m:(Yc)->Heap->Prop}{g:World->Heap->Prop}{d:DefRec}{K:Params->W.Frag}(o:l.most=some 63)(e:d.params.defaults=[])
 (p:∀(w:World) (h:Heap),g w h->(K w.params).In h)
 (F:∀(w:World) (c:Yc) (i:Addr) (h:Heap),(K w.params).In h->h.Ns mainGlobals c->c d.name=some (.ref i) ->
  ∃j:FuncData,(∀(s:Shared) (u:Value),BindsTo s j ⟨[u],[]⟩ [("script",u)])/\∀base:Heap,(K w.params).In base->base.Ns mainGlobals c->FnOk l.prog w (K w.params) c base xp 10 i j ["script"] (AN (K w.params))):
 W.WalkO q b m g l.row.toRowW d [] (λf vs=>PySem.call f vs):=
 L2.walk_of (n:=63) (k:=10) (x:= "script") (CX:=λ_=>xp) (sp:=λw=>AN (K w.params)) o (by decide) e ⟨rfl,by decide,by decide⟩ p F (λ_ _ a ns r _ t=>⟨a,ns,rfl,t,r,λ_=>rfl⟩) λ_ _ _ _ _ z=>z
end My
end
open PySem PySem.W PyProof.Rows
namespace PySem.W.Fast
def tw8452012497744486333:=()
def tw15273617978354550059:=()
def tw9005702798414526232:=()
def tw12198095735087060974:=()
def tw18178857877497247:=()
def tw1779908988295893610:=()
def tw18089043993738922613:=()
def tw15643212241334062953:=()
def tw14064358529340838711:=()
def tw2241898217003958111:=()
def tw15341757133082480090:=()
def tw16002247994888710361:=()
def tw17025326203762008139:=()
def tw3194826799819394413:=()
def tw10055157925426578374:=()
def tw1960892575923783382:=()
def tw2037911658075397932:=()
def tw11028483260799891958:=()
def tw5162711582556782729:=()
def tw1595691153050680569:=()
def tw7852682199321257673:=()
def tw5161428361024881903:=()
def tw5671288047714507924:=()
def tw17636714809291682041:=()
def tw11313148328653578054:=()
def tw10823900869413148013:=()
def tw5372012133352814507:=()
def tw5154713947853820162:=()
def tw4881222758801426775:=()
def tw964061450437253271:=()
def tw177457973325228561:=()
def tw830771374089598050:=()
def tw17392720982347537004:=()
def tw7120701542365212198:=()
def tw11708367856414557395:=()
def tw1560913061262021843:=()
def tw14308234866618953232:=()
def tw17439720146933631738:=()
def tw3329571332284726135:=()
def tw12219529113890253551:=()
def tw2225186443369531062:=()
def tw16036715289699390767:=()
def tw15363343938342983926:=()
def tw14836992860349669593:=()
def tw4043078481230423856:=()
def tw4026467013159649746:=()
def tw8183651431742429096:=()
def tw6635138295591085640:=()
def tw16555987509404098854:=()
def tw1495785285726466772:=()
def tw17741188064232263807:=()
def tw8088157818088909370:=()
def tw18273599288995580853:=()
def tw3906225369540269678:=()
def tw6681502643361781114:=()
def tw10827358944096936329:=()
def tw17154140851931094053:=()
def tw10665963166703960613:=()
def tw17477711982978732267:=()
def tw13310973216190341791:=()
def tw16268476352224592873:=()
def tw527757998900745666:=()
def tw6257576841030977197:=()
def tw2436624776330847244:=()
def tw18354466984564854492:=()
def tw6801058215767854948:=()
def tw5721978534451008533:=()
def tw5534018867974479548:=()
def tw14335518578848193157:=()
def tw16180602528900704597:=()
def tw11541214246795836899:=()
def tw1239606770741187134:=()
def tw6464901779112602674:=()
def tw14820547604023157729:=()
def tw10658545121126276617:=()
def tw335890953745783187:=()
def tw13885872674152112008:=()
def tw14989627951852877024:=()
def tw8801485729069398249:=()
def tw2366646680943198298:=()
def tw15945126036455561383:=()
def tw1657796192641565660:=()
def tw16825635851628633375:=()
def tw6658896860725731239:=()
def tw8076008066924378849:=()
def tw16080561044795436136:=()
def tw11252314853262795794:=()
def tw16953353883021552860:=()
def tw14294998593817543046:=()
def tw815075509956701275:=()
def tw218477142160789469:=()
def tw4310287737521955136:=()
def tw16576050604190693923:=()
def tw7772234809411659921:=()
def tw18086817905820008325:=()
def tw4352999986434506038:=()
def tw10073764349588160540:=()
def tw4810923693753367244:=()
def tw6537443377764065144:=()
def tw3923457597224970726:=()
def tw4594954758660615017:=()
def tw4520082376492532604:=()
def tw9494326811145780251:=()
def tw18204264444313881475:=()
def tw10598260876542272610:=()
def tw2633657541619178481:=()
def tw1966739331821855791:=()
def tw242113502296380550:=()
def tw6583511831355469043:=()
def tw11092887480019043451:=()
def tw17749494219240624080:=()
def tw14241722701851582253:=()
def tw9429519516472708603:=()
def tw7450133393617903119:=()
def tw9601202287045683900:=()
def tw1419034215903006416:=()
def tw2056571694074361419:=()
def tw12984698052139081146:=()
def tw8550348368825315678:=()
def tw9370054316097551817:=()
def tw3715273860002875298:=()
def tw10243635491266861427:=()
def tw11026232643419906388:=()
def tw5908847554073153231:=()
def tw12142468915606092637:=()
def tw4732039599203212758:=()
def tw6832337093169537654:=()
def tw4326142535462573128:=()
def tw3399363306716224000:=()
def tw13942632300371081501:=()
def tw801591718094460514:=()
def tw11681044699128920902:=()
def tw1041272405418714632:=()
def tw4789072631245744395:=()
def tw8418835645822293971:=()
def tw5653832765936223144:=()
def tw5545487687523940922:=()
def tw5550533146037176505:=()
def tw708068270816489326:=()
def tw5289567371183363714:=()
def tw13397866343558622203:=()
def tw14874567350994504566:=()
def tw14780287215105848321:=()
def tw5616994604599239025:=()
def tw7050078374308155712:=()
def tw6694981982089608097:=()
def tw9933351635201340113:=()
def tw14572338423801920026:=()
def tw7122469079200480794:=()
def tw6989008872327533029:=()
def tw16613013786649666861:=()
def tw8226483554167530506:=()
def tw7772473970112626863:=()
end PySem.W.Fast
set_option maxRecDepth 100000 in
set_option maxHeartbeats 0 in
theorem PySem.Challenge.cw_allfirst_k40_rounds_as_forms_holds : PySem.Challenge.rw_allfirst_k40_rounds_as_forms.Holds := by
 w_on;o_law;k_head;(case hw=>w_witness2)
 k_fill
 refine My.walk (l:=PySem.Challenge.rw_allfirst_k40_rounds_as_forms) rfl rfl (fun w h Y=>PySem.W.kIn_of Y) ?F
 case F =>
  intro w mg fa h KX G hmg;refine' My.all_mk KX G hmg ?d ?z ?dl ?a_TooMany ?q_TooMany
  (case d =>
   repeat (apply L2.DL.dfs_cons;focus (refine' ⟨_,_,?a,L2.fun_mk ?l ?c ?k⟩;(case a=>k_is);(case l=>k_is);(case c=>k_is);(case k=>k_is)))
   exact True.intro)
  (case z =>
   repeat (apply L2.DL.nn_cons;focus k_is)
   exact True.intro)
  (case dl=>refine' ⟨_,_,?a,L2.fun_mk ?l ?c ?k⟩;(case a=>k_is);(case l=>k_is);(case c=>k_is);(case k=>k_is))
  (case a_TooMany=>k_is)
  (case q_TooMany=>k_exc)
